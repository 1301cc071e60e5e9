/-
  foghornlaw15.NearNone returns true, whatever the memory it begins in. No condition.
-/
import Derived.Test.YtljiihjcnacbnaaRows
import Derived.Test.YtljiihjcnacbnaaGx
import Derived.WalkKit
import Derived.ProofKit
import Derived.OpenShut
set_option linter.unusedVariables false
set_option maxRecDepth 1000000
namespace Go.Proofs.Ytljiihjcnacbnaa
open Go Go.Fw
def tys : List (Nat × TyI) := [
  (1, ⟨.func, 1, 8, .nilFunc⟩),
  (2, ⟨.int .i64, 1, 8, .int .i64 0⟩),
  (3, ⟨.int .i64, 1, 8, .int .i64 0⟩),
  (4, ⟨.bool, 1, 1, .bool false⟩),
  (5, ⟨.int .u8, 1, 1, .int .u8 0⟩),
  (9, ⟨.str, 1, 16, .string (ByteArray.mk #[])⟩),
  (12, ⟨.int .u64, 1, 8, .int .u64 0⟩),
  (21, ⟨.int .i32, 1, 4, .int .i32 0⟩),
  (22, ⟨.slice 59, 1, 24, .slice none 0 0⟩),
  (23, ⟨.slice 57, 1, 24, .slice none 0 0⟩),
  (24, ⟨.struct [(0, 22), (1, 23), (2, 23), (3, 3)], 4, 80, .agg #[.slice none 0 0, .slice none 0 0, .slice none 0 0, .int .i64 0]⟩),
  (25, ⟨.struct [(0, 22), (1, 23), (2, 23), (3, 3)], 4, 80, .agg #[.slice none 0 0, .slice none 0 0, .slice none 0 0, .int .i64 0]⟩),
  (26, ⟨.slice 32, 1, 24, .slice none 0 0⟩),
  (27, ⟨.func, 1, 8, .nilFunc⟩),
  (28, ⟨.slice 30, 1, 24, .slice none 0 0⟩),
  (29, ⟨.func, 1, 8, .nilFunc⟩),
  (30, ⟨.cpx .f64, 1, 16, .complex .f64 0 0⟩),
  (31, ⟨.struct [(0, 30), (1, 4)], 2, 24, .agg #[.complex .f64 0 0, .bool false]⟩),
  (32, ⟨.struct [(0, 30), (1, 4)], 2, 24, .agg #[.complex .f64 0 0, .bool false]⟩),
  (33, ⟨.func, 1, 8, .nilFunc⟩),
  (34, ⟨.func, 1, 8, .nilFunc⟩),
  (35, ⟨.func, 1, 8, .nilFunc⟩),
  (36, ⟨.func, 1, 8, .nilFunc⟩),
  (37, ⟨.float .f64, 1, 8, .float .f64 0⟩),
  (38, ⟨.func, 1, 8, .nilFunc⟩),
  (39, ⟨.func, 1, 8, .nilFunc⟩),
  (40, ⟨.struct [(0, 3), (1, 3), (2, 3), (3, 3), (4, 3)], 5, 40, .agg #[.int .i64 0, .int .i64 0, .int .i64 0, .int .i64 0, .int .i64 0]⟩),
  (41, ⟨.struct [(0, 3), (1, 3), (2, 3), (3, 3), (4, 3)], 5, 40, .agg #[.int .i64 0, .int .i64 0, .int .i64 0, .int .i64 0, .int .i64 0]⟩),
  (42, ⟨.int .i64, 1, 8, .int .i64 0⟩),
  (44, ⟨.func, 1, 8, .nilFunc⟩),
  (45, ⟨.struct [(0, 3), (1, 3), (2, 3)], 3, 24, .agg #[.int .i64 0, .int .i64 0, .int .i64 0]⟩),
  (46, ⟨.struct [(0, 3), (1, 3), (2, 3)], 3, 24, .agg #[.int .i64 0, .int .i64 0, .int .i64 0]⟩),
  (47, ⟨.func, 1, 8, .nilFunc⟩),
  (48, ⟨.struct [(0, 3), (1, 3), (2, 3)], 3, 24, .agg #[.int .i64 0, .int .i64 0, .int .i64 0]⟩),
  (49, ⟨.func, 1, 8, .nilFunc⟩),
  (50, ⟨.slice 61, 1, 24, .slice none 0 0⟩),
  (51, ⟨.ptr 95, 1, 8, .pointer none⟩),
  (53, ⟨.func, 1, 8, .nilFunc⟩),
  (54, ⟨.ptr 97, 1, 8, .pointer none⟩),
  (56, ⟨.func, 1, 8, .nilFunc⟩),
  (57, ⟨.array 2 37, 2, 16, .agg #[.float .f64 0, .float .f64 0]⟩),
  (58, ⟨.struct [(0, 37), (1, 37), (2, 4)], 3, 24, .agg #[.float .f64 0, .float .f64 0, .bool false]⟩),
  (59, ⟨.struct [(0, 37), (1, 37), (2, 4)], 3, 24, .agg #[.float .f64 0, .float .f64 0, .bool false]⟩),
  (60, ⟨.struct [(0, 57), (2, 59), (5, 4)], 6, 48, .agg #[.float .f64 0, .float .f64 0, .float .f64 0, .float .f64 0, .bool false, .bool false]⟩),
  (61, ⟨.struct [(0, 57), (2, 59), (5, 4)], 6, 48, .agg #[.float .f64 0, .float .f64 0, .float .f64 0, .float .f64 0, .bool false, .bool false]⟩),
  (62, ⟨.func, 1, 8, .nilFunc⟩),
  (63, ⟨.func, 1, 8, .nilFunc⟩),
  (65, ⟨.func, 1, 8, .nilFunc⟩),
  (66, ⟨.func, 1, 8, .nilFunc⟩),
  (67, ⟨.func, 1, 8, .nilFunc⟩),
  (68, ⟨.func, 1, 8, .nilFunc⟩),
  (69, ⟨.slice 109, 1, 24, .slice none 0 0⟩),
  (70, ⟨.slice 86, 1, 24, .slice none 0 0⟩),
  (71, ⟨.slice 111, 1, 24, .slice none 0 0⟩),
  (72, ⟨.slice 4, 1, 24, .slice none 0 0⟩),
  (73, ⟨.struct [(0, 69), (1, 70), (2, 71), (3, 72)], 4, 96, .agg #[.slice none 0 0, .slice none 0 0, .slice none 0 0, .slice none 0 0]⟩),
  (74, ⟨.struct [(0, 69), (1, 70), (2, 71), (3, 72)], 4, 96, .agg #[.slice none 0 0, .slice none 0 0, .slice none 0 0, .slice none 0 0]⟩),
  (75, ⟨.func, 1, 8, .nilFunc⟩),
  (76, ⟨.func, 1, 8, .nilFunc⟩),
  (77, ⟨.func, 1, 8, .nilFunc⟩),
  (79, ⟨.func, 1, 8, .nilFunc⟩),
  (80, ⟨.func, 1, 8, .nilFunc⟩),
  (81, ⟨.struct [(0, 5), (1, 5), (2, 71), (3, 70)], 4, 56, .agg #[.int .u8 0, .int .u8 0, .slice none 0 0, .slice none 0 0]⟩),
  (82, ⟨.struct [(0, 5), (1, 5), (2, 71), (3, 70)], 4, 56, .agg #[.int .u8 0, .int .u8 0, .slice none 0 0, .slice none 0 0]⟩),
  (83, ⟨.func, 1, 8, .nilFunc⟩),
  (84, ⟨.func, 1, 8, .nilFunc⟩),
  (85, ⟨.int .i16, 1, 2, .int .i16 0⟩),
  (86, ⟨.array 2 85, 2, 4, .agg #[.int .i16 0, .int .i16 0]⟩),
  (87, ⟨.func, 1, 8, .nilFunc⟩),
  (88, ⟨.func, 1, 8, .nilFunc⟩),
  (90, ⟨.func, 1, 8, .nilFunc⟩),
  (91, ⟨.func, 1, 8, .nilFunc⟩),
  (92, ⟨.func, 1, 8, .nilFunc⟩),
  (93, ⟨.array 64 30, 64, 1024, .agg ⟨List.replicate 64 (.complex .f64 0 0)⟩⟩),
  (94, ⟨.struct [(0, 28), (1, 93), (65, 3)], 66, 1056, .agg #[.slice none 0 0, .complex .f64 0 0, .complex .f64 0 0, .complex .f64 0 0, .complex .f64 0 0, .complex .f64 0 0, .complex .f64 0 0, .complex .f64 0 0, .complex .f64 0 0, .complex .f64 0 0, .complex .f64 0 0, .complex .f64 0 0, .complex .f64 0 0, .complex .f64 0 0, .complex .f64 0 0, .complex .f64 0 0, .complex .f64 0 0, .complex .f64 0 0, .complex .f64 0 0, .complex .f64 0 0, .complex .f64 0 0, .complex .f64 0 0, .complex .f64 0 0, .complex .f64 0 0, .complex .f64 0 0, .complex .f64 0 0, .complex .f64 0 0, .complex .f64 0 0, .complex .f64 0 0, .complex .f64 0 0, .complex .f64 0 0, .complex .f64 0 0, .complex .f64 0 0, .complex .f64 0 0, .complex .f64 0 0, .complex .f64 0 0, .complex .f64 0 0, .complex .f64 0 0, .complex .f64 0 0, .complex .f64 0 0, .complex .f64 0 0, .complex .f64 0 0, .complex .f64 0 0, .complex .f64 0 0, .complex .f64 0 0, .complex .f64 0 0, .complex .f64 0 0, .complex .f64 0 0, .complex .f64 0 0, .complex .f64 0 0, .complex .f64 0 0, .complex .f64 0 0, .complex .f64 0 0, .complex .f64 0 0, .complex .f64 0 0, .complex .f64 0 0, .complex .f64 0 0, .complex .f64 0 0, .complex .f64 0 0, .complex .f64 0 0, .complex .f64 0 0, .complex .f64 0 0, .complex .f64 0 0, .complex .f64 0 0, .complex .f64 0 0, .int .i64 0]⟩),
  (95, ⟨.struct [(0, 28), (1, 93), (65, 3)], 66, 1056, .agg #[.slice none 0 0, .complex .f64 0 0, .complex .f64 0 0, .complex .f64 0 0, .complex .f64 0 0, .complex .f64 0 0, .complex .f64 0 0, .complex .f64 0 0, .complex .f64 0 0, .complex .f64 0 0, .complex .f64 0 0, .complex .f64 0 0, .complex .f64 0 0, .complex .f64 0 0, .complex .f64 0 0, .complex .f64 0 0, .complex .f64 0 0, .complex .f64 0 0, .complex .f64 0 0, .complex .f64 0 0, .complex .f64 0 0, .complex .f64 0 0, .complex .f64 0 0, .complex .f64 0 0, .complex .f64 0 0, .complex .f64 0 0, .complex .f64 0 0, .complex .f64 0 0, .complex .f64 0 0, .complex .f64 0 0, .complex .f64 0 0, .complex .f64 0 0, .complex .f64 0 0, .complex .f64 0 0, .complex .f64 0 0, .complex .f64 0 0, .complex .f64 0 0, .complex .f64 0 0, .complex .f64 0 0, .complex .f64 0 0, .complex .f64 0 0, .complex .f64 0 0, .complex .f64 0 0, .complex .f64 0 0, .complex .f64 0 0, .complex .f64 0 0, .complex .f64 0 0, .complex .f64 0 0, .complex .f64 0 0, .complex .f64 0 0, .complex .f64 0 0, .complex .f64 0 0, .complex .f64 0 0, .complex .f64 0 0, .complex .f64 0 0, .complex .f64 0 0, .complex .f64 0 0, .complex .f64 0 0, .complex .f64 0 0, .complex .f64 0 0, .complex .f64 0 0, .complex .f64 0 0, .complex .f64 0 0, .complex .f64 0 0, .complex .f64 0 0, .int .i64 0]⟩),
  (96, ⟨.struct [(0, 28), (1, 28)], 2, 48, .agg #[.slice none 0 0, .slice none 0 0]⟩),
  (97, ⟨.struct [(0, 28), (1, 28)], 2, 48, .agg #[.slice none 0 0, .slice none 0 0]⟩),
  (98, ⟨.func, 1, 8, .nilFunc⟩),
  (100, ⟨.func, 1, 8, .nilFunc⟩),
  (101, ⟨.func, 1, 8, .nilFunc⟩),
  (102, ⟨.func, 1, 8, .nilFunc⟩),
  (103, ⟨.func, 1, 8, .nilFunc⟩),
  (104, ⟨.func, 1, 8, .nilFunc⟩),
  (105, ⟨.func, 1, 8, .nilFunc⟩),
  (106, ⟨.func, 1, 8, .nilFunc⟩),
  (107, ⟨.func, 1, 8, .nilFunc⟩),
  (108, ⟨.func, 1, 8, .nilFunc⟩),
  (109, ⟨.array 2 21, 2, 8, .agg #[.int .i32 0, .int .i32 0]⟩),
  (110, ⟨.int .i8, 1, 1, .int .i8 0⟩),
  (111, ⟨.array 2 110, 2, 2, .agg #[.int .i8 0, .int .i8 0]⟩),
  (112, ⟨.func, 1, 8, .nilFunc⟩),
  (113, ⟨.slice 110, 1, 24, .slice none 0 0⟩),
  (115, ⟨.func, 1, 8, .nilFunc⟩),
  (116, ⟨.func, 1, 8, .nilFunc⟩),
  (117, ⟨.func, 1, 8, .nilFunc⟩),
  (118, ⟨.func, 1, 8, .nilFunc⟩),
  (119, ⟨.func, 1, 8, .nilFunc⟩),
  (121, ⟨.func, 1, 8, .nilFunc⟩),
  (122, ⟨.func, 1, 8, .nilFunc⟩),
  (124, ⟨.func, 1, 8, .nilFunc⟩),
  (125, ⟨.func, 1, 8, .nilFunc⟩),
  (126, ⟨.func, 1, 8, .nilFunc⟩),
  (127, ⟨.int .u64, 1, 8, .int .u64 0⟩),
  (128, ⟨.func, 1, 8, .nilFunc⟩),
  (130, ⟨.func, 1, 8, .nilFunc⟩),
  (131, ⟨.func, 1, 8, .nilFunc⟩),
  (132, ⟨.func, 1, 8, .nilFunc⟩),
  (134, ⟨.func, 1, 8, .nilFunc⟩),
  (135, ⟨.func, 1, 8, .nilFunc⟩),
  (136, ⟨.func, 1, 8, .nilFunc⟩),
  (137, ⟨.func, 1, 8, .nilFunc⟩),
  (138, ⟨.func, 1, 8, .nilFunc⟩),
  (140, ⟨.func, 1, 8, .nilFunc⟩),
  (141, ⟨.int .u64, 1, 8, .int .u64 0⟩),
  (142, ⟨.func, 1, 8, .nilFunc⟩),
  (148, ⟨.int .u32, 1, 4, .int .u32 0⟩),
  (151, ⟨.func, 1, 8, .nilFunc⟩),
  (152, ⟨.ptr 5, 1, 8, .pointer none⟩)]


theorem tok : TOk Try.prog tys := tok_of ⟨⟨by kernel_rfl, by kernel_rfl⟩, ⟨by kernel_rfl, by kernel_rfl⟩, ⟨by kernel_rfl, by kernel_rfl⟩, ⟨by kernel_rfl, by kernel_rfl⟩, ⟨by kernel_rfl, by kernel_rfl⟩, ⟨by kernel_rfl, by kernel_rfl⟩, ⟨by kernel_rfl, by kernel_rfl⟩, ⟨by kernel_rfl, by kernel_rfl⟩, ⟨by kernel_rfl, by kernel_rfl⟩, ⟨by kernel_rfl, by kernel_rfl⟩, ⟨by kernel_rfl, by kernel_rfl⟩, ⟨by kernel_rfl, by kernel_rfl⟩, ⟨by kernel_rfl, by kernel_rfl⟩, ⟨by kernel_rfl, by kernel_rfl⟩, ⟨by kernel_rfl, by kernel_rfl⟩, ⟨by kernel_rfl, by kernel_rfl⟩, ⟨by kernel_rfl, by kernel_rfl⟩, ⟨by kernel_rfl, by kernel_rfl⟩, ⟨by kernel_rfl, by kernel_rfl⟩, ⟨by kernel_rfl, by kernel_rfl⟩, ⟨by kernel_rfl, by kernel_rfl⟩, ⟨by kernel_rfl, by kernel_rfl⟩, ⟨by kernel_rfl, by kernel_rfl⟩, ⟨by kernel_rfl, by kernel_rfl⟩, ⟨by kernel_rfl, by kernel_rfl⟩, ⟨by kernel_rfl, by kernel_rfl⟩, ⟨by kernel_rfl, by kernel_rfl⟩, ⟨by kernel_rfl, by kernel_rfl⟩, ⟨by kernel_rfl, by kernel_rfl⟩, ⟨by kernel_rfl, by kernel_rfl⟩, ⟨by kernel_rfl, by kernel_rfl⟩, ⟨by kernel_rfl, by kernel_rfl⟩, ⟨by kernel_rfl, by kernel_rfl⟩, ⟨by kernel_rfl, by kernel_rfl⟩, ⟨by kernel_rfl, by kernel_rfl⟩, ⟨by kernel_rfl, by kernel_rfl⟩, ⟨by kernel_rfl, by kernel_rfl⟩, ⟨by kernel_rfl, by kernel_rfl⟩, ⟨by kernel_rfl, by kernel_rfl⟩, ⟨by kernel_rfl, by kernel_rfl⟩, ⟨by kernel_rfl, by kernel_rfl⟩, ⟨by kernel_rfl, by kernel_rfl⟩, ⟨by kernel_rfl, by kernel_rfl⟩, ⟨by kernel_rfl, by kernel_rfl⟩, ⟨by kernel_rfl, by kernel_rfl⟩, ⟨by kernel_rfl, by kernel_rfl⟩, ⟨by kernel_rfl, by kernel_rfl⟩, ⟨by kernel_rfl, by kernel_rfl⟩, ⟨by kernel_rfl, by kernel_rfl⟩, ⟨by kernel_rfl, by kernel_rfl⟩, ⟨by kernel_rfl, by kernel_rfl⟩, ⟨by kernel_rfl, by kernel_rfl⟩, ⟨by kernel_rfl, by kernel_rfl⟩, ⟨by kernel_rfl, by kernel_rfl⟩, ⟨by kernel_rfl, by kernel_rfl⟩, ⟨by kernel_rfl, by kernel_rfl⟩, ⟨by kernel_rfl, by kernel_rfl⟩, ⟨by kernel_rfl, by kernel_rfl⟩, ⟨by kernel_rfl, by kernel_rfl⟩, ⟨by kernel_rfl, by kernel_rfl⟩, ⟨by kernel_rfl, by kernel_rfl⟩, ⟨by kernel_rfl, by kernel_rfl⟩, ⟨by kernel_rfl, by kernel_rfl⟩, ⟨by kernel_rfl, by kernel_rfl⟩, ⟨by kernel_rfl, by kernel_rfl⟩, ⟨by kernel_rfl, by kernel_rfl⟩, ⟨by kernel_rfl, by kernel_rfl⟩, ⟨by kernel_rfl, by kernel_rfl⟩, ⟨by kernel_rfl, by kernel_rfl⟩, ⟨by kernel_rfl, by kernel_rfl⟩, ⟨by kernel_rfl, by kernel_rfl⟩, ⟨by kernel_rfl, by kernel_rfl⟩, ⟨by kernel_rfl, by kernel_rfl⟩, ⟨by kernel_rfl, by kernel_rfl⟩, ⟨by kernel_rfl, by kernel_rfl⟩, ⟨by kernel_rfl, by kernel_rfl⟩, ⟨by kernel_rfl, by kernel_rfl⟩, ⟨by kernel_rfl, by kernel_rfl⟩, ⟨by kernel_rfl, by kernel_rfl⟩, ⟨by kernel_rfl, by kernel_rfl⟩, ⟨by kernel_rfl, by kernel_rfl⟩, ⟨by kernel_rfl, by kernel_rfl⟩, ⟨by kernel_rfl, by kernel_rfl⟩, ⟨by kernel_rfl, by kernel_rfl⟩, ⟨by kernel_rfl, by kernel_rfl⟩, ⟨by kernel_rfl, by kernel_rfl⟩, ⟨by kernel_rfl, by kernel_rfl⟩, ⟨by kernel_rfl, by kernel_rfl⟩, ⟨by kernel_rfl, by kernel_rfl⟩, ⟨by kernel_rfl, by kernel_rfl⟩, ⟨by kernel_rfl, by kernel_rfl⟩, ⟨by kernel_rfl, by kernel_rfl⟩, ⟨by kernel_rfl, by kernel_rfl⟩, ⟨by kernel_rfl, by kernel_rfl⟩, ⟨by kernel_rfl, by kernel_rfl⟩, ⟨by kernel_rfl, by kernel_rfl⟩, ⟨by kernel_rfl, by kernel_rfl⟩, ⟨by kernel_rfl, by kernel_rfl⟩, ⟨by kernel_rfl, by kernel_rfl⟩, ⟨by kernel_rfl, by kernel_rfl⟩, ⟨by kernel_rfl, by kernel_rfl⟩, ⟨by kernel_rfl, by kernel_rfl⟩, ⟨by kernel_rfl, by kernel_rfl⟩, ⟨by kernel_rfl, by kernel_rfl⟩, ⟨by kernel_rfl, by kernel_rfl⟩, ⟨by kernel_rfl, by kernel_rfl⟩, ⟨by kernel_rfl, by kernel_rfl⟩, ⟨by kernel_rfl, by kernel_rfl⟩, ⟨by kernel_rfl, by kernel_rfl⟩, ⟨by kernel_rfl, by kernel_rfl⟩, ⟨by kernel_rfl, by kernel_rfl⟩, ⟨by kernel_rfl, by kernel_rfl⟩, ⟨by kernel_rfl, by kernel_rfl⟩, ⟨by kernel_rfl, by kernel_rfl⟩, ⟨by kernel_rfl, by kernel_rfl⟩, ⟨by kernel_rfl, by kernel_rfl⟩, ⟨by kernel_rfl, by kernel_rfl⟩, ⟨by kernel_rfl, by kernel_rfl⟩, ⟨by kernel_rfl, by kernel_rfl⟩, True.intro⟩
theorem mixed : Try.prog.follows .mixedOrders = true := by kernel_rfl
def inL : List Nat → Nat → Bool
  | [], _ => false
  | a :: r, n => match Nat.beq a n with | true => true | false => inL r n
def stl : Nat → Bool := inL [22, 25, 42, 45, 47, 52, 59, 65, 66, 71, 74, 77, 81, 82, 85, 86, 95, 96, 104, 105, 107]
/- 8: foghorn/foghornlaw15.NearNone -/
def p8 : Nat → Option PlanC := fun _ => none
def wl8 : Nat → List Nat := fun _ => []
def wj8 : Nat → Option (List Nat) := fun _ => none
def kr8 : Nat → List Nat := fun _ => []
noncomputable def e8 : Ent := entOf Try.f8 ⟨p8, wl8, wj8, kr8, [2]⟩
theorem g8 : EntOk Try.prog stl 8 e8 := .inr ⟨rfl, Try.func8, by kernel_rfl, by kernel_rfl, by kernel_rfl, by kernel_rfl, by kernel_rfl, rfl⟩
/- 15: foghorn/foghornlaw15.awake -/
def p15 : Nat → Option PlanC := fun _ => none
def wl15 : Nat → List Nat := fun _ => []
def wj15 : Nat → Option (List Nat) := fun _ => none
def kr15 : Nat → List Nat := fun _ => []
noncomputable def e15 : Ent := entOf Try.f15 ⟨p15, wl15, wj15, kr15, []⟩
theorem g15 : EntOk Try.prog stl 15 e15 := .inr ⟨rfl, Try.func15, by kernel_rfl, by kernel_rfl, by kernel_rfl, by kernel_rfl, by kernel_rfl, rfl⟩
/- 16: foghorn/near.Learn -/
def p16 : Nat → Option PlanC := fun _ => none
def wl16 : Nat → List Nat := fun _ => []
def wj16 : Nat → Option (List Nat) := fun _ => none
def kr16 : Nat → List Nat := fun _ => []
noncomputable def e16 : Ent := entOf Try.f16 ⟨p16, wl16, wj16, kr16, [4]⟩
theorem g16 : EntOk Try.prog stl 16 e16 := .inr ⟨rfl, Try.func16, by kernel_rfl, by kernel_rfl, by kernel_rfl, by kernel_rfl, by kernel_rfl, rfl⟩
/- 18: foghorn/foghornref03.SameRow -/
def p18 : Nat → Option PlanC := fun _ => none
def wl18 : Nat → List Nat := fun
  | 4 => [5]
  | _ => []
def wj18 : Nat → Option (List Nat) := fun _ => none
def kr18 : Nat → List Nat := fun _ => []
noncomputable def e18 : Ent := entOf Try.f18 ⟨p18, wl18, wj18, kr18, []⟩
theorem g18 : EntOk Try.prog stl 18 e18 := .inr ⟨rfl, Try.func18, by kernel_rfl, by kernel_rfl, by kernel_rfl, by kernel_rfl, by kernel_rfl, rfl⟩
/- 19: foghorn/near.New -/
def p19 : Nat → Option PlanC := fun _ => none
def wl19 : Nat → List Nat := fun _ => []
def wj19 : Nat → Option (List Nat) := fun _ => none
def kr19 : Nat → List Nat := fun _ => []
noncomputable def e19 : Ent := entOf Try.f19 ⟨p19, wl19, wj19, kr19, []⟩
theorem g19 : EntOk Try.prog stl 19 e19 := .inr ⟨rfl, Try.func19, by kernel_rfl, by kernel_rfl, by kernel_rfl, by kernel_rfl, by kernel_rfl, rfl⟩
/- 21: (*foghorn/near.Line).Clear -/
def p21 : Nat → Option PlanC := fun _ => none
def wl21 : Nat → List Nat := fun _ => []
def wj21 : Nat → Option (List Nat) := fun _ => none
def kr21 : Nat → List Nat := fun _ => []
noncomputable def e21 : Ent := entOf Try.f21 ⟨p21, wl21, wj21, kr21, []⟩
theorem g21 : EntOk Try.prog stl 21 e21 := .inr ⟨rfl, Try.func21, by kernel_rfl, by kernel_rfl, by kernel_rfl, by kernel_rfl, by kernel_rfl, rfl⟩
/- 22: (*foghorn/near.Line).Heard -/
def p22 : Nat → Option PlanC := fun _ => none
def wl22 : Nat → List Nat := fun _ => []
def wj22 : Nat → Option (List Nat) := fun _ => none
def kr22 : Nat → List Nat := fun _ => []
noncomputable def e22 : Ent := entOf Try.f22 ⟨p22, wl22, wj22, kr22, []⟩
theorem g22 : EntOk Try.prog stl 22 e22 := .inr ⟨rfl, Try.func22, by kernel_rfl, by kernel_rfl, by kernel_rfl, by kernel_rfl, by kernel_rfl, rfl⟩
/- 23: (*foghorn/near.Line).Hear -/
def p23 : Nat → Option PlanC := fun
  | 18 => some (.op 2 true (.op 3 true (.op 4 true (.alt 0 (.op 1 false (.op 5 false (.op 6 false (.op 7 false (.done))))) (.alt 1 (.op 0 false (.op 5 false (.op 6 false (.op 7 false (.done))))) (.fin))))))
  | _ => none
def wl23 : Nat → List Nat := fun
  | 11 => [10, 11, 48]
  | _ => []
def wj23 : Nat → Option (List Nat) := fun _ => none
def kr23 : Nat → List Nat := fun _ => []
noncomputable def e23 : Ent := entOf Try.f23 ⟨p23, wl23, wj23, kr23, [5]⟩
theorem g23 : EntOk Try.prog stl 23 e23 := .inr ⟨rfl, Try.func23, by kernel_rfl, by kernel_rfl, by kernel_rfl, by kernel_rfl, by kernel_rfl, rfl⟩
/- 25: foghorn/foghornref03.Same -/
def p25 : Nat → Option PlanC := fun _ => none
def wl25 : Nat → List Nat := fun _ => []
def wj25 : Nat → Option (List Nat) := fun _ => none
def kr25 : Nat → List Nat := fun _ => []
noncomputable def e25 : Ent := entOf Try.f25 ⟨p25, wl25, wj25, kr25, []⟩
theorem g25 : EntOk Try.prog stl 25 e25 := .inr ⟨rfl, Try.func25, by kernel_rfl, by kernel_rfl, by kernel_rfl, by kernel_rfl, by kernel_rfl, rfl⟩
/- 30: foghorn/near.Add -/
def p30 : Nat → Option PlanC := fun _ => none
def wl30 : Nat → List Nat := fun _ => []
def wj30 : Nat → Option (List Nat) := fun _ => none
def kr30 : Nat → List Nat := fun _ => []
noncomputable def e30 : Ent := entOf Try.f30 ⟨p30, wl30, wj30, kr30, []⟩
theorem g30 : EntOk Try.prog stl 30 e30 := .inr ⟨rfl, Try.func30, by kernel_rfl, by kernel_rfl, by kernel_rfl, by kernel_rfl, by kernel_rfl, rfl⟩
/- 31: foghorn/near.Off -/
def p31 : Nat → Option PlanC := fun _ => none
def wl31 : Nat → List Nat := fun _ => []
def wj31 : Nat → Option (List Nat) := fun _ => none
def kr31 : Nat → List Nat := fun _ => []
noncomputable def e31 : Ent := entOf Try.f31 ⟨p31, wl31, wj31, kr31, []⟩
theorem g31 : EntOk Try.prog stl 31 e31 := .inr ⟨rfl, Try.func31, by kernel_rfl, by kernel_rfl, by kernel_rfl, by kernel_rfl, by kernel_rfl, rfl⟩
/- 33: foghorn/near.Echo -/
def p33 : Nat → Option PlanC := fun _ => none
def wl33 : Nat → List Nat := fun _ => []
def wj33 : Nat → Option (List Nat) := fun _ => none
def kr33 : Nat → List Nat := fun _ => []
noncomputable def e33 : Ent := entOf Try.f33 ⟨p33, wl33, wj33, kr33, []⟩
theorem g33 : EntOk Try.prog stl 33 e33 := .inr ⟨rfl, Try.func33, by kernel_rfl, by kernel_rfl, by kernel_rfl, by kernel_rfl, by kernel_rfl, rfl⟩
/- 35: foghorn/near.Loud -/
def p35 : Nat → Option PlanC := fun
  | 8 => some (.op 0 false (.op 1 false (.op 2 false (.op 3 false (.op 4 false (.op 5 false (.op 6 false (.op 7 false (.op 8 false (.op 9 false (.done)))))))))))
  | _ => none
def wl35 : Nat → List Nat := fun
  | 6 => [7, 8, 22]
  | _ => []
def wj35 : Nat → Option (List Nat) := fun
  | 11 => some [7, 8]
  | _ => none
def kr35 : Nat → List Nat := fun _ => []
noncomputable def e35 : Ent := entOf Try.f35 ⟨p35, wl35, wj35, kr35, []⟩
theorem g35 : EntOk Try.prog stl 35 e35 := .inr ⟨rfl, Try.func35, by kernel_rfl, by kernel_rfl, by kernel_rfl, by kernel_rfl, by kernel_rfl, rfl⟩
/- 40: (foghorn/train.Plan).Taps -/
def p40 : Nat → Option PlanC := fun _ => none
def wl40 : Nat → List Nat := fun
  | 5 => [31]
  | _ => []
def wj40 : Nat → Option (List Nat) := fun _ => none
def kr40 : Nat → List Nat := fun _ => []
noncomputable def e40 : Ent := entOf Try.f40 ⟨p40, wl40, wj40, kr40, [4]⟩
theorem g40 : EntOk Try.prog stl 40 e40 := .inr ⟨rfl, Try.func40, by kernel_rfl, by kernel_rfl, by kernel_rfl, by kernel_rfl, by kernel_rfl, rfl⟩
/- 42: foghorn/near.isEcho -/
def p42 : Nat → Option PlanC := fun _ => none
def wl42 : Nat → List Nat := fun _ => []
def wj42 : Nat → Option (List Nat) := fun _ => none
def kr42 : Nat → List Nat := fun _ => []
noncomputable def e42 : Ent := entOf Try.f42 ⟨p42, wl42, wj42, kr42, []⟩
theorem g42 : EntOk Try.prog stl 42 e42 := .inr ⟨rfl, Try.func42, by kernel_rfl, by kernel_rfl, by kernel_rfl, by kernel_rfl, by kernel_rfl, rfl⟩
/- 43: slices.Clone[[]complex128,complex128] -/
def p43 : Nat → Option PlanC := fun _ => none
def wl43 : Nat → List Nat := fun _ => []
def wj43 : Nat → Option (List Nat) := fun _ => none
def kr43 : Nat → List Nat := fun _ => []
noncomputable def e43 : Ent := entOf Try.f43 ⟨p43, wl43, wj43, kr43, []⟩
theorem g43 : EntOk Try.prog stl 43 e43 := .inr ⟨rfl, Try.func43, by kernel_rfl, by kernel_rfl, by kernel_rfl, by kernel_rfl, by kernel_rfl, rfl⟩
/- 45: foghorn/bounds.Plain -/
def p45 : Nat → Option PlanC := fun _ => none
def wl45 : Nat → List Nat := fun
  | 2 => [7]
  | _ => []
def wj45 : Nat → Option (List Nat) := fun _ => none
def kr45 : Nat → List Nat := fun _ => []
noncomputable def e45 : Ent := entOf Try.f45 ⟨p45, wl45, wj45, kr45, []⟩
theorem g45 : EntOk Try.prog stl 45 e45 := .inr ⟨rfl, Try.func45, by kernel_rfl, by kernel_rfl, by kernel_rfl, by kernel_rfl, by kernel_rfl, rfl⟩
/- 46: foghorn/grid.Check -/
def p46 : Nat → Option PlanC := fun _ => none
def wl46 : Nat → List Nat := fun
  | 4 => [11]
  | _ => []
def wj46 : Nat → Option (List Nat) := fun _ => none
def kr46 : Nat → List Nat := fun _ => []
noncomputable def e46 : Ent := entOf Try.f46 ⟨p46, wl46, wj46, kr46, []⟩
theorem g46 : EntOk Try.prog stl 46 e46 := .inr ⟨rfl, Try.func46, by kernel_rfl, by kernel_rfl, by kernel_rfl, by kernel_rfl, by kernel_rfl, rfl⟩
/- 47: foghorn/plane.Mul -/
def p47 : Nat → Option PlanC := fun _ => none
def wl47 : Nat → List Nat := fun _ => []
def wj47 : Nat → Option (List Nat) := fun _ => none
def kr47 : Nat → List Nat := fun _ => []
noncomputable def e47 : Ent := entOf Try.f47 ⟨p47, wl47, wj47, kr47, []⟩
theorem g47 : EntOk Try.prog stl 47 e47 := .inr ⟨rfl, Try.func47, by kernel_rfl, by kernel_rfl, by kernel_rfl, by kernel_rfl, by kernel_rfl, rfl⟩
/- 48: foghorn/near.taking -/
def p48 : Nat → Option PlanC := fun _ => none
def wl48 : Nat → List Nat := fun _ => []
def wj48 : Nat → Option (List Nat) := fun _ => none
def kr48 : Nat → List Nat := fun _ => []
noncomputable def e48 : Ent := entOf Try.f48 ⟨p48, wl48, wj48, kr48, []⟩
theorem g48 : EntOk Try.prog stl 48 e48 := .inr ⟨rfl, Try.func48, by kernel_rfl, by kernel_rfl, by kernel_rfl, by kernel_rfl, by kernel_rfl, rfl⟩
/- 52: foghorn/foghornref03.part -/
def p52 : Nat → Option PlanC := fun _ => none
def wl52 : Nat → List Nat := fun _ => []
def wj52 : Nat → Option (List Nat) := fun _ => none
def kr52 : Nat → List Nat := fun _ => []
noncomputable def e52 : Ent := entOf Try.f52 ⟨p52, wl52, wj52, kr52, []⟩
theorem g52 : EntOk Try.prog stl 52 e52 := .inr ⟨rfl, Try.func52, by kernel_rfl, by kernel_rfl, by kernel_rfl, by kernel_rfl, by kernel_rfl, rfl⟩
/- 54: foghorn/near.through -/
def p54 : Nat → Option PlanC := fun
  | 17 => some (.op 2 false (.op 3 false (.op 4 false (.op 5 false (.op 6 false (.op 7 false (.op 0 true (.op 1 true (.op 8 false (.op 9 false (.op 10 false (.done))))))))))))
  | _ => none
def wl54 : Nat → List Nat := fun
  | 15 => [55]
  | _ => []
def wj54 : Nat → Option (List Nat) := fun _ => none
def kr54 : Nat → List Nat := fun _ => []
noncomputable def e54 : Ent := entOf Try.f54 ⟨p54, wl54, wj54, kr54, []⟩
theorem g54 : EntOk Try.prog stl 54 e54 := .inr ⟨rfl, Try.func54, by kernel_rfl, by kernel_rfl, by kernel_rfl, by kernel_rfl, by kernel_rfl, rfl⟩
/- 55: (foghorn/train.Plan).mayBe -/
def p55 : Nat → Option PlanC := fun _ => none
def wl55 : Nat → List Nat := fun _ => []
def wj55 : Nat → Option (List Nat) := fun _ => none
def kr55 : Nat → List Nat := fun _ => []
noncomputable def e55 : Ent := entOf Try.f55 ⟨p55, wl55, wj55, kr55, [1]⟩
theorem g55 : EntOk Try.prog stl 55 e55 := .inr ⟨rfl, Try.func55, by kernel_rfl, by kernel_rfl, by kernel_rfl, by kernel_rfl, by kernel_rfl, rfl⟩
/- 56: foghorn/train.Pair -/
def p56 : Nat → Option PlanC := fun _ => none
def wl56 : Nat → List Nat := fun _ => []
def wj56 : Nat → Option (List Nat) := fun _ => none
def kr56 : Nat → List Nat := fun _ => []
noncomputable def e56 : Ent := entOf Try.f56 ⟨p56, wl56, wj56, kr56, []⟩
theorem g56 : EntOk Try.prog stl 56 e56 := .inr ⟨rfl, Try.func56, by kernel_rfl, by kernel_rfl, by kernel_rfl, by kernel_rfl, by kernel_rfl, rfl⟩
/- 57: (foghorn/train.Plan).half -/
def p57 : Nat → Option PlanC := fun
  | 1 => some (.op 0 false (.op 2 true (.op 5 true (.alt 1 (.op 3 false (.op 4 false (.op 6 false (.op 7 false (.op 8 false (.done)))))) (.alt 3 (.alt 1 (.op 4 false (.op 6 false (.op 7 false (.op 8 false (.done))))) (.alt 6 (.op 1 false (.op 4 false (.op 7 false (.op 8 false (.done))))) (.fin))) (.alt 6 (.alt 1 (.op 3 false (.op 4 false (.op 7 false (.op 8 false (.done))))) (.alt 3 (.op 1 false (.op 4 false (.op 7 false (.op 8 false (.done))))) (.fin))) (.fin)))))))
  | _ => none
def wl57 : Nat → List Nat := fun _ => []
def wj57 : Nat → Option (List Nat) := fun _ => none
def kr57 : Nat → List Nat := fun _ => []
noncomputable def e57 : Ent := entOf Try.f57 ⟨p57, wl57, wj57, kr57, [1]⟩
theorem g57 : EntOk Try.prog stl 57 e57 := .inr ⟨rfl, Try.func57, by kernel_rfl, by kernel_rfl, by kernel_rfl, by kernel_rfl, by kernel_rfl, rfl⟩
/- 58: foghorn/near.back -/
def p58 : Nat → Option PlanC := fun _ => none
def wl58 : Nat → List Nat := fun _ => []
def wj58 : Nat → Option (List Nat) := fun _ => none
def kr58 : Nat → List Nat := fun _ => []
noncomputable def e58 : Ent := entOf Try.f58 ⟨p58, wl58, wj58, kr58, []⟩
theorem g58 : EntOk Try.prog stl 58 e58 := .inr ⟨rfl, Try.func58, by kernel_rfl, by kernel_rfl, by kernel_rfl, by kernel_rfl, by kernel_rfl, rfl⟩
/- 59: math.Abs -/
def p59 : Nat → Option PlanC := fun _ => none
def wl59 : Nat → List Nat := fun _ => []
def wj59 : Nat → Option (List Nat) := fun _ => none
def kr59 : Nat → List Nat := fun _ => []
noncomputable def e59 : Ent := entOf Try.f59 ⟨p59, wl59, wj59, kr59, []⟩
theorem g59 : EntOk Try.prog stl 59 e59 := .inr ⟨rfl, Try.func59, by kernel_rfl, by kernel_rfl, by kernel_rfl, by kernel_rfl, by kernel_rfl, rfl⟩
/- 64: (foghorn/train.Plan).Raw -/
def p64 : Nat → Option PlanC := fun
  | 17 => some (.op 2 false (.op 0 true (.op 1 true (.op 5 true (.op 6 true (.op 10 true (.op 12 true (.alt 3 (.op 4 false (.op 7 false (.op 8 false (.op 9 false (.op 11 false (.op 13 false (.op 14 false (.op 15 false (.op 16 false (.op 17 false (.op 18 false (.done)))))))))))) (.alt 7 (.op 8 true (.alt 3 (.op 4 false (.op 9 false (.op 11 false (.op 13 false (.op 14 false (.op 15 false (.op 16 false (.op 17 false (.op 18 false (.done)))))))))) (.alt 11 (.op 3 false (.op 4 false (.op 9 false (.op 13 false (.op 14 false (.op 15 false (.op 16 false (.op 17 false (.op 18 false (.done)))))))))) (.fin)))) (.alt 11 (.alt 3 (.op 4 false (.op 7 false (.op 8 false (.op 9 false (.op 13 false (.op 14 false (.op 15 false (.op 16 false (.op 17 false (.op 18 false (.done))))))))))) (.alt 7 (.op 8 true (.op 3 false (.op 4 false (.op 9 false (.op 13 false (.op 14 false (.op 15 false (.op 16 false (.op 17 false (.op 18 false (.done))))))))))) (.fin))) (.fin)))))))))))
  | _ => none
def wl64 : Nat → List Nat := fun
  | 12 => [67]
  | _ => []
def wj64 : Nat → Option (List Nat) := fun _ => none
def kr64 : Nat → List Nat := fun _ => []
noncomputable def e64 : Ent := entOf Try.f64 ⟨p64, wl64, wj64, kr64, [4]⟩
theorem g64 : EntOk Try.prog stl 64 e64 := .inr ⟨rfl, Try.func64, by kernel_rfl, by kernel_rfl, by kernel_rfl, by kernel_rfl, by kernel_rfl, rfl⟩
/- 65: foghorn/train.Step -/
def p65 : Nat → Option PlanC := fun _ => none
def wl65 : Nat → List Nat := fun _ => []
def wj65 : Nat → Option (List Nat) := fun _ => none
def kr65 : Nat → List Nat := fun _ => []
noncomputable def e65 : Ent := entOf Try.f65 ⟨p65, wl65, wj65, kr65, []⟩
theorem g65 : EntOk Try.prog stl 65 e65 := .inr ⟨rfl, Try.func65, by kernel_rfl, by kernel_rfl, by kernel_rfl, by kernel_rfl, by kernel_rfl, rfl⟩
/- 66: foghorn/bounds.Taps -/
def p66 : Nat → Option PlanC := fun _ => none
def wl66 : Nat → List Nat := fun
  | 5 => [3, 16]
  | _ => []
def wj66 : Nat → Option (List Nat) := fun _ => none
def kr66 : Nat → List Nat := fun _ => []
noncomputable def e66 : Ent := entOf Try.f66 ⟨p66, wl66, wj66, kr66, []⟩
theorem g66 : EntOk Try.prog stl 66 e66 := .inr ⟨rfl, Try.func66, by kernel_rfl, by kernel_rfl, by kernel_rfl, by kernel_rfl, by kernel_rfl, rfl⟩
/- 71: foghorn/bounds.Fine -/
def p71 : Nat → Option PlanC := fun _ => none
def wl71 : Nat → List Nat := fun _ => []
def wj71 : Nat → Option (List Nat) := fun _ => none
def kr71 : Nat → List Nat := fun _ => []
noncomputable def e71 : Ent := entOf Try.f71 ⟨p71, wl71, wj71, kr71, []⟩
theorem g71 : EntOk Try.prog stl 71 e71 := .inr ⟨rfl, Try.func71, by kernel_rfl, by kernel_rfl, by kernel_rfl, by kernel_rfl, by kernel_rfl, rfl⟩
/- 72: foghorn/grid.mayBe -/
def p72 : Nat → Option PlanC := fun _ => none
def wl72 : Nat → List Nat := fun _ => []
def wj72 : Nat → Option (List Nat) := fun _ => none
def kr72 : Nat → List Nat := fun _ => []
noncomputable def e72 : Ent := entOf Try.f72 ⟨p72, wl72, wj72, kr72, [1]⟩
theorem g72 : EntOk Try.prog stl 72 e72 := .inr ⟨rfl, Try.func72, by kernel_rfl, by kernel_rfl, by kernel_rfl, by kernel_rfl, by kernel_rfl, rfl⟩
/- 73: foghorn/near.taking$1 -/
def p73 : Nat → Option PlanC := fun _ => none
def wl73 : Nat → List Nat := fun _ => []
def wj73 : Nat → Option (List Nat) := fun _ => none
def kr73 : Nat → List Nat := fun _ => []
noncomputable def e73 : Ent := entOf Try.f73 ⟨p73, wl73, wj73, kr73, [3]⟩
theorem g73 : EntOk Try.prog stl 73 e73 := .inr ⟨rfl, Try.func73, by kernel_rfl, by kernel_rfl, by kernel_rfl, by kernel_rfl, by kernel_rfl, rfl⟩
/- 74: foghorn/grid.On -/
def p74 : Nat → Option PlanC := fun _ => none
def wl74 : Nat → List Nat := fun _ => []
def wj74 : Nat → Option (List Nat) := fun _ => none
def kr74 : Nat → List Nat := fun _ => []
noncomputable def e74 : Ent := entOf Try.f74 ⟨p74, wl74, wj74, kr74, []⟩
theorem g74 : EntOk Try.prog stl 74 e74 := .inr ⟨rfl, Try.func74, by kernel_rfl, by kernel_rfl, by kernel_rfl, by kernel_rfl, by kernel_rfl, rfl⟩
/- 77: math.Signbit -/
def p77 : Nat → Option PlanC := fun _ => none
def wl77 : Nat → List Nat := fun _ => []
def wj77 : Nat → Option (List Nat) := fun _ => none
def kr77 : Nat → List Nat := fun _ => []
noncomputable def e77 : Ent := entOf Try.f77 ⟨p77, wl77, wj77, kr77, []⟩
theorem g77 : EntOk Try.prog stl 77 e77 := .inr ⟨rfl, Try.func77, by kernel_rfl, by kernel_rfl, by kernel_rfl, by kernel_rfl, by kernel_rfl, rfl⟩
/- 78: foghorn/train.pair -/
def p78 : Nat → Option PlanC := fun
  | 2 => some (.op 0 true (.op 2 true (.alt 1 (.op 4 true (.op 3 false (.op 5 false (.done)))) (.alt 3 (.op 1 false (.op 4 false (.op 5 false (.done)))) (.fin)))))
  | _ => none
def wl78 : Nat → List Nat := fun
  | 11 => [54]
  | _ => []
def wj78 : Nat → Option (List Nat) := fun _ => none
def kr78 : Nat → List Nat := fun _ => []
noncomputable def e78 : Ent := entOf Try.f78 ⟨p78, wl78, wj78, kr78, []⟩
theorem g78 : EntOk Try.prog stl 78 e78 := .inr ⟨rfl, Try.func78, by kernel_rfl, by kernel_rfl, by kernel_rfl, by kernel_rfl, by kernel_rfl, rfl⟩
/- 79: (foghorn/train.Plan).signs -/
def p79 : Nat → Option PlanC := fun _ => none
def wl79 : Nat → List Nat := fun _ => []
def wj79 : Nat → Option (List Nat) := fun _ => none
def kr79 : Nat → List Nat := fun _ => []
noncomputable def e79 : Ent := entOf Try.f79 ⟨p79, wl79, wj79, kr79, [1]⟩
theorem g79 : EntOk Try.prog stl 79 e79 := .inr ⟨rfl, Try.func79, by kernel_rfl, by kernel_rfl, by kernel_rfl, by kernel_rfl, by kernel_rfl, rfl⟩
/- 80: foghorn/plane.Filter -/
def p80 : Nat → Option PlanC := fun
  | 10 => some (.op 0 false (.op 1 false (.op 2 false (.op 3 false (.op 4 false (.op 5 false (.op 6 false (.op 7 false (.op 8 false (.op 9 false (.op 10 false (.op 11 false (.op 12 false (.op 13 false (.op 14 false (.op 15 false (.op 16 false (.op 17 false (.op 18 false (.op 19 false (.done)))))))))))))))))))))
  | _ => none
def wl80 : Nat → List Nat := fun
  | 5 => [27]
  | 8 => [35]
  | _ => []
def wj80 : Nat → Option (List Nat) := fun _ => none
def kr80 : Nat → List Nat := fun _ => []
noncomputable def e80 : Ent := entOf Try.f80 ⟨p80, wl80, wj80, kr80, []⟩
theorem g80 : EntOk Try.prog stl 80 e80 := .inr ⟨rfl, Try.func80, by kernel_rfl, by kernel_rfl, by kernel_rfl, by kernel_rfl, by kernel_rfl, rfl⟩
/- 81: math.Float64frombits (no Go text) -/
noncomputable def e81 : Ent := extEnt
theorem g81 : EntOk Try.prog stl 81 e81 := .inl rfl
/- 82: math.Float64bits (no Go text) -/
noncomputable def e82 : Ent := extEnt
theorem g82 : EntOk Try.prog stl 82 e82 := .inl rfl
/- 85: foghorn/train.against -/
def p85 : Nat → Option PlanC := fun _ => none
def wl85 : Nat → List Nat := fun
  | 3 => [1, 10, 11, 16]
  | _ => []
def wj85 : Nat → Option (List Nat) := fun
  | 12 => some [10, 11]
  | _ => none
def kr85 : Nat → List Nat := fun _ => []
noncomputable def e85 : Ent := entOf Try.f85 ⟨p85, wl85, wj85, kr85, []⟩
theorem g85 : EntOk Try.prog stl 85 e85 := .inr ⟨rfl, Try.func85, by kernel_rfl, by kernel_rfl, by kernel_rfl, by kernel_rfl, by kernel_rfl, rfl⟩
/- 86: math.RoundToEven (no Go text) -/
noncomputable def e86 : Ent := extEnt
theorem g86 : EntOk Try.prog stl 86 e86 := .inl rfl
/- 95: math.Trunc -/
def p95 : Nat → Option PlanC := fun _ => none
def wl95 : Nat → List Nat := fun _ => []
def wj95 : Nat → Option (List Nat) := fun _ => none
def kr95 : Nat → List Nat := fun _ => []
noncomputable def e95 : Ent := entOf Try.f95 ⟨p95, wl95, wj95, kr95, []⟩
theorem g95 : EntOk Try.prog stl 95 e95 := .inr ⟨rfl, Try.func95, by kernel_rfl, by kernel_rfl, by kernel_rfl, by kernel_rfl, by kernel_rfl, rfl⟩
/- 96: foghorn/plane.plus -/
def p96 : Nat → Option PlanC := fun _ => none
def wl96 : Nat → List Nat := fun _ => []
def wj96 : Nat → Option (List Nat) := fun _ => none
def kr96 : Nat → List Nat := fun _ => []
noncomputable def e96 : Ent := entOf Try.f96 ⟨p96, wl96, wj96, kr96, []⟩
theorem g96 : EntOk Try.prog stl 96 e96 := .inr ⟨rfl, Try.func96, by kernel_rfl, by kernel_rfl, by kernel_rfl, by kernel_rfl, by kernel_rfl, rfl⟩
/- 104: math.archTrunc (no Go text) -/
noncomputable def e104 : Ent := extEnt
theorem g104 : EntOk Try.prog stl 104 e104 := .inl rfl
/- 105: math.trunc -/
def p105 : Nat → Option PlanC := fun _ => none
def wl105 : Nat → List Nat := fun _ => []
def wj105 : Nat → Option (List Nat) := fun
  | 7 => some [3]
  | _ => none
def kr105 : Nat → List Nat := fun _ => []
noncomputable def e105 : Ent := entOf Try.f105 ⟨p105, wl105, wj105, kr105, []⟩
theorem g105 : EntOk Try.prog stl 105 e105 := .inr ⟨rfl, Try.func105, by kernel_rfl, by kernel_rfl, by kernel_rfl, by kernel_rfl, by kernel_rfl, rfl⟩
/- 107: math.Copysign -/
def p107 : Nat → Option PlanC := fun _ => none
def wl107 : Nat → List Nat := fun _ => []
def wj107 : Nat → Option (List Nat) := fun _ => none
def kr107 : Nat → List Nat := fun _ => []
noncomputable def e107 : Ent := entOf Try.f107 ⟨p107, wl107, wj107, kr107, []⟩
theorem g107 : EntOk Try.prog stl 107 e107 := .inr ⟨rfl, Try.func107, by kernel_rfl, by kernel_rfl, by kernel_rfl, by kernel_rfl, by kernel_rfl, rfl⟩
noncomputable def ents : List (Nat × Ent) := [(8, e8), (15, e15), (16, e16), (18, e18), (19, e19), (21, e21), (22, e22), (23, e23), (25, e25), (30, e30), (31, e31), (33, e33), (35, e35), (40, e40), (42, e42), (43, e43), (45, e45), (46, e46), (47, e47), (48, e48), (52, e52), (54, e54), (55, e55), (56, e56), (57, e57), (58, e58), (59, e59), (64, e64), (65, e65), (66, e66), (71, e71), (72, e72), (73, e73), (74, e74), (77, e77), (78, e78), (79, e79), (80, e80), (81, e81), (82, e82), (85, e85), (86, e86), (95, e95), (96, e96), (104, e104), (105, e105), (107, e107)]
theorem goods : EntsOk Try.prog stl ents := ⟨g8, g15, g16, g18, g19, g21, g22, g23, g25, g30, g31, g33, g35, g40, g42, g43, g45, g46, g47, g48, g52, g54, g55, g56, g57, g58, g59, g64, g65, g66, g71, g72, g73, g74, g77, g78, g79, g80, g81, g82, g85, g86, g95, g96, g104, g105, g107, True.intro⟩
noncomputable def tab : Nat → Option Ent := (tabOf ents).get
theorem fok : FOk Try.prog stl tab := fok_of goods
noncomputable def d0 : Disp := .leaf
theorem d0_ok : CallSim Try.prog tys stl tab d0.fn := Disp.sim True.intro
/- (*foghorn/near.Line).Clear -/
noncomputable def R21 (Q : Prim) (fu : Nat) (call : CallK) (a0 : CV) (h0 : HP) (c0 : Nat) (K : KV) : Bool :=
Q.cmpK (cmpF .eql) (binC Try.prog .eql 51 (.tmp 3) (.const (.pointer none)) a0 .nilp) a0 .nilp fun v1 =>
Q.condK v1 (
K (.int .i64 (.ofNat 2)) h0 c0) (
Q.nilcK a0 fun v2 =>
Q.fadK 0 v2 fun v3 =>
Q.loadSK h0 v3 fun v4 =>
Q.genK (buildV tys 95 [(0, v4)]) fun v5 =>
Q.nilcK a0 fun v6 =>
Q.storeAK (storeC tys ⟨[], 0, h0, 0⟩ 95 v6 v5) fun h7 =>
K (.int .i64 (.ofNat 0)) h7 c0)
theorem R21_eq (Q : Prim) (fu : Nat) (call : CallK) : curryA 1 (fnK Q Try.prog tys stl fu call e21) = R21 Q fu call := by kernel_rfl
noncomputable def n21 : List CV → HP → Nat → KV → Bool := appF 1 (R21 real 1000000 d0.fn)
theorem n21_ok : ∀ args hp c K, n21 args hp c K = true → Out (fun N => enterK Try.prog tys tab (execC Try.prog tys stl tab N) 21 args hp c) (stl 21 = true) fun p => K p.1 p.2.1 p.2.2 = true := node_ok d0_ok (by kernel_rfl) rfl g21 (R21_eq _ _ _)
/- (*foghorn/near.Line).Heard -/
noncomputable def R22 (Q : Prim) (fu : Nat) (call : CallK) (a0 : CV) (h0 : HP) (c0 : Nat) (K : KV) : Bool :=
Q.cmpK (cmpF .eql) (binC Try.prog .eql 51 (.tmp 3) (.const (.pointer none)) a0 .nilp) a0 .nilp fun v1 =>
Q.condK v1 (
K (.int .i64 (.ofNat 0)) h0 c0) (
Q.nilcK a0 fun v2 =>
Q.fadK 65 v2 fun v3 =>
Q.loadSK h0 v3 fun v4 =>
K v4 h0 c0)
theorem R22_eq (Q : Prim) (fu : Nat) (call : CallK) : curryA 1 (fnK Q Try.prog tys stl fu call e22) = R22 Q fu call := by kernel_rfl
noncomputable def n22 : List CV → HP → Nat → KV → Bool := appF 1 (R22 real 1000000 d0.fn)
theorem n22_ok : ∀ args hp c K, n22 args hp c K = true → Out (fun N => enterK Try.prog tys tab (execC Try.prog tys stl tab N) 22 args hp c) (stl 22 = true) fun p => K p.1 p.2.1 p.2.2 = true := node_ok d0_ok (by kernel_rfl) rfl g22 (R22_eq _ _ _)
/- slices.Clone[[]complex128,complex128] -/
noncomputable def R43 (Q : Prim) (fu : Nat) (call : CallK) (a0 : CV) (h0 : HP) (c0 : Nat) (K : KV) : Bool :=
Q.cmpK (cmpF .eql) (binC Try.prog .eql 28 (.tmp 3) (.const (.slice none 0 0)) a0 .nils) a0 .nils fun v1 =>
Q.condK v1 (
K .nils h0 c0) (
Q.genM (buildSliceV tys ⟨[], 0, h0, c0⟩ 28 0 []) fun v2 h3 c4 =>
Q.appK tys 28 28 h3 c4 v2 a0 fun v5 h6 c7 =>
K v5 h6 c7)
theorem R43_eq (Q : Prim) (fu : Nat) (call : CallK) : curryA 1 (fnK Q Try.prog tys stl fu call e43) = R43 Q fu call := by kernel_rfl
noncomputable def n43 : List CV → HP → Nat → KV → Bool := appF 1 (R43 real 1000000 d0.fn)
theorem n43_ok : ∀ args hp c K, n43 args hp c K = true → Out (fun N => enterK Try.prog tys tab (execC Try.prog tys stl tab N) 43 args hp c) (stl 43 = true) fun p => K p.1 p.2.1 p.2.2 = true := node_ok d0_ok (by kernel_rfl) rfl g43 (R43_eq _ _ _)
/- foghorn/plane.Mul -/
noncomputable def R47 (Q : Prim) (fu : Nat) (call : CallK) (a0 : CV) (a1 : CV) (h0 : HP) (c0 : Nat) (K : KV) : Bool :=
Q.genK (two Try.prog a0 fun v => Builtin.real_ #[30] 37 #[v]) fun v1 =>
Q.genK (two Try.prog a1 fun v => Builtin.real_ #[30] 37 #[v]) fun v2 =>
Q.mulK (binC Try.prog .mul 37 (.tmp 10) (.tmp 12) v1 v2) v1 v2 fun v3 =>
Q.genK (two Try.prog a0 fun v => Builtin.imag_ #[30] 37 #[v]) fun v4 =>
Q.genK (two Try.prog a1 fun v => Builtin.imag_ #[30] 37 #[v]) fun v5 =>
Q.mulK (binC Try.prog .mul 37 (.tmp 15) (.tmp 17) v4 v5) v4 v5 fun v6 =>
Q.genK (two Try.prog a0 fun v => Builtin.real_ #[30] 37 #[v]) fun v7 =>
Q.genK (two Try.prog a1 fun v => Builtin.imag_ #[30] 37 #[v]) fun v8 =>
Q.mulK (binC Try.prog .mul 37 (.tmp 20) (.tmp 22) v7 v8) v7 v8 fun v9 =>
Q.genK (two Try.prog a0 fun v => Builtin.imag_ #[30] 37 #[v]) fun v10 =>
Q.genK (two Try.prog a1 fun v => Builtin.real_ #[30] 37 #[v]) fun v11 =>
Q.mulK (binC Try.prog .mul 37 (.tmp 25) (.tmp 27) v10 v11) v10 v11 fun v12 =>
Q.subK (binC Try.prog .sub 37 (.tmp 29) (.tmp 30) v3 v6) v3 v6 fun v13 =>
Q.addK (binC Try.prog .add 37 (.tmp 32) (.tmp 33) v9 v12) v9 v12 fun v14 =>
Q.genK (two2 Try.prog v13 v14 fun v u => Builtin.complex_ #[37, 37] 30 #[v, u]) fun v15 =>
K v15 h0 c0
theorem R47_eq (Q : Prim) (fu : Nat) (call : CallK) : curryA 2 (fnK Q Try.prog tys stl fu call e47) = R47 Q fu call := by kernel_rfl
noncomputable def n47 : List CV → HP → Nat → KV → Bool := appF 2 (R47 real 1000000 d0.fn)
theorem n47_ok : ∀ args hp c K, n47 args hp c K = true → Out (fun N => enterK Try.prog tys tab (execC Try.prog tys stl tab N) 47 args hp c) (stl 47 = true) fun p => K p.1 p.2.1 p.2.2 = true := node_ok d0_ok (by kernel_rfl) rfl g47 (R47_eq _ _ _)
/- foghorn/near.taking -/
noncomputable def R48 (Q : Prim) (fu : Nat) (call : CallK) (a0 : CV) (h0 : HP) (c0 : Nat) (K : KV) : Bool :=
Q.genM (boxC ⟨[], 0, h0, c0⟩ a0) fun v1 h2 c3 =>
K (.fn 73 [v1]) h2 c3
theorem R48_eq (Q : Prim) (fu : Nat) (call : CallK) : curryA 1 (fnK Q Try.prog tys stl fu call e48) = R48 Q fu call := by kernel_rfl
noncomputable def n48 : List CV → HP → Nat → KV → Bool := appF 1 (R48 real 1000000 d0.fn)
theorem n48_ok : ∀ args hp c K, n48 args hp c K = true → Out (fun N => enterK Try.prog tys tab (execC Try.prog tys stl tab N) 48 args hp c) (stl 48 = true) fun p => K p.1 p.2.1 p.2.2 = true := node_ok d0_ok (by kernel_rfl) rfl g48 (R48_eq _ _ _)
/- (foghorn/train.Plan).mayBe -/
noncomputable def R55 (Q : Prim) (fu : Nat) (call : CallK) (a0 : CV) (h0 : HP) (c0 : Nat) (K : KV) : Bool :=
Q.genM (boxC ⟨[], 0, h0, c0⟩ a0) fun v1 h2 c3 =>
Q.fadK 0 v1 fun v4 =>
Q.loadSK h2 v4 fun v5 =>
Q.cmpK (cmpF .geq) (binC Try.prog .geq 3 (.tmp 4) (.const (.int .i64 (.ofNat 1))) v5 (.int .i64 (.ofNat 1))) v5 (.int .i64 (.ofNat 1)) fun v6 =>
Q.share _ (fun v8 h9 c10 =>
Q.share _ (fun v12 h13 c14 =>
Q.share _ (fun v16 h17 c18 =>
Q.pickK v6 v16 (.bool false) fun v19 =>
Q.share _ (fun v21 h22 c23 =>
Q.share _ (fun v25 h26 c27 =>
Q.share _ (fun v29 h30 c31 =>
Q.pickK v19 v29 (.bool false) fun v32 =>
Q.share _ (fun v34 h35 c36 =>
Q.share _ (fun v38 h39 c40 =>
Q.share _ (fun v42 h43 c44 =>
Q.pickK v32 v42 (.bool false) fun v45 =>
Q.share _ (fun v47 h48 c49 =>
Q.share _ (fun v51 h52 c53 =>
Q.share _ (fun v55 h56 c57 =>
Q.pickK v45 v55 (.bool false) fun v58 =>
Q.share _ (fun v60 h61 c62 =>
Q.share _ (fun v64 h65 c66 =>
Q.share _ (fun v68 h69 c70 =>
Q.pickK v58 v68 (.bool false) fun v71 =>
Q.killVK v1 h69 fun h72 =>
K v71 h72 c70) fun f67 =>
Q.guardK true v58 (Q.cmpK (cmpF .leq) (binC Try.prog .leq 3 (.tmp 28) (.const (.int .i64 (.ofNat 4096))) v64 (.int .i64 (.ofNat 4096))) v64 (.int .i64 (.ofNat 4096)) fun v73 =>
f67 v73 h65 c66) (f67 (.tup []) h65 c66)) fun f63 =>
Q.guardK true v58 (Q.loadSK h61 v60 fun v74 =>
f63 v74 h61 c62) (f63 (.tup []) h61 c62)) fun f59 =>
Q.guardK true v58 (Q.fadK 2 v1 fun v75 =>
f59 v75 h56 c57) (f59 (.tup []) h56 c57)) fun f54 =>
Q.guardK true v45 (Q.cmpK (cmpF .geq) (binC Try.prog .geq 3 (.tmp 23) (.const (.int .i64 (.ofNat 0))) v51 (.int .i64 (.ofNat 0))) v51 (.int .i64 (.ofNat 0)) fun v76 =>
f54 v76 h52 c53) (f54 (.tup []) h52 c53)) fun f50 =>
Q.guardK true v45 (Q.loadSK h48 v47 fun v77 =>
f50 v77 h48 c49) (f50 (.tup []) h48 c49)) fun f46 =>
Q.guardK true v45 (Q.fadK 2 v1 fun v78 =>
f46 v78 h43 c44) (f46 (.tup []) h43 c44)) fun f41 =>
Q.guardK true v32 (Q.cmpK (cmpF .leq) (binC Try.prog .leq 3 (.tmp 18) (.const (.int .i64 (.ofNat 8))) v38 (.int .i64 (.ofNat 8))) v38 (.int .i64 (.ofNat 8)) fun v79 =>
f41 v79 h39 c40) (f41 (.tup []) h39 c40)) fun f37 =>
Q.guardK true v32 (Q.loadSK h35 v34 fun v80 =>
f37 v80 h35 c36) (f37 (.tup []) h35 c36)) fun f33 =>
Q.guardK true v32 (Q.fadK 1 v1 fun v81 =>
f33 v81 h30 c31) (f33 (.tup []) h30 c31)) fun f28 =>
Q.guardK true v19 (Q.cmpK (cmpF .geq) (binC Try.prog .geq 3 (.tmp 13) (.const (.int .i64 (.ofNat 1))) v25 (.int .i64 (.ofNat 1))) v25 (.int .i64 (.ofNat 1)) fun v82 =>
f28 v82 h26 c27) (f28 (.tup []) h26 c27)) fun f24 =>
Q.guardK true v19 (Q.loadSK h22 v21 fun v83 =>
f24 v83 h22 c23) (f24 (.tup []) h22 c23)) fun f20 =>
Q.guardK true v19 (Q.fadK 1 v1 fun v84 =>
f20 v84 h17 c18) (f20 (.tup []) h17 c18)) fun f15 =>
Q.guardK true v6 (Q.cmpK (cmpF .leq) (binC Try.prog .leq 3 (.tmp 8) (.const (.int .i64 (.ofNat 8))) v12 (.int .i64 (.ofNat 8))) v12 (.int .i64 (.ofNat 8)) fun v85 =>
f15 v85 h13 c14) (f15 (.tup []) h13 c14)) fun f11 =>
Q.guardK true v6 (Q.loadSK h9 v8 fun v86 =>
f11 v86 h9 c10) (f11 (.tup []) h9 c10)) fun f7 =>
Q.guardK true v6 (Q.fadK 0 v1 fun v87 =>
f7 v87 h2 c3) (f7 (.tup []) h2 c3)
theorem R55_eq (Q : Prim) (fu : Nat) (call : CallK) : curryA 1 (fnK Q Try.prog tys stl fu call e55) = R55 Q fu call := by kernel_rfl
noncomputable def n55 : List CV → HP → Nat → KV → Bool := appF 1 (R55 real 1000000 d0.fn)
theorem n55_ok : ∀ args hp c K, n55 args hp c K = true → Out (fun N => enterK Try.prog tys tab (execC Try.prog tys stl tab N) 55 args hp c) (stl 55 = true) fun p => K p.1 p.2.1 p.2.2 = true := node_ok d0_ok (by kernel_rfl) rfl g55 (R55_eq _ _ _)
/- foghorn/train.pair -/
noncomputable def R78 (Q : Prim) (fu : Nat) (call : CallK) (a0 : CV) (a1 : CV) (h0 : HP) (c0 : Nat) (K : KV) : Bool :=
Q.cmpK (cmpF .eql) (binC Try.prog .eql 3 (.tmp 9) (.const (.int .i64 (.ofNat 0))) a0 (.int .i64 (.ofNat 0))) a0 (.int .i64 (.ofNat 0)) fun v1 =>
Q.condK v1 (
Q.ifB (Q.genM (makeC tys ⟨[], 0, h0, c0⟩ 113 (.int .i64 (.ofNat 1)) a1) fun v2 h3 c4 =>
Q.genM (makeC tys ⟨[], 0, h3, c4⟩ 113 (.int .i64 (.ofNat 1)) a1) fun v5 h6 c7 =>
Q.idxSK 1 v2 (.int .i64 (.ofNat 0)) fun v8 =>
Q.storeSK h6 v8 (.int .i8 (.ofNat 1)) fun h9 =>
Q.idxSK 1 v5 (.int .i64 (.ofNat 0)) fun v10 =>
Q.storeSK h9 v10 (.int .i8 (.ofNat 1)) fun h11 =>
K (.tup [v2, v5]) h11 c7) (Q.ifB (Q.genM (makeC tys ⟨[], 0, h0, c0⟩ 113 (.int .i64 (.ofNat 1)) a1) fun v12 h13 c14 =>
Q.genM (makeC tys ⟨[], 0, h13, c14⟩ 113 (.int .i64 (.ofNat 1)) a1) fun v15 h16 c17 =>
Q.idxSK 1 v15 (.int .i64 (.ofNat 0)) fun v18 =>
Q.storeSK h16 v18 (.int .i8 (.ofNat 1)) fun h19 =>
Q.idxSK 1 v12 (.int .i64 (.ofNat 0)) fun v20 =>
Q.storeSK h19 v20 (.int .i8 (.ofNat 1)) fun h21 =>
K (.tup [v15, v12]) h21 c17) (true) false) false) (
Q.subK (binC Try.prog .sub 3 (.tmp 22) (.const (.int .i64 (.ofNat 1))) a0 (.int .i64 (.ofNat 1))) a0 (.int .i64 (.ofNat 1)) fun v22 =>
call 78 [v22, a1] h0 c0 fun v23 h24 c25 =>
Q.onTup v23 false fun l26 => Q.nthOK 0 l26 fun v27 =>
Q.onTup v23 false fun l28 => Q.nthOK 1 l28 fun v29 =>
Q.lenF (lenC tys 113 v27) v27 fun v30 =>
Q.mulK (binC Try.prog .mul 3 (.const (.int .i64 (.ofNat 2))) (.tmp 31) (.int .i64 (.ofNat 2)) v30) (.int .i64 (.ofNat 2)) v30 fun v31 =>
Q.genK (sliceC tys 113 v27 none (some v31) (some a1)) fun v32 =>
Q.mulK (binC Try.prog .mul 3 (.const (.int .i64 (.ofNat 2))) (.tmp 36) (.int .i64 (.ofNat 2)) v30) (.int .i64 (.ofNat 2)) v30 fun v33 =>
Q.genK (sliceC tys 113 v29 none (some v33) (some a1)) fun v34 =>
Q.genK (sliceC tys 113 v32 (some v30) none none) fun v35 =>
Q.cpyK tys 113 h24 c25 v35 v34 fun v36 h37 c38 =>
Q.genK (sliceC tys 113 v32 none (some v30) none) fun v39 =>
Q.cpyK tys 113 h37 c38 v34 v39 fun v40 h41 c42 =>
Q.genK (sliceC tys 113 v32 (some v30) none none) fun v43 =>
Q.lenF (lenC tys 113 v43) v43 fun v44 =>
@Nat.rec (fun _ => Fun 1) (fun _ _ _ => false) (fun _ f48 v45 h46 c47 =>
Q.cmpK (cmpF .lss) (binC Try.prog .lss 3 (.tmp 54) (.tmp 53) v45 v44) v45 v44 fun v49 =>
Q.condK v49 (
Q.idxSK 1 v43 v45 fun v50 =>
Q.loadSK h46 v50 fun v51 =>
Q.addK (binC Try.prog .add 3 (.tmp 60) (.tmp 61) v30 v45) v30 v45 fun v52 =>
Q.negK (two Try.prog v51 (Op.unary .neg)) v51 fun v53 =>
Q.idxSK 1 v34 v52 fun v54 =>
Q.storeSK h46 v54 v53 fun h55 =>
Q.addK (binC Try.prog .add 3 (.tmp 54) (.const (.int .i64 (.ofNat 1))) v45 (.int .i64 (.ofNat 1))) v45 (.int .i64 (.ofNat 1)) fun v56 =>
f48 v56 h55 c47) (
K (.tup [v32, v34]) h46 c47)) fu (.int .i64 (.ofNat 0)) h41 c42)
theorem R78_eq (Q : Prim) (fu : Nat) (call : CallK) : curryA 2 (fnK Q Try.prog tys stl fu call e78) = R78 Q fu call := by kernel_rfl
noncomputable def n78 : List CV → HP → Nat → KV → Bool := recF 78 2 (R78 real 1000000) d0.fn 200
theorem n78_ok : ∀ args hp c K, n78 args hp c K = true → Out (fun N => enterK Try.prog tys tab (execC Try.prog tys stl tab N) 78 args hp c) (stl 78 = true) fun p => K p.1 p.2.1 p.2.2 = true := rec_ok d0_ok (by kernel_rfl) rfl g78 (fun call => R78_eq _ _ call) 200
/- (foghorn/train.Plan).signs -/
noncomputable def R79 (Q : Prim) (fu : Nat) (call : CallK) (a0 : CV) (h0 : HP) (c0 : Nat) (K : KV) : Bool :=
Q.genM (boxC ⟨[], 0, h0, c0⟩ a0) fun v1 h2 c3 =>
Q.fadK 0 v1 fun v4 =>
Q.loadSK h2 v4 fun v5 =>
Q.shlK (binC Try.prog .shl 3 (.const (.int .i64 (.ofNat 1))) (.tmp 4) (.int .i64 (.ofNat 1)) v5) (.int .i64 (.ofNat 1)) v5 fun v6 =>
Q.killVK v1 h2 fun h7 =>
K v6 h7 c3
theorem R79_eq (Q : Prim) (fu : Nat) (call : CallK) : curryA 1 (fnK Q Try.prog tys stl fu call e79) = R79 Q fu call := by kernel_rfl
noncomputable def n79 : List CV → HP → Nat → KV → Bool := appF 1 (R79 real 1000000 d0.fn)
theorem n79_ok : ∀ args hp c K, n79 args hp c K = true → Out (fun N => enterK Try.prog tys tab (execC Try.prog tys stl tab N) 79 args hp c) (stl 79 = true) fun p => K p.1 p.2.1 p.2.2 = true := node_ok d0_ok (by kernel_rfl) rfl g79 (R79_eq _ _ _)
noncomputable def n81 : List CV → HP → Nat → KV → Bool := extN Try.prog 81
theorem n81_ok : ∀ args hp c K, n81 args hp c K = true → Out (fun N => enterK Try.prog tys tab (execC Try.prog tys stl tab N) 81 args hp c) (stl 81 = true) fun p => K p.1 p.2.1 p.2.2 = true := ext_ok (e := e81) (by kernel_rfl) rfl
noncomputable def n82 : List CV → HP → Nat → KV → Bool := extN Try.prog 82
theorem n82_ok : ∀ args hp c K, n82 args hp c K = true → Out (fun N => enterK Try.prog tys tab (execC Try.prog tys stl tab N) 82 args hp c) (stl 82 = true) fun p => K p.1 p.2.1 p.2.2 = true := ext_ok (e := e82) (by kernel_rfl) rfl
/- foghorn/train.against -/
noncomputable def R85 (Q : Prim) (fu : Nat) (call : CallK) (a0 : CV) (a1 : CV) (a2 : CV) (a3 : CV) (h0 : HP) (c0 : Nat) (K : KV) : Bool :=
Q.share _ (fun v1 v2 h3 c4 =>
Q.genK (two2 Try.prog v1 v2 fun v u => Builtin.complex_ #[37, 37] 30 #[v, u]) fun v6 =>
K (.tup [v6, (.int .i64 (.ofNat 0))]) h3 c4) fun f5 =>
Q.lenF (lenC tys 113 a3) a3 fun v7 =>
@Nat.rec (fun _ => Fun 4) (fun _ _ _ _ _ _ => false) (fun _ f14 v8 v9 v10 v11 h12 c13 =>
Q.cmpK (cmpF .lss) (binC Try.prog .lss 3 (.tmp 16) (.tmp 15) v11 v7) v11 v7 fun v15 =>
Q.condK v15 (
Q.idxSK 1 a3 v11 fun v16 =>
Q.loadSK h12 v16 fun v17 =>
Q.lenF (lenC tys 26 a0) a0 fun v18 =>
Q.cmpK (cmpF .geq) (binC Try.prog .geq 3 (.tmp 20) (.tmp 22) v8 v18) v8 v18 fun v19 =>
Q.condK v19 (
f5 v9 v10 h12 c13) (
Q.idxSK 2 a0 v8 fun v20 =>
Q.fadK 1 v20 fun v21 =>
Q.loadSK h12 v21 fun v22 =>
Q.condK v22 (
K (.tup [(.cpx .f64 0 0), (.int .i64 (.ofNat 9))]) h12 c13) (
Q.genK (convC Try.prog tys ⟨[], 0, h12, 0⟩ 110 37 v17) fun v23 =>
Q.idxSK 2 a0 v8 fun v24 =>
Q.fadK 0 v24 fun v25 =>
Q.loadSK h12 v25 fun v26 =>
Q.genK (two Try.prog v26 fun v => Builtin.real_ #[30] 37 #[v]) fun v27 =>
Q.mulK (binC Try.prog .mul 37 (.tmp 31) (.tmp 37) v23 v27) v23 v27 fun v28 =>
Q.addK (binC Try.prog .add 37 (.tmp 29) (.tmp 38) v9 v28) v9 v28 fun v29 =>
Q.genK (convC Try.prog tys ⟨[], 0, h12, 0⟩ 110 37 v17) fun v30 =>
Q.idxSK 2 a0 v8 fun v31 =>
Q.fadK 0 v31 fun v32 =>
Q.loadSK h12 v32 fun v33 =>
Q.genK (two Try.prog v33 fun v => Builtin.imag_ #[30] 37 #[v]) fun v34 =>
Q.mulK (binC Try.prog .mul 37 (.tmp 42) (.tmp 48) v30 v34) v30 v34 fun v35 =>
Q.addK (binC Try.prog .add 37 (.tmp 40) (.tmp 49) v10 v35) v10 v35 fun v36 =>
Q.addK (binC Try.prog .add 3 (.tmp 51) (.tmp 52) v8 a2) v8 a2 fun v37 =>
Q.addK (binC Try.prog .add 3 (.tmp 16) (.const (.int .i64 (.ofNat 1))) v11 (.int .i64 (.ofNat 1))) v11 (.int .i64 (.ofNat 1)) fun v38 =>
f14 v37 v29 v36 v38 h12 c13))) (
f5 v9 v10 h12 c13)) fu a1 (.flt .f64 0) (.flt .f64 0) (.int .i64 (.ofNat 0)) h0 c0
theorem R85_eq (Q : Prim) (fu : Nat) (call : CallK) : curryA 4 (fnK Q Try.prog tys stl fu call e85) = R85 Q fu call := by kernel_rfl
noncomputable def n85 : List CV → HP → Nat → KV → Bool := appF 4 (R85 real 1000000 d0.fn)
theorem n85_ok : ∀ args hp c K, n85 args hp c K = true → Out (fun N => enterK Try.prog tys tab (execC Try.prog tys stl tab N) 85 args hp c) (stl 85 = true) fun p => K p.1 p.2.1 p.2.2 = true := node_ok d0_ok (by kernel_rfl) rfl g85 (R85_eq _ _ _)
noncomputable def n86 : List CV → HP → Nat → KV → Bool := extN Try.prog 86
theorem n86_ok : ∀ args hp c K, n86 args hp c K = true → Out (fun N => enterK Try.prog tys tab (execC Try.prog tys stl tab N) 86 args hp c) (stl 86 = true) fun p => K p.1 p.2.1 p.2.2 = true := ext_ok (e := e86) (by kernel_rfl) rfl
/- foghorn/plane.plus -/
noncomputable def R96 (Q : Prim) (fu : Nat) (call : CallK) (a0 : CV) (a1 : CV) (h0 : HP) (c0 : Nat) (K : KV) : Bool :=
Q.genK (two Try.prog a0 fun v => Builtin.real_ #[30] 37 #[v]) fun v1 =>
Q.genK (two Try.prog a1 fun v => Builtin.real_ #[30] 37 #[v]) fun v2 =>
Q.addK (binC Try.prog .add 37 (.tmp 6) (.tmp 8) v1 v2) v1 v2 fun v3 =>
Q.genK (two Try.prog a0 fun v => Builtin.imag_ #[30] 37 #[v]) fun v4 =>
Q.genK (two Try.prog a1 fun v => Builtin.imag_ #[30] 37 #[v]) fun v5 =>
Q.addK (binC Try.prog .add 37 (.tmp 11) (.tmp 13) v4 v5) v4 v5 fun v6 =>
Q.genK (two2 Try.prog v3 v6 fun v u => Builtin.complex_ #[37, 37] 30 #[v, u]) fun v7 =>
K v7 h0 c0
theorem R96_eq (Q : Prim) (fu : Nat) (call : CallK) : curryA 2 (fnK Q Try.prog tys stl fu call e96) = R96 Q fu call := by kernel_rfl
noncomputable def n96 : List CV → HP → Nat → KV → Bool := appF 2 (R96 real 1000000 d0.fn)
theorem n96_ok : ∀ args hp c K, n96 args hp c K = true → Out (fun N => enterK Try.prog tys tab (execC Try.prog tys stl tab N) 96 args hp c) (stl 96 = true) fun p => K p.1 p.2.1 p.2.2 = true := node_ok d0_ok (by kernel_rfl) rfl g96 (R96_eq _ _ _)
noncomputable def n104 : List CV → HP → Nat → KV → Bool := extN Try.prog 104
theorem n104_ok : ∀ args hp c K, n104 args hp c K = true → Out (fun N => enterK Try.prog tys tab (execC Try.prog tys stl tab N) 104 args hp c) (stl 104 = true) fun p => K p.1 p.2.1 p.2.2 = true := ext_ok (e := e104) (by kernel_rfl) rfl
noncomputable def d1 : Disp := (.node 79 n79 (.node 47 n47 (.node 22 n22 (.node 21 n21 .leaf .leaf) (.node 43 n43 .leaf .leaf)) (.node 55 n55 (.node 48 n48 .leaf .leaf) (.node 78 n78 .leaf .leaf))) (.node 86 n86 (.node 82 n82 (.node 81 n81 .leaf .leaf) (.node 85 n85 .leaf .leaf)) (.node 104 n104 (.node 96 n96 .leaf .leaf) .leaf)))
theorem d1_ok : CallSim Try.prog tys stl tab d1.fn := Disp.sim ⟨n79_ok, ⟨n47_ok, ⟨n22_ok, ⟨n21_ok, True.intro, True.intro⟩, ⟨n43_ok, True.intro, True.intro⟩⟩, ⟨n55_ok, ⟨n48_ok, True.intro, True.intro⟩, ⟨n78_ok, True.intro, True.intro⟩⟩⟩, ⟨n86_ok, ⟨n82_ok, ⟨n81_ok, True.intro, True.intro⟩, ⟨n85_ok, True.intro, True.intro⟩⟩, ⟨n104_ok, ⟨n96_ok, True.intro, True.intro⟩, True.intro⟩⟩⟩
/- foghorn/train.Pair -/
noncomputable def R56 (Q : Prim) (fu : Nat) (call : CallK) (a0 : CV) (h0 : HP) (c0 : Nat) (K : KV) : Bool :=
Q.cmpK (cmpF .lss) (binC Try.prog .lss 3 (.tmp 5) (.const (.int .i64 (.ofNat 0))) a0 (.int .i64 (.ofNat 0))) a0 (.int .i64 (.ofNat 0)) fun v1 =>
Q.share _ (fun v3 h4 c5 =>
Q.share _ (fun v7 h8 c9 =>
Q.pickK v1 (.bool true) v7 fun v10 =>
Q.condK v10 (
K (.tup [.nils, .nils, (.int .i64 (.ofNat 1))]) h8 c9) (
Q.shlK (binC Try.prog .shl 3 (.const (.int .i64 (.ofNat 1))) (.tmp 13) (.int .i64 (.ofNat 1)) a0) (.int .i64 (.ofNat 1)) a0 fun v11 =>
call 78 [a0, v11] h8 c9 fun v12 h13 c14 =>
Q.onTup v12 false fun l15 => Q.nthOK 0 l15 fun v16 =>
Q.onTup v12 false fun l17 => Q.nthOK 1 l17 fun v18 =>
K (.tup [v16, v18, (.int .i64 (.ofNat 0))]) h13 c14)) fun f6 =>
Q.guardK false v1 (Q.cmpK (cmpF .gtr) (binC Try.prog .gtr 3 (.tmp 8) (.const (.int .i64 (.ofNat 8))) v3 (.int .i64 (.ofNat 8))) v3 (.int .i64 (.ofNat 8)) fun v19 =>
f6 v19 h4 c5) (f6 (.tup []) h4 c5)) fun f2 =>
Q.guardK false v1 (f2 a0 h0 c0) (f2 (.tup []) h0 c0)
theorem R56_eq (Q : Prim) (fu : Nat) (call : CallK) : curryA 1 (fnK Q Try.prog tys stl fu call e56) = R56 Q fu call := by kernel_rfl
noncomputable def n56 : List CV → HP → Nat → KV → Bool := appF 1 (R56 real 1000000 d1.fn)
theorem n56_ok : ∀ args hp c K, n56 args hp c K = true → Out (fun N => enterK Try.prog tys tab (execC Try.prog tys stl tab N) 56 args hp c) (stl 56 = true) fun p => K p.1 p.2.1 p.2.2 = true := node_ok d1_ok (by kernel_rfl) rfl g56 (R56_eq _ _ _)
/- (foghorn/train.Plan).half -/
noncomputable def R57 (Q : Prim) (fu : Nat) (call : CallK) (a0 : CV) (h0 : HP) (c0 : Nat) (K : KV) : Bool :=
Q.genM (boxC ⟨[], 0, h0, c0⟩ a0) fun v1 h2 c3 =>
Q.genK (loadCC tys ⟨[], 0, h2, 0⟩ 46 v1) fun v4 =>
Q.fadK 1 v1 fun v5 =>
Q.detK v5 (
Q.fadK 2 v1 fun v6 =>
Q.detK v6 (
Q.ifB (call 79 [v4] h2 c3 fun v7 h8 c9 =>
Q.loadSK h8 v5 fun v10 =>
Q.mulK (binC Try.prog .mul 3 (.tmp 4) (.tmp 6) v7 v10) v7 v10 fun v11 =>
Q.loadSK h8 v6 fun v12 =>
Q.addK (binC Try.prog .add 3 (.tmp 7) (.tmp 9) v11 v12) v11 v12 fun v13 =>
Q.killVK v1 h8 fun h14 =>
K v13 h14 c9) (Q.ifB (Q.loadSK h2 v5 fun v15 =>
Q.ifB (call 79 [v4] h2 c3 fun v16 h17 c18 =>
Q.mulK (binC Try.prog .mul 3 (.tmp 4) (.tmp 6) v16 v15) v16 v15 fun v19 =>
Q.loadSK h17 v6 fun v20 =>
Q.addK (binC Try.prog .add 3 (.tmp 7) (.tmp 9) v19 v20) v19 v20 fun v21 =>
Q.killVK v1 h17 fun h22 =>
K v21 h22 c18) (Q.ifB (Q.loadSK h2 v6 fun v23 =>
call 79 [v4] h2 c3 fun v24 h25 c26 =>
Q.mulK (binC Try.prog .mul 3 (.tmp 4) (.tmp 6) v24 v15) v24 v15 fun v27 =>
Q.addK (binC Try.prog .add 3 (.tmp 7) (.tmp 9) v27 v23) v27 v23 fun v28 =>
Q.killVK v1 h25 fun h29 =>
K v28 h29 c26) (true) false) false) (Q.ifB (Q.loadSK h2 v6 fun v30 =>
Q.ifB (call 79 [v4] h2 c3 fun v31 h32 c33 =>
Q.loadSK h32 v5 fun v34 =>
Q.mulK (binC Try.prog .mul 3 (.tmp 4) (.tmp 6) v31 v34) v31 v34 fun v35 =>
Q.addK (binC Try.prog .add 3 (.tmp 7) (.tmp 9) v35 v30) v35 v30 fun v36 =>
Q.killVK v1 h32 fun h37 =>
K v36 h37 c33) (Q.ifB (Q.loadSK h2 v5 fun v38 =>
call 79 [v4] h2 c3 fun v39 h40 c41 =>
Q.mulK (binC Try.prog .mul 3 (.tmp 4) (.tmp 6) v39 v38) v39 v38 fun v42 =>
Q.addK (binC Try.prog .add 3 (.tmp 7) (.tmp 9) v42 v30) v42 v30 fun v43 =>
Q.killVK v1 h40 fun h44 =>
K v43 h44 c41) (true) false) false) (true) false) false) false))
theorem R57_eq (Q : Prim) (fu : Nat) (call : CallK) : curryA 1 (fnK Q Try.prog tys stl fu call e57) = R57 Q fu call := by kernel_rfl
noncomputable def n57 : List CV → HP → Nat → KV → Bool := appF 1 (R57 real 1000000 d1.fn)
theorem n57_ok : ∀ args hp c K, n57 args hp c K = true → Out (fun N => enterK Try.prog tys tab (execC Try.prog tys stl tab N) 57 args hp c) (stl 57 = true) fun p => K p.1 p.2.1 p.2.2 = true := node_ok d1_ok (by kernel_rfl) rfl g57 (R57_eq _ _ _)
/- math.Abs -/
noncomputable def R59 (Q : Prim) (fu : Nat) (call : CallK) (a0 : CV) (h0 : HP) (c0 : Nat) (K : KV) : Bool :=
call 82 [a0] h0 c0 fun v1 h2 c3 =>
Q.genK (binC Try.prog .andNot 127 (.tmp 4) (.const (.int .u64 (.ofNat 9223372036854775808))) v1 (.int .u64 (.ofNat 9223372036854775808))) fun v4 =>
call 81 [v4] h2 c3 fun v5 h6 c7 =>
K v5 h6 c7
theorem R59_eq (Q : Prim) (fu : Nat) (call : CallK) : curryA 1 (fnK Q Try.prog tys stl fu call e59) = R59 Q fu call := by kernel_rfl
noncomputable def n59 : List CV → HP → Nat → KV → Bool := appF 1 (R59 real 1000000 d1.fn)
theorem n59_ok : ∀ args hp c K, n59 args hp c K = true → Out (fun N => enterK Try.prog tys tab (execC Try.prog tys stl tab N) 59 args hp c) (stl 59 = true) fun p => K p.1 p.2.1 p.2.2 = true := node_ok d1_ok (by kernel_rfl) rfl g59 (R59_eq _ _ _)
/- math.Signbit -/
noncomputable def R77 (Q : Prim) (fu : Nat) (call : CallK) (a0 : CV) (h0 : HP) (c0 : Nat) (K : KV) : Bool :=
call 82 [a0] h0 c0 fun v1 h2 c3 =>
Q.icvF .i64 (convC Try.prog tys ⟨[], 0, h2, 0⟩ 127 2 v1) v1 fun v4 =>
Q.cmpK (cmpF .lss) (binC Try.prog .lss 2 (.tmp 5) (.const (.int .i64 (.ofNat 0))) v4 (.int .i64 (.ofNat 0))) v4 (.int .i64 (.ofNat 0)) fun v5 =>
K v5 h2 c3
theorem R77_eq (Q : Prim) (fu : Nat) (call : CallK) : curryA 1 (fnK Q Try.prog tys stl fu call e77) = R77 Q fu call := by kernel_rfl
noncomputable def n77 : List CV → HP → Nat → KV → Bool := appF 1 (R77 real 1000000 d1.fn)
theorem n77_ok : ∀ args hp c K, n77 args hp c K = true → Out (fun N => enterK Try.prog tys tab (execC Try.prog tys stl tab N) 77 args hp c) (stl 77 = true) fun p => K p.1 p.2.1 p.2.2 = true := node_ok d1_ok (by kernel_rfl) rfl g77 (R77_eq _ _ _)
/- foghorn/plane.Filter -/
noncomputable def R80 (Q : Prim) (fu : Nat) (call : CallK) (a0 : CV) (a1 : CV) (h0 : HP) (c0 : Nat) (K : KV) : Bool :=
Q.lenF (lenC tys 28 a0) a0 fun v1 =>
Q.cmpK (cmpF .lss) (binC Try.prog .lss 3 (.tmp 10) (.const (.int .i64 (.ofNat 1))) v1 (.int .i64 (.ofNat 1))) v1 (.int .i64 (.ofNat 1)) fun v2 =>
Q.share _ (fun v4 h5 c6 =>
Q.share _ (fun v8 h9 c10 =>
Q.share _ (fun v12 h13 c14 =>
Q.pickK v2 (.bool true) v12 fun v15 =>
Q.share _ (fun v17 h18 c19 =>
Q.share _ (fun v21 h22 c23 =>
Q.share _ (fun v25 h26 c27 =>
Q.pickK v15 (.bool true) v25 fun v28 =>
Q.condK v28 (
K (.tup [.nils, (.int .i64 (.ofNat 1))]) h26 c27) (
Q.lenF (lenC tys 28 a1) a1 fun v29 =>
Q.genM (makeC tys ⟨[], 0, h26, c27⟩ 28 v29 v29) fun v30 h31 c32 =>
Q.lenF (lenC tys 28 v30) v30 fun v33 =>
@Nat.rec (fun _ => Fun 1) (fun _ _ _ => false) (fun _ f37 v34 h35 c36 =>
Q.cmpK (cmpF .lss) (binC Try.prog .lss 3 (.tmp 27) (.tmp 26) v34 v33) v34 v33 fun v38 =>
Q.condK v38 (
Q.addK (binC Try.prog .add 3 (.tmp 30) (.const (.int .i64 (.ofNat 1))) v34 (.int .i64 (.ofNat 1))) v34 (.int .i64 (.ofNat 1)) fun v39 =>
Q.lenF (lenC tys 28 a0) a0 fun v40 =>
Q.genK (two2 Try.prog v39 v40 fun v u => Builtin.min_ #[3, 3] 3 #[v, u]) fun v41 =>
@Nat.rec (fun _ => Fun 1) (fun _ _ _ => false) (fun _ f45 v42 h43 c44 =>
Q.cmpK (cmpF .lss) (binC Try.prog .lss 3 (.tmp 35) (.tmp 34) v42 v41) v42 v41 fun v46 =>
Q.condK v46 (
Q.idxSK 1 v30 v34 fun v47 =>
Q.loadSK h43 v47 fun v48 =>
Q.idxSK 1 a0 v42 fun v49 =>
Q.loadSK h43 v49 fun v50 =>
Q.subK (binC Try.prog .sub 3 (.tmp 49) (.tmp 50) v34 v42) v34 v42 fun v51 =>
Q.idxSK 1 a1 v51 fun v52 =>
Q.loadSK h43 v52 fun v53 =>
call 47 [v50, v53] h43 c44 fun v54 _ _ => Q.knownK v54 (
call 96 [v48, v54] h43 c44 fun v55 _ _ => Q.knownK v55 (
Q.idxSK 1 v30 v34 fun v56 =>
Q.storeSK h43 v56 v55 fun h57 =>
Q.addK (binC Try.prog .add 3 (.tmp 35) (.const (.int .i64 (.ofNat 1))) v42 (.int .i64 (.ofNat 1))) v42 (.int .i64 (.ofNat 1)) fun v58 =>
f45 v58 h57 c44))) (
Q.addK (binC Try.prog .add 3 (.tmp 27) (.const (.int .i64 (.ofNat 1))) v34 (.int .i64 (.ofNat 1))) v34 (.int .i64 (.ofNat 1)) fun v59 =>
f37 v59 h43 c44)) fu (.int .i64 (.ofNat 0)) h35 c36) (
K (.tup [v30, (.int .i64 (.ofNat 0))]) h35 c36)) fu (.int .i64 (.ofNat 0)) h31 c32)) fun f24 =>
Q.guardK false v15 (Q.cmpK (cmpF .gtr) (binC Try.prog .gtr 3 (.tmp 19) (.const (.int .i64 (.ofNat 65536))) v21 (.int .i64 (.ofNat 65536))) v21 (.int .i64 (.ofNat 65536)) fun v60 =>
f24 v60 h22 c23) (f24 (.tup []) h22 c23)) fun f20 =>
Q.guardK false v15 (Q.lenF (lenC tys 28 v17) v17 fun v61 =>
f20 v61 h18 c19) (f20 (.tup []) h18 c19)) fun f16 =>
Q.guardK false v15 (f16 a1 h13 c14) (f16 (.tup []) h13 c14)) fun f11 =>
Q.guardK false v2 (Q.cmpK (cmpF .gtr) (binC Try.prog .gtr 3 (.tmp 14) (.const (.int .i64 (.ofNat 64))) v8 (.int .i64 (.ofNat 64))) v8 (.int .i64 (.ofNat 64)) fun v62 =>
f11 v62 h9 c10) (f11 (.tup []) h9 c10)) fun f7 =>
Q.guardK false v2 (Q.lenF (lenC tys 28 v4) v4 fun v63 =>
f7 v63 h5 c6) (f7 (.tup []) h5 c6)) fun f3 =>
Q.guardK false v2 (f3 a0 h0 c0) (f3 (.tup []) h0 c0)
theorem R80_eq (Q : Prim) (fu : Nat) (call : CallK) : curryA 2 (fnK Q Try.prog tys stl fu call e80) = R80 Q fu call := by kernel_rfl
noncomputable def n80 : List CV → HP → Nat → KV → Bool := appF 2 (R80 real 1000000 d1.fn)
theorem n80_ok : ∀ args hp c K, n80 args hp c K = true → Out (fun N => enterK Try.prog tys tab (execC Try.prog tys stl tab N) 80 args hp c) (stl 80 = true) fun p => K p.1 p.2.1 p.2.2 = true := node_ok d1_ok (by kernel_rfl) rfl g80 (R80_eq _ _ _)
/- math.Copysign -/
noncomputable def R107 (Q : Prim) (fu : Nat) (call : CallK) (a0 : CV) (a1 : CV) (h0 : HP) (c0 : Nat) (K : KV) : Bool :=
call 82 [a0] h0 c0 fun v1 h2 c3 =>
Q.genK (binC Try.prog .andNot 127 (.tmp 6) (.const (.int .u64 (.ofNat 9223372036854775808))) v1 (.int .u64 (.ofNat 9223372036854775808))) fun v4 =>
call 82 [a1] h2 c3 fun v5 h6 c7 =>
Q.bitK Nat.land (binC Try.prog .and 127 (.tmp 9) (.const (.int .u64 (.ofNat 9223372036854775808))) v5 (.int .u64 (.ofNat 9223372036854775808))) v5 (.int .u64 (.ofNat 9223372036854775808)) fun v8 =>
Q.bitK Nat.lor (binC Try.prog .or 127 (.tmp 7) (.tmp 10) v4 v8) v4 v8 fun v9 =>
call 81 [v9] h6 c7 fun v10 h11 c12 =>
K v10 h11 c12
theorem R107_eq (Q : Prim) (fu : Nat) (call : CallK) : curryA 2 (fnK Q Try.prog tys stl fu call e107) = R107 Q fu call := by kernel_rfl
noncomputable def n107 : List CV → HP → Nat → KV → Bool := appF 2 (R107 real 1000000 d1.fn)
theorem n107_ok : ∀ args hp c K, n107 args hp c K = true → Out (fun N => enterK Try.prog tys tab (execC Try.prog tys stl tab N) 107 args hp c) (stl 107 = true) fun p => K p.1 p.2.1 p.2.2 = true := node_ok d1_ok (by kernel_rfl) rfl g107 (R107_eq _ _ _)
noncomputable def d2 : Disp := (.node 78 n78 (.node 55 n55 (.node 43 n43 (.node 22 n22 (.node 21 n21 .leaf .leaf) .leaf) (.node 48 n48 (.node 47 n47 .leaf .leaf) .leaf)) (.node 59 n59 (.node 57 n57 (.node 56 n56 .leaf .leaf) .leaf) (.node 77 n77 .leaf .leaf))) (.node 85 n85 (.node 81 n81 (.node 80 n80 (.node 79 n79 .leaf .leaf) .leaf) (.node 82 n82 .leaf .leaf)) (.node 104 n104 (.node 96 n96 (.node 86 n86 .leaf .leaf) .leaf) (.node 107 n107 .leaf .leaf))))
theorem d2_ok : CallSim Try.prog tys stl tab d2.fn := Disp.sim ⟨n78_ok, ⟨n55_ok, ⟨n43_ok, ⟨n22_ok, ⟨n21_ok, True.intro, True.intro⟩, True.intro⟩, ⟨n48_ok, ⟨n47_ok, True.intro, True.intro⟩, True.intro⟩⟩, ⟨n59_ok, ⟨n57_ok, ⟨n56_ok, True.intro, True.intro⟩, True.intro⟩, ⟨n77_ok, True.intro, True.intro⟩⟩⟩, ⟨n85_ok, ⟨n81_ok, ⟨n80_ok, ⟨n79_ok, True.intro, True.intro⟩, True.intro⟩, ⟨n82_ok, True.intro, True.intro⟩⟩, ⟨n104_ok, ⟨n96_ok, ⟨n86_ok, True.intro, True.intro⟩, True.intro⟩, ⟨n107_ok, True.intro, True.intro⟩⟩⟩⟩
/- foghorn/foghornref03.part -/
noncomputable def R52 (Q : Prim) (fu : Nat) (call : CallK) (a0 : CV) (a1 : CV) (a2 : CV) (h0 : HP) (c0 : Nat) (K : KV) : Bool :=
Q.cmpK (cmpF .neq) (binC Try.prog .neq 37 (.tmp 7) (.tmp 8) a0 a0) a0 a0 fun v1 =>
Q.share _ (fun v3 h4 c5 =>
Q.share _ (fun v7 h8 c9 =>
Q.share _ (fun v11 h12 c13 =>
Q.pickK v1 (.bool true) v11 fun v14 =>
Q.condK v14 (
Q.cmpK (cmpF .neq) (binC Try.prog .neq 37 (.tmp 15) (.tmp 16) a0 a0) a0 a0 fun v15 =>
Q.share _ (fun v17 h18 c19 =>
Q.share _ (fun v21 h22 c23 =>
Q.share _ (fun v25 h26 c27 =>
Q.pickK v15 v25 (.bool false) fun v28 =>
K v28 h26 c27) fun f24 =>
Q.guardK true v15 (Q.cmpK (cmpF .neq) (binC Try.prog .neq 37 (.tmp 19) (.tmp 20) v17 v21) v17 v21 fun v29 =>
f24 v29 h22 c23) (f24 (.tup []) h22 c23)) fun f20 =>
Q.guardK true v15 (f20 a1 h18 c19) (f20 (.tup []) h18 c19)) fun f16 =>
Q.guardK true v15 (f16 a1 h12 c13) (f16 (.tup []) h12 c13)) (
Q.cmpK (cmpF .eql) (binC Try.prog .eql 37 (.tmp 23) (.tmp 24) a0 a1) a0 a1 fun v30 =>
Q.share _ (fun v32 h33 c34 =>
Q.share _ (fun v36 h37 c38 =>
Q.share _ (fun v40 h41 c42 =>
Q.share _ (fun v44 h45 c46 =>
Q.share _ (fun v48 h49 c50 =>
Q.share _ (fun v52 h53 c54 =>
Q.share _ (fun v56 h57 c58 =>
Q.share _ (fun v60 h61 c62 =>
Q.share _ (fun v64 h65 c66 =>
Q.pickK v30 v64 (.bool false) fun v67 =>
K v67 h65 c66) fun f63 =>
Q.guardK true v30 (Q.pickK v40 (.bool true) v60 fun v68 =>
f63 v68 h61 c62) (f63 (.tup []) h61 c62)) fun f59 =>
Q.guardK false v40 (Q.cmpK (cmpF .eql) (binC Try.prog .eql 4 (.tmp 31) (.tmp 33) v48 v56) v48 v56 fun v69 =>
f59 v69 h57 c58) (f59 (.tup []) h57 c58)) fun f55 =>
Q.guardK false v40 (call 77 [v52] h53 c54 fun v70 h71 c72 =>
f55 v70 h71 c72) (f55 (.tup []) h53 c54)) fun f51 =>
Q.guardK false v40 (f51 a1 h49 c50) (f51 (.tup []) h49 c50)) fun f47 =>
Q.guardK false v40 (call 77 [v44] h45 c46 fun v73 h74 c75 =>
f47 v73 h74 c75) (f47 (.tup []) h45 c46)) fun f43 =>
Q.guardK false v40 (f43 a0 h41 c42) (f43 (.tup []) h41 c42)) fun f39 =>
Q.guardK true v30 (f39 v36 h37 c38) (f39 (.tup []) h37 c38)) fun f35 =>
Q.guardK true v30 (Q.notK (two Try.prog v32 (Op.unary .not)) v32 fun v76 =>
f35 v76 h33 c34) (f35 (.tup []) h33 c34)) fun f31 =>
Q.guardK true v30 (f31 a2 h12 c13) (f31 (.tup []) h12 c13))) fun f10 =>
Q.guardK false v1 (Q.cmpK (cmpF .neq) (binC Try.prog .neq 37 (.tmp 11) (.tmp 12) v3 v7) v3 v7 fun v77 =>
f10 v77 h8 c9) (f10 (.tup []) h8 c9)) fun f6 =>
Q.guardK false v1 (f6 a1 h4 c5) (f6 (.tup []) h4 c5)) fun f2 =>
Q.guardK false v1 (f2 a1 h0 c0) (f2 (.tup []) h0 c0)
theorem R52_eq (Q : Prim) (fu : Nat) (call : CallK) : curryA 3 (fnK Q Try.prog tys stl fu call e52) = R52 Q fu call := by kernel_rfl
noncomputable def n52 : List CV → HP → Nat → KV → Bool := appF 3 (R52 real 1000000 d2.fn)
theorem n52_ok : ∀ args hp c K, n52 args hp c K = true → Out (fun N => enterK Try.prog tys tab (execC Try.prog tys stl tab N) 52 args hp c) (stl 52 = true) fun p => K p.1 p.2.1 p.2.2 = true := node_ok d2_ok (by kernel_rfl) rfl g52 (R52_eq _ _ _)
/- foghorn/near.back -/
noncomputable def R58 (Q : Prim) (fu : Nat) (call : CallK) (a0 : CV) (a1 : CV) (a2 : CV) (h0 : HP) (c0 : Nat) (K : KV) : Bool :=
Q.genM (makeC tys ⟨[], 0, h0, c0⟩ 28 a2 a2) fun v1 h2 c3 =>
Q.lenF (lenC tys 28 a1) a1 fun v4 =>
Q.cmpK (cmpF .eql) (binC Try.prog .eql 3 (.tmp 12) (.const (.int .i64 (.ofNat 0))) v4 (.int .i64 (.ofNat 0))) v4 (.int .i64 (.ofNat 0)) fun v5 =>
Q.condK v5 (
K (.tup [v1, (.int .i64 (.ofNat 0))]) h2 c3) (
Q.cpyK tys 28 h2 c3 v1 a0 fun v6 h7 c8 =>
call 80 [a1, v1] h7 c8 fun v9 h10 c11 =>
Q.onTup v9 false fun l12 => Q.nthOK 0 l12 fun v13 =>
Q.onTup v9 false fun l14 => Q.nthOK 1 l14 fun v15 =>
K (.tup [v13, v15]) h10 c11)
theorem R58_eq (Q : Prim) (fu : Nat) (call : CallK) : curryA 3 (fnK Q Try.prog tys stl fu call e58) = R58 Q fu call := by kernel_rfl
noncomputable def n58 : List CV → HP → Nat → KV → Bool := appF 3 (R58 real 1000000 d2.fn)
theorem n58_ok : ∀ args hp c K, n58 args hp c K = true → Out (fun N => enterK Try.prog tys tab (execC Try.prog tys stl tab N) 58 args hp c) (stl 58 = true) fun p => K p.1 p.2.1 p.2.2 = true := node_ok d2_ok (by kernel_rfl) rfl g58 (R58_eq _ _ _)
/- foghorn/train.Step -/
noncomputable def R65 (Q : Prim) (fu : Nat) (call : CallK) (a0 : CV) (h0 : HP) (c0 : Nat) (K : KV) : Bool :=
call 59 [a0] h0 c0 fun v1 h2 c3 =>
Q.cmpK (cmpF .leq) (binC Try.prog .leq 37 (.tmp 5) (.const (.float .f64 4697254411347427328)) v1 (.flt .f64 4697254411347427328)) v1 (.flt .f64 4697254411347427328) fun v4 =>
Q.notK (two Try.prog v4 (Op.unary .not)) v4 fun v5 =>
Q.condK v5 (
K (.tup [(.flt .f64 0), (.int .i64 (.ofNat 1))]) h2 c3) (
Q.mulK (binC Try.prog .mul 37 (.tmp 8) (.const (.float .f64 4634204016564240384)) a0 (.flt .f64 4634204016564240384)) a0 (.flt .f64 4634204016564240384) fun v6 =>
call 86 [v6] h2 c3 fun v7 h8 c9 =>
Q.quoK (binC Try.prog .quo 37 (.tmp 10) (.const (.float .f64 4634204016564240384)) v7 (.flt .f64 4634204016564240384)) v7 (.flt .f64 4634204016564240384) fun v10 =>
K (.tup [v10, (.int .i64 (.ofNat 0))]) h8 c9)
theorem R65_eq (Q : Prim) (fu : Nat) (call : CallK) : curryA 1 (fnK Q Try.prog tys stl fu call e65) = R65 Q fu call := by kernel_rfl
noncomputable def n65 : List CV → HP → Nat → KV → Bool := appF 1 (R65 real 1000000 d2.fn)
theorem n65_ok : ∀ args hp c K, n65 args hp c K = true → Out (fun N => enterK Try.prog tys tab (execC Try.prog tys stl tab N) 65 args hp c) (stl 65 = true) fun p => K p.1 p.2.1 p.2.2 = true := node_ok d2_ok (by kernel_rfl) rfl g65 (R65_eq _ _ _)
/- math.trunc -/
noncomputable def R105 (Q : Prim) (fu : Nat) (call : CallK) (a0 : CV) (h0 : HP) (c0 : Nat) (K : KV) : Bool :=
call 59 [a0] h0 c0 fun v1 h2 c3 =>
Q.cmpK (cmpF .lss) (binC Try.prog .lss 37 (.tmp 6) (.const (.float .f64 4607182418800017408)) v1 (.flt .f64 4607182418800017408)) v1 (.flt .f64 4607182418800017408) fun v4 =>
Q.condK v4 (
call 107 [(.flt .f64 0), a0] h2 c3 fun v5 h6 c7 =>
K v5 h6 c7) (
call 82 [a0] h2 c3 fun v8 h9 c10 =>
Q.shrK (binC Try.prog .shr 127 (.tmp 12) (.const (.int .u64 (.ofNat 52))) v8 (.int .u64 (.ofNat 52))) v8 (.int .u64 (.ofNat 52)) fun v11 =>
Q.bitK Nat.land (binC Try.prog .and 141 (.tmp 13) (.const (.int .u64 (.ofNat 2047))) v11 (.int .u64 (.ofNat 2047))) v11 (.int .u64 (.ofNat 2047)) fun v12 =>
Q.subK (binC Try.prog .sub 141 (.tmp 14) (.const (.int .u64 (.ofNat 1023))) v12 (.int .u64 (.ofNat 1023))) v12 (.int .u64 (.ofNat 1023)) fun v13 =>
Q.share _ (fun v14 h15 c16 =>
call 81 [v14] h15 c16 fun v18 h19 c20 =>
K v18 h19 c20) fun f17 =>
Q.cmpK (cmpF .lss) (binC Try.prog .lss 141 (.tmp 16) (.const (.int .u64 (.ofNat 52))) v13 (.int .u64 (.ofNat 52))) v13 (.int .u64 (.ofNat 52)) fun v21 =>
Q.condK v21 (
Q.subK (binC Try.prog .sub 141 (.const (.int .u64 (.ofNat 52))) (.tmp 19) (.int .u64 (.ofNat 52)) v13) (.int .u64 (.ofNat 52)) v13 fun v22 =>
Q.shlK (binC Try.prog .shl 127 (.const (.int .u64 (.ofNat 1))) (.tmp 20) (.int .u64 (.ofNat 1)) v22) (.int .u64 (.ofNat 1)) v22 fun v23 =>
Q.subK (binC Try.prog .sub 127 (.tmp 21) (.const (.int .u64 (.ofNat 1))) v23 (.int .u64 (.ofNat 1))) v23 (.int .u64 (.ofNat 1)) fun v24 =>
Q.genK (binC Try.prog .andNot 127 (.tmp 18) (.tmp 22) v8 v24) fun v25 =>
f17 v25 h9 c10) (
f17 v8 h9 c10))
theorem R105_eq (Q : Prim) (fu : Nat) (call : CallK) : curryA 1 (fnK Q Try.prog tys stl fu call e105) = R105 Q fu call := by kernel_rfl
noncomputable def n105 : List CV → HP → Nat → KV → Bool := appF 1 (R105 real 1000000 d2.fn)
theorem n105_ok : ∀ args hp c K, n105 args hp c K = true → Out (fun N => enterK Try.prog tys tab (execC Try.prog tys stl tab N) 105 args hp c) (stl 105 = true) fun p => K p.1 p.2.1 p.2.2 = true := node_ok d2_ok (by kernel_rfl) rfl g105 (R105_eq _ _ _)
noncomputable def d3 : Disp := (.node 77 n77 (.node 55 n55 (.node 47 n47 (.node 22 n22 (.node 21 n21 .leaf .leaf) (.node 43 n43 .leaf .leaf)) (.node 52 n52 (.node 48 n48 .leaf .leaf) .leaf)) (.node 58 n58 (.node 57 n57 (.node 56 n56 .leaf .leaf) .leaf) (.node 65 n65 (.node 59 n59 .leaf .leaf) .leaf))) (.node 85 n85 (.node 80 n80 (.node 79 n79 (.node 78 n78 .leaf .leaf) .leaf) (.node 82 n82 (.node 81 n81 .leaf .leaf) .leaf)) (.node 104 n104 (.node 96 n96 (.node 86 n86 .leaf .leaf) .leaf) (.node 107 n107 (.node 105 n105 .leaf .leaf) .leaf))))
theorem d3_ok : CallSim Try.prog tys stl tab d3.fn := Disp.sim ⟨n77_ok, ⟨n55_ok, ⟨n47_ok, ⟨n22_ok, ⟨n21_ok, True.intro, True.intro⟩, ⟨n43_ok, True.intro, True.intro⟩⟩, ⟨n52_ok, ⟨n48_ok, True.intro, True.intro⟩, True.intro⟩⟩, ⟨n58_ok, ⟨n57_ok, ⟨n56_ok, True.intro, True.intro⟩, True.intro⟩, ⟨n65_ok, ⟨n59_ok, True.intro, True.intro⟩, True.intro⟩⟩⟩, ⟨n85_ok, ⟨n80_ok, ⟨n79_ok, ⟨n78_ok, True.intro, True.intro⟩, True.intro⟩, ⟨n82_ok, ⟨n81_ok, True.intro, True.intro⟩, True.intro⟩⟩, ⟨n104_ok, ⟨n96_ok, ⟨n86_ok, True.intro, True.intro⟩, True.intro⟩, ⟨n107_ok, ⟨n105_ok, True.intro, True.intro⟩, True.intro⟩⟩⟩⟩
/- foghorn/foghornref03.Same -/
noncomputable def R25 (Q : Prim) (fu : Nat) (call : CallK) (a0 : CV) (a1 : CV) (a2 : CV) (h0 : HP) (c0 : Nat) (K : KV) : Bool :=
Q.genK (two Try.prog a0 fun v => Builtin.real_ #[30] 37 #[v]) fun v1 =>
Q.genK (two Try.prog a1 fun v => Builtin.real_ #[30] 37 #[v]) fun v2 =>
call 52 [v1, v2, a2] h0 c0 fun v3 h4 c5 =>
Q.share _ (fun v7 h8 c9 =>
Q.share _ (fun v11 h12 c13 =>
Q.share _ (fun v15 h16 c17 =>
Q.share _ (fun v19 h20 c21 =>
Q.share _ (fun v23 h24 c25 =>
Q.share _ (fun v27 h28 c29 =>
Q.pickK v3 v27 (.bool false) fun v30 =>
K v30 h28 c29) fun f26 =>
Q.guardK true v3 (call 52 [v11, v19, v23] h24 c25 fun v31 h32 c33 =>
f26 v31 h32 c33) (f26 (.tup []) h24 c25)) fun f22 =>
Q.guardK true v3 (f22 a2 h20 c21) (f22 (.tup []) h20 c21)) fun f18 =>
Q.guardK true v3 (Q.genK (two Try.prog v15 fun v => Builtin.imag_ #[30] 37 #[v]) fun v34 =>
f18 v34 h16 c17) (f18 (.tup []) h16 c17)) fun f14 =>
Q.guardK true v3 (f14 a1 h12 c13) (f14 (.tup []) h12 c13)) fun f10 =>
Q.guardK true v3 (Q.genK (two Try.prog v7 fun v => Builtin.imag_ #[30] 37 #[v]) fun v35 =>
f10 v35 h8 c9) (f10 (.tup []) h8 c9)) fun f6 =>
Q.guardK true v3 (f6 a0 h4 c5) (f6 (.tup []) h4 c5)
theorem R25_eq (Q : Prim) (fu : Nat) (call : CallK) : curryA 3 (fnK Q Try.prog tys stl fu call e25) = R25 Q fu call := by kernel_rfl
noncomputable def n25 : List CV → HP → Nat → KV → Bool := appF 3 (R25 real 1000000 d3.fn)
theorem n25_ok : ∀ args hp c K, n25 args hp c K = true → Out (fun N => enterK Try.prog tys tab (execC Try.prog tys stl tab N) 25 args hp c) (stl 25 = true) fun p => K p.1 p.2.1 p.2.2 = true := node_ok d3_ok (by kernel_rfl) rfl g25 (R25_eq _ _ _)
/- math.Trunc -/
noncomputable def R95 (Q : Prim) (fu : Nat) (call : CallK) (a0 : CV) (h0 : HP) (c0 : Nat) (K : KV) : Bool :=
Q.condK (.bool true) (
call 104 [a0] h0 c0 fun v1 h2 c3 =>
K v1 h2 c3) (
call 105 [a0] h0 c0 fun v4 h5 c6 =>
K v4 h5 c6)
theorem R95_eq (Q : Prim) (fu : Nat) (call : CallK) : curryA 1 (fnK Q Try.prog tys stl fu call e95) = R95 Q fu call := by kernel_rfl
noncomputable def n95 : List CV → HP → Nat → KV → Bool := appF 1 (R95 real 1000000 d3.fn)
theorem n95_ok : ∀ args hp c K, n95 args hp c K = true → Out (fun N => enterK Try.prog tys tab (execC Try.prog tys stl tab N) 95 args hp c) (stl 95 = true) fun p => K p.1 p.2.1 p.2.2 = true := node_ok d3_ok (by kernel_rfl) rfl g95 (R95_eq _ _ _)
noncomputable def d4 : Disp := (.node 77 n77 (.node 52 n52 (.node 43 n43 (.node 22 n22 (.node 21 n21 .leaf .leaf) (.node 25 n25 .leaf .leaf)) (.node 48 n48 (.node 47 n47 .leaf .leaf) .leaf)) (.node 58 n58 (.node 56 n56 (.node 55 n55 .leaf .leaf) (.node 57 n57 .leaf .leaf)) (.node 65 n65 (.node 59 n59 .leaf .leaf) .leaf))) (.node 86 n86 (.node 81 n81 (.node 79 n79 (.node 78 n78 .leaf .leaf) (.node 80 n80 .leaf .leaf)) (.node 85 n85 (.node 82 n82 .leaf .leaf) .leaf)) (.node 104 n104 (.node 96 n96 (.node 95 n95 .leaf .leaf) .leaf) (.node 107 n107 (.node 105 n105 .leaf .leaf) .leaf))))
theorem d4_ok : CallSim Try.prog tys stl tab d4.fn := Disp.sim ⟨n77_ok, ⟨n52_ok, ⟨n43_ok, ⟨n22_ok, ⟨n21_ok, True.intro, True.intro⟩, ⟨n25_ok, True.intro, True.intro⟩⟩, ⟨n48_ok, ⟨n47_ok, True.intro, True.intro⟩, True.intro⟩⟩, ⟨n58_ok, ⟨n56_ok, ⟨n55_ok, True.intro, True.intro⟩, ⟨n57_ok, True.intro, True.intro⟩⟩, ⟨n65_ok, ⟨n59_ok, True.intro, True.intro⟩, True.intro⟩⟩⟩, ⟨n86_ok, ⟨n81_ok, ⟨n79_ok, ⟨n78_ok, True.intro, True.intro⟩, ⟨n80_ok, True.intro, True.intro⟩⟩, ⟨n85_ok, ⟨n82_ok, True.intro, True.intro⟩, True.intro⟩⟩, ⟨n104_ok, ⟨n96_ok, ⟨n95_ok, True.intro, True.intro⟩, True.intro⟩, ⟨n107_ok, ⟨n105_ok, True.intro, True.intro⟩, True.intro⟩⟩⟩⟩
/- foghorn/foghornref03.SameRow -/
noncomputable def R18 (Q : Prim) (fu : Nat) (call : CallK) (a0 : CV) (a1 : CV) (h0 : HP) (c0 : Nat) (K : KV) : Bool :=
Q.lenF (lenC tys 28 a0) a0 fun v1 =>
Q.lenF (lenC tys 28 a1) a1 fun v2 =>
Q.cmpK (cmpF .neq) (binC Try.prog .neq 3 (.tmp 7) (.tmp 9) v1 v2) v1 v2 fun v3 =>
Q.condK v3 (
K (.bool false) h0 c0) (
@Nat.rec (fun _ => Fun 1) (fun _ _ _ => false) (fun _ f7 v4 h5 c6 =>
Q.lenF (lenC tys 28 a0) a0 fun v8 =>
Q.cmpK (cmpF .lss) (binC Try.prog .lss 3 (.tmp 11) (.tmp 13) v4 v8) v4 v8 fun v9 =>
Q.condK v9 (
Q.idxSK 1 a0 v4 fun v10 =>
Q.loadSK h5 v10 fun v11 =>
Q.idxSK 1 a1 v4 fun v12 =>
Q.loadSK h5 v12 fun v13 =>
call 25 [v11, v13, (.bool false)] h5 c6 fun v14 h15 c16 =>
Q.notK (two Try.prog v14 (Op.unary .not)) v14 fun v17 =>
Q.condK v17 (
K (.bool false) h15 c16) (
Q.addK (binC Try.prog .add 3 (.tmp 15) (.const (.int .i64 (.ofNat 1))) v4 (.int .i64 (.ofNat 1))) v4 (.int .i64 (.ofNat 1)) fun v18 =>
f7 v18 h15 c16)) (
K (.bool true) h5 c6)) fu (.int .i64 (.ofNat 0)) h0 c0)
theorem R18_eq (Q : Prim) (fu : Nat) (call : CallK) : curryA 2 (fnK Q Try.prog tys stl fu call e18) = R18 Q fu call := by kernel_rfl
noncomputable def n18 : List CV → HP → Nat → KV → Bool := appF 2 (R18 real 1000000 d4.fn)
theorem n18_ok : ∀ args hp c K, n18 args hp c K = true → Out (fun N => enterK Try.prog tys tab (execC Try.prog tys stl tab N) 18 args hp c) (stl 18 = true) fun p => K p.1 p.2.1 p.2.2 = true := node_ok d4_ok (by kernel_rfl) rfl g18 (R18_eq _ _ _)
/- foghorn/bounds.Fine -/
noncomputable def R71 (Q : Prim) (fu : Nat) (call : CallK) (a0 : CV) (a1 : CV) (h0 : HP) (c0 : Nat) (K : KV) : Bool :=
call 59 [a0] h0 c0 fun v1 h2 c3 =>
Q.cmpK (cmpF .leq) (binC Try.prog .leq 37 (.tmp 6) (.tmp 7) v1 a1) v1 a1 fun v4 =>
Q.share _ (fun v6 h7 c8 =>
Q.share _ (fun v10 h11 c12 =>
Q.share _ (fun v14 h15 c16 =>
Q.share _ (fun v18 h19 c20 =>
Q.share _ (fun v22 h23 c24 =>
Q.share _ (fun v26 h27 c28 =>
Q.pickK v4 v26 (.bool false) fun v29 =>
K v29 h27 c28) fun f25 =>
Q.guardK true v4 (Q.cmpK (cmpF .eql) (binC Try.prog .eql 37 (.tmp 11) (.tmp 14) v10 v22) v10 v22 fun v30 =>
f25 v30 h23 c24) (f25 (.tup []) h23 c24)) fun f21 =>
Q.guardK true v4 (call 95 [v18] h19 c20 fun v31 h32 c33 =>
f21 v31 h32 c33) (f21 (.tup []) h19 c20)) fun f17 =>
Q.guardK true v4 (Q.mulK (binC Try.prog .mul 37 (.tmp 12) (.const (.float .f64 4634204016564240384)) v14 (.flt .f64 4634204016564240384)) v14 (.flt .f64 4634204016564240384) fun v34 =>
f17 v34 h15 c16) (f17 (.tup []) h15 c16)) fun f13 =>
Q.guardK true v4 (f13 a0 h11 c12) (f13 (.tup []) h11 c12)) fun f9 =>
Q.guardK true v4 (Q.mulK (binC Try.prog .mul 37 (.tmp 10) (.const (.float .f64 4634204016564240384)) v6 (.flt .f64 4634204016564240384)) v6 (.flt .f64 4634204016564240384) fun v35 =>
f9 v35 h7 c8) (f9 (.tup []) h7 c8)) fun f5 =>
Q.guardK true v4 (f5 a0 h2 c3) (f5 (.tup []) h2 c3)
theorem R71_eq (Q : Prim) (fu : Nat) (call : CallK) : curryA 2 (fnK Q Try.prog tys stl fu call e71) = R71 Q fu call := by kernel_rfl
noncomputable def n71 : List CV → HP → Nat → KV → Bool := appF 2 (R71 real 1000000 d4.fn)
theorem n71_ok : ∀ args hp c K, n71 args hp c K = true → Out (fun N => enterK Try.prog tys tab (execC Try.prog tys stl tab N) 71 args hp c) (stl 71 = true) fun p => K p.1 p.2.1 p.2.2 = true := node_ok d4_ok (by kernel_rfl) rfl g71 (R71_eq _ _ _)
/- foghorn/grid.On -/
noncomputable def R74 (Q : Prim) (fu : Nat) (call : CallK) (a0 : CV) (h0 : HP) (c0 : Nat) (K : KV) : Bool :=
call 59 [a0] h0 c0 fun v1 h2 c3 =>
Q.cmpK (cmpF .leq) (binC Try.prog .leq 37 (.tmp 4) (.const (.float .f64 4652218415073722368)) v1 (.flt .f64 4652218415073722368)) v1 (.flt .f64 4652218415073722368) fun v4 =>
Q.share _ (fun v6 h7 c8 =>
Q.share _ (fun v10 h11 c12 =>
Q.share _ (fun v14 h15 c16 =>
Q.share _ (fun v18 h19 c20 =>
Q.share _ (fun v22 h23 c24 =>
Q.share _ (fun v26 h27 c28 =>
Q.pickK v4 v26 (.bool false) fun v29 =>
K v29 h27 c28) fun f25 =>
Q.guardK true v4 (Q.cmpK (cmpF .eql) (binC Try.prog .eql 37 (.tmp 8) (.tmp 11) v10 v22) v10 v22 fun v30 =>
f25 v30 h23 c24) (f25 (.tup []) h23 c24)) fun f21 =>
Q.guardK true v4 (call 95 [v18] h19 c20 fun v31 h32 c33 =>
f21 v31 h32 c33) (f21 (.tup []) h19 c20)) fun f17 =>
Q.guardK true v4 (Q.mulK (binC Try.prog .mul 37 (.tmp 9) (.const (.float .f64 4661225614328463360)) v14 (.flt .f64 4661225614328463360)) v14 (.flt .f64 4661225614328463360) fun v34 =>
f17 v34 h15 c16) (f17 (.tup []) h15 c16)) fun f13 =>
Q.guardK true v4 (f13 a0 h11 c12) (f13 (.tup []) h11 c12)) fun f9 =>
Q.guardK true v4 (Q.mulK (binC Try.prog .mul 37 (.tmp 7) (.const (.float .f64 4661225614328463360)) v6 (.flt .f64 4661225614328463360)) v6 (.flt .f64 4661225614328463360) fun v35 =>
f9 v35 h7 c8) (f9 (.tup []) h7 c8)) fun f5 =>
Q.guardK true v4 (f5 a0 h2 c3) (f5 (.tup []) h2 c3)
theorem R74_eq (Q : Prim) (fu : Nat) (call : CallK) : curryA 1 (fnK Q Try.prog tys stl fu call e74) = R74 Q fu call := by kernel_rfl
noncomputable def n74 : List CV → HP → Nat → KV → Bool := appF 1 (R74 real 1000000 d4.fn)
theorem n74_ok : ∀ args hp c K, n74 args hp c K = true → Out (fun N => enterK Try.prog tys tab (execC Try.prog tys stl tab N) 74 args hp c) (stl 74 = true) fun p => K p.1 p.2.1 p.2.2 = true := node_ok d4_ok (by kernel_rfl) rfl g74 (R74_eq _ _ _)
noncomputable def d5 : Disp := (.node 71 n71 (.node 52 n52 (.node 25 n25 (.node 21 n21 (.node 18 n18 .leaf .leaf) (.node 22 n22 .leaf .leaf)) (.node 47 n47 (.node 43 n43 .leaf .leaf) (.node 48 n48 .leaf .leaf))) (.node 58 n58 (.node 56 n56 (.node 55 n55 .leaf .leaf) (.node 57 n57 .leaf .leaf)) (.node 65 n65 (.node 59 n59 .leaf .leaf) .leaf))) (.node 85 n85 (.node 79 n79 (.node 77 n77 (.node 74 n74 .leaf .leaf) (.node 78 n78 .leaf .leaf)) (.node 81 n81 (.node 80 n80 .leaf .leaf) (.node 82 n82 .leaf .leaf))) (.node 104 n104 (.node 95 n95 (.node 86 n86 .leaf .leaf) (.node 96 n96 .leaf .leaf)) (.node 107 n107 (.node 105 n105 .leaf .leaf) .leaf))))
theorem d5_ok : CallSim Try.prog tys stl tab d5.fn := Disp.sim ⟨n71_ok, ⟨n52_ok, ⟨n25_ok, ⟨n21_ok, ⟨n18_ok, True.intro, True.intro⟩, ⟨n22_ok, True.intro, True.intro⟩⟩, ⟨n47_ok, ⟨n43_ok, True.intro, True.intro⟩, ⟨n48_ok, True.intro, True.intro⟩⟩⟩, ⟨n58_ok, ⟨n56_ok, ⟨n55_ok, True.intro, True.intro⟩, ⟨n57_ok, True.intro, True.intro⟩⟩, ⟨n65_ok, ⟨n59_ok, True.intro, True.intro⟩, True.intro⟩⟩⟩, ⟨n85_ok, ⟨n79_ok, ⟨n77_ok, ⟨n74_ok, True.intro, True.intro⟩, ⟨n78_ok, True.intro, True.intro⟩⟩, ⟨n81_ok, ⟨n80_ok, True.intro, True.intro⟩, ⟨n82_ok, True.intro, True.intro⟩⟩⟩, ⟨n104_ok, ⟨n95_ok, ⟨n86_ok, True.intro, True.intro⟩, ⟨n96_ok, True.intro, True.intro⟩⟩, ⟨n107_ok, ⟨n105_ok, True.intro, True.intro⟩, True.intro⟩⟩⟩⟩
/- foghorn/bounds.Plain -/
noncomputable def R45 (Q : Prim) (fu : Nat) (call : CallK) (a0 : CV) (h0 : HP) (c0 : Nat) (K : KV) : Bool :=
Q.lenF (lenC tys 28 a0) a0 fun v1 =>
@Nat.rec (fun _ => Fun 1) (fun _ _ _ => false) (fun _ f5 v2 h3 c4 =>
Q.cmpK (cmpF .lss) (binC Try.prog .lss 3 (.tmp 7) (.tmp 6) v2 v1) v2 v1 fun v6 =>
Q.condK v6 (
Q.idxSK 1 a0 v2 fun v7 =>
Q.loadSK h3 v7 fun v8 =>
Q.genK (two Try.prog v8 fun v => Builtin.real_ #[30] 37 #[v]) fun v9 =>
call 71 [v9, (.flt .f64 4638707616191610880)] h3 c4 fun v10 h11 c12 =>
Q.notK (two Try.prog v10 (Op.unary .not)) v10 fun v13 =>
Q.share _ (fun v15 h16 c17 =>
Q.share _ (fun v19 h20 c21 =>
Q.share _ (fun v23 h24 c25 =>
Q.share _ (fun v27 h28 c29 =>
Q.pickK v13 (.bool true) v27 fun v30 =>
Q.condK v30 (
K (.bool false) h28 c29) (
Q.addK (binC Try.prog .add 3 (.tmp 7) (.const (.int .i64 (.ofNat 1))) v2 (.int .i64 (.ofNat 1))) v2 (.int .i64 (.ofNat 1)) fun v31 =>
f5 v31 h28 c29)) fun f26 =>
Q.guardK false v13 (Q.notK (two Try.prog v23 (Op.unary .not)) v23 fun v32 =>
f26 v32 h24 c25) (f26 (.tup []) h24 c25)) fun f22 =>
Q.guardK false v13 (call 71 [v19, (.flt .f64 4638707616191610880)] h20 c21 fun v33 h34 c35 =>
f22 v33 h34 c35) (f22 (.tup []) h20 c21)) fun f18 =>
Q.guardK false v13 (Q.genK (two Try.prog v15 fun v => Builtin.imag_ #[30] 37 #[v]) fun v36 =>
f18 v36 h16 c17) (f18 (.tup []) h16 c17)) fun f14 =>
Q.guardK false v13 (f14 v8 h11 c12) (f14 (.tup []) h11 c12)) (
K (.bool true) h3 c4)) fu (.int .i64 (.ofNat 0)) h0 c0
theorem R45_eq (Q : Prim) (fu : Nat) (call : CallK) : curryA 1 (fnK Q Try.prog tys stl fu call e45) = R45 Q fu call := by kernel_rfl
noncomputable def n45 : List CV → HP → Nat → KV → Bool := appF 1 (R45 real 1000000 d5.fn)
theorem n45_ok : ∀ args hp c K, n45 args hp c K = true → Out (fun N => enterK Try.prog tys tab (execC Try.prog tys stl tab N) 45 args hp c) (stl 45 = true) fun p => K p.1 p.2.1 p.2.2 = true := node_ok d5_ok (by kernel_rfl) rfl g45 (R45_eq _ _ _)
/- foghorn/bounds.Taps -/
noncomputable def R66 (Q : Prim) (fu : Nat) (call : CallK) (a0 : CV) (h0 : HP) (c0 : Nat) (K : KV) : Bool :=
Q.lenF (lenC tys 28 a0) a0 fun v1 =>
Q.cmpK (cmpF .lss) (binC Try.prog .lss 3 (.tmp 7) (.const (.int .i64 (.ofNat 1))) v1 (.int .i64 (.ofNat 1))) v1 (.int .i64 (.ofNat 1)) fun v2 =>
Q.share _ (fun v4 h5 c6 =>
Q.share _ (fun v8 h9 c10 =>
Q.share _ (fun v12 h13 c14 =>
Q.pickK v2 (.bool true) v12 fun v15 =>
Q.condK v15 (
K (.bool false) h13 c14) (
Q.lenF (lenC tys 28 a0) a0 fun v16 =>
@Nat.rec (fun _ => Fun 2) (fun _ _ _ _ => false) (fun _ f21 v17 v18 h19 c20 =>
Q.cmpK (cmpF .lss) (binC Try.prog .lss 3 (.tmp 16) (.tmp 15) v18 v16) v18 v16 fun v22 =>
Q.condK v22 (
Q.idxSK 1 a0 v18 fun v23 =>
Q.loadSK h19 v23 fun v24 =>
Q.genK (two Try.prog v24 fun v => Builtin.real_ #[30] 37 #[v]) fun v25 =>
call 71 [v25, (.flt .f64 4607182418800017408)] h19 c20 fun v26 h27 c28 =>
Q.notK (two Try.prog v26 (Op.unary .not)) v26 fun v29 =>
Q.share _ (fun v31 h32 c33 =>
Q.share _ (fun v35 h36 c37 =>
Q.share _ (fun v39 h40 c41 =>
Q.share _ (fun v43 h44 c45 =>
Q.pickK v29 (.bool true) v43 fun v46 =>
Q.condK v46 (
K (.bool false) h44 c45) (
Q.genK (two Try.prog v24 fun v => Builtin.real_ #[30] 37 #[v]) fun v47 =>
call 59 [v47] h44 c45 fun v48 h49 c50 =>
Q.genK (two Try.prog v24 fun v => Builtin.imag_ #[30] 37 #[v]) fun v51 =>
call 59 [v51] h49 c50 fun v52 h53 c54 =>
Q.addK (binC Try.prog .add 37 (.tmp 33) (.tmp 36) v48 v52) v48 v52 fun v55 =>
Q.addK (binC Try.prog .add 37 (.tmp 30) (.tmp 37) v17 v55) v17 v55 fun v56 =>
Q.addK (binC Try.prog .add 3 (.tmp 16) (.const (.int .i64 (.ofNat 1))) v18 (.int .i64 (.ofNat 1))) v18 (.int .i64 (.ofNat 1)) fun v57 =>
f21 v56 v57 h53 c54)) fun f42 =>
Q.guardK false v29 (Q.notK (two Try.prog v39 (Op.unary .not)) v39 fun v58 =>
f42 v58 h40 c41) (f42 (.tup []) h40 c41)) fun f38 =>
Q.guardK false v29 (call 71 [v35, (.flt .f64 4607182418800017408)] h36 c37 fun v59 h60 c61 =>
f38 v59 h60 c61) (f38 (.tup []) h36 c37)) fun f34 =>
Q.guardK false v29 (Q.genK (two Try.prog v31 fun v => Builtin.imag_ #[30] 37 #[v]) fun v62 =>
f34 v62 h32 c33) (f34 (.tup []) h32 c33)) fun f30 =>
Q.guardK false v29 (f30 v24 h27 c28) (f30 (.tup []) h27 c28)) (
Q.cmpK (cmpF .leq) (binC Try.prog .leq 37 (.tmp 40) (.const (.float .f64 4616189618054758400)) v17 (.flt .f64 4616189618054758400)) v17 (.flt .f64 4616189618054758400) fun v63 =>
K v63 h19 c20)) fu (.flt .f64 0) (.int .i64 (.ofNat 0)) h13 c14)) fun f11 =>
Q.guardK false v2 (Q.cmpK (cmpF .gtr) (binC Try.prog .gtr 3 (.tmp 11) (.const (.int .i64 (.ofNat 64))) v8 (.int .i64 (.ofNat 64))) v8 (.int .i64 (.ofNat 64)) fun v64 =>
f11 v64 h9 c10) (f11 (.tup []) h9 c10)) fun f7 =>
Q.guardK false v2 (Q.lenF (lenC tys 28 v4) v4 fun v65 =>
f7 v65 h5 c6) (f7 (.tup []) h5 c6)) fun f3 =>
Q.guardK false v2 (f3 a0 h0 c0) (f3 (.tup []) h0 c0)
theorem R66_eq (Q : Prim) (fu : Nat) (call : CallK) : curryA 1 (fnK Q Try.prog tys stl fu call e66) = R66 Q fu call := by kernel_rfl
noncomputable def n66 : List CV → HP → Nat → KV → Bool := appF 1 (R66 real 1000000 d5.fn)
theorem n66_ok : ∀ args hp c K, n66 args hp c K = true → Out (fun N => enterK Try.prog tys tab (execC Try.prog tys stl tab N) 66 args hp c) (stl 66 = true) fun p => K p.1 p.2.1 p.2.2 = true := node_ok d5_ok (by kernel_rfl) rfl g66 (R66_eq _ _ _)
/- foghorn/grid.mayBe -/
noncomputable def R72 (Q : Prim) (fu : Nat) (call : CallK) (a0 : CV) (h0 : HP) (c0 : Nat) (K : KV) : Bool :=
Q.genM (boxC ⟨[], 0, h0, c0⟩ a0) fun v1 h2 c3 =>
Q.fadK 1 v1 fun v4 =>
Q.loadSK h2 v4 fun v5 =>
Q.condK v5 (
Q.fadK 0 v1 fun v6 =>
Q.loadSK h2 v6 fun v7 =>
Q.genK (two Try.prog v7 fun v => Builtin.real_ #[30] 37 #[v]) fun v8 =>
Q.cmpK (cmpF .eql) (binC Try.prog .eql 37 (.tmp 7) (.const (.float .f64 0)) v8 (.flt .f64 0)) v8 (.flt .f64 0) fun v9 =>
Q.share _ (fun v11 h12 c13 =>
Q.share _ (fun v15 h16 c17 =>
Q.share _ (fun v19 h20 c21 =>
Q.share _ (fun v23 h24 c25 =>
Q.pickK v9 v23 (.bool false) fun v26 =>
Q.killVK v1 h24 fun h27 =>
K v26 h27 c25) fun f22 =>
Q.guardK true v9 (Q.cmpK (cmpF .eql) (binC Try.prog .eql 37 (.tmp 12) (.const (.float .f64 0)) v19 (.flt .f64 0)) v19 (.flt .f64 0) fun v28 =>
f22 v28 h20 c21) (f22 (.tup []) h20 c21)) fun f18 =>
Q.guardK true v9 (Q.genK (two Try.prog v15 fun v => Builtin.imag_ #[30] 37 #[v]) fun v29 =>
f18 v29 h16 c17) (f18 (.tup []) h16 c17)) fun f14 =>
Q.guardK true v9 (Q.loadSK h12 v11 fun v30 =>
f14 v30 h12 c13) (f14 (.tup []) h12 c13)) fun f10 =>
Q.guardK true v9 (Q.fadK 0 v1 fun v31 =>
f10 v31 h2 c3) (f10 (.tup []) h2 c3)) (
Q.fadK 0 v1 fun v32 =>
Q.loadSK h2 v32 fun v33 =>
Q.genK (two Try.prog v33 fun v => Builtin.real_ #[30] 37 #[v]) fun v34 =>
call 74 [v34] h2 c3 fun v35 h36 c37 =>
Q.share _ (fun v39 h40 c41 =>
Q.share _ (fun v43 h44 c45 =>
Q.share _ (fun v47 h48 c49 =>
Q.share _ (fun v51 h52 c53 =>
Q.pickK v35 v51 (.bool false) fun v54 =>
Q.killVK v1 h52 fun h55 =>
K v54 h55 c53) fun f50 =>
Q.guardK true v35 (call 74 [v47] h48 c49 fun v56 h57 c58 =>
f50 v56 h57 c58) (f50 (.tup []) h48 c49)) fun f46 =>
Q.guardK true v35 (Q.genK (two Try.prog v43 fun v => Builtin.imag_ #[30] 37 #[v]) fun v59 =>
f46 v59 h44 c45) (f46 (.tup []) h44 c45)) fun f42 =>
Q.guardK true v35 (Q.loadSK h40 v39 fun v60 =>
f42 v60 h40 c41) (f42 (.tup []) h40 c41)) fun f38 =>
Q.guardK true v35 (Q.fadK 0 v1 fun v61 =>
f38 v61 h36 c37) (f38 (.tup []) h36 c37))
theorem R72_eq (Q : Prim) (fu : Nat) (call : CallK) : curryA 1 (fnK Q Try.prog tys stl fu call e72) = R72 Q fu call := by kernel_rfl
noncomputable def n72 : List CV → HP → Nat → KV → Bool := appF 1 (R72 real 1000000 d5.fn)
theorem n72_ok : ∀ args hp c K, n72 args hp c K = true → Out (fun N => enterK Try.prog tys tab (execC Try.prog tys stl tab N) 72 args hp c) (stl 72 = true) fun p => K p.1 p.2.1 p.2.2 = true := node_ok d5_ok (by kernel_rfl) rfl g72 (R72_eq _ _ _)
/- foghorn/near.taking$1 -/
noncomputable def R73 (Q : Prim) (fu : Nat) (call : CallK) (a0 : CV) (a1 : CV) (a2 : CV) (h0 : HP) (c0 : Nat) (K : KV) : Bool :=
Q.genM (boxC ⟨[], 0, h0, c0⟩ a0) fun v1 h2 c3 =>
Q.genM (allocC tys ⟨[], 0, h2, c3⟩ 32) fun v4 h5 c6 =>
Q.fadK 0 v1 fun v7 =>
Q.loadSK h5 v7 fun v8 =>
Q.genK (two Try.prog v8 fun v => Builtin.real_ #[30] 37 #[v]) fun v9 =>
Q.loadSK h5 a2 fun v10 =>
Q.genK (two Try.prog a1 fun v => Builtin.real_ #[30] 37 #[v]) fun v11 =>
Q.mulK (binC Try.prog .mul 37 (.tmp 11) (.tmp 13) v10 v11) v10 v11 fun v12 =>
Q.addK (binC Try.prog .add 37 (.tmp 10) (.tmp 14) v9 v12) v9 v12 fun v13 =>
Q.fadK 0 v1 fun v14 =>
Q.loadSK h5 v14 fun v15 =>
Q.genK (two Try.prog v15 fun v => Builtin.imag_ #[30] 37 #[v]) fun v16 =>
Q.loadSK h5 a2 fun v17 =>
Q.genK (two Try.prog a1 fun v => Builtin.imag_ #[30] 37 #[v]) fun v18 =>
Q.mulK (binC Try.prog .mul 37 (.tmp 19) (.tmp 21) v17 v18) v17 v18 fun v19 =>
Q.addK (binC Try.prog .add 37 (.tmp 18) (.tmp 22) v16 v19) v16 v19 fun v20 =>
Q.fadK 1 v1 fun v21 =>
Q.loadSK h5 v21 fun v22 =>
Q.share _ (fun v24 h25 c26 =>
Q.share _ (fun v28 h29 c30 =>
Q.share _ (fun v32 h33 c34 =>
Q.pickK v22 (.bool true) v32 fun v35 =>
Q.share _ (fun v37 h38 c39 =>
Q.share _ (fun v41 h42 c43 =>
Q.share _ (fun v45 h46 c47 =>
Q.pickK v35 (.bool true) v45 fun v48 =>
Q.condK v48 (
Q.genK (buildV tys 32 [(1, (.bool true))]) fun v49 =>
Q.storeAK (storeC tys ⟨[], 0, h46, 0⟩ 32 v4 v49) fun h50 =>
Q.genK (loadCC tys ⟨[], 0, h50, 0⟩ 32 v4) fun v51 =>
Q.killVK v1 h50 fun h52 =>
K v51 h52 c47) (
Q.genK (two2 Try.prog v13 v20 fun v u => Builtin.complex_ #[37, 37] 30 #[v, u]) fun v53 =>
Q.genK (buildV tys 32 [(0, v53)]) fun v54 =>
Q.storeAK (storeC tys ⟨[], 0, h46, 0⟩ 32 v4 v54) fun h55 =>
Q.genK (loadCC tys ⟨[], 0, h55, 0⟩ 32 v4) fun v56 =>
Q.killVK v1 h55 fun h57 =>
K v56 h57 c47)) fun f44 =>
Q.guardK false v35 (Q.notK (two Try.prog v41 (Op.unary .not)) v41 fun v58 =>
f44 v58 h42 c43) (f44 (.tup []) h42 c43)) fun f40 =>
Q.guardK false v35 (call 74 [v37] h38 c39 fun v59 h60 c61 =>
f40 v59 h60 c61) (f40 (.tup []) h38 c39)) fun f36 =>
Q.guardK false v35 (f36 v20 h33 c34) (f36 (.tup []) h33 c34)) fun f31 =>
Q.guardK false v22 (Q.notK (two Try.prog v28 (Op.unary .not)) v28 fun v62 =>
f31 v62 h29 c30) (f31 (.tup []) h29 c30)) fun f27 =>
Q.guardK false v22 (call 74 [v24] h25 c26 fun v63 h64 c65 =>
f27 v63 h64 c65) (f27 (.tup []) h25 c26)) fun f23 =>
Q.guardK false v22 (f23 v13 h5 c6) (f23 (.tup []) h5 c6)
theorem R73_eq (Q : Prim) (fu : Nat) (call : CallK) : curryA 3 (fnK Q Try.prog tys stl fu call e73) = R73 Q fu call := by kernel_rfl
noncomputable def n73 : List CV → HP → Nat → KV → Bool := appF 3 (R73 real 1000000 d5.fn)
theorem n73_ok : ∀ args hp c K, n73 args hp c K = true → Out (fun N => enterK Try.prog tys tab (execC Try.prog tys stl tab N) 73 args hp c) (stl 73 = true) fun p => K p.1 p.2.1 p.2.2 = true := node_ok d5_ok (by kernel_rfl) rfl g73 (R73_eq _ _ _)
noncomputable def d6 : Disp := (.node 71 n71 (.node 52 n52 (.node 43 n43 (.node 22 n22 (.node 21 n21 (.node 18 n18 .leaf .leaf) .leaf) (.node 25 n25 .leaf .leaf)) (.node 47 n47 (.node 45 n45 .leaf .leaf) (.node 48 n48 .leaf .leaf))) (.node 58 n58 (.node 56 n56 (.node 55 n55 .leaf .leaf) (.node 57 n57 .leaf .leaf)) (.node 65 n65 (.node 59 n59 .leaf .leaf) (.node 66 n66 .leaf .leaf)))) (.node 82 n82 (.node 78 n78 (.node 74 n74 (.node 73 n73 (.node 72 n72 .leaf .leaf) .leaf) (.node 77 n77 .leaf .leaf)) (.node 80 n80 (.node 79 n79 .leaf .leaf) (.node 81 n81 .leaf .leaf))) (.node 96 n96 (.node 86 n86 (.node 85 n85 .leaf .leaf) (.node 95 n95 .leaf .leaf)) (.node 105 n105 (.node 104 n104 .leaf .leaf) (.node 107 n107 .leaf .leaf)))))
theorem d6_ok : CallSim Try.prog tys stl tab d6.fn := Disp.sim ⟨n71_ok, ⟨n52_ok, ⟨n43_ok, ⟨n22_ok, ⟨n21_ok, ⟨n18_ok, True.intro, True.intro⟩, True.intro⟩, ⟨n25_ok, True.intro, True.intro⟩⟩, ⟨n47_ok, ⟨n45_ok, True.intro, True.intro⟩, ⟨n48_ok, True.intro, True.intro⟩⟩⟩, ⟨n58_ok, ⟨n56_ok, ⟨n55_ok, True.intro, True.intro⟩, ⟨n57_ok, True.intro, True.intro⟩⟩, ⟨n65_ok, ⟨n59_ok, True.intro, True.intro⟩, ⟨n66_ok, True.intro, True.intro⟩⟩⟩⟩, ⟨n82_ok, ⟨n78_ok, ⟨n74_ok, ⟨n73_ok, ⟨n72_ok, True.intro, True.intro⟩, True.intro⟩, ⟨n77_ok, True.intro, True.intro⟩⟩, ⟨n80_ok, ⟨n79_ok, True.intro, True.intro⟩, ⟨n81_ok, True.intro, True.intro⟩⟩⟩, ⟨n96_ok, ⟨n86_ok, ⟨n85_ok, True.intro, True.intro⟩, ⟨n95_ok, True.intro, True.intro⟩⟩, ⟨n105_ok, ⟨n104_ok, True.intro, True.intro⟩, ⟨n107_ok, True.intro, True.intro⟩⟩⟩⟩⟩
/- foghorn/near.isEcho -/
noncomputable def R42 (Q : Prim) (fu : Nat) (call : CallK) (a0 : CV) (h0 : HP) (c0 : Nat) (K : KV) : Bool :=
Q.lenF (lenC tys 28 a0) a0 fun v1 =>
Q.cmpK (cmpF .eql) (binC Try.prog .eql 3 (.tmp 4) (.const (.int .i64 (.ofNat 0))) v1 (.int .i64 (.ofNat 0))) v1 (.int .i64 (.ofNat 0)) fun v2 =>
Q.share _ (fun v4 h5 c6 =>
Q.share _ (fun v8 h9 c10 =>
Q.pickK v2 (.bool true) v8 fun v11 =>
K v11 h9 c10) fun f7 =>
Q.guardK false v2 (call 66 [v4] h5 c6 fun v12 h13 c14 =>
f7 v12 h13 c14) (f7 (.tup []) h5 c6)) fun f3 =>
Q.guardK false v2 (f3 a0 h0 c0) (f3 (.tup []) h0 c0)
theorem R42_eq (Q : Prim) (fu : Nat) (call : CallK) : curryA 1 (fnK Q Try.prog tys stl fu call e42) = R42 Q fu call := by kernel_rfl
noncomputable def n42 : List CV → HP → Nat → KV → Bool := appF 1 (R42 real 1000000 d6.fn)
theorem n42_ok : ∀ args hp c K, n42 args hp c K = true → Out (fun N => enterK Try.prog tys tab (execC Try.prog tys stl tab N) 42 args hp c) (stl 42 = true) fun p => K p.1 p.2.1 p.2.2 = true := node_ok d6_ok (by kernel_rfl) rfl g42 (R42_eq _ _ _)
/- foghorn/grid.Check -/
noncomputable def R46 (Q : Prim) (fu : Nat) (call : CallK) (a0 : CV) (h0 : HP) (c0 : Nat) (K : KV) : Bool :=
Q.lenF (lenC tys 26 a0) a0 fun v1 =>
Q.cmpK (cmpF .gtr) (binC Try.prog .gtr 3 (.tmp 7) (.const (.int .i64 (.ofNat 65536))) v1 (.int .i64 (.ofNat 65536))) v1 (.int .i64 (.ofNat 65536)) fun v2 =>
Q.condK v2 (
K (.tup [(.int .i64 (.ofNat 0)), (.int .i64 (.ofNat 1))]) h0 c0) (
Q.lenF (lenC tys 26 a0) a0 fun v3 =>
@Nat.rec (fun _ => Fun 1) (fun _ _ _ => false) (fun _ f7 v4 h5 c6 =>
Q.cmpK (cmpF .lss) (binC Try.prog .lss 3 (.tmp 11) (.tmp 10) v4 v3) v4 v3 fun v8 =>
Q.condK v8 (
Q.idxSK 2 a0 v4 fun v9 =>
Q.genK (loadCC tys ⟨[], 0, h5, 0⟩ 32 v9) fun v10 =>
Q.genM (allocC tys ⟨[], 0, h5, c6⟩ 32) fun v11 h12 c13 =>
Q.storeAK (storeC tys ⟨[], 0, h12, 0⟩ 32 v11 v10) fun h14 =>
Q.genK (loadCC tys ⟨[], 0, h14, 0⟩ 32 v11) fun v15 =>
call 72 [v15] h14 c13 fun v16 h17 c18 =>
Q.notK (two Try.prog v16 (Op.unary .not)) v16 fun v19 =>
Q.condK v19 (
K (.tup [v4, (.int .i64 (.ofNat 7))]) h17 c18) (
Q.addK (binC Try.prog .add 3 (.tmp 11) (.const (.int .i64 (.ofNat 1))) v4 (.int .i64 (.ofNat 1))) v4 (.int .i64 (.ofNat 1)) fun v20 =>
f7 v20 h17 c18)) (
K (.tup [(.int .i64 (.ofNat 0)), (.int .i64 (.ofNat 0))]) h5 c6)) fu (.int .i64 (.ofNat 0)) h0 c0)
theorem R46_eq (Q : Prim) (fu : Nat) (call : CallK) : curryA 1 (fnK Q Try.prog tys stl fu call e46) = R46 Q fu call := by kernel_rfl
noncomputable def n46 : List CV → HP → Nat → KV → Bool := appF 1 (R46 real 1000000 d6.fn)
theorem n46_ok : ∀ args hp c K, n46 args hp c K = true → Out (fun N => enterK Try.prog tys tab (execC Try.prog tys stl tab N) 46 args hp c) (stl 46 = true) fun p => K p.1 p.2.1 p.2.2 = true := node_ok d6_ok (by kernel_rfl) rfl g46 (R46_eq _ _ _)
noncomputable def d7 : Disp := (.node 66 n66 (.node 47 n47 (.node 42 n42 (.node 22 n22 (.node 21 n21 (.node 18 n18 .leaf .leaf) .leaf) (.node 25 n25 .leaf .leaf)) (.node 45 n45 (.node 43 n43 .leaf .leaf) (.node 46 n46 .leaf .leaf))) (.node 57 n57 (.node 55 n55 (.node 52 n52 (.node 48 n48 .leaf .leaf) .leaf) (.node 56 n56 .leaf .leaf)) (.node 59 n59 (.node 58 n58 .leaf .leaf) (.node 65 n65 .leaf .leaf)))) (.node 81 n81 (.node 77 n77 (.node 73 n73 (.node 72 n72 (.node 71 n71 .leaf .leaf) .leaf) (.node 74 n74 .leaf .leaf)) (.node 79 n79 (.node 78 n78 .leaf .leaf) (.node 80 n80 .leaf .leaf))) (.node 96 n96 (.node 86 n86 (.node 85 n85 (.node 82 n82 .leaf .leaf) .leaf) (.node 95 n95 .leaf .leaf)) (.node 105 n105 (.node 104 n104 .leaf .leaf) (.node 107 n107 .leaf .leaf)))))
theorem d7_ok : CallSim Try.prog tys stl tab d7.fn := Disp.sim ⟨n66_ok, ⟨n47_ok, ⟨n42_ok, ⟨n22_ok, ⟨n21_ok, ⟨n18_ok, True.intro, True.intro⟩, True.intro⟩, ⟨n25_ok, True.intro, True.intro⟩⟩, ⟨n45_ok, ⟨n43_ok, True.intro, True.intro⟩, ⟨n46_ok, True.intro, True.intro⟩⟩⟩, ⟨n57_ok, ⟨n55_ok, ⟨n52_ok, ⟨n48_ok, True.intro, True.intro⟩, True.intro⟩, ⟨n56_ok, True.intro, True.intro⟩⟩, ⟨n59_ok, ⟨n58_ok, True.intro, True.intro⟩, ⟨n65_ok, True.intro, True.intro⟩⟩⟩⟩, ⟨n81_ok, ⟨n77_ok, ⟨n73_ok, ⟨n72_ok, ⟨n71_ok, True.intro, True.intro⟩, True.intro⟩, ⟨n74_ok, True.intro, True.intro⟩⟩, ⟨n79_ok, ⟨n78_ok, True.intro, True.intro⟩, ⟨n80_ok, True.intro, True.intro⟩⟩⟩, ⟨n96_ok, ⟨n86_ok, ⟨n85_ok, ⟨n82_ok, True.intro, True.intro⟩, True.intro⟩, ⟨n95_ok, True.intro, True.intro⟩⟩, ⟨n105_ok, ⟨n104_ok, True.intro, True.intro⟩, ⟨n107_ok, True.intro, True.intro⟩⟩⟩⟩⟩
/- foghorn/near.New -/
noncomputable def R19 (Q : Prim) (fu : Nat) (call : CallK) (a0 : CV) (h0 : HP) (c0 : Nat) (K : KV) : Bool :=
call 42 [a0] h0 c0 fun v1 h2 c3 =>
Q.notK (two Try.prog v1 (Op.unary .not)) v1 fun v4 =>
Q.condK v4 (
K (.tup [.nilp, (.int .i64 (.ofNat 8))]) h2 c3) (
call 43 [a0] h2 c3 fun v5 h6 c7 =>
Q.genK (buildV tys 95 [(0, v5)]) fun v8 =>
Q.genM (boxC ⟨[], 0, h6, c7⟩ v8) fun v9 h10 c11 =>
K (.tup [v9, (.int .i64 (.ofNat 0))]) h10 c11)
theorem R19_eq (Q : Prim) (fu : Nat) (call : CallK) : curryA 1 (fnK Q Try.prog tys stl fu call e19) = R19 Q fu call := by kernel_rfl
noncomputable def n19 : List CV → HP → Nat → KV → Bool := appF 1 (R19 real 1000000 d7.fn)
theorem n19_ok : ∀ args hp c K, n19 args hp c K = true → Out (fun N => enterK Try.prog tys tab (execC Try.prog tys stl tab N) 19 args hp c) (stl 19 = true) fun p => K p.1 p.2.1 p.2.2 = true := node_ok d7_ok (by kernel_rfl) rfl g19 (R19_eq _ _ _)
/- (*foghorn/near.Line).Hear -/
noncomputable def R23 (Q : Prim) (fu : Nat) (call : CallK) (a0 : CV) (a1 : CV) (a2 : CV) (h0 : HP) (c0 : Nat) (K : KV) : Bool :=
Q.genM (boxC ⟨[], 0, h0, c0⟩ a2) fun v1 h2 c3 =>
Q.genM (allocC tys ⟨[], 0, h2, c3⟩ 32) fun v4 h5 c6 =>
Q.cmpK (cmpF .eql) (binC Try.prog .eql 51 (.tmp 15) (.const (.pointer none)) a0 .nilp) a0 .nilp fun v7 =>
Q.condK v7 (
Q.genK (buildV tys 32 []) fun v8 =>
Q.storeAK (storeC tys ⟨[], 0, h5, 0⟩ 32 v4 v8) fun h9 =>
Q.genK (loadCC tys ⟨[], 0, h9, 0⟩ 32 v4) fun v10 =>
Q.killVK v1 h9 fun h11 =>
K (.tup [v10, (.int .i64 (.ofNat 2))]) h11 c6) (
Q.genM (buildSliceV tys ⟨[], 0, h5, c6⟩ 28 1 [(0, a1)]) fun v12 h13 c14 =>
call 45 [v12] h13 c14 fun v15 h16 c17 =>
Q.notK (two Try.prog v15 (Op.unary .not)) v15 fun v18 =>
Q.condK v18 (
Q.genK (buildV tys 32 []) fun v19 =>
Q.storeAK (storeC tys ⟨[], 0, h16, 0⟩ 32 v4 v19) fun h20 =>
Q.genK (loadCC tys ⟨[], 0, h20, 0⟩ 32 v4) fun v21 =>
Q.killVK v1 h20 fun h22 =>
K (.tup [v21, (.int .i64 (.ofNat 7))]) h22 c17) (
Q.genK (loadCC tys ⟨[], 0, h16, 0⟩ 32 v1) fun v23 =>
Q.genM (buildSliceV tys ⟨[], 0, h16, c17⟩ 26 1 [(0, v23)]) fun v24 h25 c26 =>
call 46 [v24] h25 c26 fun v27 h28 c29 =>
Q.onTup v27 false fun l30 => Q.nthOK 0 l30 fun v31 =>
Q.onTup v27 false fun l32 => Q.nthOK 1 l32 fun v33 =>
Q.cmpK (cmpF .neq) (binC Try.prog .neq 42 (.tmp 29) (.const (.int .i64 (.ofNat 0))) v33 (.int .i64 (.ofNat 0))) v33 (.int .i64 (.ofNat 0)) fun v34 =>
Q.condK v34 (
Q.genK (buildV tys 32 []) fun v35 =>
Q.storeAK (storeC tys ⟨[], 0, h28, 0⟩ 32 v4 v35) fun h36 =>
Q.genK (loadCC tys ⟨[], 0, h36, 0⟩ 32 v4) fun v37 =>
Q.killVK v1 h36 fun h38 =>
K (.tup [v37, v33]) h38 c29) (
Q.nilcK a0 fun v39 =>
Q.fadK 65 v39 fun v40 =>
Q.loadSK h28 v40 fun v41 =>
Q.remK (binC Try.prog .rem 3 (.tmp 37) (.const (.int .i64 (.ofNat 64))) v41 (.int .i64 (.ofNat 64))) v41 (.int .i64 (.ofNat 64)) fun v42 =>
Q.nilcK a0 fun v43 =>
Q.fadK 1 v43 fun v44 =>
Q.idxAK 1 64 v44 v42 fun v45 =>
Q.storeSK h28 v45 a1 fun h46 =>
Q.nilcK a0 fun v47 =>
Q.fadK 0 v47 fun v48 =>
Q.loadSK h46 v48 fun v49 =>
Q.lenF (lenC tys 28 v49) v49 fun v50 =>
@Nat.rec (fun _ => Fun 3) (fun _ _ _ _ _ => false) (fun _ f56 v51 v52 v53 h54 c55 =>
Q.cmpK (cmpF .lss) (binC Try.prog .lss 3 (.tmp 48) (.tmp 47) v53 v50) v53 v50 fun v57 =>
Q.condK v57 (
Q.idxSK 1 v49 v53 fun v58 =>
Q.loadSK h54 v58 fun v59 =>
Q.nilcK a0 fun v60 =>
Q.fadK 65 v60 fun v61 =>
Q.loadSK h54 v61 fun v62 =>
Q.subK (binC Try.prog .sub 3 (.tmp 58) (.tmp 59) v62 v53) v62 v53 fun v63 =>
Q.addK (binC Try.prog .add 3 (.tmp 60) (.const (.int .i64 (.ofNat 64))) v63 (.int .i64 (.ofNat 64))) v63 (.int .i64 (.ofNat 64)) fun v64 =>
Q.remK (binC Try.prog .rem 3 (.tmp 61) (.const (.int .i64 (.ofNat 64))) v64 (.int .i64 (.ofNat 64))) v64 (.int .i64 (.ofNat 64)) fun v65 =>
Q.nilcK a0 fun v66 =>
Q.fadK 1 v66 fun v67 =>
Q.idxAK 1 64 v67 v65 fun v68 =>
Q.loadSK h54 v68 fun v69 =>
call 47 [v59, v69] h54 c55 fun v70 h71 c72 =>
Q.genK (two Try.prog v70 fun v => Builtin.real_ #[30] 37 #[v]) fun v73 =>
Q.addK (binC Try.prog .add 37 (.tmp 68) (.tmp 70) v51 v73) v51 v73 fun v74 =>
Q.genK (two Try.prog v70 fun v => Builtin.imag_ #[30] 37 #[v]) fun v75 =>
Q.addK (binC Try.prog .add 37 (.tmp 72) (.tmp 74) v52 v75) v52 v75 fun v76 =>
Q.addK (binC Try.prog .add 3 (.tmp 48) (.const (.int .i64 (.ofNat 1))) v53 (.int .i64 (.ofNat 1))) v53 (.int .i64 (.ofNat 1)) fun v77 =>
f56 v74 v76 v77 h71 c72) (
Q.nilcK a0 fun v78 =>
Q.fadK 65 v78 fun v79 =>
Q.loadSK h54 v79 fun v80 =>
Q.addK (binC Try.prog .add 3 (.tmp 80) (.const (.int .i64 (.ofNat 1))) v80 (.int .i64 (.ofNat 1))) v80 (.int .i64 (.ofNat 1)) fun v81 =>
Q.nilcK a0 fun v82 =>
Q.fadK 65 v82 fun v83 =>
Q.storeSK h54 v83 v81 fun h84 =>
Q.genK (two2 Try.prog v51 v52 fun v u => Builtin.complex_ #[37, 37] 30 #[v, u]) fun v85 =>
Q.detK v85 (
Q.ifB (call 48 [(.flt .f64 13830554455654793216)] h84 c55 fun v86 h87 c88 =>
Q.genK (loadCC tys ⟨[], 0, h87, 0⟩ 32 v1) fun v89 =>
Q.onFn v86 false fun g90 l91 => call g90 ([v89, v85] ++ l91) h87 c88 fun v92 h93 c94 =>
Q.storeAK (storeC tys ⟨[], 0, h93, 0⟩ 32 v4 v92) fun h95 =>
Q.genK (loadCC tys ⟨[], 0, h95, 0⟩ 32 v4) fun v96 =>
Q.killVK v1 h95 fun h97 =>
K (.tup [v96, (.int .i64 (.ofNat 0))]) h97 c94) (Q.ifB (Q.genK (loadCC tys ⟨[], 0, h84, 0⟩ 32 v1) fun v98 =>
call 48 [(.flt .f64 13830554455654793216)] h84 c55 fun v99 h100 c101 =>
Q.onFn v99 false fun g102 l103 => call g102 ([v98, v85] ++ l103) h100 c101 fun v104 h105 c106 =>
Q.storeAK (storeC tys ⟨[], 0, h105, 0⟩ 32 v4 v104) fun h107 =>
Q.genK (loadCC tys ⟨[], 0, h107, 0⟩ 32 v4) fun v108 =>
Q.killVK v1 h107 fun h109 =>
K (.tup [v108, (.int .i64 (.ofNat 0))]) h109 c106) (true) false) false))) fu (.flt .f64 0) (.flt .f64 0) (.int .i64 (.ofNat 0)) h46 c29)))
theorem R23_eq (Q : Prim) (fu : Nat) (call : CallK) : curryA 3 (fnK Q Try.prog tys stl fu call e23) = R23 Q fu call := by kernel_rfl
noncomputable def n23 : List CV → HP → Nat → KV → Bool := appF 3 (R23 real 1000000 d7.fn)
theorem n23_ok : ∀ args hp c K, n23 args hp c K = true → Out (fun N => enterK Try.prog tys tab (execC Try.prog tys stl tab N) 23 args hp c) (stl 23 = true) fun p => K p.1 p.2.1 p.2.2 = true := node_ok d7_ok (by kernel_rfl) rfl g23 (R23_eq _ _ _)
/- foghorn/near.Echo -/
noncomputable def R33 (Q : Prim) (fu : Nat) (call : CallK) (a0 : CV) (a1 : CV) (a2 : CV) (h0 : HP) (c0 : Nat) (K : KV) : Bool :=
Q.lenF (lenC tys 28 a0) a0 fun v1 =>
Q.cmpK (cmpF .gtr) (binC Try.prog .gtr 3 (.tmp 9) (.const (.int .i64 (.ofNat 65536))) v1 (.int .i64 (.ofNat 65536))) v1 (.int .i64 (.ofNat 65536)) fun v2 =>
Q.share _ (fun v4 h5 c6 =>
Q.share _ (fun v8 h9 c10 =>
Q.pickK v2 (.bool true) v8 fun v11 =>
Q.share _ (fun v13 h14 c15 =>
Q.share _ (fun v17 h18 c19 =>
Q.pickK v11 (.bool true) v17 fun v20 =>
Q.condK v20 (
K (.tup [.nils, (.int .i64 (.ofNat 1))]) h18 c19) (
call 45 [a0] h18 c19 fun v21 h22 c23 =>
Q.notK (two Try.prog v21 (Op.unary .not)) v21 fun v24 =>
Q.condK v24 (
K (.tup [.nils, (.int .i64 (.ofNat 7))]) h22 c23) (
call 42 [a1] h22 c23 fun v25 h26 c27 =>
Q.notK (two Try.prog v25 (Op.unary .not)) v25 fun v28 =>
Q.condK v28 (
K (.tup [.nils, (.int .i64 (.ofNat 8))]) h26 c27) (
call 58 [a0, a1, a2] h26 c27 fun v29 h30 c31 =>
Q.onTup v29 false fun l32 => Q.nthOK 0 l32 fun v33 =>
Q.onTup v29 false fun l34 => Q.nthOK 1 l34 fun v35 =>
K (.tup [v33, v35]) h30 c31)))) fun f16 =>
Q.guardK false v11 (Q.cmpK (cmpF .gtr) (binC Try.prog .gtr 3 (.tmp 16) (.const (.int .i64 (.ofNat 65536))) v13 (.int .i64 (.ofNat 65536))) v13 (.int .i64 (.ofNat 65536)) fun v36 =>
f16 v36 h14 c15) (f16 (.tup []) h14 c15)) fun f12 =>
Q.guardK false v11 (f12 a2 h9 c10) (f12 (.tup []) h9 c10)) fun f7 =>
Q.guardK false v2 (Q.cmpK (cmpF .lss) (binC Try.prog .lss 3 (.tmp 12) (.const (.int .i64 (.ofNat 0))) v4 (.int .i64 (.ofNat 0))) v4 (.int .i64 (.ofNat 0)) fun v37 =>
f7 v37 h5 c6) (f7 (.tup []) h5 c6)) fun f3 =>
Q.guardK false v2 (f3 a2 h0 c0) (f3 (.tup []) h0 c0)
theorem R33_eq (Q : Prim) (fu : Nat) (call : CallK) : curryA 3 (fnK Q Try.prog tys stl fu call e33) = R33 Q fu call := by kernel_rfl
noncomputable def n33 : List CV → HP → Nat → KV → Bool := appF 3 (R33 real 1000000 d7.fn)
theorem n33_ok : ∀ args hp c K, n33 args hp c K = true → Out (fun N => enterK Try.prog tys tab (execC Try.prog tys stl tab N) 33 args hp c) (stl 33 = true) fun p => K p.1 p.2.1 p.2.2 = true := node_ok d7_ok (by kernel_rfl) rfl g33 (R33_eq _ _ _)
/- foghorn/near.Loud -/
noncomputable def R35 (Q : Prim) (fu : Nat) (call : CallK) (a0 : CV) (h0 : HP) (c0 : Nat) (K : KV) : Bool :=
call 46 [a0] h0 c0 fun v1 h2 c3 =>
Q.onTup v1 false fun l4 => Q.nthOK 0 l4 fun v5 =>
Q.onTup v1 false fun l6 => Q.nthOK 1 l6 fun v7 =>
Q.cmpK (cmpF .neq) (binC Try.prog .neq 42 (.tmp 17) (.const (.int .i64 (.ofNat 0))) v7 (.int .i64 (.ofNat 0))) v7 (.int .i64 (.ofNat 0)) fun v8 =>
Q.condK v8 (
K (.tup [(.flt .f64 0), (.int .i64 (.ofNat 0)), v7]) h2 c3) (
Q.lenF (lenC tys 26 a0) a0 fun v9 =>
@Nat.rec (fun _ => Fun 3) (fun _ _ _ _ _ => false) (fun _ f15 v10 v11 v12 h13 c14 =>
Q.cmpK (cmpF .lss) (binC Try.prog .lss 3 (.tmp 22) (.tmp 21) v12 v9) v12 v9 fun v16 =>
Q.condK v16 (
Q.share _ (fun v17 v18 h19 c20 =>
Q.addK (binC Try.prog .add 3 (.tmp 22) (.const (.int .i64 (.ofNat 1))) v12 (.int .i64 (.ofNat 1))) v12 (.int .i64 (.ofNat 1)) fun v22 =>
f15 v17 v18 v22 h19 c20) fun f21 =>
Q.idxSK 2 a0 v12 fun v23 =>
Q.genK (loadCC tys ⟨[], 0, h13, 0⟩ 32 v23) fun v24 =>
Q.genM (allocC tys ⟨[], 0, h13, c14⟩ 32) fun v25 h26 c27 =>
Q.storeAK (storeC tys ⟨[], 0, h26, 0⟩ 32 v25 v24) fun h28 =>
Q.fadK 0 v25 fun v29 =>
Q.loadSK h28 v29 fun v30 =>
Q.genK (two Try.prog v30 fun v => Builtin.real_ #[30] 37 #[v]) fun v31 =>
call 59 [v31] h28 c27 fun v32 _ _ => Q.knownK v32 (
Q.fadK 0 v25 fun v33 =>
Q.loadSK h28 v33 fun v34 =>
Q.genK (two Try.prog v34 fun v => Builtin.imag_ #[30] 37 #[v]) fun v35 =>
call 59 [v35] h28 c27 fun v36 _ _ => Q.knownK v36 (
Q.genK (two2 Try.prog v32 v36 fun v u => Builtin.max_ #[37, 37] 37 #[v, u]) fun v37 =>
Q.fadK 1 v25 fun v38 =>
Q.loadSK h28 v38 fun v39 =>
Q.notK (two Try.prog v39 (Op.unary .not)) v39 fun v40 =>
Q.share _ (fun v42 h43 c44 =>
Q.share _ (fun v46 h47 c48 =>
Q.share _ (fun v50 h51 c52 =>
Q.pickK v40 v50 (.bool false) fun v53 =>
Q.condK v53 (
f21 v37 v12 h51 c52) (
f21 v10 v11 h51 c52)) fun f49 =>
Q.guardK true v40 (Q.cmpK (cmpF .gtr) (binC Try.prog .gtr 37 (.tmp 40) (.tmp 41) v42 v46) v42 v46 fun v54 =>
f49 v54 h47 c48) (f49 (.tup []) h47 c48)) fun f45 =>
Q.guardK true v40 (f45 v10 h43 c44) (f45 (.tup []) h43 c44)) fun f41 =>
Q.guardK true v40 (f41 v37 h28 c27) (f41 (.tup []) h28 c27)))) (
Q.cmpK (cmpF .lss) (binC Try.prog .lss 37 (.tmp 47) (.const (.float .f64 0)) v10 (.flt .f64 0)) v10 (.flt .f64 0) fun v55 =>
Q.condK v55 (
K (.tup [(.flt .f64 0), (.int .i64 (.ofNat 0)), (.int .i64 (.ofNat 6))]) h13 c14) (
K (.tup [v10, v11, (.int .i64 (.ofNat 0))]) h13 c14))) fu (.flt .f64 13830554455654793216) (.int .i64 (.ofNat 0)) (.int .i64 (.ofNat 0)) h2 c3)
theorem R35_eq (Q : Prim) (fu : Nat) (call : CallK) : curryA 1 (fnK Q Try.prog tys stl fu call e35) = R35 Q fu call := by kernel_rfl
noncomputable def n35 : List CV → HP → Nat → KV → Bool := appF 1 (R35 real 1000000 d7.fn)
theorem n35_ok : ∀ args hp c K, n35 args hp c K = true → Out (fun N => enterK Try.prog tys tab (execC Try.prog tys stl tab N) 35 args hp c) (stl 35 = true) fun p => K p.1 p.2.1 p.2.2 = true := node_ok d7_ok (by kernel_rfl) rfl g35 (R35_eq _ _ _)
/- foghorn/near.through -/
noncomputable def R54 (Q : Prim) (fu : Nat) (call : CallK) (a0 : CV) (a1 : CV) (a2 : CV) (a3 : CV) (h0 : HP) (c0 : Nat) (K : KV) : Bool :=
Q.lenF (lenC tys 26 a0) a0 fun v1 =>
Q.cmpK (cmpF .gtr) (binC Try.prog .gtr 3 (.tmp 18) (.const (.int .i64 (.ofNat 65536))) v1 (.int .i64 (.ofNat 65536))) v1 (.int .i64 (.ofNat 65536)) fun v2 =>
Q.share _ (fun v4 h5 c6 =>
Q.share _ (fun v8 h9 c10 =>
Q.share _ (fun v12 h13 c14 =>
Q.pickK v2 (.bool true) v12 fun v15 =>
Q.condK v15 (
K (.tup [.nils, (.int .i64 (.ofNat 1))]) h13 c14) (
call 46 [a0] h13 c14 fun v16 h17 c18 =>
Q.onTup v16 false fun l19 => Q.nthOK 0 l19 fun v20 =>
Q.onTup v16 false fun l21 => Q.nthOK 1 l21 fun v22 =>
Q.cmpK (cmpF .neq) (binC Try.prog .neq 42 (.tmp 30) (.const (.int .i64 (.ofNat 0))) v22 (.int .i64 (.ofNat 0))) v22 (.int .i64 (.ofNat 0)) fun v23 =>
Q.condK v23 (
K (.tup [.nils, v22]) h17 c18) (
call 45 [a1] h17 c18 fun v24 h25 c26 =>
Q.notK (two Try.prog v24 (Op.unary .not)) v24 fun v27 =>
Q.condK v27 (
K (.tup [.nils, (.int .i64 (.ofNat 7))]) h25 c26) (
call 42 [a2] h25 c26 fun v28 h29 c30 =>
Q.notK (two Try.prog v28 (Op.unary .not)) v28 fun v31 =>
Q.condK v31 (
K (.tup [.nils, (.int .i64 (.ofNat 8))]) h29 c30) (
Q.lenF (lenC tys 26 a0) a0 fun v32 =>
call 58 [a1, a2, v32] h29 c30 fun v33 h34 c35 =>
Q.onTup v33 false fun l36 => Q.nthOK 0 l36 fun v37 =>
Q.onTup v33 false fun l38 => Q.nthOK 1 l38 fun v39 =>
Q.cmpK (cmpF .neq) (binC Try.prog .neq 42 (.tmp 47) (.const (.int .i64 (.ofNat 0))) v39 (.int .i64 (.ofNat 0))) v39 (.int .i64 (.ofNat 0)) fun v40 =>
Q.condK v40 (
K (.tup [.nils, v39]) h34 c35) (
Q.lenF (lenC tys 26 a0) a0 fun v41 =>
Q.genM (makeC tys ⟨[], 0, h34, c35⟩ 26 v41 v41) fun v42 h43 c44 =>
Q.lenF (lenC tys 26 a0) a0 fun v45 =>
@Nat.rec (fun _ => Fun 1) (fun _ _ _ => false) (fun _ f49 v46 h47 c48 =>
Q.cmpK (cmpF .lss) (binC Try.prog .lss 3 (.tmp 55) (.tmp 54) v46 v45) v46 v45 fun v50 =>
Q.condK v50 (
Q.idxSK 2 a0 v46 fun v51 =>
Q.genK (loadCC tys ⟨[], 0, h47, 0⟩ 32 v51) fun v52 =>
Q.genM (allocC tys ⟨[], 0, h47, c48⟩ 32) fun v53 h54 c55 =>
Q.storeAK (storeC tys ⟨[], 0, h54, 0⟩ 32 v53 v52) fun h56 =>
Q.genK (loadCC tys ⟨[], 0, h56, 0⟩ 32 v53) fun v57 =>
Q.idxSK 1 v37 v46 fun v58 =>
Q.loadSK h56 v58 fun v59 =>
Q.onFn a3 false fun g60 l61 => call g60 ([v57, v59] ++ l61) h56 c55 fun v62 h63 c64 =>
Q.idxSK 2 v42 v46 fun v65 =>
Q.storeAK (storeC tys ⟨[], 0, h63, 0⟩ 32 v65 v62) fun h66 =>
Q.addK (binC Try.prog .add 3 (.tmp 55) (.const (.int .i64 (.ofNat 1))) v46 (.int .i64 (.ofNat 1))) v46 (.int .i64 (.ofNat 1)) fun v67 =>
f49 v67 h66 c64) (
K (.tup [v42, (.int .i64 (.ofNat 0))]) h47 c48)) fu (.int .i64 (.ofNat 0)) h43 c44)))))) fun f11 =>
Q.guardK false v2 (Q.cmpK (cmpF .gtr) (binC Try.prog .gtr 3 (.tmp 22) (.const (.int .i64 (.ofNat 65536))) v8 (.int .i64 (.ofNat 65536))) v8 (.int .i64 (.ofNat 65536)) fun v68 =>
f11 v68 h9 c10) (f11 (.tup []) h9 c10)) fun f7 =>
Q.guardK false v2 (Q.lenF (lenC tys 28 v4) v4 fun v69 =>
f7 v69 h5 c6) (f7 (.tup []) h5 c6)) fun f3 =>
Q.guardK false v2 (f3 a1 h0 c0) (f3 (.tup []) h0 c0)
theorem R54_eq (Q : Prim) (fu : Nat) (call : CallK) : curryA 4 (fnK Q Try.prog tys stl fu call e54) = R54 Q fu call := by kernel_rfl
noncomputable def n54 : List CV → HP → Nat → KV → Bool := appF 4 (R54 real 1000000 d7.fn)
theorem n54_ok : ∀ args hp c K, n54 args hp c K = true → Out (fun N => enterK Try.prog tys tab (execC Try.prog tys stl tab N) 54 args hp c) (stl 54 = true) fun p => K p.1 p.2.1 p.2.2 = true := node_ok d7_ok (by kernel_rfl) rfl g54 (R54_eq _ _ _)
/- (foghorn/train.Plan).Raw -/
noncomputable def R64 (Q : Prim) (fu : Nat) (call : CallK) (a0 : CV) (a1 : CV) (a2 : CV) (a3 : CV) (h0 : HP) (c0 : Nat) (K : KV) : Bool :=
Q.genM (boxC ⟨[], 0, h0, c0⟩ a0) fun v1 h2 c3 =>
Q.genK (loadCC tys ⟨[], 0, h2, 0⟩ 46 v1) fun v4 =>
call 55 [v4] h2 c3 fun v5 h6 c7 =>
Q.notK (two Try.prog v5 (Op.unary .not)) v5 fun v8 =>
Q.share _ (fun v10 h11 c12 =>
Q.share _ (fun v14 h15 c16 =>
Q.share _ (fun v18 h19 c20 =>
Q.pickK v8 (.bool true) v18 fun v21 =>
Q.share _ (fun v23 h24 c25 =>
Q.share _ (fun v27 h28 c29 =>
Q.pickK v21 (.bool true) v27 fun v30 =>
Q.share _ (fun v32 h33 c34 =>
Q.share _ (fun v36 h37 c38 =>
Q.pickK v30 (.bool true) v36 fun v39 =>
Q.share _ (fun v41 h42 c43 =>
Q.share _ (fun v45 h46 c47 =>
Q.pickK v39 (.bool true) v45 fun v48 =>
Q.condK v48 (
Q.killVK v1 h46 fun h49 =>
K (.tup [.nils, (.int .i64 (.ofNat 1))]) h49 c47) (
call 46 [a1] h46 c47 fun v50 h51 c52 =>
Q.onTup v50 false fun l53 => Q.nthOK 0 l53 fun v54 =>
Q.onTup v50 false fun l55 => Q.nthOK 1 l55 fun v56 =>
Q.cmpK (cmpF .neq) (binC Try.prog .neq 42 (.tmp 46) (.const (.int .i64 (.ofNat 0))) v56 (.int .i64 (.ofNat 0))) v56 (.int .i64 (.ofNat 0)) fun v57 =>
Q.condK v57 (
Q.killVK v1 h51 fun h58 =>
K (.tup [.nils, v56]) h58 c52) (
Q.fadK 0 v1 fun v59 =>
Q.loadSK h51 v59 fun v60 =>
call 56 [v60] h51 c52 fun v61 h62 c63 =>
Q.onTup v61 false fun l64 => Q.nthOK 0 l64 fun v65 =>
Q.onTup v61 false fun l66 => Q.nthOK 1 l66 fun v67 =>
Q.onTup v61 false fun l68 => Q.nthOK 2 l68 fun v69 =>
Q.cmpK (cmpF .neq) (binC Try.prog .neq 42 (.tmp 56) (.const (.int .i64 (.ofNat 0))) v69 (.int .i64 (.ofNat 0))) v69 (.int .i64 (.ofNat 0)) fun v70 =>
Q.condK v70 (
Q.killVK v1 h62 fun h71 =>
K (.tup [.nils, v69]) h71 c63) (
Q.lenF (lenC tys 26 a1) a1 fun v72 =>
Q.genK (two2 Try.prog a2 v72 fun v u => Builtin.min_ #[3, 3] 3 #[v, u]) fun v73 =>
Q.genM (makeC tys ⟨[], 0, h62, c63⟩ 28 a3 a3) fun v74 h75 c76 =>
Q.lenF (lenC tys 28 v74) v74 fun v77 =>
@Nat.rec (fun _ => Fun 1) (fun _ _ _ => false) (fun _ f81 v78 h79 c80 =>
Q.cmpK (cmpF .lss) (binC Try.prog .lss 3 (.tmp 67) (.tmp 66) v78 v77) v78 v77 fun v82 =>
Q.condK v82 (
Q.fadK 1 v1 fun v83 =>
Q.loadSK h79 v83 fun v84 =>
Q.mulK (binC Try.prog .mul 3 (.tmp 73) (.tmp 75) v78 v84) v78 v84 fun v85 =>
Q.addK (binC Try.prog .add 3 (.tmp 72) (.tmp 76) v73 v85) v73 v85 fun v86 =>
Q.fadK 1 v1 fun v87 =>
Q.loadSK h79 v87 fun v88 =>
call 85 [a1, v86, v88, v65] h79 c80 fun v89 h90 c91 =>
Q.onTup v89 false fun l92 => Q.nthOK 0 l92 fun v93 =>
Q.onTup v89 false fun l94 => Q.nthOK 1 l94 fun v95 =>
Q.cmpK (cmpF .neq) (binC Try.prog .neq 42 (.tmp 84) (.const (.int .i64 (.ofNat 0))) v95 (.int .i64 (.ofNat 0))) v95 (.int .i64 (.ofNat 0)) fun v96 =>
Q.condK v96 (
Q.killVK v1 h90 fun h97 =>
K (.tup [.nils, v95]) h97 c91) (
Q.genK (loadCC tys ⟨[], 0, h90, 0⟩ 46 v1) fun v98 =>
Q.fadK 1 v1 fun v99 =>
Q.detK v99 (
Q.fadK 1 v1 fun v100 =>
Q.detK v100 (
Q.ifB (call 57 [v98] h90 c91 fun v101 h102 c103 =>
Q.addK (binC Try.prog .add 3 (.tmp 89) (.tmp 91) v73 v101) v73 v101 fun v104 =>
Q.loadSK h102 v99 fun v105 =>
Q.mulK (binC Try.prog .mul 3 (.tmp 93) (.tmp 95) v78 v105) v78 v105 fun v106 =>
Q.addK (binC Try.prog .add 3 (.tmp 92) (.tmp 96) v104 v106) v104 v106 fun v107 =>
Q.loadSK h102 v100 fun v108 =>
call 85 [a1, v107, v108, v67] h102 c103 fun v109 _ _ => Q.knownK v109 (
Q.onTup v109 false fun l110 => Q.nthOK 0 l110 fun v111 =>
Q.onTup v109 false fun l112 => Q.nthOK 1 l112 fun v113 =>
Q.cmpK (cmpF .neq) (binC Try.prog .neq 42 (.tmp 104) (.const (.int .i64 (.ofNat 0))) v113 (.int .i64 (.ofNat 0))) v113 (.int .i64 (.ofNat 0)) fun v114 =>
Q.condK v114 (
Q.killVK v1 h102 fun h115 =>
K (.tup [.nils, v113]) h115 c103) (
Q.genK (loadCC tys ⟨[], 0, h102, 0⟩ 46 v1) fun v116 =>
call 79 [v116] h102 c103 fun v117 h118 c119 =>
Q.mulK (binC Try.prog .mul 3 (.const (.int .i64 (.ofNat 2))) (.tmp 108) (.int .i64 (.ofNat 2)) v117) (.int .i64 (.ofNat 2)) v117 fun v120 =>
Q.mulK (binC Try.prog .mul 3 (.tmp 109) (.const (.int .i64 (.ofNat 128))) v120 (.int .i64 (.ofNat 128))) v120 (.int .i64 (.ofNat 128)) fun v121 =>
Q.genK (convC Try.prog tys ⟨[], 0, h118, 0⟩ 3 37 v121) fun v122 =>
Q.genK (two Try.prog v93 fun v => Builtin.real_ #[30] 37 #[v]) fun v123 =>
Q.genK (two Try.prog v111 fun v => Builtin.real_ #[30] 37 #[v]) fun v124 =>
Q.addK (binC Try.prog .add 37 (.tmp 115) (.tmp 117) v123 v124) v123 v124 fun v125 =>
Q.quoK (binC Try.prog .quo 37 (.tmp 118) (.tmp 119) v125 v122) v125 v122 fun v126 =>
Q.genK (two Try.prog v93 fun v => Builtin.imag_ #[30] 37 #[v]) fun v127 =>
Q.genK (two Try.prog v111 fun v => Builtin.imag_ #[30] 37 #[v]) fun v128 =>
Q.addK (binC Try.prog .add 37 (.tmp 122) (.tmp 124) v127 v128) v127 v128 fun v129 =>
Q.quoK (binC Try.prog .quo 37 (.tmp 125) (.tmp 126) v129 v122) v129 v122 fun v130 =>
Q.genK (two2 Try.prog v126 v130 fun v u => Builtin.complex_ #[37, 37] 30 #[v, u]) fun v131 =>
Q.idxSK 1 v74 v78 fun v132 =>
Q.storeSK h118 v132 v131 fun h133 =>
Q.addK (binC Try.prog .add 3 (.tmp 67) (.const (.int .i64 (.ofNat 1))) v78 (.int .i64 (.ofNat 1))) v78 (.int .i64 (.ofNat 1)) fun v134 =>
f81 v134 h133 c119))) (Q.ifB (Q.loadSK h90 v99 fun v135 =>
Q.mulK (binC Try.prog .mul 3 (.tmp 93) (.tmp 95) v78 v135) v78 v135 fun v136 =>
Q.detK v136 (
Q.ifB (call 57 [v98] h90 c91 fun v137 h138 c139 =>
Q.addK (binC Try.prog .add 3 (.tmp 89) (.tmp 91) v73 v137) v73 v137 fun v140 =>
Q.addK (binC Try.prog .add 3 (.tmp 92) (.tmp 96) v140 v136) v140 v136 fun v141 =>
Q.loadSK h138 v100 fun v142 =>
call 85 [a1, v141, v142, v67] h138 c139 fun v143 _ _ => Q.knownK v143 (
Q.onTup v143 false fun l144 => Q.nthOK 0 l144 fun v145 =>
Q.onTup v143 false fun l146 => Q.nthOK 1 l146 fun v147 =>
Q.cmpK (cmpF .neq) (binC Try.prog .neq 42 (.tmp 104) (.const (.int .i64 (.ofNat 0))) v147 (.int .i64 (.ofNat 0))) v147 (.int .i64 (.ofNat 0)) fun v148 =>
Q.condK v148 (
Q.killVK v1 h138 fun h149 =>
K (.tup [.nils, v147]) h149 c139) (
Q.genK (loadCC tys ⟨[], 0, h138, 0⟩ 46 v1) fun v150 =>
call 79 [v150] h138 c139 fun v151 h152 c153 =>
Q.mulK (binC Try.prog .mul 3 (.const (.int .i64 (.ofNat 2))) (.tmp 108) (.int .i64 (.ofNat 2)) v151) (.int .i64 (.ofNat 2)) v151 fun v154 =>
Q.mulK (binC Try.prog .mul 3 (.tmp 109) (.const (.int .i64 (.ofNat 128))) v154 (.int .i64 (.ofNat 128))) v154 (.int .i64 (.ofNat 128)) fun v155 =>
Q.genK (convC Try.prog tys ⟨[], 0, h152, 0⟩ 3 37 v155) fun v156 =>
Q.genK (two Try.prog v93 fun v => Builtin.real_ #[30] 37 #[v]) fun v157 =>
Q.genK (two Try.prog v145 fun v => Builtin.real_ #[30] 37 #[v]) fun v158 =>
Q.addK (binC Try.prog .add 37 (.tmp 115) (.tmp 117) v157 v158) v157 v158 fun v159 =>
Q.quoK (binC Try.prog .quo 37 (.tmp 118) (.tmp 119) v159 v156) v159 v156 fun v160 =>
Q.genK (two Try.prog v93 fun v => Builtin.imag_ #[30] 37 #[v]) fun v161 =>
Q.genK (two Try.prog v145 fun v => Builtin.imag_ #[30] 37 #[v]) fun v162 =>
Q.addK (binC Try.prog .add 37 (.tmp 122) (.tmp 124) v161 v162) v161 v162 fun v163 =>
Q.quoK (binC Try.prog .quo 37 (.tmp 125) (.tmp 126) v163 v156) v163 v156 fun v164 =>
Q.genK (two2 Try.prog v160 v164 fun v u => Builtin.complex_ #[37, 37] 30 #[v, u]) fun v165 =>
Q.idxSK 1 v74 v78 fun v166 =>
Q.storeSK h152 v166 v165 fun h167 =>
Q.addK (binC Try.prog .add 3 (.tmp 67) (.const (.int .i64 (.ofNat 1))) v78 (.int .i64 (.ofNat 1))) v78 (.int .i64 (.ofNat 1)) fun v168 =>
f81 v168 h167 c153))) (Q.ifB (Q.loadSK h90 v100 fun v169 =>
call 57 [v98] h90 c91 fun v170 h171 c172 =>
Q.addK (binC Try.prog .add 3 (.tmp 89) (.tmp 91) v73 v170) v73 v170 fun v173 =>
Q.addK (binC Try.prog .add 3 (.tmp 92) (.tmp 96) v173 v136) v173 v136 fun v174 =>
call 85 [a1, v174, v169, v67] h171 c172 fun v175 _ _ => Q.knownK v175 (
Q.onTup v175 false fun l176 => Q.nthOK 0 l176 fun v177 =>
Q.onTup v175 false fun l178 => Q.nthOK 1 l178 fun v179 =>
Q.cmpK (cmpF .neq) (binC Try.prog .neq 42 (.tmp 104) (.const (.int .i64 (.ofNat 0))) v179 (.int .i64 (.ofNat 0))) v179 (.int .i64 (.ofNat 0)) fun v180 =>
Q.condK v180 (
Q.killVK v1 h171 fun h181 =>
K (.tup [.nils, v179]) h181 c172) (
Q.genK (loadCC tys ⟨[], 0, h171, 0⟩ 46 v1) fun v182 =>
call 79 [v182] h171 c172 fun v183 h184 c185 =>
Q.mulK (binC Try.prog .mul 3 (.const (.int .i64 (.ofNat 2))) (.tmp 108) (.int .i64 (.ofNat 2)) v183) (.int .i64 (.ofNat 2)) v183 fun v186 =>
Q.mulK (binC Try.prog .mul 3 (.tmp 109) (.const (.int .i64 (.ofNat 128))) v186 (.int .i64 (.ofNat 128))) v186 (.int .i64 (.ofNat 128)) fun v187 =>
Q.genK (convC Try.prog tys ⟨[], 0, h184, 0⟩ 3 37 v187) fun v188 =>
Q.genK (two Try.prog v93 fun v => Builtin.real_ #[30] 37 #[v]) fun v189 =>
Q.genK (two Try.prog v177 fun v => Builtin.real_ #[30] 37 #[v]) fun v190 =>
Q.addK (binC Try.prog .add 37 (.tmp 115) (.tmp 117) v189 v190) v189 v190 fun v191 =>
Q.quoK (binC Try.prog .quo 37 (.tmp 118) (.tmp 119) v191 v188) v191 v188 fun v192 =>
Q.genK (two Try.prog v93 fun v => Builtin.imag_ #[30] 37 #[v]) fun v193 =>
Q.genK (two Try.prog v177 fun v => Builtin.imag_ #[30] 37 #[v]) fun v194 =>
Q.addK (binC Try.prog .add 37 (.tmp 122) (.tmp 124) v193 v194) v193 v194 fun v195 =>
Q.quoK (binC Try.prog .quo 37 (.tmp 125) (.tmp 126) v195 v188) v195 v188 fun v196 =>
Q.genK (two2 Try.prog v192 v196 fun v u => Builtin.complex_ #[37, 37] 30 #[v, u]) fun v197 =>
Q.idxSK 1 v74 v78 fun v198 =>
Q.storeSK h184 v198 v197 fun h199 =>
Q.addK (binC Try.prog .add 3 (.tmp 67) (.const (.int .i64 (.ofNat 1))) v78 (.int .i64 (.ofNat 1))) v78 (.int .i64 (.ofNat 1)) fun v200 =>
f81 v200 h199 c185))) (true) false) false)) (Q.ifB (Q.loadSK h90 v100 fun v201 =>
Q.ifB (call 57 [v98] h90 c91 fun v202 h203 c204 =>
Q.addK (binC Try.prog .add 3 (.tmp 89) (.tmp 91) v73 v202) v73 v202 fun v205 =>
Q.loadSK h203 v99 fun v206 =>
Q.mulK (binC Try.prog .mul 3 (.tmp 93) (.tmp 95) v78 v206) v78 v206 fun v207 =>
Q.addK (binC Try.prog .add 3 (.tmp 92) (.tmp 96) v205 v207) v205 v207 fun v208 =>
call 85 [a1, v208, v201, v67] h203 c204 fun v209 _ _ => Q.knownK v209 (
Q.onTup v209 false fun l210 => Q.nthOK 0 l210 fun v211 =>
Q.onTup v209 false fun l212 => Q.nthOK 1 l212 fun v213 =>
Q.cmpK (cmpF .neq) (binC Try.prog .neq 42 (.tmp 104) (.const (.int .i64 (.ofNat 0))) v213 (.int .i64 (.ofNat 0))) v213 (.int .i64 (.ofNat 0)) fun v214 =>
Q.condK v214 (
Q.killVK v1 h203 fun h215 =>
K (.tup [.nils, v213]) h215 c204) (
Q.genK (loadCC tys ⟨[], 0, h203, 0⟩ 46 v1) fun v216 =>
call 79 [v216] h203 c204 fun v217 h218 c219 =>
Q.mulK (binC Try.prog .mul 3 (.const (.int .i64 (.ofNat 2))) (.tmp 108) (.int .i64 (.ofNat 2)) v217) (.int .i64 (.ofNat 2)) v217 fun v220 =>
Q.mulK (binC Try.prog .mul 3 (.tmp 109) (.const (.int .i64 (.ofNat 128))) v220 (.int .i64 (.ofNat 128))) v220 (.int .i64 (.ofNat 128)) fun v221 =>
Q.genK (convC Try.prog tys ⟨[], 0, h218, 0⟩ 3 37 v221) fun v222 =>
Q.genK (two Try.prog v93 fun v => Builtin.real_ #[30] 37 #[v]) fun v223 =>
Q.genK (two Try.prog v211 fun v => Builtin.real_ #[30] 37 #[v]) fun v224 =>
Q.addK (binC Try.prog .add 37 (.tmp 115) (.tmp 117) v223 v224) v223 v224 fun v225 =>
Q.quoK (binC Try.prog .quo 37 (.tmp 118) (.tmp 119) v225 v222) v225 v222 fun v226 =>
Q.genK (two Try.prog v93 fun v => Builtin.imag_ #[30] 37 #[v]) fun v227 =>
Q.genK (two Try.prog v211 fun v => Builtin.imag_ #[30] 37 #[v]) fun v228 =>
Q.addK (binC Try.prog .add 37 (.tmp 122) (.tmp 124) v227 v228) v227 v228 fun v229 =>
Q.quoK (binC Try.prog .quo 37 (.tmp 125) (.tmp 126) v229 v222) v229 v222 fun v230 =>
Q.genK (two2 Try.prog v226 v230 fun v u => Builtin.complex_ #[37, 37] 30 #[v, u]) fun v231 =>
Q.idxSK 1 v74 v78 fun v232 =>
Q.storeSK h218 v232 v231 fun h233 =>
Q.addK (binC Try.prog .add 3 (.tmp 67) (.const (.int .i64 (.ofNat 1))) v78 (.int .i64 (.ofNat 1))) v78 (.int .i64 (.ofNat 1)) fun v234 =>
f81 v234 h233 c219))) (Q.ifB (Q.loadSK h90 v99 fun v235 =>
Q.mulK (binC Try.prog .mul 3 (.tmp 93) (.tmp 95) v78 v235) v78 v235 fun v236 =>
Q.detK v236 (
call 57 [v98] h90 c91 fun v237 h238 c239 =>
Q.addK (binC Try.prog .add 3 (.tmp 89) (.tmp 91) v73 v237) v73 v237 fun v240 =>
Q.addK (binC Try.prog .add 3 (.tmp 92) (.tmp 96) v240 v236) v240 v236 fun v241 =>
call 85 [a1, v241, v201, v67] h238 c239 fun v242 _ _ => Q.knownK v242 (
Q.onTup v242 false fun l243 => Q.nthOK 0 l243 fun v244 =>
Q.onTup v242 false fun l245 => Q.nthOK 1 l245 fun v246 =>
Q.cmpK (cmpF .neq) (binC Try.prog .neq 42 (.tmp 104) (.const (.int .i64 (.ofNat 0))) v246 (.int .i64 (.ofNat 0))) v246 (.int .i64 (.ofNat 0)) fun v247 =>
Q.condK v247 (
Q.killVK v1 h238 fun h248 =>
K (.tup [.nils, v246]) h248 c239) (
Q.genK (loadCC tys ⟨[], 0, h238, 0⟩ 46 v1) fun v249 =>
call 79 [v249] h238 c239 fun v250 h251 c252 =>
Q.mulK (binC Try.prog .mul 3 (.const (.int .i64 (.ofNat 2))) (.tmp 108) (.int .i64 (.ofNat 2)) v250) (.int .i64 (.ofNat 2)) v250 fun v253 =>
Q.mulK (binC Try.prog .mul 3 (.tmp 109) (.const (.int .i64 (.ofNat 128))) v253 (.int .i64 (.ofNat 128))) v253 (.int .i64 (.ofNat 128)) fun v254 =>
Q.genK (convC Try.prog tys ⟨[], 0, h251, 0⟩ 3 37 v254) fun v255 =>
Q.genK (two Try.prog v93 fun v => Builtin.real_ #[30] 37 #[v]) fun v256 =>
Q.genK (two Try.prog v244 fun v => Builtin.real_ #[30] 37 #[v]) fun v257 =>
Q.addK (binC Try.prog .add 37 (.tmp 115) (.tmp 117) v256 v257) v256 v257 fun v258 =>
Q.quoK (binC Try.prog .quo 37 (.tmp 118) (.tmp 119) v258 v255) v258 v255 fun v259 =>
Q.genK (two Try.prog v93 fun v => Builtin.imag_ #[30] 37 #[v]) fun v260 =>
Q.genK (two Try.prog v244 fun v => Builtin.imag_ #[30] 37 #[v]) fun v261 =>
Q.addK (binC Try.prog .add 37 (.tmp 122) (.tmp 124) v260 v261) v260 v261 fun v262 =>
Q.quoK (binC Try.prog .quo 37 (.tmp 125) (.tmp 126) v262 v255) v262 v255 fun v263 =>
Q.genK (two2 Try.prog v259 v263 fun v u => Builtin.complex_ #[37, 37] 30 #[v, u]) fun v264 =>
Q.idxSK 1 v74 v78 fun v265 =>
Q.storeSK h251 v265 v264 fun h266 =>
Q.addK (binC Try.prog .add 3 (.tmp 67) (.const (.int .i64 (.ofNat 1))) v78 (.int .i64 (.ofNat 1))) v78 (.int .i64 (.ofNat 1)) fun v267 =>
f81 v267 h266 c252)))) (true) false) false) (true) false) false) false)))) (
Q.killVK v1 h79 fun h268 =>
K (.tup [v74, (.int .i64 (.ofNat 0))]) h268 c80)) fu (.int .i64 (.ofNat 0)) h75 c76)))) fun f44 =>
Q.guardK false v39 (Q.cmpK (cmpF .gtr) (binC Try.prog .gtr 3 (.tmp 38) (.const (.int .i64 (.ofNat 64))) v41 (.int .i64 (.ofNat 64))) v41 (.int .i64 (.ofNat 64)) fun v269 =>
f44 v269 h42 c43) (f44 (.tup []) h42 c43)) fun f40 =>
Q.guardK false v39 (f40 a3 h37 c38) (f40 (.tup []) h37 c38)) fun f35 =>
Q.guardK false v30 (Q.cmpK (cmpF .lss) (binC Try.prog .lss 3 (.tmp 34) (.const (.int .i64 (.ofNat 1))) v32 (.int .i64 (.ofNat 1))) v32 (.int .i64 (.ofNat 1)) fun v270 =>
f35 v270 h33 c34) (f35 (.tup []) h33 c34)) fun f31 =>
Q.guardK false v30 (f31 a3 h28 c29) (f31 (.tup []) h28 c29)) fun f26 =>
Q.guardK false v21 (Q.cmpK (cmpF .lss) (binC Try.prog .lss 3 (.tmp 30) (.const (.int .i64 (.ofNat 0))) v23 (.int .i64 (.ofNat 0))) v23 (.int .i64 (.ofNat 0)) fun v271 =>
f26 v271 h24 c25) (f26 (.tup []) h24 c25)) fun f22 =>
Q.guardK false v21 (f22 a2 h19 c20) (f22 (.tup []) h19 c20)) fun f17 =>
Q.guardK false v8 (Q.cmpK (cmpF .gtr) (binC Try.prog .gtr 3 (.tmp 26) (.const (.int .i64 (.ofNat 65536))) v14 (.int .i64 (.ofNat 65536))) v14 (.int .i64 (.ofNat 65536)) fun v272 =>
f17 v272 h15 c16) (f17 (.tup []) h15 c16)) fun f13 =>
Q.guardK false v8 (Q.lenF (lenC tys 26 v10) v10 fun v273 =>
f13 v273 h11 c12) (f13 (.tup []) h11 c12)) fun f9 =>
Q.guardK false v8 (f9 a1 h6 c7) (f9 (.tup []) h6 c7)
theorem R64_eq (Q : Prim) (fu : Nat) (call : CallK) : curryA 4 (fnK Q Try.prog tys stl fu call e64) = R64 Q fu call := by kernel_rfl
noncomputable def n64 : List CV → HP → Nat → KV → Bool := appF 4 (R64 real 1000000 d7.fn)
theorem n64_ok : ∀ args hp c K, n64 args hp c K = true → Out (fun N => enterK Try.prog tys tab (execC Try.prog tys stl tab N) 64 args hp c) (stl 64 = true) fun p => K p.1 p.2.1 p.2.2 = true := node_ok d7_ok (by kernel_rfl) rfl g64 (R64_eq _ _ _)
noncomputable def d8 : Disp := (.node 59 n59 (.node 45 n45 (.node 25 n25 (.node 21 n21 (.node 19 n19 (.node 18 n18 .leaf .leaf) .leaf) (.node 23 n23 (.node 22 n22 .leaf .leaf) .leaf)) (.node 42 n42 (.node 35 n35 (.node 33 n33 .leaf .leaf) .leaf) (.node 43 n43 .leaf .leaf))) (.node 54 n54 (.node 48 n48 (.node 47 n47 (.node 46 n46 .leaf .leaf) .leaf) (.node 52 n52 .leaf .leaf)) (.node 57 n57 (.node 56 n56 (.node 55 n55 .leaf .leaf) .leaf) (.node 58 n58 .leaf .leaf)))) (.node 80 n80 (.node 73 n73 (.node 66 n66 (.node 65 n65 (.node 64 n64 .leaf .leaf) .leaf) (.node 72 n72 (.node 71 n71 .leaf .leaf) .leaf)) (.node 78 n78 (.node 77 n77 (.node 74 n74 .leaf .leaf) .leaf) (.node 79 n79 .leaf .leaf))) (.node 95 n95 (.node 85 n85 (.node 82 n82 (.node 81 n81 .leaf .leaf) .leaf) (.node 86 n86 .leaf .leaf)) (.node 105 n105 (.node 104 n104 (.node 96 n96 .leaf .leaf) .leaf) (.node 107 n107 .leaf .leaf)))))
theorem d8_ok : CallSim Try.prog tys stl tab d8.fn := Disp.sim ⟨n59_ok, ⟨n45_ok, ⟨n25_ok, ⟨n21_ok, ⟨n19_ok, ⟨n18_ok, True.intro, True.intro⟩, True.intro⟩, ⟨n23_ok, ⟨n22_ok, True.intro, True.intro⟩, True.intro⟩⟩, ⟨n42_ok, ⟨n35_ok, ⟨n33_ok, True.intro, True.intro⟩, True.intro⟩, ⟨n43_ok, True.intro, True.intro⟩⟩⟩, ⟨n54_ok, ⟨n48_ok, ⟨n47_ok, ⟨n46_ok, True.intro, True.intro⟩, True.intro⟩, ⟨n52_ok, True.intro, True.intro⟩⟩, ⟨n57_ok, ⟨n56_ok, ⟨n55_ok, True.intro, True.intro⟩, True.intro⟩, ⟨n58_ok, True.intro, True.intro⟩⟩⟩⟩, ⟨n80_ok, ⟨n73_ok, ⟨n66_ok, ⟨n65_ok, ⟨n64_ok, True.intro, True.intro⟩, True.intro⟩, ⟨n72_ok, ⟨n71_ok, True.intro, True.intro⟩, True.intro⟩⟩, ⟨n78_ok, ⟨n77_ok, ⟨n74_ok, True.intro, True.intro⟩, True.intro⟩, ⟨n79_ok, True.intro, True.intro⟩⟩⟩, ⟨n95_ok, ⟨n85_ok, ⟨n82_ok, ⟨n81_ok, True.intro, True.intro⟩, True.intro⟩, ⟨n86_ok, True.intro, True.intro⟩⟩, ⟨n105_ok, ⟨n104_ok, ⟨n96_ok, True.intro, True.intro⟩, True.intro⟩, ⟨n107_ok, True.intro, True.intro⟩⟩⟩⟩⟩
/- foghorn/near.Add -/
noncomputable def R30 (Q : Prim) (fu : Nat) (call : CallK) (a0 : CV) (a1 : CV) (a2 : CV) (h0 : HP) (c0 : Nat) (K : KV) : Bool :=
call 48 [(.flt .f64 4607182418800017408)] h0 c0 fun v1 h2 c3 =>
call 54 [a0, a1, a2, v1] h2 c3 fun v4 h5 c6 =>
Q.onTup v4 false fun l7 => Q.nthOK 0 l7 fun v8 =>
Q.onTup v4 false fun l9 => Q.nthOK 1 l9 fun v10 =>
K (.tup [v8, v10]) h5 c6
theorem R30_eq (Q : Prim) (fu : Nat) (call : CallK) : curryA 3 (fnK Q Try.prog tys stl fu call e30) = R30 Q fu call := by kernel_rfl
noncomputable def n30 : List CV → HP → Nat → KV → Bool := appF 3 (R30 real 1000000 d8.fn)
theorem n30_ok : ∀ args hp c K, n30 args hp c K = true → Out (fun N => enterK Try.prog tys tab (execC Try.prog tys stl tab N) 30 args hp c) (stl 30 = true) fun p => K p.1 p.2.1 p.2.2 = true := node_ok d8_ok (by kernel_rfl) rfl g30 (R30_eq _ _ _)
/- foghorn/near.Off -/
noncomputable def R31 (Q : Prim) (fu : Nat) (call : CallK) (a0 : CV) (a1 : CV) (a2 : CV) (h0 : HP) (c0 : Nat) (K : KV) : Bool :=
call 48 [(.flt .f64 13830554455654793216)] h0 c0 fun v1 h2 c3 =>
call 54 [a0, a1, a2, v1] h2 c3 fun v4 h5 c6 =>
Q.onTup v4 false fun l7 => Q.nthOK 0 l7 fun v8 =>
Q.onTup v4 false fun l9 => Q.nthOK 1 l9 fun v10 =>
K (.tup [v8, v10]) h5 c6
theorem R31_eq (Q : Prim) (fu : Nat) (call : CallK) : curryA 3 (fnK Q Try.prog tys stl fu call e31) = R31 Q fu call := by kernel_rfl
noncomputable def n31 : List CV → HP → Nat → KV → Bool := appF 3 (R31 real 1000000 d8.fn)
theorem n31_ok : ∀ args hp c K, n31 args hp c K = true → Out (fun N => enterK Try.prog tys tab (execC Try.prog tys stl tab N) 31 args hp c) (stl 31 = true) fun p => K p.1 p.2.1 p.2.2 = true := node_ok d8_ok (by kernel_rfl) rfl g31 (R31_eq _ _ _)
/- (foghorn/train.Plan).Taps -/
noncomputable def R40 (Q : Prim) (fu : Nat) (call : CallK) (a0 : CV) (a1 : CV) (a2 : CV) (a3 : CV) (h0 : HP) (c0 : Nat) (K : KV) : Bool :=
Q.genM (boxC ⟨[], 0, h0, c0⟩ a0) fun v1 h2 c3 =>
Q.genK (loadCC tys ⟨[], 0, h2, 0⟩ 46 v1) fun v4 =>
call 64 [v4, a1, a2, a3] h2 c3 fun v5 h6 c7 =>
Q.onTup v5 false fun l8 => Q.nthOK 0 l8 fun v9 =>
Q.onTup v5 false fun l10 => Q.nthOK 1 l10 fun v11 =>
Q.cmpK (cmpF .neq) (binC Try.prog .neq 42 (.tmp 26) (.const (.int .i64 (.ofNat 0))) v11 (.int .i64 (.ofNat 0))) v11 (.int .i64 (.ofNat 0)) fun v12 =>
Q.condK v12 (
Q.killVK v1 h6 fun h13 =>
K (.tup [.nils, v11]) h13 c7) (
Q.lenF (lenC tys 28 v9) v9 fun v14 =>
@Nat.rec (fun _ => Fun 1) (fun _ _ _ => false) (fun _ f18 v15 h16 c17 =>
Q.cmpK (cmpF .lss) (binC Try.prog .lss 3 (.tmp 31) (.tmp 30) v15 v14) v15 v14 fun v19 =>
Q.condK v19 (
Q.idxSK 1 v9 v15 fun v20 =>
Q.loadSK h16 v20 fun v21 =>
Q.genK (two Try.prog v21 fun v => Builtin.real_ #[30] 37 #[v]) fun v22 =>
call 65 [v22] h16 c17 fun v23 h24 c25 =>
Q.onTup v23 false fun l26 => Q.nthOK 0 l26 fun v27 =>
Q.onTup v23 false fun l28 => Q.nthOK 1 l28 fun v29 =>
Q.genK (two Try.prog v21 fun v => Builtin.imag_ #[30] 37 #[v]) fun v30 =>
call 65 [v30] h24 c25 fun v31 h32 c33 =>
Q.onTup v31 false fun l34 => Q.nthOK 0 l34 fun v35 =>
Q.onTup v31 false fun l36 => Q.nthOK 1 l36 fun v37 =>
Q.genK (two2 Try.prog v27 v35 fun v u => Builtin.complex_ #[37, 37] 30 #[v, u]) fun v38 =>
Q.idxSK 1 v9 v15 fun v39 =>
Q.storeSK h32 v39 v38 fun h40 =>
Q.addK (binC Try.prog .add 3 (.tmp 31) (.const (.int .i64 (.ofNat 1))) v15 (.int .i64 (.ofNat 1))) v15 (.int .i64 (.ofNat 1)) fun v41 =>
f18 v41 h40 c33) (
call 66 [v9] h16 c17 fun v42 h43 c44 =>
Q.notK (two Try.prog v42 (Op.unary .not)) v42 fun v45 =>
Q.condK v45 (
Q.killVK v1 h43 fun h46 =>
K (.tup [.nils, (.int .i64 (.ofNat 8))]) h46 c44) (
Q.killVK v1 h43 fun h47 =>
K (.tup [v9, (.int .i64 (.ofNat 0))]) h47 c44))) fu (.int .i64 (.ofNat 0)) h6 c7)
theorem R40_eq (Q : Prim) (fu : Nat) (call : CallK) : curryA 4 (fnK Q Try.prog tys stl fu call e40) = R40 Q fu call := by kernel_rfl
noncomputable def n40 : List CV → HP → Nat → KV → Bool := appF 4 (R40 real 1000000 d8.fn)
theorem n40_ok : ∀ args hp c K, n40 args hp c K = true → Out (fun N => enterK Try.prog tys tab (execC Try.prog tys stl tab N) 40 args hp c) (stl 40 = true) fun p => K p.1 p.2.1 p.2.2 = true := node_ok d8_ok (by kernel_rfl) rfl g40 (R40_eq _ _ _)
noncomputable def d9 : Disp := (.node 58 n58 (.node 42 n42 (.node 25 n25 (.node 21 n21 (.node 19 n19 (.node 18 n18 .leaf .leaf) .leaf) (.node 23 n23 (.node 22 n22 .leaf .leaf) .leaf)) (.node 33 n33 (.node 31 n31 (.node 30 n30 .leaf .leaf) .leaf) (.node 40 n40 (.node 35 n35 .leaf .leaf) .leaf))) (.node 52 n52 (.node 46 n46 (.node 45 n45 (.node 43 n43 .leaf .leaf) .leaf) (.node 48 n48 (.node 47 n47 .leaf .leaf) .leaf)) (.node 56 n56 (.node 55 n55 (.node 54 n54 .leaf .leaf) .leaf) (.node 57 n57 .leaf .leaf)))) (.node 79 n79 (.node 72 n72 (.node 65 n65 (.node 64 n64 (.node 59 n59 .leaf .leaf) .leaf) (.node 71 n71 (.node 66 n66 .leaf .leaf) .leaf)) (.node 77 n77 (.node 74 n74 (.node 73 n73 .leaf .leaf) .leaf) (.node 78 n78 .leaf .leaf))) (.node 95 n95 (.node 82 n82 (.node 81 n81 (.node 80 n80 .leaf .leaf) .leaf) (.node 86 n86 (.node 85 n85 .leaf .leaf) .leaf)) (.node 105 n105 (.node 104 n104 (.node 96 n96 .leaf .leaf) .leaf) (.node 107 n107 .leaf .leaf)))))
theorem d9_ok : CallSim Try.prog tys stl tab d9.fn := Disp.sim ⟨n58_ok, ⟨n42_ok, ⟨n25_ok, ⟨n21_ok, ⟨n19_ok, ⟨n18_ok, True.intro, True.intro⟩, True.intro⟩, ⟨n23_ok, ⟨n22_ok, True.intro, True.intro⟩, True.intro⟩⟩, ⟨n33_ok, ⟨n31_ok, ⟨n30_ok, True.intro, True.intro⟩, True.intro⟩, ⟨n40_ok, ⟨n35_ok, True.intro, True.intro⟩, True.intro⟩⟩⟩, ⟨n52_ok, ⟨n46_ok, ⟨n45_ok, ⟨n43_ok, True.intro, True.intro⟩, True.intro⟩, ⟨n48_ok, ⟨n47_ok, True.intro, True.intro⟩, True.intro⟩⟩, ⟨n56_ok, ⟨n55_ok, ⟨n54_ok, True.intro, True.intro⟩, True.intro⟩, ⟨n57_ok, True.intro, True.intro⟩⟩⟩⟩, ⟨n79_ok, ⟨n72_ok, ⟨n65_ok, ⟨n64_ok, ⟨n59_ok, True.intro, True.intro⟩, True.intro⟩, ⟨n71_ok, ⟨n66_ok, True.intro, True.intro⟩, True.intro⟩⟩, ⟨n77_ok, ⟨n74_ok, ⟨n73_ok, True.intro, True.intro⟩, True.intro⟩, ⟨n78_ok, True.intro, True.intro⟩⟩⟩, ⟨n95_ok, ⟨n82_ok, ⟨n81_ok, ⟨n80_ok, True.intro, True.intro⟩, True.intro⟩, ⟨n86_ok, ⟨n85_ok, True.intro, True.intro⟩, True.intro⟩⟩, ⟨n105_ok, ⟨n104_ok, ⟨n96_ok, True.intro, True.intro⟩, True.intro⟩, ⟨n107_ok, True.intro, True.intro⟩⟩⟩⟩⟩
/- foghorn/foghornlaw15.awake -/
noncomputable def R15 (Q : Prim) (fu : Nat) (call : CallK) (h0 : HP) (c0 : Nat) (K : KV) : Bool :=
Q.genM (buildSliceV tys ⟨[], 0, h0, c0⟩ 28 2 [(0, (.cpx .f64 4607182418800017408 0)), (1, (.cpx .f64 4611686018427387904 0))]) fun v1 h2 c3 =>
Q.genM (buildSliceV tys ⟨[], 0, h2, c3⟩ 28 1 [(0, (.cpx .f64 0 4602678819172646912))]) fun v4 h5 c6 =>
call 33 [v1, v4, (.int .i64 (.ofNat 3))] h5 c6 fun v7 h8 c9 =>
Q.onTup v7 false fun l10 => Q.nthOK 0 l10 fun v11 =>
Q.onTup v7 false fun l12 => Q.nthOK 1 l12 fun v13 =>
Q.genK (buildV tys 32 [(0, (.cpx .f64 4615063718147915776 0))]) fun v14 =>
Q.genK (buildV tys 32 [(1, (.bool true))]) fun v15 =>
Q.genM (buildSliceV tys ⟨[], 0, h8, c9⟩ 26 2 [(0, v14), (1, v15)]) fun v16 h17 c18 =>
Q.genM (buildSliceV tys ⟨[], 0, h17, c18⟩ 28 2 [(0, (.cpx .f64 4607182418800017408 0)), (1, (.cpx .f64 4607182418800017408 0))]) fun v19 h20 c21 =>
Q.genM (buildSliceV tys ⟨[], 0, h20, c21⟩ 28 1 [(0, (.cpx .f64 4602678819172646912 0))]) fun v22 h23 c24 =>
call 31 [v16, v19, v22] h23 c24 fun v25 h26 c27 =>
Q.onTup v25 false fun l28 => Q.nthOK 0 l28 fun v29 =>
Q.onTup v25 false fun l30 => Q.nthOK 1 l30 fun v31 =>
Q.cmpK (cmpF .eql) (binC Try.prog .eql 42 (.tmp 20) (.const (.int .i64 (.ofNat 0))) v13 (.int .i64 (.ofNat 0))) v13 (.int .i64 (.ofNat 0)) fun v32 =>
Q.share _ (fun v34 h35 c36 =>
Q.share _ (fun v38 h39 c40 =>
Q.pickK v32 v38 (.bool false) fun v41 =>
Q.share _ (fun v43 h44 c45 =>
Q.share _ (fun v47 h48 c49 =>
Q.share _ (fun v51 h52 c53 =>
Q.pickK v41 v51 (.bool false) fun v54 =>
Q.share _ (fun v56 h57 c58 =>
Q.share _ (fun v60 h61 c62 =>
Q.share _ (fun v64 h65 c66 =>
Q.pickK v54 v64 (.bool false) fun v67 =>
Q.share _ (fun v69 h70 c71 =>
Q.share _ (fun v73 h74 c75 =>
Q.share _ (fun v77 h78 c79 =>
Q.share _ (fun v81 h82 c83 =>
Q.share _ (fun v85 h86 c87 =>
Q.pickK v67 v85 (.bool false) fun v88 =>
Q.share _ (fun v90 h91 c92 =>
Q.share _ (fun v94 h95 c96 =>
Q.share _ (fun v98 h99 c100 =>
Q.share _ (fun v102 h103 c104 =>
Q.pickK v88 v102 (.bool false) fun v105 =>
K v105 h103 c104) fun f101 =>
Q.guardK true v88 (Q.loadSK h99 v98 fun v106 =>
f101 v106 h99 c100) (f101 (.tup []) h99 c100)) fun f97 =>
Q.guardK true v88 (Q.fadK 1 v94 fun v107 =>
f97 v107 h95 c96) (f97 (.tup []) h95 c96)) fun f93 =>
Q.guardK true v88 (Q.idxSK 2 v90 (.int .i64 (.ofNat 1)) fun v108 =>
f93 v108 h91 c92) (f93 (.tup []) h91 c92)) fun f89 =>
Q.guardK true v88 (f89 v29 h86 c87) (f89 (.tup []) h86 c87)) fun f84 =>
Q.guardK true v67 (Q.cmpK (cmpF .eql) (binC Try.prog .eql 30 (.tmp 40) (.const (.complex .f64 4613937818241073152 0)) v81 (.cpx .f64 4613937818241073152 0)) v81 (.cpx .f64 4613937818241073152 0) fun v109 =>
f84 v109 h82 c83) (f84 (.tup []) h82 c83)) fun f80 =>
Q.guardK true v67 (Q.loadSK h78 v77 fun v110 =>
f80 v110 h78 c79) (f80 (.tup []) h78 c79)) fun f76 =>
Q.guardK true v67 (Q.fadK 0 v73 fun v111 =>
f76 v111 h74 c75) (f76 (.tup []) h74 c75)) fun f72 =>
Q.guardK true v67 (Q.idxSK 2 v69 (.int .i64 (.ofNat 0)) fun v112 =>
f72 v112 h70 c71) (f72 (.tup []) h70 c71)) fun f68 =>
Q.guardK true v67 (f68 v29 h65 c66) (f68 (.tup []) h65 c66)) fun f63 =>
Q.guardK true v54 (Q.cmpK (cmpF .eql) (binC Try.prog .eql 3 (.tmp 33) (.const (.int .i64 (.ofNat 2))) v60 (.int .i64 (.ofNat 2))) v60 (.int .i64 (.ofNat 2)) fun v113 =>
f63 v113 h61 c62) (f63 (.tup []) h61 c62)) fun f59 =>
Q.guardK true v54 (Q.lenF (lenC tys 26 v56) v56 fun v114 =>
f59 v114 h57 c58) (f59 (.tup []) h57 c58)) fun f55 =>
Q.guardK true v54 (f55 v29 h52 c53) (f55 (.tup []) h52 c53)) fun f50 =>
Q.guardK true v41 (call 18 [v43, v47] h48 c49 fun v115 h116 c117 =>
f50 v115 h116 c117) (f50 (.tup []) h48 c49)) fun f46 =>
Q.guardK true v41 (Q.genM (buildSliceV tys ⟨[], 0, h44, c45⟩ 28 3 [(0, (.cpx .f64 0 4602678819172646912)), (1, (.cpx .f64 0 4607182418800017408)), (2, (.cpx .f64 0 0))]) fun v118 h119 c120 =>
f46 v118 h119 c120) (f46 (.tup []) h44 c45)) fun f42 =>
Q.guardK true v41 (f42 v11 h39 c40) (f42 (.tup []) h39 c40)) fun f37 =>
Q.guardK true v32 (Q.cmpK (cmpF .eql) (binC Try.prog .eql 42 (.tmp 23) (.const (.int .i64 (.ofNat 0))) v34 (.int .i64 (.ofNat 0))) v34 (.int .i64 (.ofNat 0)) fun v121 =>
f37 v121 h35 c36) (f37 (.tup []) h35 c36)) fun f33 =>
Q.guardK true v32 (f33 v31 h26 c27) (f33 (.tup []) h26 c27)
theorem R15_eq (Q : Prim) (fu : Nat) (call : CallK) : curryA 0 (fnK Q Try.prog tys stl fu call e15) = R15 Q fu call := by kernel_rfl
noncomputable def n15 : List CV → HP → Nat → KV → Bool := appF 0 (R15 real 1000000 d9.fn)
theorem n15_ok : ∀ args hp c K, n15 args hp c K = true → Out (fun N => enterK Try.prog tys tab (execC Try.prog tys stl tab N) 15 args hp c) (stl 15 = true) fun p => K p.1 p.2.1 p.2.2 = true := node_ok d9_ok (by kernel_rfl) rfl g15 (R15_eq _ _ _)
/- foghorn/near.Learn -/
noncomputable def R16 (Q : Prim) (fu : Nat) (call : CallK) (a0 : CV) (a1 : CV) (a2 : CV) (a3 : CV) (h0 : HP) (c0 : Nat) (K : KV) : Bool :=
Q.genM (boxC ⟨[], 0, h0, c0⟩ a0) fun v1 h2 c3 =>
Q.fadK 1 v1 fun v4 =>
Q.loadSK h2 v4 fun v5 =>
Q.cmpK (cmpF .neq) (binC Try.prog .neq 3 (.tmp 11) (.const (.int .i64 (.ofNat 1))) v5 (.int .i64 (.ofNat 1))) v5 (.int .i64 (.ofNat 1)) fun v6 =>
Q.condK v6 (
Q.killVK v1 h2 fun h7 =>
K (.tup [.nils, (.int .i64 (.ofNat 1))]) h7 c3) (
Q.genK (loadCC tys ⟨[], 0, h2, 0⟩ 46 v1) fun v8 =>
call 40 [v8, a1, a2, a3] h2 c3 fun v9 h10 c11 =>
Q.onTup v9 false fun l12 => Q.nthOK 0 l12 fun v13 =>
Q.onTup v9 false fun l14 => Q.nthOK 1 l14 fun v15 =>
Q.killVK v1 h10 fun h16 =>
K (.tup [v13, v15]) h16 c11)
theorem R16_eq (Q : Prim) (fu : Nat) (call : CallK) : curryA 4 (fnK Q Try.prog tys stl fu call e16) = R16 Q fu call := by kernel_rfl
noncomputable def n16 : List CV → HP → Nat → KV → Bool := appF 4 (R16 real 1000000 d9.fn)
theorem n16_ok : ∀ args hp c K, n16 args hp c K = true → Out (fun N => enterK Try.prog tys tab (execC Try.prog tys stl tab N) 16 args hp c) (stl 16 = true) fun p => K p.1 p.2.1 p.2.2 = true := node_ok d9_ok (by kernel_rfl) rfl g16 (R16_eq _ _ _)
noncomputable def d10 : Disp := (.node 57 n57 (.node 35 n35 (.node 22 n22 (.node 18 n18 (.node 16 n16 (.node 15 n15 .leaf .leaf) .leaf) (.node 21 n21 (.node 19 n19 .leaf .leaf) .leaf)) (.node 30 n30 (.node 25 n25 (.node 23 n23 .leaf .leaf) .leaf) (.node 33 n33 (.node 31 n31 .leaf .leaf) .leaf))) (.node 47 n47 (.node 43 n43 (.node 42 n42 (.node 40 n40 .leaf .leaf) .leaf) (.node 46 n46 (.node 45 n45 .leaf .leaf) .leaf)) (.node 54 n54 (.node 52 n52 (.node 48 n48 .leaf .leaf) .leaf) (.node 56 n56 (.node 55 n55 .leaf .leaf) .leaf)))) (.node 79 n79 (.node 71 n71 (.node 64 n64 (.node 59 n59 (.node 58 n58 .leaf .leaf) .leaf) (.node 66 n66 (.node 65 n65 .leaf .leaf) .leaf)) (.node 74 n74 (.node 73 n73 (.node 72 n72 .leaf .leaf) .leaf) (.node 78 n78 (.node 77 n77 .leaf .leaf) .leaf))) (.node 95 n95 (.node 82 n82 (.node 81 n81 (.node 80 n80 .leaf .leaf) .leaf) (.node 86 n86 (.node 85 n85 .leaf .leaf) .leaf)) (.node 105 n105 (.node 104 n104 (.node 96 n96 .leaf .leaf) .leaf) (.node 107 n107 .leaf .leaf)))))
theorem d10_ok : CallSim Try.prog tys stl tab d10.fn := Disp.sim ⟨n57_ok, ⟨n35_ok, ⟨n22_ok, ⟨n18_ok, ⟨n16_ok, ⟨n15_ok, True.intro, True.intro⟩, True.intro⟩, ⟨n21_ok, ⟨n19_ok, True.intro, True.intro⟩, True.intro⟩⟩, ⟨n30_ok, ⟨n25_ok, ⟨n23_ok, True.intro, True.intro⟩, True.intro⟩, ⟨n33_ok, ⟨n31_ok, True.intro, True.intro⟩, True.intro⟩⟩⟩, ⟨n47_ok, ⟨n43_ok, ⟨n42_ok, ⟨n40_ok, True.intro, True.intro⟩, True.intro⟩, ⟨n46_ok, ⟨n45_ok, True.intro, True.intro⟩, True.intro⟩⟩, ⟨n54_ok, ⟨n52_ok, ⟨n48_ok, True.intro, True.intro⟩, True.intro⟩, ⟨n56_ok, ⟨n55_ok, True.intro, True.intro⟩, True.intro⟩⟩⟩⟩, ⟨n79_ok, ⟨n71_ok, ⟨n64_ok, ⟨n59_ok, ⟨n58_ok, True.intro, True.intro⟩, True.intro⟩, ⟨n66_ok, ⟨n65_ok, True.intro, True.intro⟩, True.intro⟩⟩, ⟨n74_ok, ⟨n73_ok, ⟨n72_ok, True.intro, True.intro⟩, True.intro⟩, ⟨n78_ok, ⟨n77_ok, True.intro, True.intro⟩, True.intro⟩⟩⟩, ⟨n95_ok, ⟨n82_ok, ⟨n81_ok, ⟨n80_ok, True.intro, True.intro⟩, True.intro⟩, ⟨n86_ok, ⟨n85_ok, True.intro, True.intro⟩, True.intro⟩⟩, ⟨n105_ok, ⟨n104_ok, ⟨n96_ok, True.intro, True.intro⟩, True.intro⟩, ⟨n107_ok, True.intro, True.intro⟩⟩⟩⟩⟩
/- foghorn/foghornlaw15.NearNone -/
noncomputable def R8 (Q : Prim) (fu : Nat) (call : CallK) (h0 : HP) (c0 : Nat) (K : KV) : Bool :=
Q.genK (buildV tys 32 []) fun v1 =>
call 23 [.nilp, (.cpx .f64 0 0), v1] h0 c0 fun v2 h3 c4 =>
Q.onTup v2 false fun l5 => Q.nthOK 0 l5 fun v6 =>
Q.onTup v2 false fun l7 => Q.nthOK 1 l7 fun v8 =>
Q.genM (allocC tys ⟨[], 0, h3, c4⟩ 32) fun v9 h10 c11 =>
Q.storeAK (storeC tys ⟨[], 0, h10, 0⟩ 32 v9 v6) fun h12 =>
call 21 [.nilp] h12 c11 fun v13 h14 c15 =>
call 33 [.nils, .nils, (.int .i64 (.negSucc 0))] h14 c15 fun v16 h17 c18 =>
Q.onTup v16 false fun l19 => Q.nthOK 0 l19 fun v20 =>
Q.onTup v16 false fun l21 => Q.nthOK 1 l21 fun v22 =>
Q.genM (makeC tys ⟨[], 0, h17, c18⟩ 28 (.int .i64 (.ofNat 65537)) (.int .i64 (.ofNat 65537))) fun v23 h24 c25 =>
call 33 [v23, .nils, (.int .i64 (.ofNat 0))] h24 c25 fun v26 h27 c28 =>
Q.onTup v26 false fun l29 => Q.nthOK 0 l29 fun v30 =>
Q.onTup v26 false fun l31 => Q.nthOK 1 l31 fun v32 =>
Q.genM (buildSliceV tys ⟨[], 0, h27, c28⟩ 28 1 [(0, (.cpx .f64 4638707616191610880 13862079653046386688))]) fun v33 h34 c35 =>
Q.genM (buildSliceV tys ⟨[], 0, h34, c35⟩ 28 1 [(0, (.cpx .f64 4607182418800017408 4607182418800017408))]) fun v36 h37 c38 =>
call 33 [v33, v36, (.int .i64 (.ofNat 1))] h37 c38 fun v39 h40 c41 =>
Q.onTup v39 false fun l42 => Q.nthOK 0 l42 fun v43 =>
Q.onTup v39 false fun l44 => Q.nthOK 1 l44 fun v45 =>
Q.genM (buildSliceV tys ⟨[], 0, h40, c41⟩ 28 1 [(0, (.cpx .f64 4638708165947424768 0))]) fun v46 h47 c48 =>
call 33 [v46, .nils, (.int .i64 (.ofNat 0))] h47 c48 fun v49 h50 c51 =>
Q.onTup v49 false fun l52 => Q.nthOK 0 l52 fun v53 =>
Q.onTup v49 false fun l54 => Q.nthOK 1 l54 fun v55 =>
Q.genM (buildSliceV tys ⟨[], 0, h50, c51⟩ 28 1 [(0, (.cpx .f64 4575657221408423936 0))]) fun v56 h57 c58 =>
call 33 [v56, .nils, (.int .i64 (.ofNat 0))] h57 c58 fun v59 h60 c61 =>
Q.onTup v59 false fun l62 => Q.nthOK 0 l62 fun v63 =>
Q.onTup v59 false fun l64 => Q.nthOK 1 l64 fun v65 =>
Q.genM (buildSliceV tys ⟨[], 0, h60, c61⟩ 28 1 [(0, (.cpx .f64 4609434218613702656 0))]) fun v66 h67 c68 =>
call 33 [.nils, v66, (.int .i64 (.ofNat 0))] h67 c68 fun v69 h70 c71 =>
Q.onTup v69 false fun l72 => Q.nthOK 0 l72 fun v73 =>
Q.onTup v69 false fun l74 => Q.nthOK 1 l74 fun v75 =>
Q.genM (makeC tys ⟨[], 0, h70, c71⟩ 28 (.int .i64 (.ofNat 65)) (.int .i64 (.ofNat 65))) fun v76 h77 c78 =>
call 33 [.nils, v76, (.int .i64 (.ofNat 0))] h77 c78 fun v79 h80 c81 =>
Q.onTup v79 false fun l82 => Q.nthOK 0 l82 fun v83 =>
Q.onTup v79 false fun l84 => Q.nthOK 1 l84 fun v85 =>
Q.genM (buildSliceV tys ⟨[], 0, h80, c81⟩ 28 3 [(0, (.cpx .f64 4607182418800017408 4607182418800017408)), (1, (.cpx .f64 4607182418800017408 4607182418800017408)), (2, (.cpx .f64 4580160821035794432 0))]) fun v86 h87 c88 =>
call 33 [.nils, v86, (.int .i64 (.ofNat 0))] h87 c88 fun v89 h90 c91 =>
Q.onTup v89 false fun l92 => Q.nthOK 0 l92 fun v93 =>
Q.onTup v89 false fun l94 => Q.nthOK 1 l94 fun v95 =>
Q.genM (makeC tys ⟨[], 0, h90, c91⟩ 26 (.int .i64 (.ofNat 65537)) (.int .i64 (.ofNat 65537))) fun v96 h97 c98 =>
call 31 [v96, .nils, .nils] h97 c98 fun v99 h100 c101 =>
Q.onTup v99 false fun l102 => Q.nthOK 0 l102 fun v103 =>
Q.onTup v99 false fun l104 => Q.nthOK 1 l104 fun v105 =>
Q.genK (buildV tys 32 [(0, (.cpx .f64 4656510908468559872 0))]) fun v106 =>
Q.genM (buildSliceV tys ⟨[], 0, h100, c101⟩ 26 1 [(0, v106)]) fun v107 h108 c109 =>
call 31 [v107, .nils, .nils] h108 c109 fun v110 h111 c112 =>
Q.onTup v110 false fun l113 => Q.nthOK 0 l113 fun v114 =>
Q.onTup v110 false fun l115 => Q.nthOK 1 l115 fun v116 =>
Q.genK (buildV tys 46 [(0, (.int .i64 (.ofNat 1))), (1, (.int .i64 (.ofNat 2))), (2, (.int .i64 (.ofNat 1)))]) fun v117 =>
call 16 [v117, .nils, (.int .i64 (.ofNat 0)), (.int .i64 (.ofNat 1))] h111 c112 fun v118 h119 c120 =>
Q.onTup v118 false fun l121 => Q.nthOK 0 l121 fun v122 =>
Q.onTup v118 false fun l123 => Q.nthOK 1 l123 fun v124 =>
call 35 [.nils] h119 c120 fun v125 h126 c127 =>
Q.onTup v125 false fun l128 => Q.nthOK 0 l128 fun v129 =>
Q.onTup v125 false fun l130 => Q.nthOK 1 l130 fun v131 =>
Q.onTup v125 false fun l132 => Q.nthOK 2 l132 fun v133 =>
Q.genM (buildSliceV tys ⟨[], 0, h126, c127⟩ 28 1 [(0, (.cpx .f64 4611686018427387904 0))]) fun v134 h135 c136 =>
call 19 [v134] h135 c136 fun v137 h138 c139 =>
Q.onTup v137 false fun l140 => Q.nthOK 0 l140 fun v141 =>
Q.onTup v137 false fun l142 => Q.nthOK 1 l142 fun v143 =>
Q.genK (buildV tys 32 [(0, (.cpx .f64 4652218415073722368 0))]) fun v144 =>
Q.genM (buildSliceV tys ⟨[], 0, h138, c139⟩ 26 1 [(0, v144)]) fun v145 h146 c147 =>
Q.genM (buildSliceV tys ⟨[], 0, h146, c147⟩ 28 1 [(0, (.cpx .f64 4607182418800017408 0))]) fun v148 h149 c150 =>
Q.genM (buildSliceV tys ⟨[], 0, h149, c150⟩ 28 1 [(0, (.cpx .f64 4607182418800017408 0))]) fun v151 h152 c153 =>
call 30 [v145, v148, v151] h152 c153 fun v154 h155 c156 =>
Q.onTup v154 false fun l157 => Q.nthOK 0 l157 fun v158 =>
Q.onTup v154 false fun l159 => Q.nthOK 1 l159 fun v160 =>
Q.cmpK (cmpF .eql) (binC Try.prog .eql 42 (.tmp 116) (.const (.int .i64 (.ofNat 2))) v8 (.int .i64 (.ofNat 2))) v8 (.int .i64 (.ofNat 2)) fun v161 =>
Q.share _ (fun v163 h164 c165 =>
Q.share _ (fun v167 h168 c169 =>
Q.pickK v161 v167 (.bool false) fun v170 =>
Q.share _ (fun v172 h173 c174 =>
Q.share _ (fun v176 h177 c178 =>
Q.share _ (fun v180 h181 c182 =>
Q.pickK v170 v180 (.bool false) fun v183 =>
Q.share _ (fun v185 h186 c187 =>
Q.share _ (fun v189 h190 c191 =>
Q.pickK v183 v189 (.bool false) fun v192 =>
Q.share _ (fun v194 h195 c196 =>
Q.share _ (fun v198 h199 c200 =>
Q.pickK v192 v198 (.bool false) fun v201 =>
Q.share _ (fun v203 h204 c205 =>
Q.share _ (fun v207 h208 c209 =>
Q.share _ (fun v211 h212 c213 =>
Q.pickK v201 v211 (.bool false) fun v214 =>
Q.share _ (fun v216 h217 c218 =>
Q.share _ (fun v220 h221 c222 =>
Q.share _ (fun v224 h225 c226 =>
Q.share _ (fun v228 h229 c230 =>
Q.pickK v214 v228 (.bool false) fun v231 =>
Q.share _ (fun v233 h234 c235 =>
Q.share _ (fun v237 h238 c239 =>
Q.pickK v231 v237 (.bool false) fun v240 =>
Q.share _ (fun v242 h243 c244 =>
Q.share _ (fun v246 h247 c248 =>
Q.pickK v240 v246 (.bool false) fun v249 =>
Q.share _ (fun v251 h252 c253 =>
Q.share _ (fun v255 h256 c257 =>
Q.pickK v249 v255 (.bool false) fun v258 =>
Q.share _ (fun v260 h261 c262 =>
Q.share _ (fun v264 h265 c266 =>
Q.pickK v258 v264 (.bool false) fun v267 =>
Q.share _ (fun v269 h270 c271 =>
Q.share _ (fun v273 h274 c275 =>
Q.pickK v267 v273 (.bool false) fun v276 =>
Q.share _ (fun v278 h279 c280 =>
Q.share _ (fun v282 h283 c284 =>
Q.pickK v276 v282 (.bool false) fun v285 =>
Q.share _ (fun v287 h288 c289 =>
Q.share _ (fun v291 h292 c293 =>
Q.pickK v285 v291 (.bool false) fun v294 =>
Q.share _ (fun v296 h297 c298 =>
Q.share _ (fun v300 h301 c302 =>
Q.pickK v294 v300 (.bool false) fun v303 =>
Q.share _ (fun v305 h306 c307 =>
Q.share _ (fun v309 h310 c311 =>
Q.pickK v303 v309 (.bool false) fun v312 =>
Q.share _ (fun v314 h315 c316 =>
Q.share _ (fun v318 h319 c320 =>
Q.pickK v312 v318 (.bool false) fun v321 =>
Q.share _ (fun v323 h324 c325 =>
Q.share _ (fun v327 h328 c329 =>
Q.pickK v321 v327 (.bool false) fun v330 =>
Q.share _ (fun v332 h333 c334 =>
Q.share _ (fun v336 h337 c338 =>
Q.share _ (fun v340 h341 c342 =>
Q.pickK v330 v340 (.bool false) fun v343 =>
Q.share _ (fun v345 h346 c347 =>
Q.share _ (fun v349 h350 c351 =>
Q.share _ (fun v353 h354 c355 =>
Q.share _ (fun v357 h358 c359 =>
Q.pickK v343 v357 (.bool false) fun v360 =>
Q.share _ (fun v362 h363 c364 =>
Q.share _ (fun v366 h367 c368 =>
Q.pickK v360 v366 (.bool false) fun v369 =>
Q.share _ (fun v371 h372 c373 =>
Q.pickK v369 v371 (.bool false) fun v374 =>
Q.killVK v9 h372 fun h375 =>
K v374 h375 c373) fun f370 =>
Q.guardK true v369 (call 15 [] h367 c368 fun v376 h377 c378 =>
f370 v376 h377 c378) (f370 (.tup []) h367 c368)) fun f365 =>
Q.guardK true v360 (Q.cmpK (cmpF .eql) (binC Try.prog .eql 42 (.tmp 202) (.const (.int .i64 (.ofNat 0))) v362 (.int .i64 (.ofNat 0))) v362 (.int .i64 (.ofNat 0)) fun v379 =>
f365 v379 h363 c364) (f365 (.tup []) h363 c364)) fun f361 =>
Q.guardK true v360 (f361 v160 h358 c359) (f361 (.tup []) h358 c359)) fun f356 =>
Q.guardK true v343 (Q.loadSK h354 v353 fun v380 =>
f356 v380 h354 c355) (f356 (.tup []) h354 c355)) fun f352 =>
Q.guardK true v343 (Q.fadK 1 v349 fun v381 =>
f352 v381 h350 c351) (f352 (.tup []) h350 c351)) fun f348 =>
Q.guardK true v343 (Q.idxSK 2 v345 (.int .i64 (.ofNat 0)) fun v382 =>
f348 v382 h346 c347) (f348 (.tup []) h346 c347)) fun f344 =>
Q.guardK true v343 (f344 v158 h341 c342) (f344 (.tup []) h341 c342)) fun f339 =>
Q.guardK true v330 (Q.cmpK (cmpF .eql) (binC Try.prog .eql 3 (.tmp 192) (.const (.int .i64 (.ofNat 1))) v336 (.int .i64 (.ofNat 1))) v336 (.int .i64 (.ofNat 1)) fun v383 =>
f339 v383 h337 c338) (f339 (.tup []) h337 c338)) fun f335 =>
Q.guardK true v330 (Q.lenF (lenC tys 26 v332) v332 fun v384 =>
f335 v384 h333 c334) (f335 (.tup []) h333 c334)) fun f331 =>
Q.guardK true v330 (f331 v158 h328 c329) (f331 (.tup []) h328 c329)) fun f326 =>
Q.guardK true v321 (Q.cmpK (cmpF .eql) (binC Try.prog .eql 42 (.tmp 187) (.const (.int .i64 (.ofNat 8))) v323 (.int .i64 (.ofNat 8))) v323 (.int .i64 (.ofNat 8)) fun v385 =>
f326 v385 h324 c325) (f326 (.tup []) h324 c325)) fun f322 =>
Q.guardK true v321 (f322 v143 h319 c320) (f322 (.tup []) h319 c320)) fun f317 =>
Q.guardK true v312 (Q.cmpK (cmpF .eql) (binC Try.prog .eql 42 (.tmp 183) (.const (.int .i64 (.ofNat 6))) v314 (.int .i64 (.ofNat 6))) v314 (.int .i64 (.ofNat 6)) fun v386 =>
f317 v386 h315 c316) (f317 (.tup []) h315 c316)) fun f313 =>
Q.guardK true v312 (f313 v133 h310 c311) (f313 (.tup []) h310 c311)) fun f308 =>
Q.guardK true v303 (Q.cmpK (cmpF .eql) (binC Try.prog .eql 42 (.tmp 179) (.const (.int .i64 (.ofNat 1))) v305 (.int .i64 (.ofNat 1))) v305 (.int .i64 (.ofNat 1)) fun v387 =>
f308 v387 h306 c307) (f308 (.tup []) h306 c307)) fun f304 =>
Q.guardK true v303 (f304 v124 h301 c302) (f304 (.tup []) h301 c302)) fun f299 =>
Q.guardK true v294 (Q.cmpK (cmpF .eql) (binC Try.prog .eql 42 (.tmp 175) (.const (.int .i64 (.ofNat 7))) v296 (.int .i64 (.ofNat 7))) v296 (.int .i64 (.ofNat 7)) fun v388 =>
f299 v388 h297 c298) (f299 (.tup []) h297 c298)) fun f295 =>
Q.guardK true v294 (f295 v116 h292 c293) (f295 (.tup []) h292 c293)) fun f290 =>
Q.guardK true v285 (Q.cmpK (cmpF .eql) (binC Try.prog .eql 42 (.tmp 171) (.const (.int .i64 (.ofNat 1))) v287 (.int .i64 (.ofNat 1))) v287 (.int .i64 (.ofNat 1)) fun v389 =>
f290 v389 h288 c289) (f290 (.tup []) h288 c289)) fun f286 =>
Q.guardK true v285 (f286 v105 h283 c284) (f286 (.tup []) h283 c284)) fun f281 =>
Q.guardK true v276 (Q.cmpK (cmpF .eql) (binC Try.prog .eql 42 (.tmp 167) (.const (.int .i64 (.ofNat 8))) v278 (.int .i64 (.ofNat 8))) v278 (.int .i64 (.ofNat 8)) fun v390 =>
f281 v390 h279 c280) (f281 (.tup []) h279 c280)) fun f277 =>
Q.guardK true v276 (f277 v95 h274 c275) (f277 (.tup []) h274 c275)) fun f272 =>
Q.guardK true v267 (Q.cmpK (cmpF .eql) (binC Try.prog .eql 42 (.tmp 163) (.const (.int .i64 (.ofNat 8))) v269 (.int .i64 (.ofNat 8))) v269 (.int .i64 (.ofNat 8)) fun v391 =>
f272 v391 h270 c271) (f272 (.tup []) h270 c271)) fun f268 =>
Q.guardK true v267 (f268 v85 h265 c266) (f268 (.tup []) h265 c266)) fun f263 =>
Q.guardK true v258 (Q.cmpK (cmpF .eql) (binC Try.prog .eql 42 (.tmp 159) (.const (.int .i64 (.ofNat 8))) v260 (.int .i64 (.ofNat 8))) v260 (.int .i64 (.ofNat 8)) fun v392 =>
f263 v392 h261 c262) (f263 (.tup []) h261 c262)) fun f259 =>
Q.guardK true v258 (f259 v75 h256 c257) (f259 (.tup []) h256 c257)) fun f254 =>
Q.guardK true v249 (Q.cmpK (cmpF .eql) (binC Try.prog .eql 42 (.tmp 155) (.const (.int .i64 (.ofNat 7))) v251 (.int .i64 (.ofNat 7))) v251 (.int .i64 (.ofNat 7)) fun v393 =>
f254 v393 h252 c253) (f254 (.tup []) h252 c253)) fun f250 =>
Q.guardK true v249 (f250 v65 h247 c248) (f250 (.tup []) h247 c248)) fun f245 =>
Q.guardK true v240 (Q.cmpK (cmpF .eql) (binC Try.prog .eql 42 (.tmp 151) (.const (.int .i64 (.ofNat 7))) v242 (.int .i64 (.ofNat 7))) v242 (.int .i64 (.ofNat 7)) fun v394 =>
f245 v394 h243 c244) (f245 (.tup []) h243 c244)) fun f241 =>
Q.guardK true v240 (f241 v55 h238 c239) (f241 (.tup []) h238 c239)) fun f236 =>
Q.guardK true v231 (Q.cmpK (cmpF .eql) (binC Try.prog .eql 42 (.tmp 147) (.const (.int .i64 (.ofNat 0))) v233 (.int .i64 (.ofNat 0))) v233 (.int .i64 (.ofNat 0)) fun v395 =>
f236 v395 h234 c235) (f236 (.tup []) h234 c235)) fun f232 =>
Q.guardK true v231 (f232 v45 h229 c230) (f232 (.tup []) h229 c230)) fun f227 =>
Q.guardK true v214 (Q.cmpK (cmpF .eql) (binC Try.prog .eql 30 (.tmp 143) (.const (.complex .f64 4643211215818981376 0)) v224 (.cpx .f64 4643211215818981376 0)) v224 (.cpx .f64 4643211215818981376 0) fun v396 =>
f227 v396 h225 c226) (f227 (.tup []) h225 c226)) fun f223 =>
Q.guardK true v214 (Q.loadSK h221 v220 fun v397 =>
f223 v397 h221 c222) (f223 (.tup []) h221 c222)) fun f219 =>
Q.guardK true v214 (Q.idxSK 1 v216 (.int .i64 (.ofNat 0)) fun v398 =>
f219 v398 h217 c218) (f219 (.tup []) h217 c218)) fun f215 =>
Q.guardK true v214 (f215 v43 h212 c213) (f215 (.tup []) h212 c213)) fun f210 =>
Q.guardK true v201 (Q.cmpK (cmpF .eql) (binC Try.prog .eql 3 (.tmp 137) (.const (.int .i64 (.ofNat 1))) v207 (.int .i64 (.ofNat 1))) v207 (.int .i64 (.ofNat 1)) fun v399 =>
f210 v399 h208 c209) (f210 (.tup []) h208 c209)) fun f206 =>
Q.guardK true v201 (Q.lenF (lenC tys 28 v203) v203 fun v400 =>
f206 v400 h204 c205) (f206 (.tup []) h204 c205)) fun f202 =>
Q.guardK true v201 (f202 v43 h199 c200) (f202 (.tup []) h199 c200)) fun f197 =>
Q.guardK true v192 (Q.cmpK (cmpF .eql) (binC Try.prog .eql 42 (.tmp 132) (.const (.int .i64 (.ofNat 1))) v194 (.int .i64 (.ofNat 1))) v194 (.int .i64 (.ofNat 1)) fun v401 =>
f197 v401 h195 c196) (f197 (.tup []) h195 c196)) fun f193 =>
Q.guardK true v192 (f193 v32 h190 c191) (f193 (.tup []) h190 c191)) fun f188 =>
Q.guardK true v183 (Q.cmpK (cmpF .eql) (binC Try.prog .eql 42 (.tmp 128) (.const (.int .i64 (.ofNat 1))) v185 (.int .i64 (.ofNat 1))) v185 (.int .i64 (.ofNat 1)) fun v402 =>
f188 v402 h186 c187) (f188 (.tup []) h186 c187)) fun f184 =>
Q.guardK true v183 (f184 v22 h181 c182) (f184 (.tup []) h181 c182)) fun f179 =>
Q.guardK true v170 (Q.cmpK (cmpF .eql) (binC Try.prog .eql 3 (.tmp 124) (.const (.int .i64 (.ofNat 0))) v176 (.int .i64 (.ofNat 0))) v176 (.int .i64 (.ofNat 0)) fun v403 =>
f179 v403 h177 c178) (f179 (.tup []) h177 c178)) fun f175 =>
Q.guardK true v170 (call 22 [v172] h173 c174 fun v404 h405 c406 =>
f175 v404 h405 c406) (f175 (.tup []) h173 c174)) fun f171 =>
Q.guardK true v170 (f171 .nilp h168 c169) (f171 (.tup []) h168 c169)) fun f166 =>
Q.guardK true v161 (Q.cmpK (cmpF .eql) (binC Try.prog .eql 42 (.tmp 119) (.const (.int .i64 (.ofNat 2))) v163 (.int .i64 (.ofNat 2))) v163 (.int .i64 (.ofNat 2)) fun v407 =>
f166 v407 h164 c165) (f166 (.tup []) h164 c165)) fun f162 =>
Q.guardK true v161 (f162 v13 h155 c156) (f162 (.tup []) h155 c156)
theorem R8_eq (Q : Prim) (fu : Nat) (call : CallK) : curryA 0 (fnK Q Try.prog tys stl fu call e8) = R8 Q fu call := by kernel_rfl
noncomputable def n8 : List CV → HP → Nat → KV → Bool := appF 0 (R8 real 1000000 d10.fn)
theorem n8_ok : ∀ args hp c K, n8 args hp c K = true → Out (fun N => enterK Try.prog tys tab (execC Try.prog tys stl tab N) 8 args hp c) (stl 8 = true) fun p => K p.1 p.2.1 p.2.2 = true := node_ok d10_ok (by kernel_rfl) rfl g8 (R8_eq _ _ _)
noncomputable def d11 : Disp := (.node 56 n56 (.node 33 n33 (.node 21 n21 (.node 16 n16 (.node 15 n15 (.node 8 n8 .leaf .leaf) .leaf) (.node 19 n19 (.node 18 n18 .leaf .leaf) .leaf)) (.node 25 n25 (.node 23 n23 (.node 22 n22 .leaf .leaf) .leaf) (.node 31 n31 (.node 30 n30 .leaf .leaf) .leaf))) (.node 46 n46 (.node 42 n42 (.node 40 n40 (.node 35 n35 .leaf .leaf) .leaf) (.node 45 n45 (.node 43 n43 .leaf .leaf) .leaf)) (.node 52 n52 (.node 48 n48 (.node 47 n47 .leaf .leaf) .leaf) (.node 55 n55 (.node 54 n54 .leaf .leaf) .leaf)))) (.node 78 n78 (.node 66 n66 (.node 59 n59 (.node 58 n58 (.node 57 n57 .leaf .leaf) .leaf) (.node 65 n65 (.node 64 n64 .leaf .leaf) .leaf)) (.node 73 n73 (.node 72 n72 (.node 71 n71 .leaf .leaf) .leaf) (.node 77 n77 (.node 74 n74 .leaf .leaf) .leaf))) (.node 86 n86 (.node 81 n81 (.node 80 n80 (.node 79 n79 .leaf .leaf) .leaf) (.node 85 n85 (.node 82 n82 .leaf .leaf) .leaf)) (.node 104 n104 (.node 96 n96 (.node 95 n95 .leaf .leaf) .leaf) (.node 107 n107 (.node 105 n105 .leaf .leaf) .leaf)))))
theorem d11_ok : CallSim Try.prog tys stl tab d11.fn := Disp.sim ⟨n56_ok, ⟨n33_ok, ⟨n21_ok, ⟨n16_ok, ⟨n15_ok, ⟨n8_ok, True.intro, True.intro⟩, True.intro⟩, ⟨n19_ok, ⟨n18_ok, True.intro, True.intro⟩, True.intro⟩⟩, ⟨n25_ok, ⟨n23_ok, ⟨n22_ok, True.intro, True.intro⟩, True.intro⟩, ⟨n31_ok, ⟨n30_ok, True.intro, True.intro⟩, True.intro⟩⟩⟩, ⟨n46_ok, ⟨n42_ok, ⟨n40_ok, ⟨n35_ok, True.intro, True.intro⟩, True.intro⟩, ⟨n45_ok, ⟨n43_ok, True.intro, True.intro⟩, True.intro⟩⟩, ⟨n52_ok, ⟨n48_ok, ⟨n47_ok, True.intro, True.intro⟩, True.intro⟩, ⟨n55_ok, ⟨n54_ok, True.intro, True.intro⟩, True.intro⟩⟩⟩⟩, ⟨n78_ok, ⟨n66_ok, ⟨n59_ok, ⟨n58_ok, ⟨n57_ok, True.intro, True.intro⟩, True.intro⟩, ⟨n65_ok, ⟨n64_ok, True.intro, True.intro⟩, True.intro⟩⟩, ⟨n73_ok, ⟨n72_ok, ⟨n71_ok, True.intro, True.intro⟩, True.intro⟩, ⟨n77_ok, ⟨n74_ok, True.intro, True.intro⟩, True.intro⟩⟩⟩, ⟨n86_ok, ⟨n81_ok, ⟨n80_ok, ⟨n79_ok, True.intro, True.intro⟩, True.intro⟩, ⟨n85_ok, ⟨n82_ok, True.intro, True.intro⟩, True.intro⟩⟩, ⟨n104_ok, ⟨n96_ok, ⟨n95_ok, True.intro, True.intro⟩, True.intro⟩, ⟨n107_ok, ⟨n105_ok, True.intro, True.intro⟩, True.intro⟩⟩⟩⟩⟩
noncomputable abbrev dT : Disp := d11
theorem dT_ok : CallSim Try.prog tys stl tab dT.fn := d11_ok

set_option maxHeartbeats 0 in
theorem run8 : lawK dT.fn 8 = true := by kernel_rfl
namespace nearNone
open Go.ChangeShapes Go.WideShapes Go.ChangeAt Go.RowKit
theorem own : ownKnob Try.prog.godebug = none := by kernel_rfl
theorem laid : laidOutB Try.prog = true := by kernel_rfl
theorem lifted (os : Os) (started : os.Started) (H : Type) (enc : TypeId × Value → H) :
    ReturnsInHanded {} Try.checked os 8 .any (Rows.nearNoneSpec.pre6 enc Try.prog Try.f8 Rows.nearNoneRow.domain false) (Rows.nearNoneSpec.post enc Try.prog Try.f8 false true false false) := by
  refine returnsInHanded_of_change (C := Try.checked) own started (by kernel_rfl) Try.func8
    (ChangeSpec.witness6 (enc := enc) (C := Try.checked) false ⟨#[], #[], []⟩ 8 (by kernel_rfl) (by kernel_rfl) (by kernel_rfl) (by kernel_rfl)) ?_
  intro W base args ds gs before hval0 hW hcnd _
  have hW' := hW
  obtain ⟨p, q, hA0, hV, rfl, hfz, hnd⟩ := hW
  have hA : DataW.TrodAll enc Try.prog W 0 (fun _ => true) true Try.f8.params.toList args.toList ds p := hA0
  rw [Try.params8] at hA
  obtain ⟨hargs, rfl, rfl⟩ := trodAll_nil hA
  obtain rfl : args = #[] := by cases args; simp_all
  obtain ⟨rfl, rfl⟩ := trodVars_none hV
  clear hA0 hval0
  refine (lawK_true tok mixed fok dT_ok (by kernel_rfl : tab 8 = some e8) rfl run8 W).mono fun e W' ⟨he, hg⟩ => ?_
  subst he
  exact ⟨_, rfl, law_done laid rfl rfl Try.underlying4 (by kernel_rfl) hW' rfl hg⟩

theorem over : Rows.nearNoneRow.holds Try.pinned (OpenSpec.ofChange Rows.nearNoneSpec) :=
  OpenClaim.holds_of_wide 8 Try.f8 rfl rfl rfl rfl rfl rfl rfl ⟨rfl, rfl, rfl, rfl, rfl⟩ rfl rfl rfl rfl rfl (by kernel_rfl) Try.func8 (by kernel_rfl)
    (of_decide_eq_true (by kernel_rfl)) (by unfold Func.isWrapper; first | (rw [if_pos (by decide +kernel)]; kernel_rfl) | (rw [if_neg (by decide +kernel)]; exact ⟨rfl, rfl⟩))
    (fun os started H enc _ => lifted os started H enc)

theorem proved : Rows.NearNoneSaid := over
end nearNone
end Go.Proofs.Ytljiihjcnacbnaa
