/-
  The functions that the run goes through, as tables, and the run of a function without arguments. No condition.
-/
import Derived.Test.YtflbhbiflcaocaaRows
import Derived.Test.YtflbhbiflcaocaaGx
set_option linter.unusedVariables false
set_option maxRecDepth 1000000
namespace Go.Proofs.Ytflbhbiflcaocaa
open Go Go.Fw
def tys : List (Nat × TyI) := [
  (1, ⟨.func, 1, 8, .nilFunc⟩),
  (2, ⟨.int .i64, 1, 8, .int .i64 0⟩),
  (3, ⟨.int .i64, 1, 8, .int .i64 0⟩),
  (4, ⟨.bool, 1, 1, .bool false⟩),
  (5, ⟨.int .u8, 1, 1, .int .u8 0⟩),
  (9, ⟨.str, 1, 16, .string (ByteArray.mk #[])⟩),
  (12, ⟨.int .u64, 1, 8, .int .u64 0⟩),
  (21, ⟨.int .i32, 1, 4, .int .i32 0⟩),
  (22, ⟨.slice 4, 1, 24, .slice none 0 0⟩),
  (23, ⟨.int .i64, 1, 8, .int .i64 0⟩),
  (25, ⟨.func, 1, 8, .nilFunc⟩),
  (26, ⟨.slice 38, 1, 24, .slice none 0 0⟩),
  (28, ⟨.func, 1, 8, .nilFunc⟩),
  (29, ⟨.slice 5, 1, 24, .slice none 0 0⟩),
  (31, ⟨.func, 1, 8, .nilFunc⟩),
  (32, ⟨.func, 1, 8, .nilFunc⟩),
  (33, ⟨.func, 1, 8, .nilFunc⟩),
  (34, ⟨.func, 1, 8, .nilFunc⟩),
  (35, ⟨.func, 1, 8, .nilFunc⟩),
  (36, ⟨.func, 1, 8, .nilFunc⟩),
  (37, ⟨.func, 1, 8, .nilFunc⟩),
  (38, ⟨.int .u8, 1, 1, .int .u8 0⟩),
  (39, ⟨.func, 1, 8, .nilFunc⟩),
  (40, ⟨.func, 1, 8, .nilFunc⟩),
  (42, ⟨.func, 1, 8, .nilFunc⟩),
  (43, ⟨.int .u32, 1, 4, .int .u32 0⟩),
  (44, ⟨.struct [(0, 3), (1, 43), (2, 43)], 3, 16, .agg #[.int .i64 0, .int .u32 0, .int .u32 0]⟩),
  (45, ⟨.struct [(0, 3), (1, 43), (2, 43)], 3, 16, .agg #[.int .i64 0, .int .u32 0, .int .u32 0]⟩),
  (46, ⟨.func, 1, 8, .nilFunc⟩),
  (48, ⟨.func, 1, 8, .nilFunc⟩),
  (49, ⟨.func, 1, 8, .nilFunc⟩),
  (50, ⟨.ptr 65, 1, 8, .pointer none⟩),
  (52, ⟨.func, 1, 8, .nilFunc⟩),
  (53, ⟨.array 64 3, 64, 512, .agg ⟨List.replicate 64 (.int .i64 0)⟩⟩),
  (54, ⟨.array 64 3, 64, 512, .agg ⟨List.replicate 64 (.int .i64 0)⟩⟩),
  (55, ⟨.func, 1, 8, .nilFunc⟩),
  (56, ⟨.slice 57, 1, 24, .slice none 0 0⟩),
  (57, ⟨.int .u64, 1, 8, .int .u64 0⟩),
  (59, ⟨.func, 1, 8, .nilFunc⟩),
  (60, ⟨.struct [(0, 3), (1, 4), (2, 4)], 3, 16, .agg #[.int .i64 0, .bool false, .bool false]⟩),
  (61, ⟨.struct [(0, 3), (1, 4), (2, 4)], 3, 16, .agg #[.int .i64 0, .bool false, .bool false]⟩),
  (62, ⟨.array 2 61, 6, 32, .agg #[.int .i64 0, .bool false, .bool false, .int .i64 0, .bool false, .bool false]⟩),
  (63, ⟨.array 64 62, 384, 2048, .agg #[.int .i64 0, .bool false, .bool false, .int .i64 0, .bool false, .bool false, .int .i64 0, .bool false, .bool false, .int .i64 0, .bool false, .bool false, .int .i64 0, .bool false, .bool false, .int .i64 0, .bool false, .bool false, .int .i64 0, .bool false, .bool false, .int .i64 0, .bool false, .bool false, .int .i64 0, .bool false, .bool false, .int .i64 0, .bool false, .bool false, .int .i64 0, .bool false, .bool false, .int .i64 0, .bool false, .bool false, .int .i64 0, .bool false, .bool false, .int .i64 0, .bool false, .bool false, .int .i64 0, .bool false, .bool false, .int .i64 0, .bool false, .bool false, .int .i64 0, .bool false, .bool false, .int .i64 0, .bool false, .bool false, .int .i64 0, .bool false, .bool false, .int .i64 0, .bool false, .bool false, .int .i64 0, .bool false, .bool false, .int .i64 0, .bool false, .bool false, .int .i64 0, .bool false, .bool false, .int .i64 0, .bool false, .bool false, .int .i64 0, .bool false, .bool false, .int .i64 0, .bool false, .bool false, .int .i64 0, .bool false, .bool false, .int .i64 0, .bool false, .bool false, .int .i64 0, .bool false, .bool false, .int .i64 0, .bool false, .bool false, .int .i64 0, .bool false, .bool false, .int .i64 0, .bool false, .bool false, .int .i64 0, .bool false, .bool false, .int .i64 0, .bool false, .bool false, .int .i64 0, .bool false, .bool false, .int .i64 0, .bool false, .bool false, .int .i64 0, .bool false, .bool false, .int .i64 0, .bool false, .bool false, .int .i64 0, .bool false, .bool false, .int .i64 0, .bool false, .bool false, .int .i64 0, .bool false, .bool false, .int .i64 0, .bool false, .bool false, .int .i64 0, .bool false, .bool false, .int .i64 0, .bool false, .bool false, .int .i64 0, .bool false, .bool false, .int .i64 0, .bool false, .bool false, .int .i64 0, .bool false, .bool false, .int .i64 0, .bool false, .bool false, .int .i64 0, .bool false, .bool false, .int .i64 0, .bool false, .bool false, .int .i64 0, .bool false, .bool false, .int .i64 0, .bool false, .bool false, .int .i64 0, .bool false, .bool false, .int .i64 0, .bool false, .bool false, .int .i64 0, .bool false, .bool false, .int .i64 0, .bool false, .bool false, .int .i64 0, .bool false, .bool false, .int .i64 0, .bool false, .bool false, .int .i64 0, .bool false, .bool false, .int .i64 0, .bool false, .bool false, .int .i64 0, .bool false, .bool false, .int .i64 0, .bool false, .bool false, .int .i64 0, .bool false, .bool false, .int .i64 0, .bool false, .bool false, .int .i64 0, .bool false, .bool false, .int .i64 0, .bool false, .bool false, .int .i64 0, .bool false, .bool false, .int .i64 0, .bool false, .bool false, .int .i64 0, .bool false, .bool false, .int .i64 0, .bool false, .bool false, .int .i64 0, .bool false, .bool false, .int .i64 0, .bool false, .bool false, .int .i64 0, .bool false, .bool false, .int .i64 0, .bool false, .bool false, .int .i64 0, .bool false, .bool false, .int .i64 0, .bool false, .bool false, .int .i64 0, .bool false, .bool false, .int .i64 0, .bool false, .bool false, .int .i64 0, .bool false, .bool false, .int .i64 0, .bool false, .bool false, .int .i64 0, .bool false, .bool false, .int .i64 0, .bool false, .bool false, .int .i64 0, .bool false, .bool false, .int .i64 0, .bool false, .bool false, .int .i64 0, .bool false, .bool false, .int .i64 0, .bool false, .bool false, .int .i64 0, .bool false, .bool false, .int .i64 0, .bool false, .bool false, .int .i64 0, .bool false, .bool false, .int .i64 0, .bool false, .bool false, .int .i64 0, .bool false, .bool false, .int .i64 0, .bool false, .bool false, .int .i64 0, .bool false, .bool false, .int .i64 0, .bool false, .bool false, .int .i64 0, .bool false, .bool false, .int .i64 0, .bool false, .bool false, .int .i64 0, .bool false, .bool false, .int .i64 0, .bool false, .bool false, .int .i64 0, .bool false, .bool false, .int .i64 0, .bool false, .bool false, .int .i64 0, .bool false, .bool false, .int .i64 0, .bool false, .bool false, .int .i64 0, .bool false, .bool false, .int .i64 0, .bool false, .bool false, .int .i64 0, .bool false, .bool false, .int .i64 0, .bool false, .bool false, .int .i64 0, .bool false, .bool false, .int .i64 0, .bool false, .bool false, .int .i64 0, .bool false, .bool false, .int .i64 0, .bool false, .bool false, .int .i64 0, .bool false, .bool false, .int .i64 0, .bool false, .bool false, .int .i64 0, .bool false, .bool false, .int .i64 0, .bool false, .bool false, .int .i64 0, .bool false, .bool false, .int .i64 0, .bool false, .bool false, .int .i64 0, .bool false, .bool false, .int .i64 0, .bool false, .bool false, .int .i64 0, .bool false, .bool false, .int .i64 0, .bool false, .bool false, .int .i64 0, .bool false, .bool false, .int .i64 0, .bool false, .bool false, .int .i64 0, .bool false, .bool false, .int .i64 0, .bool false, .bool false, .int .i64 0, .bool false, .bool false, .int .i64 0, .bool false, .bool false, .int .i64 0, .bool false, .bool false, .int .i64 0, .bool false, .bool false]⟩),
  (64, ⟨.struct [(0, 3), (1, 3), (2, 63)], 386, 2064, .agg #[.int .i64 0, .int .i64 0, .int .i64 0, .bool false, .bool false, .int .i64 0, .bool false, .bool false, .int .i64 0, .bool false, .bool false, .int .i64 0, .bool false, .bool false, .int .i64 0, .bool false, .bool false, .int .i64 0, .bool false, .bool false, .int .i64 0, .bool false, .bool false, .int .i64 0, .bool false, .bool false, .int .i64 0, .bool false, .bool false, .int .i64 0, .bool false, .bool false, .int .i64 0, .bool false, .bool false, .int .i64 0, .bool false, .bool false, .int .i64 0, .bool false, .bool false, .int .i64 0, .bool false, .bool false, .int .i64 0, .bool false, .bool false, .int .i64 0, .bool false, .bool false, .int .i64 0, .bool false, .bool false, .int .i64 0, .bool false, .bool false, .int .i64 0, .bool false, .bool false, .int .i64 0, .bool false, .bool false, .int .i64 0, .bool false, .bool false, .int .i64 0, .bool false, .bool false, .int .i64 0, .bool false, .bool false, .int .i64 0, .bool false, .bool false, .int .i64 0, .bool false, .bool false, .int .i64 0, .bool false, .bool false, .int .i64 0, .bool false, .bool false, .int .i64 0, .bool false, .bool false, .int .i64 0, .bool false, .bool false, .int .i64 0, .bool false, .bool false, .int .i64 0, .bool false, .bool false, .int .i64 0, .bool false, .bool false, .int .i64 0, .bool false, .bool false, .int .i64 0, .bool false, .bool false, .int .i64 0, .bool false, .bool false, .int .i64 0, .bool false, .bool false, .int .i64 0, .bool false, .bool false, .int .i64 0, .bool false, .bool false, .int .i64 0, .bool false, .bool false, .int .i64 0, .bool false, .bool false, .int .i64 0, .bool false, .bool false, .int .i64 0, .bool false, .bool false, .int .i64 0, .bool false, .bool false, .int .i64 0, .bool false, .bool false, .int .i64 0, .bool false, .bool false, .int .i64 0, .bool false, .bool false, .int .i64 0, .bool false, .bool false, .int .i64 0, .bool false, .bool false, .int .i64 0, .bool false, .bool false, .int .i64 0, .bool false, .bool false, .int .i64 0, .bool false, .bool false, .int .i64 0, .bool false, .bool false, .int .i64 0, .bool false, .bool false, .int .i64 0, .bool false, .bool false, .int .i64 0, .bool false, .bool false, .int .i64 0, .bool false, .bool false, .int .i64 0, .bool false, .bool false, .int .i64 0, .bool false, .bool false, .int .i64 0, .bool false, .bool false, .int .i64 0, .bool false, .bool false, .int .i64 0, .bool false, .bool false, .int .i64 0, .bool false, .bool false, .int .i64 0, .bool false, .bool false, .int .i64 0, .bool false, .bool false, .int .i64 0, .bool false, .bool false, .int .i64 0, .bool false, .bool false, .int .i64 0, .bool false, .bool false, .int .i64 0, .bool false, .bool false, .int .i64 0, .bool false, .bool false, .int .i64 0, .bool false, .bool false, .int .i64 0, .bool false, .bool false, .int .i64 0, .bool false, .bool false, .int .i64 0, .bool false, .bool false, .int .i64 0, .bool false, .bool false, .int .i64 0, .bool false, .bool false, .int .i64 0, .bool false, .bool false, .int .i64 0, .bool false, .bool false, .int .i64 0, .bool false, .bool false, .int .i64 0, .bool false, .bool false, .int .i64 0, .bool false, .bool false, .int .i64 0, .bool false, .bool false, .int .i64 0, .bool false, .bool false, .int .i64 0, .bool false, .bool false, .int .i64 0, .bool false, .bool false, .int .i64 0, .bool false, .bool false, .int .i64 0, .bool false, .bool false, .int .i64 0, .bool false, .bool false, .int .i64 0, .bool false, .bool false, .int .i64 0, .bool false, .bool false, .int .i64 0, .bool false, .bool false, .int .i64 0, .bool false, .bool false, .int .i64 0, .bool false, .bool false, .int .i64 0, .bool false, .bool false, .int .i64 0, .bool false, .bool false, .int .i64 0, .bool false, .bool false, .int .i64 0, .bool false, .bool false, .int .i64 0, .bool false, .bool false, .int .i64 0, .bool false, .bool false, .int .i64 0, .bool false, .bool false, .int .i64 0, .bool false, .bool false, .int .i64 0, .bool false, .bool false, .int .i64 0, .bool false, .bool false, .int .i64 0, .bool false, .bool false, .int .i64 0, .bool false, .bool false, .int .i64 0, .bool false, .bool false, .int .i64 0, .bool false, .bool false, .int .i64 0, .bool false, .bool false, .int .i64 0, .bool false, .bool false, .int .i64 0, .bool false, .bool false, .int .i64 0, .bool false, .bool false, .int .i64 0, .bool false, .bool false, .int .i64 0, .bool false, .bool false, .int .i64 0, .bool false, .bool false, .int .i64 0, .bool false, .bool false, .int .i64 0, .bool false, .bool false, .int .i64 0, .bool false, .bool false, .int .i64 0, .bool false, .bool false, .int .i64 0, .bool false, .bool false, .int .i64 0, .bool false, .bool false, .int .i64 0, .bool false, .bool false, .int .i64 0, .bool false, .bool false, .int .i64 0, .bool false, .bool false, .int .i64 0, .bool false, .bool false, .int .i64 0, .bool false, .bool false, .int .i64 0, .bool false, .bool false, .int .i64 0, .bool false, .bool false, .int .i64 0, .bool false, .bool false, .int .i64 0, .bool false, .bool false]⟩),
  (65, ⟨.struct [(0, 3), (1, 3), (2, 63)], 386, 2064, .agg #[.int .i64 0, .int .i64 0, .int .i64 0, .bool false, .bool false, .int .i64 0, .bool false, .bool false, .int .i64 0, .bool false, .bool false, .int .i64 0, .bool false, .bool false, .int .i64 0, .bool false, .bool false, .int .i64 0, .bool false, .bool false, .int .i64 0, .bool false, .bool false, .int .i64 0, .bool false, .bool false, .int .i64 0, .bool false, .bool false, .int .i64 0, .bool false, .bool false, .int .i64 0, .bool false, .bool false, .int .i64 0, .bool false, .bool false, .int .i64 0, .bool false, .bool false, .int .i64 0, .bool false, .bool false, .int .i64 0, .bool false, .bool false, .int .i64 0, .bool false, .bool false, .int .i64 0, .bool false, .bool false, .int .i64 0, .bool false, .bool false, .int .i64 0, .bool false, .bool false, .int .i64 0, .bool false, .bool false, .int .i64 0, .bool false, .bool false, .int .i64 0, .bool false, .bool false, .int .i64 0, .bool false, .bool false, .int .i64 0, .bool false, .bool false, .int .i64 0, .bool false, .bool false, .int .i64 0, .bool false, .bool false, .int .i64 0, .bool false, .bool false, .int .i64 0, .bool false, .bool false, .int .i64 0, .bool false, .bool false, .int .i64 0, .bool false, .bool false, .int .i64 0, .bool false, .bool false, .int .i64 0, .bool false, .bool false, .int .i64 0, .bool false, .bool false, .int .i64 0, .bool false, .bool false, .int .i64 0, .bool false, .bool false, .int .i64 0, .bool false, .bool false, .int .i64 0, .bool false, .bool false, .int .i64 0, .bool false, .bool false, .int .i64 0, .bool false, .bool false, .int .i64 0, .bool false, .bool false, .int .i64 0, .bool false, .bool false, .int .i64 0, .bool false, .bool false, .int .i64 0, .bool false, .bool false, .int .i64 0, .bool false, .bool false, .int .i64 0, .bool false, .bool false, .int .i64 0, .bool false, .bool false, .int .i64 0, .bool false, .bool false, .int .i64 0, .bool false, .bool false, .int .i64 0, .bool false, .bool false, .int .i64 0, .bool false, .bool false, .int .i64 0, .bool false, .bool false, .int .i64 0, .bool false, .bool false, .int .i64 0, .bool false, .bool false, .int .i64 0, .bool false, .bool false, .int .i64 0, .bool false, .bool false, .int .i64 0, .bool false, .bool false, .int .i64 0, .bool false, .bool false, .int .i64 0, .bool false, .bool false, .int .i64 0, .bool false, .bool false, .int .i64 0, .bool false, .bool false, .int .i64 0, .bool false, .bool false, .int .i64 0, .bool false, .bool false, .int .i64 0, .bool false, .bool false, .int .i64 0, .bool false, .bool false, .int .i64 0, .bool false, .bool false, .int .i64 0, .bool false, .bool false, .int .i64 0, .bool false, .bool false, .int .i64 0, .bool false, .bool false, .int .i64 0, .bool false, .bool false, .int .i64 0, .bool false, .bool false, .int .i64 0, .bool false, .bool false, .int .i64 0, .bool false, .bool false, .int .i64 0, .bool false, .bool false, .int .i64 0, .bool false, .bool false, .int .i64 0, .bool false, .bool false, .int .i64 0, .bool false, .bool false, .int .i64 0, .bool false, .bool false, .int .i64 0, .bool false, .bool false, .int .i64 0, .bool false, .bool false, .int .i64 0, .bool false, .bool false, .int .i64 0, .bool false, .bool false, .int .i64 0, .bool false, .bool false, .int .i64 0, .bool false, .bool false, .int .i64 0, .bool false, .bool false, .int .i64 0, .bool false, .bool false, .int .i64 0, .bool false, .bool false, .int .i64 0, .bool false, .bool false, .int .i64 0, .bool false, .bool false, .int .i64 0, .bool false, .bool false, .int .i64 0, .bool false, .bool false, .int .i64 0, .bool false, .bool false, .int .i64 0, .bool false, .bool false, .int .i64 0, .bool false, .bool false, .int .i64 0, .bool false, .bool false, .int .i64 0, .bool false, .bool false, .int .i64 0, .bool false, .bool false, .int .i64 0, .bool false, .bool false, .int .i64 0, .bool false, .bool false, .int .i64 0, .bool false, .bool false, .int .i64 0, .bool false, .bool false, .int .i64 0, .bool false, .bool false, .int .i64 0, .bool false, .bool false, .int .i64 0, .bool false, .bool false, .int .i64 0, .bool false, .bool false, .int .i64 0, .bool false, .bool false, .int .i64 0, .bool false, .bool false, .int .i64 0, .bool false, .bool false, .int .i64 0, .bool false, .bool false, .int .i64 0, .bool false, .bool false, .int .i64 0, .bool false, .bool false, .int .i64 0, .bool false, .bool false, .int .i64 0, .bool false, .bool false, .int .i64 0, .bool false, .bool false, .int .i64 0, .bool false, .bool false, .int .i64 0, .bool false, .bool false, .int .i64 0, .bool false, .bool false, .int .i64 0, .bool false, .bool false, .int .i64 0, .bool false, .bool false, .int .i64 0, .bool false, .bool false, .int .i64 0, .bool false, .bool false, .int .i64 0, .bool false, .bool false, .int .i64 0, .bool false, .bool false, .int .i64 0, .bool false, .bool false, .int .i64 0, .bool false, .bool false, .int .i64 0, .bool false, .bool false, .int .i64 0, .bool false, .bool false, .int .i64 0, .bool false, .bool false, .int .i64 0, .bool false, .bool false]⟩),
  (66, ⟨.func, 1, 8, .nilFunc⟩),
  (67, ⟨.func, 1, 8, .nilFunc⟩),
  (68, ⟨.func, 1, 8, .nilFunc⟩),
  (69, ⟨.func, 1, 8, .nilFunc⟩),
  (70, ⟨.func, 1, 8, .nilFunc⟩),
  (71, ⟨.func, 1, 8, .nilFunc⟩),
  (72, ⟨.func, 1, 8, .nilFunc⟩),
  (73, ⟨.func, 1, 8, .nilFunc⟩),
  (74, ⟨.func, 1, 8, .nilFunc⟩),
  (75, ⟨.func, 1, 8, .nilFunc⟩),
  (76, ⟨.func, 1, 8, .nilFunc⟩),
  (77, ⟨.func, 1, 8, .nilFunc⟩),
  (78, ⟨.array 2 4, 2, 2, .agg #[.bool false, .bool false]⟩),
  (80, ⟨.func, 1, 8, .nilFunc⟩),
  (81, ⟨.func, 1, 8, .nilFunc⟩),
  (82, ⟨.func, 1, 8, .nilFunc⟩),
  (83, ⟨.func, 1, 8, .nilFunc⟩),
  (85, ⟨.func, 1, 8, .nilFunc⟩),
  (86, ⟨.func, 1, 8, .nilFunc⟩),
  (87, ⟨.func, 1, 8, .nilFunc⟩),
  (88, ⟨.int .u64, 1, 8, .int .u64 0⟩),
  (89, ⟨.func, 1, 8, .nilFunc⟩),
  (90, ⟨.func, 1, 8, .nilFunc⟩),
  (98, ⟨.func, 1, 8, .nilFunc⟩),
  (99, ⟨.ptr 5, 1, 8, .pointer none⟩)]


theorem tok : TOk Try.prog tys := tok_of ⟨⟨by kernel_rfl, by kernel_rfl⟩, ⟨by kernel_rfl, by kernel_rfl⟩, ⟨by kernel_rfl, by kernel_rfl⟩, ⟨by kernel_rfl, by kernel_rfl⟩, ⟨by kernel_rfl, by kernel_rfl⟩, ⟨by kernel_rfl, by kernel_rfl⟩, ⟨by kernel_rfl, by kernel_rfl⟩, ⟨by kernel_rfl, by kernel_rfl⟩, ⟨by kernel_rfl, by kernel_rfl⟩, ⟨by kernel_rfl, by kernel_rfl⟩, ⟨by kernel_rfl, by kernel_rfl⟩, ⟨by kernel_rfl, by kernel_rfl⟩, ⟨by kernel_rfl, by kernel_rfl⟩, ⟨by kernel_rfl, by kernel_rfl⟩, ⟨by kernel_rfl, by kernel_rfl⟩, ⟨by kernel_rfl, by kernel_rfl⟩, ⟨by kernel_rfl, by kernel_rfl⟩, ⟨by kernel_rfl, by kernel_rfl⟩, ⟨by kernel_rfl, by kernel_rfl⟩, ⟨by kernel_rfl, by kernel_rfl⟩, ⟨by kernel_rfl, by kernel_rfl⟩, ⟨by kernel_rfl, by kernel_rfl⟩, ⟨by kernel_rfl, by kernel_rfl⟩, ⟨by kernel_rfl, by kernel_rfl⟩, ⟨by kernel_rfl, by kernel_rfl⟩, ⟨by kernel_rfl, by kernel_rfl⟩, ⟨by kernel_rfl, by kernel_rfl⟩, ⟨by kernel_rfl, by kernel_rfl⟩, ⟨by kernel_rfl, by kernel_rfl⟩, ⟨by kernel_rfl, by kernel_rfl⟩, ⟨by kernel_rfl, by kernel_rfl⟩, ⟨by kernel_rfl, by kernel_rfl⟩, ⟨by kernel_rfl, by kernel_rfl⟩, ⟨by kernel_rfl, by kernel_rfl⟩, ⟨by kernel_rfl, by kernel_rfl⟩, ⟨by kernel_rfl, by kernel_rfl⟩, ⟨by kernel_rfl, by kernel_rfl⟩, ⟨by kernel_rfl, by kernel_rfl⟩, ⟨by kernel_rfl, by kernel_rfl⟩, ⟨by kernel_rfl, by kernel_rfl⟩, ⟨by kernel_rfl, by kernel_rfl⟩, ⟨by kernel_rfl, by kernel_rfl⟩, ⟨by kernel_rfl, by kernel_rfl⟩, ⟨by kernel_rfl, by kernel_rfl⟩, ⟨by kernel_rfl, by kernel_rfl⟩, ⟨by kernel_rfl, by kernel_rfl⟩, ⟨by kernel_rfl, by kernel_rfl⟩, ⟨by kernel_rfl, by kernel_rfl⟩, ⟨by kernel_rfl, by kernel_rfl⟩, ⟨by kernel_rfl, by kernel_rfl⟩, ⟨by kernel_rfl, by kernel_rfl⟩, ⟨by kernel_rfl, by kernel_rfl⟩, ⟨by kernel_rfl, by kernel_rfl⟩, ⟨by kernel_rfl, by kernel_rfl⟩, ⟨by kernel_rfl, by kernel_rfl⟩, ⟨by kernel_rfl, by kernel_rfl⟩, ⟨by kernel_rfl, by kernel_rfl⟩, ⟨by kernel_rfl, by kernel_rfl⟩, ⟨by kernel_rfl, by kernel_rfl⟩, ⟨by kernel_rfl, by kernel_rfl⟩, ⟨by kernel_rfl, by kernel_rfl⟩, ⟨by kernel_rfl, by kernel_rfl⟩, ⟨by kernel_rfl, by kernel_rfl⟩, ⟨by kernel_rfl, by kernel_rfl⟩, ⟨by kernel_rfl, by kernel_rfl⟩, ⟨by kernel_rfl, by kernel_rfl⟩, ⟨by kernel_rfl, by kernel_rfl⟩, ⟨by kernel_rfl, by kernel_rfl⟩, ⟨by kernel_rfl, by kernel_rfl⟩, ⟨by kernel_rfl, by kernel_rfl⟩, True.intro⟩
theorem mixed : Try.prog.follows .mixedOrders = true := by kernel_rfl
def inL : List Nat → Nat → Bool
  | [], _ => false
  | a :: r, n => match Nat.beq a n with | true => true | false => inL r n
def stl : Nat → Bool := inL [14, 16, 20, 25, 26, 29]
/- 7: foghorn/hard.Fill -/
def p7 : Nat → Option PlanC := fun _ => none
def wl7 : Nat → List Nat := fun
  | 6 => [9, 26]
  | _ => []
def wj7 : Nat → Option (List Nat) := fun
  | 12 => some []
  | 13 => some [9]
  | _ => none
def kr7 : Nat → List Nat := fun _ => []
noncomputable def e7 : Ent := entOf Try.f7 ⟨p7, wl7, wj7, kr7, []⟩
theorem g7 : EntOk Try.prog tys stl 7 e7 := .inr ⟨rfl, Try.func7, by kernel_rfl, by kernel_rfl, by kernel_rfl, by kernel_rfl, by kernel_rfl, rfl⟩
/- 9: foghorn/foghornlaw22.sameBits -/
def p9 : Nat → Option PlanC := fun _ => none
def wl9 : Nat → List Nat := fun
  | 4 => [5]
  | _ => []
def wj9 : Nat → Option (List Nat) := fun _ => none
def kr9 : Nat → List Nat := fun _ => []
noncomputable def e9 : Ent := entOf Try.f9 ⟨p9, wl9, wj9, kr9, []⟩
theorem g9 : EntOk Try.prog tys stl 9 e9 := .inr ⟨rfl, Try.func9, by kernel_rfl, by kernel_rfl, by kernel_rfl, by kernel_rfl, by kernel_rfl, rfl⟩
/- 10: foghorn/foghornlaw22.sameMarks -/
def p10 : Nat → Option PlanC := fun _ => none
def wl10 : Nat → List Nat := fun
  | 4 => [5]
  | _ => []
def wj10 : Nat → Option (List Nat) := fun _ => none
def kr10 : Nat → List Nat := fun _ => []
noncomputable def e10 : Ent := entOf Try.f10 ⟨p10, wl10, wj10, kr10, []⟩
theorem g10 : EntOk Try.prog tys stl 10 e10 := .inr ⟨rfl, Try.func10, by kernel_rfl, by kernel_rfl, by kernel_rfl, by kernel_rfl, by kernel_rfl, rfl⟩
/- 11: foghorn/hard.Marks -/
def p11 : Nat → Option PlanC := fun _ => none
def wl11 : Nat → List Nat := fun
  | 3 => [11]
  | _ => []
def wj11 : Nat → Option (List Nat) := fun _ => none
def kr11 : Nat → List Nat := fun _ => []
noncomputable def e11 : Ent := entOf Try.f11 ⟨p11, wl11, wj11, kr11, []⟩
theorem g11 : EntOk Try.prog tys stl 11 e11 := .inr ⟨rfl, Try.func11, by kernel_rfl, by kernel_rfl, by kernel_rfl, by kernel_rfl, by kernel_rfl, rfl⟩
/- 13: foghorn/foghornlaw22.works -/
def p13 : Nat → Option PlanC := fun _ => none
def wl13 : Nat → List Nat := fun _ => []
def wj13 : Nat → Option (List Nat) := fun _ => none
def kr13 : Nat → List Nat := fun _ => []
noncomputable def e13 : Ent := entOf Try.f13 ⟨p13, wl13, wj13, kr13, []⟩
theorem g13 : EntOk Try.prog tys stl 13 e13 := .inr ⟨rfl, Try.func13, by kernel_rfl, by kernel_rfl, by kernel_rfl, by kernel_rfl, by kernel_rfl, rfl⟩
/- 14: foghorn/hard.isPattern -/
def p14 : Nat → Option PlanC := fun _ => none
def wl14 : Nat → List Nat := fun _ => []
def wj14 : Nat → Option (List Nat) := fun _ => none
def kr14 : Nat → List Nat := fun _ => []
noncomputable def e14 : Ent := entOf Try.f14 ⟨p14, wl14, wj14, kr14, []⟩
theorem g14 : EntOk Try.prog tys stl 14 e14 := .inr ⟨rfl, Try.func14, by kernel_rfl, by kernel_rfl, by kernel_rfl, by kernel_rfl, by kernel_rfl, rfl⟩
/- 16: foghorn/hard.mark -/
def p16 : Nat → Option PlanC := fun _ => none
def wl16 : Nat → List Nat := fun _ => []
def wj16 : Nat → Option (List Nat) := fun _ => none
def kr16 : Nat → List Nat := fun _ => []
noncomputable def e16 : Ent := entOf Try.f16 ⟨p16, wl16, wj16, kr16, []⟩
theorem g16 : EntOk Try.prog tys stl 16 e16 := .inr ⟨rfl, Try.func16, by kernel_rfl, by kernel_rfl, by kernel_rfl, by kernel_rfl, by kernel_rfl, rfl⟩
/- 17: foghorn/hard.Path -/
def p17 : Nat → Option PlanC := fun
  | 10 => some (.op 2 false (.op 3 false (.op 4 false (.op 5 false (.op 6 false (.op 7 false (.op 8 false (.op 9 false (.op 10 false (.op 11 false (.op 12 false (.op 13 false (.op 14 false (.op 15 false (.op 16 false (.op 17 false (.op 18 false (.op 19 false (.op 20 false (.op 21 false (.op 22 false (.op 0 true (.op 1 true (.op 23 false (.op 24 false (.op 25 false (.op 26 true (.op 27 false (.op 28 false (.op 29 false (.done)))))))))))))))))))))))))))))))
  | _ => none
def wl17 : Nat → List Nat := fun
  | 8 => [11]
  | 14 => [12, 73]
  | _ => []
def wj17 : Nat → Option (List Nat) := fun _ => none
def kr17 : Nat → List Nat := fun _ => []
noncomputable def e17 : Ent := entOf Try.f17 ⟨p17, wl17, wj17, kr17, [2, 8]⟩
theorem g17 : EntOk Try.prog tys stl 17 e17 := .inr ⟨rfl, Try.func17, by kernel_rfl, by kernel_rfl, by kernel_rfl, by kernel_rfl, by kernel_rfl, rfl⟩
/- 18: foghorn/foghornlaw22.short -/
def p18 : Nat → Option PlanC := fun _ => none
def wl18 : Nat → List Nat := fun _ => []
def wj18 : Nat → Option (List Nat) := fun _ => none
def kr18 : Nat → List Nat := fun _ => []
noncomputable def e18 : Ent := entOf Try.f18 ⟨p18, wl18, wj18, kr18, []⟩
theorem g18 : EntOk Try.prog tys stl 18 e18 := .inr ⟨rfl, Try.func18, by kernel_rfl, by kernel_rfl, by kernel_rfl, by kernel_rfl, by kernel_rfl, rfl⟩
/- 19: foghorn/hard.Cost -/
def p19 : Nat → Option PlanC := fun _ => none
def wl19 : Nat → List Nat := fun
  | 11 => [11, 45]
  | _ => []
def wj19 : Nat → Option (List Nat) := fun _ => none
def kr19 : Nat → List Nat := fun _ => []
noncomputable def e19 : Ent := entOf Try.f19 ⟨p19, wl19, wj19, kr19, [3]⟩
theorem g19 : EntOk Try.prog tys stl 19 e19 := .inr ⟨rfl, Try.func19, by kernel_rfl, by kernel_rfl, by kernel_rfl, by kernel_rfl, by kernel_rfl, rfl⟩
/- 20: slices.Contains[[]bool,bool] -/
def p20 : Nat → Option PlanC := fun _ => none
def wl20 : Nat → List Nat := fun _ => []
def wj20 : Nat → Option (List Nat) := fun _ => none
def kr20 : Nat → List Nat := fun _ => []
noncomputable def e20 : Ent := entOf Try.f20 ⟨p20, wl20, wj20, kr20, []⟩
theorem g20 : EntOk Try.prog tys stl 20 e20 := .inr ⟨rfl, Try.func20, by kernel_rfl, by kernel_rfl, by kernel_rfl, by kernel_rfl, by kernel_rfl, rfl⟩
/- 21: foghorn/hard.checked -/
def p21 : Nat → Option PlanC := fun _ => none
def wl21 : Nat → List Nat := fun _ => []
def wj21 : Nat → Option (List Nat) := fun _ => none
def kr21 : Nat → List Nat := fun _ => []
noncomputable def e21 : Ent := entOf Try.f21 ⟨p21, wl21, wj21, kr21, [2]⟩
theorem g21 : EntOk Try.prog tys stl 21 e21 := .inr ⟨rfl, Try.func21, by kernel_rfl, by kernel_rfl, by kernel_rfl, by kernel_rfl, by kernel_rfl, rfl⟩
/- 22: foghorn/hard.ended -/
def p22 : Nat → Option PlanC := fun _ => none
def wl22 : Nat → List Nat := fun
  | 3 => [3]
  | _ => []
def wj22 : Nat → Option (List Nat) := fun _ => none
def kr22 : Nat → List Nat := fun _ => []
noncomputable def e22 : Ent := entOf Try.f22 ⟨p22, wl22, wj22, kr22, [1]⟩
theorem g22 : EntOk Try.prog tys stl 22 e22 := .inr ⟨rfl, Try.func22, by kernel_rfl, by kernel_rfl, by kernel_rfl, by kernel_rfl, by kernel_rfl, rfl⟩
/- 23: foghorn/hard.back -/
def p23 : Nat → Option PlanC := fun _ => none
def wl23 : Nat → List Nat := fun
  | 4 => [13, 21]
  | _ => []
def wj23 : Nat → Option (List Nat) := fun
  | 12 => some [13]
  | _ => none
def kr23 : Nat → List Nat := fun _ => []
noncomputable def e23 : Ent := entOf Try.f23 ⟨p23, wl23, wj23, kr23, [12]⟩
theorem g23 : EntOk Try.prog tys stl 23 e23 := .inr ⟨rfl, Try.func23, by kernel_rfl, by kernel_rfl, by kernel_rfl, by kernel_rfl, by kernel_rfl, rfl⟩
/- 24: (foghorn/trellis.Code).Encode -/
def p24 : Nat → Option PlanC := fun _ => none
def wl24 : Nat → List Nat := fun _ => []
def wj24 : Nat → Option (List Nat) := fun _ => none
def kr24 : Nat → List Nat := fun _ => []
noncomputable def e24 : Ent := entOf Try.f24 ⟨p24, wl24, wj24, kr24, [2]⟩
theorem g24 : EntOk Try.prog tys stl 24 e24 := .inr ⟨rfl, Try.func24, by kernel_rfl, by kernel_rfl, by kernel_rfl, by kernel_rfl, by kernel_rfl, rfl⟩
/- 25: foghorn/hard.cost -/
def p25 : Nat → Option PlanC := fun _ => none
def wl25 : Nat → List Nat := fun _ => []
def wj25 : Nat → Option (List Nat) := fun _ => none
def kr25 : Nat → List Nat := fun _ => []
noncomputable def e25 : Ent := entOf Try.f25 ⟨p25, wl25, wj25, kr25, []⟩
theorem g25 : EntOk Try.prog tys stl 25 e25 := .inr ⟨rfl, Try.func25, by kernel_rfl, by kernel_rfl, by kernel_rfl, by kernel_rfl, by kernel_rfl, rfl⟩
/- 26: slices.Index[[]bool,bool] -/
def p26 : Nat → Option PlanC := fun _ => none
def wl26 : Nat → List Nat := fun
  | 2 => [8]
  | _ => []
def wj26 : Nat → Option (List Nat) := fun _ => none
def kr26 : Nat → List Nat := fun _ => []
noncomputable def e26 : Ent := entOf Try.f26 ⟨p26, wl26, wj26, kr26, []⟩
theorem g26 : EntOk Try.prog tys stl 26 e26 := .inr ⟨rfl, Try.func26, by kernel_rfl, by kernel_rfl, by kernel_rfl, by kernel_rfl, by kernel_rfl, rfl⟩
/- 27: foghorn/lattice.Of -/
def p27 : Nat → Option PlanC := fun _ => none
def wl27 : Nat → List Nat := fun
  | 6 => [29]
  | 9 => [33]
  | _ => []
def wj27 : Nat → Option (List Nat) := fun _ => none
def kr27 : Nat → List Nat := fun _ => []
noncomputable def e27 : Ent := entOf Try.f27 ⟨p27, wl27, wj27, kr27, [1]⟩
theorem g27 : EntOk Try.prog tys stl 27 e27 := .inr ⟨rfl, Try.func27, by kernel_rfl, by kernel_rfl, by kernel_rfl, by kernel_rfl, by kernel_rfl, rfl⟩
/- 28: slices.ContainsFunc[[]foghorn/hard.Mark,foghorn/hard.Mark] -/
def p28 : Nat → Option PlanC := fun _ => none
def wl28 : Nat → List Nat := fun _ => []
def wj28 : Nat → Option (List Nat) := fun _ => none
def kr28 : Nat → List Nat := fun _ => []
noncomputable def e28 : Ent := entOf Try.f28 ⟨p28, wl28, wj28, kr28, []⟩
theorem g28 : EntOk Try.prog tys stl 28 e28 := .inr ⟨rfl, Try.func28, by kernel_rfl, by kernel_rfl, by kernel_rfl, by kernel_rfl, by kernel_rfl, rfl⟩
/- 29: foghorn/hard.checked$1 -/
def p29 : Nat → Option PlanC := fun _ => none
def wl29 : Nat → List Nat := fun _ => []
def wj29 : Nat → Option (List Nat) := fun _ => none
def kr29 : Nat → List Nat := fun _ => []
noncomputable def e29 : Ent := entOf Try.f29 ⟨p29, wl29, wj29, kr29, []⟩
theorem g29 : EntOk Try.prog tys stl 29 e29 := .inr ⟨rfl, Try.func29, by kernel_rfl, by kernel_rfl, by kernel_rfl, by kernel_rfl, by kernel_rfl, rfl⟩
/- 30: foghorn/hard.back$1 -/
def p30 : Nat → Option PlanC := fun
  | 1 => some (.op 0 false (.op 1 false (.op 2 false (.op 3 false (.op 4 false (.op 5 false (.op 6 false (.op 7 false (.op 8 false (.op 9 false (.op 10 false (.op 11 false (.op 12 false (.op 13 false (.op 14 false (.done))))))))))))))))
  | _ => none
def wl30 : Nat → List Nat := fun _ => []
def wj30 : Nat → Option (List Nat) := fun _ => none
def kr30 : Nat → List Nat := fun _ => []
noncomputable def e30 : Ent := entOf Try.f30 ⟨p30, wl30, wj30, kr30, [4]⟩
theorem g30 : EntOk Try.prog tys stl 30 e30 := .inr ⟨rfl, Try.func30, by kernel_rfl, by kernel_rfl, by kernel_rfl, by kernel_rfl, by kernel_rfl, rfl⟩
/- 31: (foghorn/trellis.Code).coded -/
def p31 : Nat → Option PlanC := fun _ => none
def wl31 : Nat → List Nat := fun _ => []
def wj31 : Nat → Option (List Nat) := fun _ => none
def kr31 : Nat → List Nat := fun _ => []
noncomputable def e31 : Ent := entOf Try.f31 ⟨p31, wl31, wj31, kr31, [2]⟩
theorem g31 : EntOk Try.prog tys stl 31 e31 := .inr ⟨rfl, Try.func31, by kernel_rfl, by kernel_rfl, by kernel_rfl, by kernel_rfl, by kernel_rfl, rfl⟩
/- 32: foghorn/trellis.through -/
def p32 : Nat → Option PlanC := fun _ => none
def wl32 : Nat → List Nat := fun
  | 2 => [8, 17]
  | _ => []
def wj32 : Nat → Option (List Nat) := fun _ => none
def kr32 : Nat → List Nat := fun _ => []
noncomputable def e32 : Ent := entOf Try.f32 ⟨p32, wl32, wj32, kr32, []⟩
theorem g32 : EntOk Try.prog tys stl 32 e32 := .inr ⟨rfl, Try.func32, by kernel_rfl, by kernel_rfl, by kernel_rfl, by kernel_rfl, by kernel_rfl, rfl⟩
/- 33: (foghorn/trellis.Code).step -/
def p33 : Nat → Option PlanC := fun
  | 2 => some (.op 1 false (.op 0 false (.op 2 false (.chk [0] (.op 3 false (.op 4 false (.done)))))))
  | 4 => some (.op 2 false (.op 3 false (.op 4 false (.op 6 true (.op 7 true (.op 0 false (.op 1 true (.op 8 false (.op 5 false (.chk [8, 0] (.op 9 false (.chk [0] (.op 10 false (.op 11 false (.op 12 false (.done))))))))))))))))
  | _ => none
def wl33 : Nat → List Nat := fun _ => []
def wj33 : Nat → Option (List Nat) := fun
  | 3 => some []
  | _ => none
def kr33 : Nat → List Nat := fun _ => []
noncomputable def e33 : Ent := entOf Try.f33 ⟨p33, wl33, wj33, kr33, [3]⟩
theorem g33 : EntOk Try.prog tys stl 33 e33 := .inr ⟨rfl, Try.func33, by kernel_rfl, by kernel_rfl, by kernel_rfl, by kernel_rfl, by kernel_rfl, rfl⟩
/- 34: (foghorn/trellis.Code).Encode$1 -/
def p34 : Nat → Option PlanC := fun _ => none
def wl34 : Nat → List Nat := fun _ => []
def wj34 : Nat → Option (List Nat) := fun _ => none
def kr34 : Nat → List Nat := fun
  | 0 => [10]
  | _ => []
noncomputable def e34 : Ent := entOf Try.f34 ⟨p34, wl34, wj34, kr34, []⟩
theorem g34 : EntOk Try.prog tys stl 34 e34 := .inr ⟨rfl, Try.func34, by kernel_rfl, by kernel_rfl, by kernel_rfl, by kernel_rfl, by kernel_rfl, rfl⟩
/- 35: (foghorn/trellis.Code).States -/
def p35 : Nat → Option PlanC := fun _ => none
def wl35 : Nat → List Nat := fun _ => []
def wj35 : Nat → Option (List Nat) := fun _ => none
def kr35 : Nat → List Nat := fun _ => []
noncomputable def e35 : Ent := entOf Try.f35 ⟨p35, wl35, wj35, kr35, [1]⟩
theorem g35 : EntOk Try.prog tys stl 35 e35 := .inr ⟨rfl, Try.func35, by kernel_rfl, by kernel_rfl, by kernel_rfl, by kernel_rfl, by kernel_rfl, rfl⟩
/- 36: (foghorn/trellis.Code).Step -/
def p36 : Nat → Option PlanC := fun _ => none
def wl36 : Nat → List Nat := fun _ => []
def wj36 : Nat → Option (List Nat) := fun _ => none
def kr36 : Nat → List Nat := fun _ => []
noncomputable def e36 : Ent := entOf Try.f36 ⟨p36, wl36, wj36, kr36, [3]⟩
theorem g36 : EntOk Try.prog tys stl 36 e36 := .inr ⟨rfl, Try.func36, by kernel_rfl, by kernel_rfl, by kernel_rfl, by kernel_rfl, by kernel_rfl, rfl⟩
/- 37: slices.IndexFunc[[]foghorn/hard.Mark,foghorn/hard.Mark] -/
def p37 : Nat → Option PlanC := fun _ => none
def wl37 : Nat → List Nat := fun
  | 2 => [8]
  | _ => []
def wj37 : Nat → Option (List Nat) := fun _ => none
def kr37 : Nat → List Nat := fun _ => []
noncomputable def e37 : Ent := entOf Try.f37 ⟨p37, wl37, wj37, kr37, []⟩
theorem g37 : EntOk Try.prog tys stl 37 e37 := .inr ⟨rfl, Try.func37, by kernel_rfl, by kernel_rfl, by kernel_rfl, by kernel_rfl, by kernel_rfl, rfl⟩
/- 38: (foghorn/trellis.Code).Check -/
def p38 : Nat → Option PlanC := fun _ => none
def wl38 : Nat → List Nat := fun _ => []
def wj38 : Nat → Option (List Nat) := fun _ => none
def kr38 : Nat → List Nat := fun _ => []
noncomputable def e38 : Ent := entOf Try.f38 ⟨p38, wl38, wj38, kr38, [1]⟩
theorem g38 : EntOk Try.prog tys stl 38 e38 := .inr ⟨rfl, Try.func38, by kernel_rfl, by kernel_rfl, by kernel_rfl, by kernel_rfl, by kernel_rfl, rfl⟩
/- 39: (foghorn/trellis.Code).states -/
def p39 : Nat → Option PlanC := fun _ => none
def wl39 : Nat → List Nat := fun _ => []
def wj39 : Nat → Option (List Nat) := fun _ => none
def kr39 : Nat → List Nat := fun _ => []
noncomputable def e39 : Ent := entOf Try.f39 ⟨p39, wl39, wj39, kr39, [1]⟩
theorem g39 : EntOk Try.prog tys stl 39 e39 := .inr ⟨rfl, Try.func39, by kernel_rfl, by kernel_rfl, by kernel_rfl, by kernel_rfl, by kernel_rfl, rfl⟩
/- 40: (foghorn/trellis.Code).step$1 -/
def p40 : Nat → Option PlanC := fun _ => none
def wl40 : Nat → List Nat := fun _ => []
def wj40 : Nat → Option (List Nat) := fun _ => none
def kr40 : Nat → List Nat := fun _ => []
noncomputable def e40 : Ent := entOf Try.f40 ⟨p40, wl40, wj40, kr40, []⟩
theorem g40 : EntOk Try.prog tys stl 40 e40 := .inr ⟨rfl, Try.func40, by kernel_rfl, by kernel_rfl, by kernel_rfl, by kernel_rfl, by kernel_rfl, rfl⟩
/- 41: math/bits.OnesCount32 -/
def p41 : Nat → Option PlanC := fun _ => none
def wl41 : Nat → List Nat := fun _ => []
def wj41 : Nat → Option (List Nat) := fun _ => none
def kr41 : Nat → List Nat := fun _ => []
noncomputable def e41 : Ent := entOf Try.f41 ⟨p41, wl41, wj41, kr41, []⟩
theorem g41 : EntOk Try.prog tys stl 41 e41 := .inr ⟨rfl, Try.func41, by kernel_rfl, by kernel_rfl, by kernel_rfl, by kernel_rfl, by kernel_rfl, rfl⟩
/- 42: (foghorn/trellis.Code).isState -/
def p42 : Nat → Option PlanC := fun _ => none
def wl42 : Nat → List Nat := fun _ => []
def wj42 : Nat → Option (List Nat) := fun _ => none
def kr42 : Nat → List Nat := fun _ => []
noncomputable def e42 : Ent := entOf Try.f42 ⟨p42, wl42, wj42, kr42, [2]⟩
theorem g42 : EntOk Try.prog tys stl 42 e42 := .inr ⟨rfl, Try.func42, by kernel_rfl, by kernel_rfl, by kernel_rfl, by kernel_rfl, by kernel_rfl, rfl⟩
noncomputable def ents : List (Nat × Ent) := [(7, e7), (9, e9), (10, e10), (11, e11), (13, e13), (14, e14), (16, e16), (17, e17), (18, e18), (19, e19), (20, e20), (21, e21), (22, e22), (23, e23), (24, e24), (25, e25), (26, e26), (27, e27), (28, e28), (29, e29), (30, e30), (31, e31), (32, e32), (33, e33), (34, e34), (35, e35), (36, e36), (37, e37), (38, e38), (39, e39), (40, e40), (41, e41), (42, e42)]
theorem goods : EntsOk Try.prog tys stl ents := ⟨g7, g9, g10, g11, g13, g14, g16, g17, g18, g19, g20, g21, g22, g23, g24, g25, g26, g27, g28, g29, g30, g31, g32, g33, g34, g35, g36, g37, g38, g39, g40, g41, g42, True.intro⟩
noncomputable def tab : Nat → Option Ent := (tabOf ents).get
theorem fok : FOk Try.prog tys stl tab := fok_of goods
noncomputable def d0 : Disp := .leaf
theorem d0_ok : CallSim Try.prog tys stl tab d0.fn := Disp.sim True.intro
/- foghorn/foghornlaw22.sameBits -/
noncomputable def R9 (q_genW : Option CV → (W → Bool) → Bool) (q_addW : Nat → Nat → Option CV → W → W → (W → Bool) → Bool) (q_cmpW : (Nat → Nat → Bool) → Nat → Option CV → W → W → (W → Bool) → Bool) (q_condW : W → Bool → Bool → Bool) (q_idxSW : Nat → W → W → (W → Bool) → Bool) (q_lenW : Option CV → W → (W → Bool) → Bool) (q_loadSW : HW → W → (W → Bool) → Bool) (fu : Nat) (call : CallW) (a0 : W) (a1 : W) (h0 : HW) (c0 : Nat) (K : KW) : Bool :=
q_lenW (lenC tys 22 (dec a0)) a0 fun v1 =>
q_lenW (lenC tys 22 (dec a1)) a1 fun v2 =>
q_cmpW (cmpF2 .neq) 3 (binC Try.prog .neq 3 (.tmp 7) (.tmp 9) (dec v1) (dec v2)) v1 v2 fun v3 =>
q_condW v3 (
K ⟨8, 0, r0, []⟩ h0 c0) (
@Nat.rec (fun _ => Fun 1) (fun _ _ _ => false) (fun _ f7 v4 h5 c6 =>
q_lenW (lenC tys 22 (dec a0)) a0 fun v8 =>
q_cmpW (cmpF2 .lss) 3 (binC Try.prog .lss 3 (.tmp 11) (.tmp 13) (dec v4) (dec v8)) v4 v8 fun v9 =>
q_condW v9 (
q_idxSW 1 a0 v4 fun v10 =>
q_loadSW h5 v10 fun v11 =>
q_idxSW 1 a1 v4 fun v12 =>
q_loadSW h5 v12 fun v13 =>
q_genW (binC Try.prog .neq 4 (.tmp 20) (.tmp 24) (dec v11) (dec v13)) fun v14 =>
q_condW v14 (
K ⟨8, 0, r0, []⟩ h5 c6) (
q_addW 3 9223372036854775807 (binC Try.prog .add 3 (.tmp 15) (.const (.int .i64 (.ofNat 1))) (dec v4) (dec ⟨3, 1, r0, []⟩)) v4 ⟨3, 1, r0, []⟩ fun v15 =>
f7 v15 h5 c6)) (
K ⟨8, 1, r0, []⟩ h5 c6)) fu ⟨3, 0, r0, []⟩ h0 c0)
theorem R9_eq (Q : PrimW) (fu : Nat) (call : CallW) : curryA 2 (fnK Q Try.prog tys stl fu call e9) = R9 Q.genW Q.addW Q.cmpW Q.condW Q.idxSW Q.lenW Q.loadSW fu call := by kernel_rfl
noncomputable def n9 : List W → HW → Nat → KW → Bool := appF 2 (R9 genW addW cmpW condW idxSW lenW loadSW 1000000 d0.fn)
theorem n9_ok : FnGood Try.prog tys stl tab 9 n9 := node_ok d0_ok (by kernel_rfl) rfl g9 (R9_eq real _ _)
/- foghorn/foghornlaw22.sameMarks -/
noncomputable def R10 (q_addW : Nat → Nat → Option CV → W → W → (W → Bool) → Bool) (q_cmpW : (Nat → Nat → Bool) → Nat → Option CV → W → W → (W → Bool) → Bool) (q_condW : W → Bool → Bool → Bool) (q_idxSW : Nat → W → W → (W → Bool) → Bool) (q_lenW : Option CV → W → (W → Bool) → Bool) (q_loadSW : HW → W → (W → Bool) → Bool) (fu : Nat) (call : CallW) (a0 : W) (a1 : W) (h0 : HW) (c0 : Nat) (K : KW) : Bool :=
q_lenW (lenC tys 26 (dec a0)) a0 fun v1 =>
q_lenW (lenC tys 29 (dec a1)) a1 fun v2 =>
q_cmpW (cmpF2 .neq) 3 (binC Try.prog .neq 3 (.tmp 7) (.tmp 9) (dec v1) (dec v2)) v1 v2 fun v3 =>
q_condW v3 (
K ⟨8, 0, r0, []⟩ h0 c0) (
@Nat.rec (fun _ => Fun 1) (fun _ _ _ => false) (fun _ f7 v4 h5 c6 =>
q_lenW (lenC tys 26 (dec a0)) a0 fun v8 =>
q_cmpW (cmpF2 .lss) 3 (binC Try.prog .lss 3 (.tmp 11) (.tmp 13) (dec v4) (dec v8)) v4 v8 fun v9 =>
q_condW v9 (
q_idxSW 1 a0 v4 fun v10 =>
q_loadSW h5 v10 fun v11 =>
q_idxSW 1 a1 v4 fun v12 =>
q_loadSW h5 v12 fun v13 =>
q_cmpW (cmpF2 .neq) 4 (binC Try.prog .neq 5 (.tmp 20) (.tmp 24) (dec v11) (dec v13)) v11 v13 fun v14 =>
q_condW v14 (
K ⟨8, 0, r0, []⟩ h5 c6) (
q_addW 3 9223372036854775807 (binC Try.prog .add 3 (.tmp 15) (.const (.int .i64 (.ofNat 1))) (dec v4) (dec ⟨3, 1, r0, []⟩)) v4 ⟨3, 1, r0, []⟩ fun v15 =>
f7 v15 h5 c6)) (
K ⟨8, 1, r0, []⟩ h5 c6)) fu ⟨3, 0, r0, []⟩ h0 c0)
theorem R10_eq (Q : PrimW) (fu : Nat) (call : CallW) : curryA 2 (fnK Q Try.prog tys stl fu call e10) = R10 Q.addW Q.cmpW Q.condW Q.idxSW Q.lenW Q.loadSW fu call := by kernel_rfl
noncomputable def n10 : List W → HW → Nat → KW → Bool := appF 2 (R10 addW cmpW condW idxSW lenW loadSW 1000000 d0.fn)
theorem n10_ok : FnGood Try.prog tys stl tab 10 n10 := node_ok d0_ok (by kernel_rfl) rfl g10 (R10_eq real _ _)
/- foghorn/hard.mark -/
noncomputable def R16 (q_condW : W → Bool → Bool → Bool) (fu : Nat) (call : CallW) (a0 : W) (h0 : HW) (c0 : Nat) (K : KW) : Bool :=
q_condW a0 (
K ⟨4, 1, r0, []⟩ h0 c0) (
K ⟨4, 0, r0, []⟩ h0 c0)
theorem R16_eq (Q : PrimW) (fu : Nat) (call : CallW) : curryA 1 (fnK Q Try.prog tys stl fu call e16) = R16 Q.condW fu call := by kernel_rfl
noncomputable def n16 : List W → HW → Nat → KW → Bool := appF 1 (R16 condW 1000000 d0.fn)
theorem n16_ok : FnGood Try.prog tys stl tab 16 n16 := node_ok d0_ok (by kernel_rfl) rfl g16 (R16_eq real _ _)
/- foghorn/foghornlaw22.short -/
noncomputable def R18 (q_loadAW : Nat → HW → W → (W → Bool) → Bool) (q_storeAW : Nat → HW → W → W → (HW → Bool) → Bool) (q_allocW : Trie W → Nat → Bool → HW → Nat → KW → Bool) (q_flatW : W → Bool → Bool) (fu : Nat) (call : CallW) (h0 : HW) (c0 : Nat) (K : KW) : Bool :=
q_allocW (allocT tys 45) 3 true h0 c0 fun v1 h2 c3 =>
q_flatW ⟨3, 3, r0, []⟩ (
q_flatW ⟨6, 7, r0, []⟩ (
q_flatW ⟨6, 5, r0, []⟩ (
(fun (v4 : W) =>
q_storeAW 3 h2 v1 v4 fun h5 =>
q_loadAW 3 h5 v1 fun v6 =>
K v6 h5 c3) ⟨15, 0, r0, [⟨3, 3, r0, []⟩, ⟨6, 7, r0, []⟩, ⟨6, 5, r0, []⟩]⟩)))
theorem R18_eq (Q : PrimW) (fu : Nat) (call : CallW) : curryA 0 (fnK Q Try.prog tys stl fu call e18) = R18 Q.loadAW Q.storeAW Q.allocW Q.flatW fu call := by kernel_rfl
noncomputable def n18 : List W → HW → Nat → KW → Bool := appF 0 (R18 loadAW storeAW allocW flatW 1000000 d0.fn)
theorem n18_ok : FnGood Try.prog tys stl tab 18 n18 := node_ok d0_ok (by kernel_rfl) rfl g18 (R18_eq real _ _)
/- foghorn/hard.ended -/
noncomputable def R22 (q_addW : Nat → Nat → Option CV → W → W → (W → Bool) → Bool) (q_cmpW : (Nat → Nat → Bool) → Nat → Option CV → W → W → (W → Bool) → Bool) (q_condW : W → Bool → Bool → Bool) (q_idxAW : Nat → Nat → W → W → (W → Bool) → Bool) (q_killVW : W → HW → (HW → Bool) → Bool) (q_loadAW : Nat → HW → W → (W → Bool) → Bool) (q_storeSW : HW → W → W → (HW → Bool) → Bool) (q_storeAW : Nat → HW → W → W → (HW → Bool) → Bool) (q_allocW : Trie W → Nat → Bool → HW → Nat → KW → Bool) (fu : Nat) (call : CallW) (h0 : HW) (c0 : Nat) (K : KW) : Bool :=
q_allocW (allocT tys 54) 64 true h0 c0 fun v1 h2 c3 =>
q_allocW (allocT tys 54) 64 true h2 c3 fun v4 h5 c6 =>
@Nat.rec (fun _ => Fun 1) (fun _ _ _ => false) (fun _ f10 v7 h8 c9 =>
q_cmpW (cmpF2 .lss) 3 (binC Try.prog .lss 3 (.tmp 3) (.const (.int .i64 (.ofNat 64))) (dec v7) (dec ⟨3, 64, r0, []⟩)) v7 ⟨3, 64, r0, []⟩ fun v11 =>
q_condW v11 (
q_idxAW 1 64 v4 v7 fun v12 =>
q_storeSW h8 v12 ⟨3, 1048576, r0, []⟩ fun h13 =>
q_addW 3 9223372036854775807 (binC Try.prog .add 3 (.tmp 3) (.const (.int .i64 (.ofNat 1))) (dec v7) (dec ⟨3, 1, r0, []⟩)) v7 ⟨3, 1, r0, []⟩ fun v14 =>
f10 v14 h13 c9) (
q_idxAW 1 64 v4 ⟨3, 0, r0, []⟩ fun v15 =>
q_storeSW h8 v15 ⟨3, 0, r0, []⟩ fun h16 =>
q_loadAW 64 h16 v4 fun v17 =>
q_storeAW 64 h16 v1 v17 fun h18 =>
q_loadAW 64 h18 v1 fun v19 =>
q_killVW v4 h18 fun h20 =>
K v19 h20 c9)) fu ⟨3, 0, r0, []⟩ h5 c6
theorem R22_eq (Q : PrimW) (fu : Nat) (call : CallW) : curryA 0 (fnK Q Try.prog tys stl fu call e22) = R22 Q.addW Q.cmpW Q.condW Q.idxAW Q.killVW Q.loadAW Q.storeSW Q.storeAW Q.allocW fu call := by kernel_rfl
noncomputable def n22 : List W → HW → Nat → KW → Bool := appF 0 (R22 addW cmpW condW idxAW killVW loadAW storeSW storeAW allocW 1000000 d0.fn)
theorem n22_ok : FnGood Try.prog tys stl tab 22 n22 := node_ok d0_ok (by kernel_rfl) rfl g22 (R22_eq real _ _)
/- slices.Index[[]bool,bool] -/
noncomputable def R26 (q_genW : Option CV → (W → Bool) → Bool) (q_addW : Nat → Nat → Option CV → W → W → (W → Bool) → Bool) (q_cmpW : (Nat → Nat → Bool) → Nat → Option CV → W → W → (W → Bool) → Bool) (q_condW : W → Bool → Bool → Bool) (q_idxSW : Nat → W → W → (W → Bool) → Bool) (q_lenW : Option CV → W → (W → Bool) → Bool) (q_loadSW : HW → W → (W → Bool) → Bool) (fu : Nat) (call : CallW) (a0 : W) (a1 : W) (h0 : HW) (c0 : Nat) (K : KW) : Bool :=
q_lenW (lenC tys 22 (dec a0)) a0 fun v1 =>
@Nat.rec (fun _ => Fun 1) (fun _ _ _ => false) (fun _ f5 v2 h3 c4 =>
q_cmpW (cmpF2 .lss) 3 (binC Try.prog .lss 3 (.tmp 8) (.tmp 7) (dec v2) (dec v1)) v2 v1 fun v6 =>
q_condW v6 (
q_idxSW 1 a0 v2 fun v7 =>
q_loadSW h3 v7 fun v8 =>
q_genW (binC Try.prog .eql 4 (.tmp 11) (.tmp 15) (dec a1) (dec v8)) fun v9 =>
q_condW v9 (
K v2 h3 c4) (
q_addW 3 9223372036854775807 (binC Try.prog .add 3 (.tmp 8) (.const (.int .i64 (.ofNat 1))) (dec v2) (dec ⟨3, 1, r0, []⟩)) v2 ⟨3, 1, r0, []⟩ fun v10 =>
f5 v10 h3 c4)) (
K ⟨12, 0, ⟨0, 0, 0, .int .i64 (.negSucc 0)⟩, []⟩ h3 c4)) fu ⟨3, 0, r0, []⟩ h0 c0
theorem R26_eq (Q : PrimW) (fu : Nat) (call : CallW) : curryA 2 (fnK Q Try.prog tys stl fu call e26) = R26 Q.genW Q.addW Q.cmpW Q.condW Q.idxSW Q.lenW Q.loadSW fu call := by kernel_rfl
noncomputable def n26 : List W → HW → Nat → KW → Bool := appF 2 (R26 genW addW cmpW condW idxSW lenW loadSW 1000000 d0.fn)
theorem n26_ok : FnGood Try.prog tys stl tab 26 n26 := node_ok d0_ok (by kernel_rfl) rfl g26 (R26_eq real _ _)
/- foghorn/hard.checked$1 -/
noncomputable def R29 (q_cmpW : (Nat → Nat → Bool) → Nat → Option CV → W → W → (W → Bool) → Bool) (fu : Nat) (call : CallW) (a0 : W) (h0 : HW) (c0 : Nat) (K : KW) : Bool :=
q_cmpW (cmpF2 .gtr) 4 (binC Try.prog .gtr 38 (.tmp 3) (.const (.int .u8 (.ofNat 2))) (dec a0) (dec ⟨4, 2, r0, []⟩)) a0 ⟨4, 2, r0, []⟩ fun v1 =>
K v1 h0 c0
theorem R29_eq (Q : PrimW) (fu : Nat) (call : CallW) : curryA 1 (fnK Q Try.prog tys stl fu call e29) = R29 Q.cmpW fu call := by kernel_rfl
noncomputable def n29 : List W → HW → Nat → KW → Bool := appF 1 (R29 cmpW 1000000 d0.fn)
theorem n29_ok : FnGood Try.prog tys stl tab 29 n29 := node_ok d0_ok (by kernel_rfl) rfl g29 (R29_eq real _ _)
/- (foghorn/trellis.Code).Encode$1 -/
noncomputable def R34 (q_killVW : W → HW → (HW → Bool) → Bool) (q_loadSW : HW → W → (W → Bool) → Bool) (q_storeSW : HW → W → W → (HW → Bool) → Bool) (q_buildSW : Nat → Nat → Kind → Nat → Bool → HW → Nat → Nat → List W → KW → Bool) (q_appSW : Nat → Nat → (Kind → Bool) → Bool → HW → Nat → W → W → Bool → KW → Bool) (fu : Nat) (call : CallW) (a0 : W) (a1 : W) (a2 : W) (a3 : W) (h0 : HW) (c0 : Nat) (K : KW) : Bool :=
q_loadSW h0 a3 fun v1 =>
q_buildSW 1 8 .bools 2 true h0 c0 2 [a1, a2] fun v2 h3 c4 =>
q_appSW 1 1 (appKindOk (elemJ tys 22)) false h3 c4 v1 v2 false fun v5 h6 c7 =>
q_storeSW h6 a3 v5 fun h8 =>
q_killVW v2 h8 fun h9 =>
K ⟨13, 0, r0, []⟩ h9 c7
theorem R34_eq (Q : PrimW) (fu : Nat) (call : CallW) : curryA 4 (fnK Q Try.prog tys stl fu call e34) = R34 Q.killVW Q.loadSW Q.storeSW Q.buildSW Q.appSW fu call := by kernel_rfl
noncomputable def n34 : List W → HW → Nat → KW → Bool := appF 4 (R34 killVW loadSW storeSW buildSW appSW 1000000 d0.fn)
theorem n34_ok : FnGood Try.prog tys stl tab 34 n34 := node_ok d0_ok (by kernel_rfl) rfl g34 (R34_eq real _ _)
/- (foghorn/trellis.Code).Check -/
noncomputable def R38 (q_share : (α : Type) → α → (α → Bool) → Bool) (q_subW : Nat → Nat → Option CV → W → W → (W → Bool) → Bool) (q_bitW : (Nat → Nat → Nat) → Nat → Nat → Option CV → W → W → (W → Bool) → Bool) (q_cmpW : (Nat → Nat → Bool) → Nat → Option CV → W → W → (W → Bool) → Bool) (q_shlW : Nat → Nat → Nat → Option CV → W → W → (W → Bool) → Bool) (q_shrW : Nat → Nat → Option CV → W → W → (W → Bool) → Bool) (q_condW : W → Bool → Bool → Bool) (q_guardW : Bool → W → Bool → Bool → Bool) (q_pickW : W → W → W → (W → Bool) → Bool) (q_fadW : Nat → W → (W → Bool) → Bool) (q_killVW : W → HW → (HW → Bool) → Bool) (q_loadSW : HW → W → (W → Bool) → Bool) (q_boxW : HW → Nat → W → KW → Bool) (fu : Nat) (call : CallW) (a0 : W) (h0 : HW) (c0 : Nat) (K : KW) : Bool :=
q_boxW h0 c0 a0 fun v1 h2 c3 =>
q_fadW 0 v1 fun v4 =>
q_loadSW h2 v4 fun v5 =>
q_cmpW (cmpF2 .lss) 3 (binC Try.prog .lss 3 (.tmp 5) (.const (.int .i64 (.ofNat 2))) (dec v5) (dec ⟨3, 2, r0, []⟩)) v5 ⟨3, 2, r0, []⟩ fun v6 =>
q_share _ (fun (v8 : W) (h9 : HW) (c10 : Nat) =>
q_share _ (fun (v12 : W) (h13 : HW) (c14 : Nat) =>
q_share _ (fun (v16 : W) (h17 : HW) (c18 : Nat) =>
q_pickW v6 ⟨8, 1, r0, []⟩ v16 fun v19 =>
q_condW v19 (
q_killVW v1 h17 fun h20 =>
K ⟨3, 1, r0, []⟩ h20 c18) (
q_fadW 0 v1 fun v21 =>
q_loadSW h17 v21 fun v22 =>
q_shlW 6 4294967295 32 (binC Try.prog .shl 43 (.const (.int .u32 (.ofNat 1))) (.tmp 13) (dec ⟨6, 1, r0, []⟩) (dec v22)) ⟨6, 1, r0, []⟩ v22 fun v23 =>
q_subW 6 4294967295 (binC Try.prog .sub 43 (.tmp 14) (.const (.int .u32 (.ofNat 1))) (dec v23) (dec ⟨6, 1, r0, []⟩)) v23 ⟨6, 1, r0, []⟩ fun v24 =>
q_fadW 1 v1 fun v25 =>
q_loadSW h17 v25 fun v26 =>
q_cmpW (cmpF2 .lss) 6 (binC Try.prog .lss 43 (.tmp 17) (.const (.int .u32 (.ofNat 1))) (dec v26) (dec ⟨6, 1, r0, []⟩)) v26 ⟨6, 1, r0, []⟩ fun v27 =>
q_share _ (fun (v29 : W) (h30 : HW) (c31 : Nat) =>
q_share _ (fun (v33 : W) (h34 : HW) (c35 : Nat) =>
q_share _ (fun (v37 : W) (h38 : HW) (c39 : Nat) =>
q_share _ (fun (v41 : W) (h42 : HW) (c43 : Nat) =>
q_pickW v27 ⟨8, 1, r0, []⟩ v41 fun v44 =>
q_share _ (fun (v46 : W) (h47 : HW) (c48 : Nat) =>
q_share _ (fun (v50 : W) (h51 : HW) (c52 : Nat) =>
q_share _ (fun (v54 : W) (h55 : HW) (c56 : Nat) =>
q_pickW v44 ⟨8, 1, r0, []⟩ v54 fun v57 =>
q_share _ (fun (v59 : W) (h60 : HW) (c61 : Nat) =>
q_share _ (fun (v63 : W) (h64 : HW) (c65 : Nat) =>
q_share _ (fun (v67 : W) (h68 : HW) (c69 : Nat) =>
q_share _ (fun (v71 : W) (h72 : HW) (c73 : Nat) =>
q_pickW v57 ⟨8, 1, r0, []⟩ v71 fun v74 =>
q_share _ (fun (v76 : W) (h77 : HW) (c78 : Nat) =>
q_share _ (fun (v80 : W) (h81 : HW) (c82 : Nat) =>
q_share _ (fun (v84 : W) (h85 : HW) (c86 : Nat) =>
q_share _ (fun (v88 : W) (h89 : HW) (c90 : Nat) =>
q_share _ (fun (v92 : W) (h93 : HW) (c94 : Nat) =>
q_share _ (fun (v96 : W) (h97 : HW) (c98 : Nat) =>
q_share _ (fun (v100 : W) (h101 : HW) (c102 : Nat) =>
q_share _ (fun (v104 : W) (h105 : HW) (c106 : Nat) =>
q_share _ (fun (v108 : W) (h109 : HW) (c110 : Nat) =>
q_share _ (fun (v112 : W) (h113 : HW) (c114 : Nat) =>
q_pickW v74 ⟨8, 1, r0, []⟩ v112 fun v115 =>
q_condW v115 (
q_killVW v1 h113 fun h116 =>
K ⟨3, 1, r0, []⟩ h116 c114) (
q_killVW v1 h113 fun h117 =>
K ⟨3, 0, r0, []⟩ h117 c114)) fun f111 =>
q_guardW false v74 (q_cmpW (cmpF2 .eql) 6 (binC Try.prog .eql 43 (.tmp 45) (.const (.int .u32 (.ofNat 0))) (dec v108) (dec ⟨6, 0, r0, []⟩)) v108 ⟨6, 0, r0, []⟩ fun v118 =>
f111 v118 h109 c110) (f111 wUnd h109 c110)) fun f107 =>
q_guardW false v74 (q_shrW 6 32 (binC Try.prog .shr 43 (.tmp 41) (.tmp 44) (dec v92) (dec v104)) v92 v104 fun v119 =>
f107 v119 h105 c106) (f107 wUnd h105 c106)) fun f103 =>
q_guardW false v74 (q_subW 3 9223372036854775807 (binC Try.prog .sub 3 (.tmp 43) (.const (.int .i64 (.ofNat 1))) (dec v100) (dec ⟨3, 1, r0, []⟩)) v100 ⟨3, 1, r0, []⟩ fun v120 =>
f103 v120 h101 c102) (f103 wUnd h101 c102)) fun f99 =>
q_guardW false v74 (q_loadSW h97 v96 fun v121 =>
f99 v121 h97 c98) (f99 wUnd h97 c98)) fun f95 =>
q_guardW false v74 (q_fadW 0 v1 fun v122 =>
f95 v122 h93 c94) (f95 wUnd h93 c94)) fun f91 =>
q_guardW false v74 (q_bitW Nat.lor 6 4294967295 (binC Try.prog .or 43 (.tmp 38) (.tmp 40) (dec v80) (dec v88)) v80 v88 fun v123 =>
f91 v123 h89 c90) (f91 wUnd h89 c90)) fun f87 =>
q_guardW false v74 (q_loadSW h85 v84 fun v124 =>
f87 v124 h85 c86) (f87 wUnd h85 c86)) fun f83 =>
q_guardW false v74 (q_fadW 2 v1 fun v125 =>
f83 v125 h81 c82) (f83 wUnd h81 c82)) fun f79 =>
q_guardW false v74 (q_loadSW h77 v76 fun v126 =>
f79 v126 h77 c78) (f79 wUnd h77 c78)) fun f75 =>
q_guardW false v74 (q_fadW 1 v1 fun v127 =>
f75 v127 h72 c73) (f75 wUnd h72 c73)) fun f70 =>
q_guardW false v57 (q_cmpW (cmpF2 .gtr) 6 (binC Try.prog .gtr 43 (.tmp 32) (.tmp 33) (dec v63) (dec v67)) v63 v67 fun v128 =>
f70 v128 h68 c69) (f70 wUnd h68 c69)) fun f66 =>
q_guardW false v57 (f66 v24 h64 c65) (f66 wUnd h64 c65)) fun f62 =>
q_guardW false v57 (q_loadSW h60 v59 fun v129 =>
f62 v129 h60 c61) (f62 wUnd h60 c61)) fun f58 =>
q_guardW false v57 (q_fadW 2 v1 fun v130 =>
f58 v130 h55 c56) (f58 wUnd h55 c56)) fun f53 =>
q_guardW false v44 (q_cmpW (cmpF2 .lss) 6 (binC Try.prog .lss 43 (.tmp 27) (.const (.int .u32 (.ofNat 1))) (dec v50) (dec ⟨6, 1, r0, []⟩)) v50 ⟨6, 1, r0, []⟩ fun v131 =>
f53 v131 h51 c52) (f53 wUnd h51 c52)) fun f49 =>
q_guardW false v44 (q_loadSW h47 v46 fun v132 =>
f49 v132 h47 c48) (f49 wUnd h47 c48)) fun f45 =>
q_guardW false v44 (q_fadW 2 v1 fun v133 =>
f45 v133 h42 c43) (f45 wUnd h42 c43)) fun f40 =>
q_guardW false v27 (q_cmpW (cmpF2 .gtr) 6 (binC Try.prog .gtr 43 (.tmp 21) (.tmp 22) (dec v33) (dec v37)) v33 v37 fun v134 =>
f40 v134 h38 c39) (f40 wUnd h38 c39)) fun f36 =>
q_guardW false v27 (f36 v24 h34 c35) (f36 wUnd h34 c35)) fun f32 =>
q_guardW false v27 (q_loadSW h30 v29 fun v135 =>
f32 v135 h30 c31) (f32 wUnd h30 c31)) fun f28 =>
q_guardW false v27 (q_fadW 1 v1 fun v136 =>
f28 v136 h17 c18) (f28 wUnd h17 c18))) fun f15 =>
q_guardW false v6 (q_cmpW (cmpF2 .gtr) 3 (binC Try.prog .gtr 3 (.tmp 9) (.const (.int .i64 (.ofNat 7))) (dec v12) (dec ⟨3, 7, r0, []⟩)) v12 ⟨3, 7, r0, []⟩ fun v137 =>
f15 v137 h13 c14) (f15 wUnd h13 c14)) fun f11 =>
q_guardW false v6 (q_loadSW h9 v8 fun v138 =>
f11 v138 h9 c10) (f11 wUnd h9 c10)) fun f7 =>
q_guardW false v6 (q_fadW 0 v1 fun v139 =>
f7 v139 h2 c3) (f7 wUnd h2 c3)
theorem R38_eq (Q : PrimW) (fu : Nat) (call : CallW) : curryA 1 (fnK Q Try.prog tys stl fu call e38) = R38 Q.share Q.subW Q.bitW Q.cmpW Q.shlW Q.shrW Q.condW Q.guardW Q.pickW Q.fadW Q.killVW Q.loadSW Q.boxW fu call := by kernel_rfl
noncomputable def n38 : List W → HW → Nat → KW → Bool := appF 1 (R38 (fun _ x f => f x) subW bitW cmpW shlW shrW condW guardW pickW fadW killVW loadSW boxW 1000000 d0.fn)
theorem n38_ok : FnGood Try.prog tys stl tab 38 n38 := node_ok d0_ok (by kernel_rfl) rfl g38 (R38_eq real _ _)
/- (foghorn/trellis.Code).states -/
noncomputable def R39 (q_subW : Nat → Nat → Option CV → W → W → (W → Bool) → Bool) (q_shlW : Nat → Nat → Nat → Option CV → W → W → (W → Bool) → Bool) (q_fadW : Nat → W → (W → Bool) → Bool) (q_killVW : W → HW → (HW → Bool) → Bool) (q_loadSW : HW → W → (W → Bool) → Bool) (q_boxW : HW → Nat → W → KW → Bool) (fu : Nat) (call : CallW) (a0 : W) (h0 : HW) (c0 : Nat) (K : KW) : Bool :=
q_boxW h0 c0 a0 fun v1 h2 c3 =>
q_fadW 0 v1 fun v4 =>
q_loadSW h2 v4 fun v5 =>
q_subW 3 9223372036854775807 (binC Try.prog .sub 3 (.tmp 4) (.const (.int .i64 (.ofNat 1))) (dec v5) (dec ⟨3, 1, r0, []⟩)) v5 ⟨3, 1, r0, []⟩ fun v6 =>
q_shlW 3 9223372036854775807 64 (binC Try.prog .shl 3 (.const (.int .i64 (.ofNat 1))) (.tmp 5) (dec ⟨3, 1, r0, []⟩) (dec v6)) ⟨3, 1, r0, []⟩ v6 fun v7 =>
q_killVW v1 h2 fun h8 =>
K v7 h8 c3
theorem R39_eq (Q : PrimW) (fu : Nat) (call : CallW) : curryA 1 (fnK Q Try.prog tys stl fu call e39) = R39 Q.subW Q.shlW Q.fadW Q.killVW Q.loadSW Q.boxW fu call := by kernel_rfl
noncomputable def n39 : List W → HW → Nat → KW → Bool := appF 1 (R39 subW shlW fadW killVW loadSW boxW 1000000 d0.fn)
theorem n39_ok : FnGood Try.prog tys stl tab 39 n39 := node_ok d0_ok (by kernel_rfl) rfl g39 (R39_eq real _ _)
/- math/bits.OnesCount32 -/
noncomputable def R41 (q_genW : Option CV → (W → Bool) → Bool) (q_addW : Nat → Nat → Option CV → W → W → (W → Bool) → Bool) (q_bitW : (Nat → Nat → Nat) → Nat → Nat → Option CV → W → W → (W → Bool) → Bool) (q_shrW : Nat → Nat → Option CV → W → W → (W → Bool) → Bool) (q_icvW : Nat → Nat → Option CV → W → (W → Bool) → Bool) (fu : Nat) (call : CallW) (a0 : W) (h0 : HW) (c0 : Nat) (K : KW) : Bool :=
q_shrW 6 32 (binC Try.prog .shr 43 (.tmp 3) (.const (.int .u64 (.ofNat 24))) (dec a0) (dec ⟨7, 24, r0, []⟩)) a0 ⟨7, 24, r0, []⟩ fun v1 =>
q_genW (two2 Try.prog (dec ⟨12, 0, ⟨0, 0, 0, .str ⟨⟨[0, 1, 1, 2, 1, 2, 2, 3, 1, 2, 2, 3, 2, 3, 3, 4, 1, 2, 2, 3, 2, 3, 3, 4, 2, 3, 3, 4, 3, 4, 4, 5, 1, 2, 2, 3, 2, 3, 3, 4, 2, 3, 3, 4, 3, 4, 4, 5, 2, 3, 3, 4, 3, 4, 4, 5, 3, 4, 4, 5, 4, 5, 5, 6, 1, 2, 2, 3, 2, 3, 3, 4, 2, 3, 3, 4, 3, 4, 4, 5, 2, 3, 3, 4, 3, 4, 4, 5, 3, 4, 4, 5, 4, 5, 5, 6, 2, 3, 3, 4, 3, 4, 4, 5, 3, 4, 4, 5, 4, 5, 5, 6, 3, 4, 4, 5, 4, 5, 5, 6, 4, 5, 5, 6, 5, 6, 6, 7, 1, 2, 2, 3, 2, 3, 3, 4, 2, 3, 3, 4, 3, 4, 4, 5, 2, 3, 3, 4, 3, 4, 4, 5, 3, 4, 4, 5, 4, 5, 5, 6, 2, 3, 3, 4, 3, 4, 4, 5, 3, 4, 4, 5, 4, 5, 5, 6, 3, 4, 4, 5, 4, 5, 5, 6, 4, 5, 5, 6, 5, 6, 6, 7, 2, 3, 3, 4, 3, 4, 4, 5, 3, 4, 4, 5, 4, 5, 5, 6, 3, 4, 4, 5, 4, 5, 5, 6, 4, 5, 5, 6, 5, 6, 6, 7, 3, 4, 4, 5, 4, 5, 5, 6, 4, 5, 5, 6, 5, 6, 6, 7, 4, 5, 5, 6, 5, 6, 6, 7, 5, 6, 6, 7, 6, 7, 7, 8]⟩⟩⟩, []⟩) (dec v1) (Instr.index 9)) fun v2 =>
q_shrW 6 32 (binC Try.prog .shr 43 (.tmp 6) (.const (.int .u64 (.ofNat 16))) (dec a0) (dec ⟨7, 16, r0, []⟩)) a0 ⟨7, 16, r0, []⟩ fun v3 =>
q_bitW Nat.land 6 4294967295 (binC Try.prog .and 43 (.tmp 7) (.const (.int .u32 (.ofNat 255))) (dec v3) (dec ⟨6, 255, r0, []⟩)) v3 ⟨6, 255, r0, []⟩ fun v4 =>
q_genW (two2 Try.prog (dec ⟨12, 0, ⟨0, 0, 0, .str ⟨⟨[0, 1, 1, 2, 1, 2, 2, 3, 1, 2, 2, 3, 2, 3, 3, 4, 1, 2, 2, 3, 2, 3, 3, 4, 2, 3, 3, 4, 3, 4, 4, 5, 1, 2, 2, 3, 2, 3, 3, 4, 2, 3, 3, 4, 3, 4, 4, 5, 2, 3, 3, 4, 3, 4, 4, 5, 3, 4, 4, 5, 4, 5, 5, 6, 1, 2, 2, 3, 2, 3, 3, 4, 2, 3, 3, 4, 3, 4, 4, 5, 2, 3, 3, 4, 3, 4, 4, 5, 3, 4, 4, 5, 4, 5, 5, 6, 2, 3, 3, 4, 3, 4, 4, 5, 3, 4, 4, 5, 4, 5, 5, 6, 3, 4, 4, 5, 4, 5, 5, 6, 4, 5, 5, 6, 5, 6, 6, 7, 1, 2, 2, 3, 2, 3, 3, 4, 2, 3, 3, 4, 3, 4, 4, 5, 2, 3, 3, 4, 3, 4, 4, 5, 3, 4, 4, 5, 4, 5, 5, 6, 2, 3, 3, 4, 3, 4, 4, 5, 3, 4, 4, 5, 4, 5, 5, 6, 3, 4, 4, 5, 4, 5, 5, 6, 4, 5, 5, 6, 5, 6, 6, 7, 2, 3, 3, 4, 3, 4, 4, 5, 3, 4, 4, 5, 4, 5, 5, 6, 3, 4, 4, 5, 4, 5, 5, 6, 4, 5, 5, 6, 5, 6, 6, 7, 3, 4, 4, 5, 4, 5, 5, 6, 4, 5, 5, 6, 5, 6, 6, 7, 4, 5, 5, 6, 5, 6, 6, 7, 5, 6, 6, 7, 6, 7, 7, 8]⟩⟩⟩, []⟩) (dec v4) (Instr.index 9)) fun v5 =>
q_addW 4 255 (binC Try.prog .add 5 (.tmp 5) (.tmp 9) (dec v2) (dec v5)) v2 v5 fun v6 =>
q_shrW 6 32 (binC Try.prog .shr 43 (.tmp 11) (.const (.int .u64 (.ofNat 8))) (dec a0) (dec ⟨7, 8, r0, []⟩)) a0 ⟨7, 8, r0, []⟩ fun v7 =>
q_bitW Nat.land 6 4294967295 (binC Try.prog .and 43 (.tmp 12) (.const (.int .u32 (.ofNat 255))) (dec v7) (dec ⟨6, 255, r0, []⟩)) v7 ⟨6, 255, r0, []⟩ fun v8 =>
q_genW (two2 Try.prog (dec ⟨12, 0, ⟨0, 0, 0, .str ⟨⟨[0, 1, 1, 2, 1, 2, 2, 3, 1, 2, 2, 3, 2, 3, 3, 4, 1, 2, 2, 3, 2, 3, 3, 4, 2, 3, 3, 4, 3, 4, 4, 5, 1, 2, 2, 3, 2, 3, 3, 4, 2, 3, 3, 4, 3, 4, 4, 5, 2, 3, 3, 4, 3, 4, 4, 5, 3, 4, 4, 5, 4, 5, 5, 6, 1, 2, 2, 3, 2, 3, 3, 4, 2, 3, 3, 4, 3, 4, 4, 5, 2, 3, 3, 4, 3, 4, 4, 5, 3, 4, 4, 5, 4, 5, 5, 6, 2, 3, 3, 4, 3, 4, 4, 5, 3, 4, 4, 5, 4, 5, 5, 6, 3, 4, 4, 5, 4, 5, 5, 6, 4, 5, 5, 6, 5, 6, 6, 7, 1, 2, 2, 3, 2, 3, 3, 4, 2, 3, 3, 4, 3, 4, 4, 5, 2, 3, 3, 4, 3, 4, 4, 5, 3, 4, 4, 5, 4, 5, 5, 6, 2, 3, 3, 4, 3, 4, 4, 5, 3, 4, 4, 5, 4, 5, 5, 6, 3, 4, 4, 5, 4, 5, 5, 6, 4, 5, 5, 6, 5, 6, 6, 7, 2, 3, 3, 4, 3, 4, 4, 5, 3, 4, 4, 5, 4, 5, 5, 6, 3, 4, 4, 5, 4, 5, 5, 6, 4, 5, 5, 6, 5, 6, 6, 7, 3, 4, 4, 5, 4, 5, 5, 6, 4, 5, 5, 6, 5, 6, 6, 7, 4, 5, 5, 6, 5, 6, 6, 7, 5, 6, 6, 7, 6, 7, 7, 8]⟩⟩⟩, []⟩) (dec v8) (Instr.index 9)) fun v9 =>
q_addW 4 255 (binC Try.prog .add 5 (.tmp 10) (.tmp 14) (dec v6) (dec v9)) v6 v9 fun v10 =>
q_bitW Nat.land 6 4294967295 (binC Try.prog .and 43 (.tmp 16) (.const (.int .u32 (.ofNat 255))) (dec a0) (dec ⟨6, 255, r0, []⟩)) a0 ⟨6, 255, r0, []⟩ fun v11 =>
q_genW (two2 Try.prog (dec ⟨12, 0, ⟨0, 0, 0, .str ⟨⟨[0, 1, 1, 2, 1, 2, 2, 3, 1, 2, 2, 3, 2, 3, 3, 4, 1, 2, 2, 3, 2, 3, 3, 4, 2, 3, 3, 4, 3, 4, 4, 5, 1, 2, 2, 3, 2, 3, 3, 4, 2, 3, 3, 4, 3, 4, 4, 5, 2, 3, 3, 4, 3, 4, 4, 5, 3, 4, 4, 5, 4, 5, 5, 6, 1, 2, 2, 3, 2, 3, 3, 4, 2, 3, 3, 4, 3, 4, 4, 5, 2, 3, 3, 4, 3, 4, 4, 5, 3, 4, 4, 5, 4, 5, 5, 6, 2, 3, 3, 4, 3, 4, 4, 5, 3, 4, 4, 5, 4, 5, 5, 6, 3, 4, 4, 5, 4, 5, 5, 6, 4, 5, 5, 6, 5, 6, 6, 7, 1, 2, 2, 3, 2, 3, 3, 4, 2, 3, 3, 4, 3, 4, 4, 5, 2, 3, 3, 4, 3, 4, 4, 5, 3, 4, 4, 5, 4, 5, 5, 6, 2, 3, 3, 4, 3, 4, 4, 5, 3, 4, 4, 5, 4, 5, 5, 6, 3, 4, 4, 5, 4, 5, 5, 6, 4, 5, 5, 6, 5, 6, 6, 7, 2, 3, 3, 4, 3, 4, 4, 5, 3, 4, 4, 5, 4, 5, 5, 6, 3, 4, 4, 5, 4, 5, 5, 6, 4, 5, 5, 6, 5, 6, 6, 7, 3, 4, 4, 5, 4, 5, 5, 6, 4, 5, 5, 6, 5, 6, 6, 7, 4, 5, 5, 6, 5, 6, 6, 7, 5, 6, 6, 7, 6, 7, 7, 8]⟩⟩⟩, []⟩) (dec v11) (Instr.index 9)) fun v12 =>
q_addW 4 255 (binC Try.prog .add 5 (.tmp 15) (.tmp 18) (dec v10) (dec v12)) v10 v12 fun v13 =>
q_icvW 3 9223372036854775807 (convC Try.prog tys ⟨[], 0, decH h0, 0⟩ 5 3 (dec v13)) v13 fun v14 =>
K v14 h0 c0
theorem R41_eq (Q : PrimW) (fu : Nat) (call : CallW) : curryA 1 (fnK Q Try.prog tys stl fu call e41) = R41 Q.genW Q.addW Q.bitW Q.shrW Q.icvW fu call := by kernel_rfl
noncomputable def n41 : List W → HW → Nat → KW → Bool := appF 1 (R41 genW addW bitW shrW icvW 1000000 d0.fn)
theorem n41_ok : FnGood Try.prog tys stl tab 41 n41 := node_ok d0_ok (by kernel_rfl) rfl g41 (R41_eq real _ _)
noncomputable def d1 : Disp := (.node 26 n26 (.node 16 n16 (.node 10 n10 (.node 9 n9 .leaf .leaf) .leaf) (.node 22 n22 (.node 18 n18 .leaf .leaf) .leaf)) (.node 38 n38 (.node 34 n34 (.node 29 n29 .leaf .leaf) .leaf) (.node 41 n41 (.node 39 n39 .leaf .leaf) .leaf)))
theorem d1_ok : CallSim Try.prog tys stl tab d1.fn := Disp.sim ⟨n26_ok, ⟨n16_ok, ⟨n10_ok, ⟨n9_ok, True.intro, True.intro⟩, True.intro⟩, ⟨n22_ok, ⟨n18_ok, True.intro, True.intro⟩, True.intro⟩⟩, ⟨n38_ok, ⟨n34_ok, ⟨n29_ok, True.intro, True.intro⟩, True.intro⟩, ⟨n41_ok, ⟨n39_ok, True.intro, True.intro⟩, True.intro⟩⟩⟩
/- foghorn/hard.Marks -/
noncomputable def R11 (q_addW : Nat → Nat → Option CV → W → W → (W → Bool) → Bool) (q_cmpW : (Nat → Nat → Bool) → Nat → Option CV → W → W → (W → Bool) → Bool) (q_condW : W → Bool → Bool → Bool) (q_idxSW : Nat → W → W → (W → Bool) → Bool) (q_lenW : Option CV → W → (W → Bool) → Bool) (q_loadSW : HW → W → (W → Bool) → Bool) (q_storeSW : HW → W → W → (HW → Bool) → Bool) (q_makeSW : Nat → Nat → Nat → Kind → List W → Bool → HW → Nat → W → W → KW → Bool) (fu : Nat) (call : CallW) (a0 : W) (h0 : HW) (c0 : Nat) (K : KW) : Bool :=
q_lenW (lenC tys 22 (dec a0)) a0 fun v1 =>
q_makeSW 1 1 4 (.ints .u8) [⟨4, 0, r0, []⟩] true h0 c0 v1 v1 fun v2 h3 c4 =>
q_lenW (lenC tys 22 (dec a0)) a0 fun v5 =>
@Nat.rec (fun _ => Fun 1) (fun _ _ _ => false) (fun _ f9 v6 h7 c8 =>
q_cmpW (cmpF2 .lss) 3 (binC Try.prog .lss 3 (.tmp 11) (.tmp 10) (dec v6) (dec v5)) v6 v5 fun v10 =>
q_condW v10 (
q_idxSW 1 a0 v6 fun v11 =>
q_loadSW h7 v11 fun v12 =>
call 16 [v12] h7 c8 fun v13 h14 c15 =>
q_idxSW 1 v2 v6 fun v16 =>
q_storeSW h14 v16 v13 fun h17 =>
q_addW 3 9223372036854775807 (binC Try.prog .add 3 (.tmp 11) (.const (.int .i64 (.ofNat 1))) (dec v6) (dec ⟨3, 1, r0, []⟩)) v6 ⟨3, 1, r0, []⟩ fun v18 =>
f9 v18 h17 c15) (
K v2 h7 c8)) fu ⟨3, 0, r0, []⟩ h3 c4
theorem R11_eq (Q : PrimW) (fu : Nat) (call : CallW) : curryA 1 (fnK Q Try.prog tys stl fu call e11) = R11 Q.addW Q.cmpW Q.condW Q.idxSW Q.lenW Q.loadSW Q.storeSW Q.makeSW fu call := by kernel_rfl
noncomputable def n11 : List W → HW → Nat → KW → Bool := appF 1 (R11 addW cmpW condW idxSW lenW loadSW storeSW makeSW 1000000 d1.fn)
theorem n11_ok : FnGood Try.prog tys stl tab 11 n11 := node_ok d1_ok (by kernel_rfl) rfl g11 (R11_eq real _ _)
/- slices.Contains[[]bool,bool] -/
noncomputable def R20 (q_cmpW : (Nat → Nat → Bool) → Nat → Option CV → W → W → (W → Bool) → Bool) (fu : Nat) (call : CallW) (a0 : W) (a1 : W) (h0 : HW) (c0 : Nat) (K : KW) : Bool :=
call 26 [a0, a1] h0 c0 fun v1 h2 c3 =>
q_cmpW (cmpF2 .geq) 3 (binC Try.prog .geq 3 (.tmp 7) (.const (.int .i64 (.ofNat 0))) (dec v1) (dec ⟨3, 0, r0, []⟩)) v1 ⟨3, 0, r0, []⟩ fun v4 =>
K v4 h2 c3
theorem R20_eq (Q : PrimW) (fu : Nat) (call : CallW) : curryA 2 (fnK Q Try.prog tys stl fu call e20) = R20 Q.cmpW fu call := by kernel_rfl
noncomputable def n20 : List W → HW → Nat → KW → Bool := appF 2 (R20 cmpW 1000000 d1.fn)
theorem n20_ok : FnGood Try.prog tys stl tab 20 n20 := node_ok d1_ok (by kernel_rfl) rfl g20 (R20_eq real _ _)
/- foghorn/hard.cost -/
noncomputable def R25 (q_share : (α : Type) → α → (α → Bool) → Bool) (q_cmpW : (Nat → Nat → Bool) → Nat → Option CV → W → W → (W → Bool) → Bool) (q_condW : W → Bool → Bool → Bool) (q_guardW : Bool → W → Bool → Bool → Bool) (q_pickW : W → W → W → (W → Bool) → Bool) (fu : Nat) (call : CallW) (a0 : W) (a1 : W) (h0 : HW) (c0 : Nat) (K : KW) : Bool :=
q_cmpW (cmpF2 .eql) 4 (binC Try.prog .eql 38 (.tmp 5) (.const (.int .u8 (.ofNat 2))) (dec a1) (dec ⟨4, 2, r0, []⟩)) a1 ⟨4, 2, r0, []⟩ fun v1 =>
q_share _ (fun (v3 : W) (h4 : HW) (c5 : Nat) =>
q_share _ (fun (v7 : W) (h8 : HW) (c9 : Nat) =>
q_share _ (fun (v11 : W) (h12 : HW) (c13 : Nat) =>
q_share _ (fun (v15 : W) (h16 : HW) (c17 : Nat) =>
q_pickW v1 ⟨8, 1, r0, []⟩ v15 fun v18 =>
q_condW v18 (
K ⟨3, 0, r0, []⟩ h16 c17) (
K ⟨3, 1, r0, []⟩ h16 c17)) fun f14 =>
q_guardW false v1 (q_cmpW (cmpF2 .eql) 4 (binC Try.prog .eql 38 (.tmp 8) (.tmp 10) (dec v3) (dec v11)) v3 v11 fun v19 =>
f14 v19 h12 c13) (f14 wUnd h12 c13)) fun f10 =>
q_guardW false v1 (call 16 [v7] h8 c9 fun v20 h21 c22 =>
f10 v20 h21 c22) (f10 wUnd h8 c9)) fun f6 =>
q_guardW false v1 (f6 a0 h4 c5) (f6 wUnd h4 c5)) fun f2 =>
q_guardW false v1 (f2 a1 h0 c0) (f2 wUnd h0 c0)
theorem R25_eq (Q : PrimW) (fu : Nat) (call : CallW) : curryA 2 (fnK Q Try.prog tys stl fu call e25) = R25 Q.share Q.cmpW Q.condW Q.guardW Q.pickW fu call := by kernel_rfl
noncomputable def n25 : List W → HW → Nat → KW → Bool := appF 2 (R25 (fun _ x f => f x) cmpW condW guardW pickW 1000000 d1.fn)
theorem n25_ok : FnGood Try.prog tys stl tab 25 n25 := node_ok d1_ok (by kernel_rfl) rfl g25 (R25_eq real _ _)
/- (foghorn/trellis.Code).coded -/
noncomputable def R31 (q_addW : Nat → Nat → Option CV → W → W → (W → Bool) → Bool) (q_subW : Nat → Nat → Option CV → W → W → (W → Bool) → Bool) (q_cmpW : (Nat → Nat → Bool) → Nat → Option CV → W → W → (W → Bool) → Bool) (q_condW : W → Bool → Bool → Bool) (q_fadW : Nat → W → (W → Bool) → Bool) (q_killVW : W → HW → (HW → Bool) → Bool) (q_loadSW : HW → W → (W → Bool) → Bool) (q_loadAW : Nat → HW → W → (W → Bool) → Bool) (q_boxW : HW → Nat → W → KW → Bool) (fu : Nat) (call : CallW) (a0 : W) (a1 : W) (h0 : HW) (c0 : Nat) (K : KW) : Bool :=
q_boxW h0 c0 a0 fun v1 h2 c3 =>
q_loadAW 3 h2 v1 fun v4 =>
call 38 [v4] h2 c3 fun v5 h6 c7 =>
q_cmpW (cmpF2 .neq) 3 (binC Try.prog .neq 23 (.tmp 9) (.const (.int .i64 (.ofNat 0))) (dec v5) (dec ⟨3, 0, r0, []⟩)) v5 ⟨3, 0, r0, []⟩ fun v8 =>
q_condW v8 (
q_killVW v1 h6 fun h9 =>
K ⟨13, 0, r0, [⟨3, 0, r0, []⟩, v5]⟩ h9 c7) (
q_fadW 0 v1 fun v10 =>
q_loadSW h6 v10 fun v11 =>
q_addW 3 9223372036854775807 (binC Try.prog .add 3 (.tmp 12) (.tmp 14) (dec a1) (dec v11)) a1 v11 fun v12 =>
q_subW 3 9223372036854775807 (binC Try.prog .sub 3 (.tmp 15) (.const (.int .i64 (.ofNat 1))) (dec v12) (dec ⟨3, 1, r0, []⟩)) v12 ⟨3, 1, r0, []⟩ fun v13 =>
q_cmpW (cmpF2 .gtr) 3 (binC Try.prog .gtr 3 (.tmp 16) (.const (.int .i64 (.ofNat 16384))) (dec v13) (dec ⟨3, 16384, r0, []⟩)) v13 ⟨3, 16384, r0, []⟩ fun v14 =>
q_condW v14 (
q_killVW v1 h6 fun h15 =>
K ⟨13, 0, r0, [⟨3, 0, r0, []⟩, ⟨3, 1, r0, []⟩]⟩ h15 c7) (
q_fadW 0 v1 fun v16 =>
q_loadSW h6 v16 fun v17 =>
q_addW 3 9223372036854775807 (binC Try.prog .add 3 (.tmp 18) (.tmp 20) (dec a1) (dec v17)) a1 v17 fun v18 =>
q_subW 3 9223372036854775807 (binC Try.prog .sub 3 (.tmp 21) (.const (.int .i64 (.ofNat 1))) (dec v18) (dec ⟨3, 1, r0, []⟩)) v18 ⟨3, 1, r0, []⟩ fun v19 =>
q_killVW v1 h6 fun h20 =>
K ⟨13, 0, r0, [v19, ⟨3, 0, r0, []⟩]⟩ h20 c7))
theorem R31_eq (Q : PrimW) (fu : Nat) (call : CallW) : curryA 2 (fnK Q Try.prog tys stl fu call e31) = R31 Q.addW Q.subW Q.cmpW Q.condW Q.fadW Q.killVW Q.loadSW Q.loadAW Q.boxW fu call := by kernel_rfl
noncomputable def n31 : List W → HW → Nat → KW → Bool := appF 2 (R31 addW subW cmpW condW fadW killVW loadSW loadAW boxW 1000000 d1.fn)
theorem n31_ok : FnGood Try.prog tys stl tab 31 n31 := node_ok d1_ok (by kernel_rfl) rfl g31 (R31_eq real _ _)
/- (foghorn/trellis.Code).States -/
noncomputable def R35 (q_cmpW : (Nat → Nat → Bool) → Nat → Option CV → W → W → (W → Bool) → Bool) (q_condW : W → Bool → Bool → Bool) (q_killVW : W → HW → (HW → Bool) → Bool) (q_loadAW : Nat → HW → W → (W → Bool) → Bool) (q_boxW : HW → Nat → W → KW → Bool) (fu : Nat) (call : CallW) (a0 : W) (h0 : HW) (c0 : Nat) (K : KW) : Bool :=
q_boxW h0 c0 a0 fun v1 h2 c3 =>
q_loadAW 3 h2 v1 fun v4 =>
call 38 [v4] h2 c3 fun v5 h6 c7 =>
q_cmpW (cmpF2 .neq) 3 (binC Try.prog .neq 23 (.tmp 7) (.const (.int .i64 (.ofNat 0))) (dec v5) (dec ⟨3, 0, r0, []⟩)) v5 ⟨3, 0, r0, []⟩ fun v8 =>
q_condW v8 (
q_killVW v1 h6 fun h9 =>
K ⟨13, 0, r0, [⟨3, 0, r0, []⟩, v5]⟩ h9 c7) (
q_loadAW 3 h6 v1 fun v10 =>
call 39 [v10] h6 c7 fun v11 h12 c13 =>
q_killVW v1 h12 fun h14 =>
K ⟨13, 0, r0, [v11, ⟨3, 0, r0, []⟩]⟩ h14 c13)
theorem R35_eq (Q : PrimW) (fu : Nat) (call : CallW) : curryA 1 (fnK Q Try.prog tys stl fu call e35) = R35 Q.cmpW Q.condW Q.killVW Q.loadAW Q.boxW fu call := by kernel_rfl
noncomputable def n35 : List W → HW → Nat → KW → Bool := appF 1 (R35 cmpW condW killVW loadAW boxW 1000000 d1.fn)
theorem n35_ok : FnGood Try.prog tys stl tab 35 n35 := node_ok d1_ok (by kernel_rfl) rfl g35 (R35_eq real _ _)
/- (foghorn/trellis.Code).step$1 -/
noncomputable def R40 (q_remW : Nat → Nat → Option CV → W → W → (W → Bool) → Bool) (q_bitW : (Nat → Nat → Nat) → Nat → Nat → Option CV → W → W → (W → Bool) → Bool) (q_cmpW : (Nat → Nat → Bool) → Nat → Option CV → W → W → (W → Bool) → Bool) (q_icvW : Nat → Nat → Option CV → W → (W → Bool) → Bool) (q_loadSW : HW → W → (W → Bool) → Bool) (fu : Nat) (call : CallW) (a0 : W) (a1 : W) (h0 : HW) (c0 : Nat) (K : KW) : Bool :=
q_loadSW h0 a1 fun v1 =>
q_icvW 6 4294967295 (convC Try.prog tys ⟨[], 0, decH h0, 0⟩ 3 43 (dec v1)) v1 fun v2 =>
q_bitW Nat.land 6 4294967295 (binC Try.prog .and 43 (.tmp 5) (.tmp 6) (dec v2) (dec a0)) v2 a0 fun v3 =>
call 41 [v3] h0 c0 fun v4 h5 c6 =>
q_remW 3 9223372036854775807 (binC Try.prog .rem 3 (.tmp 8) (.const (.int .i64 (.ofNat 2))) (dec v4) (dec ⟨3, 2, r0, []⟩)) v4 ⟨3, 2, r0, []⟩ fun v7 =>
q_cmpW (cmpF2 .neq) 3 (binC Try.prog .neq 3 (.tmp 9) (.const (.int .i64 (.ofNat 0))) (dec v7) (dec ⟨3, 0, r0, []⟩)) v7 ⟨3, 0, r0, []⟩ fun v8 =>
K v8 h5 c6
theorem R40_eq (Q : PrimW) (fu : Nat) (call : CallW) : curryA 2 (fnK Q Try.prog tys stl fu call e40) = R40 Q.remW Q.bitW Q.cmpW Q.icvW Q.loadSW fu call := by kernel_rfl
noncomputable def n40 : List W → HW → Nat → KW → Bool := appF 2 (R40 remW bitW cmpW icvW loadSW 1000000 d1.fn)
theorem n40_ok : FnGood Try.prog tys stl tab 40 n40 := node_ok d1_ok (by kernel_rfl) rfl g40 (R40_eq real _ _)
/- (foghorn/trellis.Code).isState -/
noncomputable def R42 (q_share : (α : Type) → α → (α → Bool) → Bool) (q_cmpW : (Nat → Nat → Bool) → Nat → Option CV → W → W → (W → Bool) → Bool) (q_guardW : Bool → W → Bool → Bool → Bool) (q_pickW : W → W → W → (W → Bool) → Bool) (q_killVW : W → HW → (HW → Bool) → Bool) (q_loadAW : Nat → HW → W → (W → Bool) → Bool) (q_boxW : HW → Nat → W → KW → Bool) (fu : Nat) (call : CallW) (a0 : W) (a1 : W) (h0 : HW) (c0 : Nat) (K : KW) : Bool :=
q_boxW h0 c0 a0 fun v1 h2 c3 =>
q_cmpW (cmpF2 .geq) 3 (binC Try.prog .geq 3 (.tmp 5) (.const (.int .i64 (.ofNat 0))) (dec a1) (dec ⟨3, 0, r0, []⟩)) a1 ⟨3, 0, r0, []⟩ fun v4 =>
q_share _ (fun (v6 : W) (h7 : HW) (c8 : Nat) =>
q_share _ (fun (v10 : W) (h11 : HW) (c12 : Nat) =>
q_share _ (fun (v14 : W) (h15 : HW) (c16 : Nat) =>
q_share _ (fun (v18 : W) (h19 : HW) (c20 : Nat) =>
q_pickW v4 v18 ⟨8, 0, r0, []⟩ fun v21 =>
q_killVW v1 h19 fun h22 =>
K v21 h22 c20) fun f17 =>
q_guardW true v4 (q_cmpW (cmpF2 .lss) 3 (binC Try.prog .lss 3 (.tmp 8) (.tmp 10) (dec v6) (dec v14)) v6 v14 fun v23 =>
f17 v23 h15 c16) (f17 wUnd h15 c16)) fun f13 =>
q_guardW true v4 (call 39 [v10] h11 c12 fun v24 h25 c26 =>
f13 v24 h25 c26) (f13 wUnd h11 c12)) fun f9 =>
q_guardW true v4 (q_loadAW 3 h7 v1 fun v27 =>
f9 v27 h7 c8) (f9 wUnd h7 c8)) fun f5 =>
q_guardW true v4 (f5 a1 h2 c3) (f5 wUnd h2 c3)
theorem R42_eq (Q : PrimW) (fu : Nat) (call : CallW) : curryA 2 (fnK Q Try.prog tys stl fu call e42) = R42 Q.share Q.cmpW Q.guardW Q.pickW Q.killVW Q.loadAW Q.boxW fu call := by kernel_rfl
noncomputable def n42 : List W → HW → Nat → KW → Bool := appF 2 (R42 (fun _ x f => f x) cmpW guardW pickW killVW loadAW boxW 1000000 d1.fn)
theorem n42_ok : FnGood Try.prog tys stl tab 42 n42 := node_ok d1_ok (by kernel_rfl) rfl g42 (R42_eq real _ _)
noncomputable def d2 : Disp := (.node 29 n29 (.node 18 n18 (.node 11 n11 (.node 10 n10 (.node 9 n9 .leaf .leaf) .leaf) (.node 16 n16 .leaf .leaf)) (.node 25 n25 (.node 22 n22 (.node 20 n20 .leaf .leaf) .leaf) (.node 26 n26 .leaf .leaf))) (.node 39 n39 (.node 35 n35 (.node 34 n34 (.node 31 n31 .leaf .leaf) .leaf) (.node 38 n38 .leaf .leaf)) (.node 41 n41 (.node 40 n40 .leaf .leaf) (.node 42 n42 .leaf .leaf))))
theorem d2_ok : CallSim Try.prog tys stl tab d2.fn := Disp.sim ⟨n29_ok, ⟨n18_ok, ⟨n11_ok, ⟨n10_ok, ⟨n9_ok, True.intro, True.intro⟩, True.intro⟩, ⟨n16_ok, True.intro, True.intro⟩⟩, ⟨n25_ok, ⟨n22_ok, ⟨n20_ok, True.intro, True.intro⟩, True.intro⟩, ⟨n26_ok, True.intro, True.intro⟩⟩⟩, ⟨n39_ok, ⟨n35_ok, ⟨n34_ok, ⟨n31_ok, True.intro, True.intro⟩, True.intro⟩, ⟨n38_ok, True.intro, True.intro⟩⟩, ⟨n41_ok, ⟨n40_ok, True.intro, True.intro⟩, ⟨n42_ok, True.intro, True.intro⟩⟩⟩⟩
/- foghorn/hard.isPattern -/
noncomputable def R14 (q_share : (α : Type) → α → (α → Bool) → Bool) (q_cmpW : (Nat → Nat → Bool) → Nat → Option CV → W → W → (W → Bool) → Bool) (q_guardW : Bool → W → Bool → Bool → Bool) (q_pickW : W → W → W → (W → Bool) → Bool) (q_lenW : Option CV → W → (W → Bool) → Bool) (fu : Nat) (call : CallW) (a0 : W) (h0 : HW) (c0 : Nat) (K : KW) : Bool :=
q_lenW (lenC tys 22 (dec a0)) a0 fun v1 =>
q_cmpW (cmpF2 .leq) 3 (binC Try.prog .leq 3 (.tmp 4) (.const (.int .i64 (.ofNat 64))) (dec v1) (dec ⟨3, 64, r0, []⟩)) v1 ⟨3, 64, r0, []⟩ fun v2 =>
q_share _ (fun (v4 : W) (h5 : HW) (c6 : Nat) =>
q_share _ (fun (v8 : W) (h9 : HW) (c10 : Nat) =>
q_pickW v2 v8 ⟨8, 0, r0, []⟩ fun v11 =>
K v11 h9 c10) fun f7 =>
q_guardW true v2 (call 20 [v4, ⟨8, 1, r0, []⟩] h5 c6 fun v12 h13 c14 =>
f7 v12 h13 c14) (f7 wUnd h5 c6)) fun f3 =>
q_guardW true v2 (f3 a0 h0 c0) (f3 wUnd h0 c0)
theorem R14_eq (Q : PrimW) (fu : Nat) (call : CallW) : curryA 1 (fnK Q Try.prog tys stl fu call e14) = R14 Q.share Q.cmpW Q.guardW Q.pickW Q.lenW fu call := by kernel_rfl
noncomputable def n14 : List W → HW → Nat → KW → Bool := appF 1 (R14 (fun _ x f => f x) cmpW guardW pickW lenW 1000000 d2.fn)
theorem n14_ok : FnGood Try.prog tys stl tab 14 n14 := node_ok d2_ok (by kernel_rfl) rfl g14 (R14_eq real _ _)
/- foghorn/hard.back$1 -/
noncomputable def R30 (q_addW : Nat → Nat → Option CV → W → W → (W → Bool) → Bool) (q_fadW : Nat → W → (W → Bool) → Bool) (q_idxAW : Nat → Nat → W → W → (W → Bool) → Bool) (q_knownW : W → Bool → Bool) (q_killVW : W → HW → (HW → Bool) → Bool) (q_loadSW : HW → W → (W → Bool) → Bool) (q_boxW : HW → Nat → W → KW → Bool) (fu : Nat) (call : CallW) (a0 : W) (a1 : W) (a2 : W) (a3 : W) (h0 : HW) (c0 : Nat) (K : KW) : Bool :=
q_boxW h0 c0 a0 fun v1 h2 c3 =>
q_fadW 0 v1 fun v4 =>
q_loadSW h2 v4 fun v5 =>
q_idxAW 1 64 a1 v5 fun v6 =>
q_loadSW h2 v6 fun v7 =>
q_fadW 1 v1 fun v8 =>
q_loadSW h2 v8 fun v9 =>
q_loadSW h2 a2 fun v10 =>
call 25 [v9, v10] h2 c3 fun v11 _ _ => q_knownW v11 (
q_addW 3 9223372036854775807 (binC Try.prog .add 3 (.tmp 9) (.tmp 13) (dec v7) (dec v11)) v7 v11 fun v12 =>
q_fadW 2 v1 fun v13 =>
q_loadSW h2 v13 fun v14 =>
q_loadSW h2 a3 fun v15 =>
call 25 [v14, v15] h2 c3 fun v16 _ _ => q_knownW v16 (
q_addW 3 9223372036854775807 (binC Try.prog .add 3 (.tmp 14) (.tmp 18) (dec v12) (dec v16)) v12 v16 fun v17 =>
q_killVW v1 h2 fun h18 =>
K v17 h18 c3))
theorem R30_eq (Q : PrimW) (fu : Nat) (call : CallW) : curryA 4 (fnK Q Try.prog tys stl fu call e30) = R30 Q.addW Q.fadW Q.idxAW Q.knownW Q.killVW Q.loadSW Q.boxW fu call := by kernel_rfl
noncomputable def n30 : List W → HW → Nat → KW → Bool := appF 4 (R30 addW fadW idxAW knownW killVW loadSW boxW 1000000 d2.fn)
theorem n30_ok : FnGood Try.prog tys stl tab 30 n30 := node_ok d2_ok (by kernel_rfl) rfl g30 (R30_eq real _ _)
noncomputable def d3 : Disp := (.node 29 n29 (.node 18 n18 (.node 11 n11 (.node 10 n10 (.node 9 n9 .leaf .leaf) .leaf) (.node 16 n16 (.node 14 n14 .leaf .leaf) .leaf)) (.node 25 n25 (.node 22 n22 (.node 20 n20 .leaf .leaf) .leaf) (.node 26 n26 .leaf .leaf))) (.node 38 n38 (.node 34 n34 (.node 31 n31 (.node 30 n30 .leaf .leaf) .leaf) (.node 35 n35 .leaf .leaf)) (.node 41 n41 (.node 40 n40 (.node 39 n39 .leaf .leaf) .leaf) (.node 42 n42 .leaf .leaf))))
theorem d3_ok : CallSim Try.prog tys stl tab d3.fn := Disp.sim ⟨n29_ok, ⟨n18_ok, ⟨n11_ok, ⟨n10_ok, ⟨n9_ok, True.intro, True.intro⟩, True.intro⟩, ⟨n16_ok, ⟨n14_ok, True.intro, True.intro⟩, True.intro⟩⟩, ⟨n25_ok, ⟨n22_ok, ⟨n20_ok, True.intro, True.intro⟩, True.intro⟩, ⟨n26_ok, True.intro, True.intro⟩⟩⟩, ⟨n38_ok, ⟨n34_ok, ⟨n31_ok, ⟨n30_ok, True.intro, True.intro⟩, True.intro⟩, ⟨n35_ok, True.intro, True.intro⟩⟩, ⟨n41_ok, ⟨n40_ok, ⟨n39_ok, True.intro, True.intro⟩, True.intro⟩, ⟨n42_ok, True.intro, True.intro⟩⟩⟩⟩
/- foghorn/hard.Fill -/
noncomputable def R7 (q_share : (α : Type) → α → (α → Bool) → Bool) (q_addW : Nat → Nat → Option CV → W → W → (W → Bool) → Bool) (q_remW : Nat → Nat → Option CV → W → W → (W → Bool) → Bool) (q_cmpW : (Nat → Nat → Bool) → Nat → Option CV → W → W → (W → Bool) → Bool) (q_notW : Option CV → W → (W → Bool) → Bool) (q_condW : W → Bool → Bool → Bool) (q_guardW : Bool → W → Bool → Bool → Bool) (q_pickW : W → W → W → (W → Bool) → Bool) (q_idxSW : Nat → W → W → (W → Bool) → Bool) (q_lenW : Option CV → W → (W → Bool) → Bool) (q_loadSW : HW → W → (W → Bool) → Bool) (q_storeSW : HW → W → W → (HW → Bool) → Bool) (q_makeSW : Nat → Nat → Nat → Kind → List W → Bool → HW → Nat → W → W → KW → Bool) (fu : Nat) (call : CallW) (a0 : W) (a1 : W) (a2 : W) (h0 : HW) (c0 : Nat) (K : KW) : Bool :=
call 14 [a1] h0 c0 fun v1 h2 c3 =>
q_notW (two Try.prog (dec v1) (Op.unary .not)) v1 fun v4 =>
q_share _ (fun (v6 : W) (h7 : HW) (c8 : Nat) =>
q_share _ (fun (v10 : W) (h11 : HW) (c12 : Nat) =>
q_pickW v4 ⟨8, 1, r0, []⟩ v10 fun v13 =>
q_share _ (fun (v15 : W) (h16 : HW) (c17 : Nat) =>
q_share _ (fun (v19 : W) (h20 : HW) (c21 : Nat) =>
q_pickW v13 ⟨8, 1, r0, []⟩ v19 fun v22 =>
q_condW v22 (
K ⟨13, 0, r0, [⟨12, 0, ⟨0, 0, 0, .nils⟩, []⟩, ⟨3, 1, r0, []⟩]⟩ h20 c21) (
q_makeSW 1 1 4 (.ints .u8) [⟨4, 0, r0, []⟩] true h20 c21 a2 a2 fun v23 h24 c25 =>
q_lenW (lenC tys 26 (dec v23)) v23 fun v26 =>
@Nat.rec (fun _ => Fun 2) (fun _ _ _ _ => false) (fun _ f31 v27 v28 h29 c30 =>
q_cmpW (cmpF2 .lss) 3 (binC Try.prog .lss 3 (.tmp 26) (.tmp 25) (dec v28) (dec v26)) v28 v26 fun v32 =>
q_condW v32 (
q_share _ (fun (v33 : W) (h34 : HW) (c35 : Nat) =>
q_addW 3 9223372036854775807 (binC Try.prog .add 3 (.tmp 26) (.const (.int .i64 (.ofNat 1))) (dec v28) (dec ⟨3, 1, r0, []⟩)) v28 ⟨3, 1, r0, []⟩ fun v37 =>
f31 v33 v37 h34 c35) fun f36 =>
q_idxSW 1 v23 v28 fun v38 =>
q_storeSW h29 v38 ⟨4, 2, r0, []⟩ fun h39 =>
q_lenW (lenC tys 22 (dec a1)) a1 fun v40 =>
q_remW 3 9223372036854775807 (binC Try.prog .rem 3 (.tmp 33) (.tmp 35) (dec v28) (dec v40)) v28 v40 fun v41 =>
q_idxSW 1 a1 v41 fun v42 =>
q_loadSW h39 v42 fun v43 =>
q_notW (two Try.prog (dec v43) (Op.unary .not)) v43 fun v44 =>
q_condW v44 (
f36 v27 h39 c30) (
q_share _ (fun  (h45 : HW) (c46 : Nat) =>
q_addW 3 9223372036854775807 (binC Try.prog .add 3 (.tmp 52) (.const (.int .i64 (.ofNat 1))) (dec v27) (dec ⟨3, 1, r0, []⟩)) v27 ⟨3, 1, r0, []⟩ fun v48 =>
f36 v48 h45 c46) fun f47 =>
q_lenW (lenC tys 22 (dec a0)) a0 fun v49 =>
q_cmpW (cmpF2 .lss) 3 (binC Try.prog .lss 3 (.tmp 40) (.tmp 42) (dec v27) (dec v49)) v27 v49 fun v50 =>
q_condW v50 (
q_idxSW 1 a0 v27 fun v51 =>
q_loadSW h39 v51 fun v52 =>
call 16 [v52] h39 c30 fun v53 h54 c55 =>
q_idxSW 1 v23 v28 fun v56 =>
q_storeSW h54 v56 v53 fun h57 =>
f47 h57 c55) (
f47 h39 c30))) (
q_lenW (lenC tys 22 (dec a0)) a0 fun v58 =>
q_cmpW (cmpF2 .neq) 3 (binC Try.prog .neq 3 (.tmp 55) (.tmp 57) (dec v27) (dec v58)) v27 v58 fun v59 =>
q_condW v59 (
K ⟨13, 0, r0, [⟨12, 0, ⟨0, 0, 0, .nils⟩, []⟩, ⟨3, 1, r0, []⟩]⟩ h29 c30) (
K ⟨13, 0, r0, [v23, ⟨3, 0, r0, []⟩]⟩ h29 c30))) fu ⟨3, 0, r0, []⟩ ⟨3, 0, r0, []⟩ h24 c25)) fun f18 =>
q_guardW false v13 (q_cmpW (cmpF2 .gtr) 3 (binC Try.prog .gtr 3 (.tmp 19) (.const (.int .i64 (.ofNat 32768))) (dec v15) (dec ⟨3, 32768, r0, []⟩)) v15 ⟨3, 32768, r0, []⟩ fun v60 =>
f18 v60 h16 c17) (f18 wUnd h16 c17)) fun f14 =>
q_guardW false v13 (f14 a2 h11 c12) (f14 wUnd h11 c12)) fun f9 =>
q_guardW false v4 (q_cmpW (cmpF2 .lss) 3 (binC Try.prog .lss 3 (.tmp 15) (.const (.int .i64 (.ofNat 0))) (dec v6) (dec ⟨3, 0, r0, []⟩)) v6 ⟨3, 0, r0, []⟩ fun v61 =>
f9 v61 h7 c8) (f9 wUnd h7 c8)) fun f5 =>
q_guardW false v4 (f5 a2 h2 c3) (f5 wUnd h2 c3)
theorem R7_eq (Q : PrimW) (fu : Nat) (call : CallW) : curryA 3 (fnK Q Try.prog tys stl fu call e7) = R7 Q.share Q.addW Q.remW Q.cmpW Q.notW Q.condW Q.guardW Q.pickW Q.idxSW Q.lenW Q.loadSW Q.storeSW Q.makeSW fu call := by kernel_rfl
noncomputable def n7 : List W → HW → Nat → KW → Bool := appF 3 (R7 (fun _ x f => f x) addW remW cmpW notW condW guardW pickW idxSW lenW loadSW storeSW makeSW 1000000 d3.fn)
theorem n7_ok : FnGood Try.prog tys stl tab 7 n7 := node_ok d3_ok (by kernel_rfl) rfl g7 (R7_eq real _ _)
/- (foghorn/trellis.Code).step -/
noncomputable def R33 (q_share : (α : Type) → α → (α → Bool) → Bool) (q_bitW : (Nat → Nat → Nat) → Nat → Nat → Option CV → W → W → (W → Bool) → Bool) (q_shrW : Nat → Nat → Option CV → W → W → (W → Bool) → Bool) (q_condW : W → Bool → Bool → Bool) (q_fadW : Nat → W → (W → Bool) → Bool) (q_onG : W → List W → (FuncId → List W → Bool) → Bool) (q_detW : W → Bool → Bool) (q_killVW : W → HW → (HW → Bool) → Bool) (q_loadSW : HW → W → (W → Bool) → Bool) (q_loadAW : Nat → HW → W → (W → Bool) → Bool) (q_storeSW : HW → W → W → (HW → Bool) → Bool) (q_boxW : HW → Nat → W → KW → Bool) (q_samQW : W → W → Bool → Bool) (fu : Nat) (call : CallW) (a0 : W) (a1 : W) (a2 : W) (h0 : HW) (c0 : Nat) (K : KW) : Bool :=
q_boxW h0 c0 a0 fun v1 h2 c3 =>
q_boxW h2 c3 a1 fun v4 h5 c6 =>
q_share _ (fun  (h7 : HW) (c8 : Nat) =>
(fun (v10 : W) =>
q_fadW 1 v1 fun v11 =>
q_loadSW h7 v11 fun v12 =>
q_fadW 2 v1 fun v13 =>
q_detW v13 (
q_loadSW h7 v4 fun v14 =>
q_shrW 3 64 (binC Try.prog .shr 3 (.tmp 16) (.const (.int .u64 (.ofNat 1))) (dec v14) (dec ⟨7, 1, r0, []⟩)) v14 ⟨7, 1, r0, []⟩ fun v15 =>
q_detW v15 (
q_loadSW h7 v13 fun v16 =>
q_onG v10 [v12] fun g17 l18 => call g17 l18 h7 c8 fun v19 h20 c21 =>
q_loadSW h20 v13 fun v22 =>
q_samQW v22 v16 (
q_loadSW h20 v4 fun v23 =>
q_samQW v23 v14 (
q_onG v10 [v16] fun g24 l25 => call g24 l25 h20 c21 fun v26 h27 c28 =>
q_loadSW h27 v4 fun v29 =>
q_samQW v29 v14 (
q_killVW v1 h27 fun h30 =>
K ⟨13, 0, r0, [v15, v19, v26]⟩ h30 c28)))))) ⟨14, 40, r0, [v4]⟩) fun f9 =>
q_condW a2 (
q_loadAW 3 h5 v1 fun v31 =>
q_loadSW h5 v4 fun v32 =>
call 39 [v31] h5 c6 fun v33 h34 c35 =>
q_loadSW h34 v4 fun v36 =>
q_samQW v36 v32 (
q_bitW Nat.lor 3 9223372036854775807 (binC Try.prog .or 3 (.tmp 11) (.tmp 13) (dec v32) (dec v33)) v32 v33 fun v37 =>
q_storeSW h34 v4 v37 fun h38 =>
f9 h38 c35)) (
f9 h5 c6)
theorem R33_eq (Q : PrimW) (fu : Nat) (call : CallW) : curryA 3 (fnK Q Try.prog tys stl fu call e33) = R33 Q.share Q.bitW Q.shrW Q.condW Q.fadW Q.onG Q.detW Q.killVW Q.loadSW Q.loadAW Q.storeSW Q.boxW Q.samQW fu call := by kernel_rfl
noncomputable def n33 : List W → HW → Nat → KW → Bool := appF 3 (R33 (fun _ x f => f x) bitW shrW condW fadW onG detW killVW loadSW loadAW storeSW boxW samQW 1000000 d3.fn)
theorem n33_ok : FnGood Try.prog tys stl tab 33 n33 := node_ok d3_ok (by kernel_rfl) rfl g33 (R33_eq real _ _)
noncomputable def d4 : Disp := (.node 29 n29 (.node 16 n16 (.node 10 n10 (.node 9 n9 (.node 7 n7 .leaf .leaf) .leaf) (.node 14 n14 (.node 11 n11 .leaf .leaf) .leaf)) (.node 22 n22 (.node 20 n20 (.node 18 n18 .leaf .leaf) .leaf) (.node 26 n26 (.node 25 n25 .leaf .leaf) .leaf))) (.node 38 n38 (.node 33 n33 (.node 31 n31 (.node 30 n30 .leaf .leaf) .leaf) (.node 35 n35 (.node 34 n34 .leaf .leaf) .leaf)) (.node 41 n41 (.node 40 n40 (.node 39 n39 .leaf .leaf) .leaf) (.node 42 n42 .leaf .leaf))))
theorem d4_ok : CallSim Try.prog tys stl tab d4.fn := Disp.sim ⟨n29_ok, ⟨n16_ok, ⟨n10_ok, ⟨n9_ok, ⟨n7_ok, True.intro, True.intro⟩, True.intro⟩, ⟨n14_ok, ⟨n11_ok, True.intro, True.intro⟩, True.intro⟩⟩, ⟨n22_ok, ⟨n20_ok, ⟨n18_ok, True.intro, True.intro⟩, True.intro⟩, ⟨n26_ok, ⟨n25_ok, True.intro, True.intro⟩, True.intro⟩⟩⟩, ⟨n38_ok, ⟨n33_ok, ⟨n31_ok, ⟨n30_ok, True.intro, True.intro⟩, True.intro⟩, ⟨n35_ok, ⟨n34_ok, True.intro, True.intro⟩, True.intro⟩⟩, ⟨n41_ok, ⟨n40_ok, ⟨n39_ok, True.intro, True.intro⟩, True.intro⟩, ⟨n42_ok, True.intro, True.intro⟩⟩⟩⟩
/- foghorn/hard.back -/
noncomputable def R23 (q_share : (α : Type) → α → (α → Bool) → Bool) (q_addW : Nat → Nat → Option CV → W → W → (W → Bool) → Bool) (q_bitW : (Nat → Nat → Nat) → Nat → Nat → Option CV → W → W → (W → Bool) → Bool) (q_cmpW : (Nat → Nat → Bool) → Nat → Option CV → W → W → (W → Bool) → Bool) (q_shlW : Nat → Nat → Nat → Option CV → W → W → (W → Bool) → Bool) (q_condW : W → Bool → Bool → Bool) (q_guardW : Bool → W → Bool → Bool → Bool) (q_pickW : W → W → W → (W → Bool) → Bool) (q_nilcW : W → (W → Bool) → Bool) (q_fadW : Nat → W → (W → Bool) → Bool) (q_idxAW : Nat → Nat → W → W → (W → Bool) → Bool) (q_onG : W → List W → (FuncId → List W → Bool) → Bool) (q_killVW : W → HW → (HW → Bool) → Bool) (q_loadSW : HW → W → (W → Bool) → Bool) (q_loadAW : Nat → HW → W → (W → Bool) → Bool) (q_storeSW : HW → W → W → (HW → Bool) → Bool) (q_storeAW : Nat → HW → W → W → (HW → Bool) → Bool) (q_allocW : Trie W → Nat → Bool → HW → Nat → KW → Bool) (q_boxW : HW → Nat → W → KW → Bool) (fu : Nat) (call : CallW) (a0 : W) (a1 : W) (a2 : W) (a3 : W) (a4 : W) (h0 : HW) (c0 : Nat) (K : KW) : Bool :=
q_boxW h0 c0 a1 fun v1 h2 c3 =>
q_boxW h2 c3 a2 fun v4 h5 c6 =>
q_boxW h5 c6 a3 fun v7 h8 c9 =>
q_allocW (allocT tys 54) 64 true h8 c9 fun v10 h11 c12 =>
q_allocW (allocT tys 54) 64 true h11 c12 fun v13 h14 c15 =>
q_nilcW a0 fun v16 =>
q_fadW 0 v16 fun v17 =>
q_loadSW h14 v17 fun v18 =>
@Nat.rec (fun _ => Fun 2) (fun _ _ _ _ => false) (fun _ f23 v19 v20 h21 c22 =>
q_cmpW (cmpF2 .lss) 3 (binC Try.prog .lss 3 (.tmp 21) (.tmp 20) (dec v20) (dec v18)) v20 v18 fun v24 =>
q_condW v24 (
q_share _ (fun (v25 : W) (h26 : HW) (c27 : Nat) =>
q_addW 3 9223372036854775807 (binC Try.prog .add 3 (.tmp 21) (.const (.int .i64 (.ofNat 1))) (dec v20) (dec ⟨3, 1, r0, []⟩)) v20 ⟨3, 1, r0, []⟩ fun v29 =>
f23 v25 v29 h26 c27) fun f28 =>
(fun (v30 : W) =>
q_nilcW a0 fun v31 =>
q_fadW 2 v31 fun v32 =>
q_idxAW 6 64 v32 v20 fun v33 =>
q_idxAW 3 2 v33 ⟨3, 0, r0, []⟩ fun v34 =>
q_loadAW 3 h21 v34 fun v35 =>
q_onG v30 [v35] fun g36 l37 => call g36 l37 h21 c22 fun v38 h39 c40 =>
q_idxAW 1 64 v13 v20 fun v41 =>
q_storeSW h39 v41 v38 fun h42 =>
q_nilcW a0 fun v43 =>
q_fadW 2 v43 fun v44 =>
q_idxAW 6 64 v44 v20 fun v45 =>
q_idxAW 3 2 v45 ⟨3, 1, r0, []⟩ fun v46 =>
q_loadAW 3 h42 v46 fun v47 =>
q_onG v30 [v47] fun g48 l49 => call g48 l49 h42 c40 fun v50 h51 c52 =>
q_share _ (fun (v54 : W) (h55 : HW) (c56 : Nat) =>
q_share _ (fun (v58 : W) (h59 : HW) (c60 : Nat) =>
q_share _ (fun (v62 : W) (h63 : HW) (c64 : Nat) =>
q_share _ (fun (v66 : W) (h67 : HW) (c68 : Nat) =>
q_share _ (fun (v70 : W) (h71 : HW) (c72 : Nat) =>
q_pickW a4 v70 ⟨8, 0, r0, []⟩ fun v73 =>
q_condW v73 (
q_idxAW 1 64 v13 v20 fun v74 =>
q_storeSW h71 v74 v50 fun h75 =>
q_shlW 7 18446744073709551615 64 (binC Try.prog .shl 57 (.const (.int .u64 (.ofNat 1))) (.tmp 57) (dec ⟨7, 1, r0, []⟩) (dec v20)) ⟨7, 1, r0, []⟩ v20 fun v76 =>
q_bitW Nat.lor 7 18446744073709551615 (binC Try.prog .or 57 (.tmp 56) (.tmp 58) (dec v19) (dec v76)) v19 v76 fun v77 =>
f28 v77 h75 c72) (
f28 v19 h71 c72)) fun f69 =>
q_guardW true a4 (q_cmpW (cmpF2 .lss) 3 (binC Try.prog .lss 3 (.tmp 47) (.tmp 50) (dec v54) (dec v66)) v54 v66 fun v78 =>
f69 v78 h67 c68) (f69 wUnd h67 c68)) fun f65 =>
q_guardW true a4 (q_loadSW h63 v62 fun v79 =>
f65 v79 h63 c64) (f65 wUnd h63 c64)) fun f61 =>
q_guardW true a4 (q_idxAW 1 64 v13 v58 fun v80 =>
f61 v80 h59 c60) (f61 wUnd h59 c60)) fun f57 =>
q_guardW true a4 (f57 v20 h55 c56) (f57 wUnd h55 c56)) fun f53 =>
q_guardW true a4 (f53 v50 h51 c52) (f53 wUnd h51 c52)) ⟨14, 30, r0, [v1, v4, v7]⟩) (
q_loadAW 64 h21 v13 fun v81 =>
q_storeAW 64 h21 v10 v81 fun h82 =>
q_loadAW 64 h82 v10 fun v83 =>
q_killVW v13 h82 fun h84 =>
K ⟨13, 0, r0, [v83, v19]⟩ h84 c22)) fu ⟨7, 0, r0, []⟩ ⟨3, 0, r0, []⟩ h14 c15
theorem R23_eq (Q : PrimW) (fu : Nat) (call : CallW) : curryA 5 (fnK Q Try.prog tys stl fu call e23) = R23 Q.share Q.addW Q.bitW Q.cmpW Q.shlW Q.condW Q.guardW Q.pickW Q.nilcW Q.fadW Q.idxAW Q.onG Q.killVW Q.loadSW Q.loadAW Q.storeSW Q.storeAW Q.allocW Q.boxW fu call := by kernel_rfl
noncomputable def n23 : List W → HW → Nat → KW → Bool := appF 5 (R23 (fun _ x f => f x) addW bitW cmpW shlW condW guardW pickW nilcW fadW idxAW onG killVW loadSW loadAW storeSW storeAW allocW boxW 1000000 d4.fn)
theorem n23_ok : FnGood Try.prog tys stl tab 23 n23 := node_ok d4_ok (by kernel_rfl) rfl g23 (R23_eq real _ _)
/- foghorn/trellis.through -/
noncomputable def R32 (q_share : (α : Type) → α → (α → Bool) → Bool) (q_addW : Nat → Nat → Option CV → W → W → (W → Bool) → Bool) (q_cmpW : (Nat → Nat → Bool) → Nat → Option CV → W → W → (W → Bool) → Bool) (q_condW : W → Bool → Bool → Bool) (q_guardW : Bool → W → Bool → Bool → Bool) (q_pickW : W → W → W → (W → Bool) → Bool) (q_idxSW : Nat → W → W → (W → Bool) → Bool) (q_lenW : Option CV → W → (W → Bool) → Bool) (q_tupW : W → (List W → Bool) → Bool) (q_nthW : Nat → List W → (W → Bool) → Bool) (q_onG : W → List W → (FuncId → List W → Bool) → Bool) (q_loadSW : HW → W → (W → Bool) → Bool) (fu : Nat) (call : CallW) (a0 : W) (a1 : W) (a2 : W) (a3 : W) (h0 : HW) (c0 : Nat) (K : KW) : Bool :=
q_lenW (lenC tys 22 (dec a1)) a1 fun v1 =>
q_addW 3 9223372036854775807 (binC Try.prog .add 3 (.tmp 14) (.tmp 15) (dec v1) (dec a2)) v1 a2 fun v2 =>
@Nat.rec (fun _ => Fun 2) (fun _ _ _ _ => false) (fun _ f7 v3 v4 h5 c6 =>
q_cmpW (cmpF2 .lss) 3 (binC Try.prog .lss 3 (.tmp 17) (.tmp 16) (dec v4) (dec v2)) v4 v2 fun v8 =>
q_condW v8 (
q_lenW (lenC tys 22 (dec a1)) a1 fun v9 =>
q_cmpW (cmpF2 .lss) 3 (binC Try.prog .lss 3 (.tmp 23) (.tmp 25) (dec v4) (dec v9)) v4 v9 fun v10 =>
q_share _ (fun (v12 : W) (h13 : HW) (c14 : Nat) =>
q_share _ (fun (v16 : W) (h17 : HW) (c18 : Nat) =>
q_share _ (fun (v20 : W) (h21 : HW) (c22 : Nat) =>
q_share _ (fun (v24 : W) (h25 : HW) (c26 : Nat) =>
q_pickW v10 v24 ⟨8, 0, r0, []⟩ fun v27 =>
q_onG a0 [v3, v27] fun g28 l29 => call g28 l29 h25 c26 fun v30 h31 c32 =>
q_tupW v30 fun l33 => q_nthW 0 l33 fun v34 =>
q_tupW v30 fun l35 => q_nthW 1 l35 fun v36 =>
q_tupW v30 fun l37 => q_nthW 2 l37 fun v38 =>
q_onG a3 [v34, v36, v38] fun g39 l40 => call g39 l40 h31 c32 fun v41 h42 c43 =>
q_addW 3 9223372036854775807 (binC Try.prog .add 3 (.tmp 17) (.const (.int .i64 (.ofNat 1))) (dec v4) (dec ⟨3, 1, r0, []⟩)) v4 ⟨3, 1, r0, []⟩ fun v44 =>
f7 v34 v44 h42 c43) fun f23 =>
q_guardW true v10 (q_loadSW h21 v20 fun v45 =>
f23 v45 h21 c22) (f23 wUnd h21 c22)) fun f19 =>
q_guardW true v10 (q_idxSW 1 v12 v16 fun v46 =>
f19 v46 h17 c18) (f19 wUnd h17 c18)) fun f15 =>
q_guardW true v10 (f15 v4 h13 c14) (f15 wUnd h13 c14)) fun f11 =>
q_guardW true v10 (f11 a1 h5 c6) (f11 wUnd h5 c6)) (
K ⟨13, 0, r0, []⟩ h5 c6)) fu ⟨3, 0, r0, []⟩ ⟨3, 0, r0, []⟩ h0 c0
theorem R32_eq (Q : PrimW) (fu : Nat) (call : CallW) : curryA 4 (fnK Q Try.prog tys stl fu call e32) = R32 Q.share Q.addW Q.cmpW Q.condW Q.guardW Q.pickW Q.idxSW Q.lenW Q.tupW Q.nthW Q.onG Q.loadSW fu call := by kernel_rfl
noncomputable def n32 : List W → HW → Nat → KW → Bool := appF 4 (R32 (fun _ x f => f x) addW cmpW condW guardW pickW idxSW lenW tupW nthW onG loadSW 1000000 d4.fn)
theorem n32_ok : FnGood Try.prog tys stl tab 32 n32 := node_ok d4_ok (by kernel_rfl) rfl g32 (R32_eq real _ _)
/- (foghorn/trellis.Code).Step -/
noncomputable def R36 (q_cmpW : (Nat → Nat → Bool) → Nat → Option CV → W → W → (W → Bool) → Bool) (q_notW : Option CV → W → (W → Bool) → Bool) (q_condW : W → Bool → Bool → Bool) (q_tupW : W → (List W → Bool) → Bool) (q_nthW : Nat → List W → (W → Bool) → Bool) (q_killVW : W → HW → (HW → Bool) → Bool) (q_loadAW : Nat → HW → W → (W → Bool) → Bool) (q_boxW : HW → Nat → W → KW → Bool) (fu : Nat) (call : CallW) (a0 : W) (a1 : W) (a2 : W) (h0 : HW) (c0 : Nat) (K : KW) : Bool :=
q_boxW h0 c0 a0 fun v1 h2 c3 =>
q_loadAW 3 h2 v1 fun v4 =>
call 38 [v4] h2 c3 fun v5 h6 c7 =>
q_cmpW (cmpF2 .neq) 3 (binC Try.prog .neq 23 (.tmp 13) (.const (.int .i64 (.ofNat 0))) (dec v5) (dec ⟨3, 0, r0, []⟩)) v5 ⟨3, 0, r0, []⟩ fun v8 =>
q_condW v8 (
q_killVW v1 h6 fun h9 =>
K ⟨13, 0, r0, [⟨3, 0, r0, []⟩, ⟨8, 0, r0, []⟩, ⟨8, 0, r0, []⟩, v5]⟩ h9 c7) (
q_loadAW 3 h6 v1 fun v10 =>
call 42 [v10, a1] h6 c7 fun v11 h12 c13 =>
q_notW (two Try.prog (dec v11) (Op.unary .not)) v11 fun v14 =>
q_condW v14 (
q_killVW v1 h12 fun h15 =>
K ⟨13, 0, r0, [⟨3, 0, r0, []⟩, ⟨8, 0, r0, []⟩, ⟨8, 0, r0, []⟩, ⟨3, 1, r0, []⟩]⟩ h15 c13) (
q_loadAW 3 h12 v1 fun v16 =>
call 33 [v16, a1, a2] h12 c13 fun v17 h18 c19 =>
q_tupW v17 fun l20 => q_nthW 0 l20 fun v21 =>
q_tupW v17 fun l22 => q_nthW 1 l22 fun v23 =>
q_tupW v17 fun l24 => q_nthW 2 l24 fun v25 =>
q_killVW v1 h18 fun h26 =>
K ⟨13, 0, r0, [v21, v23, v25, ⟨3, 0, r0, []⟩]⟩ h26 c19))
theorem R36_eq (Q : PrimW) (fu : Nat) (call : CallW) : curryA 3 (fnK Q Try.prog tys stl fu call e36) = R36 Q.cmpW Q.notW Q.condW Q.tupW Q.nthW Q.killVW Q.loadAW Q.boxW fu call := by kernel_rfl
noncomputable def n36 : List W → HW → Nat → KW → Bool := appF 3 (R36 cmpW notW condW tupW nthW killVW loadAW boxW 1000000 d4.fn)
theorem n36_ok : FnGood Try.prog tys stl tab 36 n36 := node_ok d4_ok (by kernel_rfl) rfl g36 (R36_eq real _ _)
/- slices.IndexFunc[[]foghorn/hard.Mark,foghorn/hard.Mark] -/
noncomputable def R37 (q_addW : Nat → Nat → Option CV → W → W → (W → Bool) → Bool) (q_cmpW : (Nat → Nat → Bool) → Nat → Option CV → W → W → (W → Bool) → Bool) (q_condW : W → Bool → Bool → Bool) (q_idxSW : Nat → W → W → (W → Bool) → Bool) (q_lenW : Option CV → W → (W → Bool) → Bool) (q_onG : W → List W → (FuncId → List W → Bool) → Bool) (q_loadSW : HW → W → (W → Bool) → Bool) (fu : Nat) (call : CallW) (a0 : W) (a1 : W) (h0 : HW) (c0 : Nat) (K : KW) : Bool :=
q_lenW (lenC tys 26 (dec a0)) a0 fun v1 =>
@Nat.rec (fun _ => Fun 1) (fun _ _ _ => false) (fun _ f5 v2 h3 c4 =>
q_cmpW (cmpF2 .lss) 3 (binC Try.prog .lss 3 (.tmp 8) (.tmp 7) (dec v2) (dec v1)) v2 v1 fun v6 =>
q_condW v6 (
q_idxSW 1 a0 v2 fun v7 =>
q_loadSW h3 v7 fun v8 =>
q_onG a1 [v8] fun g9 l10 => call g9 l10 h3 c4 fun v11 h12 c13 =>
q_condW v11 (
K v2 h12 c13) (
q_addW 3 9223372036854775807 (binC Try.prog .add 3 (.tmp 8) (.const (.int .i64 (.ofNat 1))) (dec v2) (dec ⟨3, 1, r0, []⟩)) v2 ⟨3, 1, r0, []⟩ fun v14 =>
f5 v14 h12 c13)) (
K ⟨12, 0, ⟨0, 0, 0, .int .i64 (.negSucc 0)⟩, []⟩ h3 c4)) fu ⟨3, 0, r0, []⟩ h0 c0
theorem R37_eq (Q : PrimW) (fu : Nat) (call : CallW) : curryA 2 (fnK Q Try.prog tys stl fu call e37) = R37 Q.addW Q.cmpW Q.condW Q.idxSW Q.lenW Q.onG Q.loadSW fu call := by kernel_rfl
noncomputable def n37 : List W → HW → Nat → KW → Bool := appF 2 (R37 addW cmpW condW idxSW lenW onG loadSW 1000000 d4.fn)
theorem n37_ok : FnGood Try.prog tys stl tab 37 n37 := node_ok d4_ok (by kernel_rfl) rfl g37 (R37_eq real _ _)
noncomputable def d5 : Disp := (.node 30 n30 (.node 18 n18 (.node 11 n11 (.node 9 n9 (.node 7 n7 .leaf .leaf) (.node 10 n10 .leaf .leaf)) (.node 16 n16 (.node 14 n14 .leaf .leaf) .leaf)) (.node 25 n25 (.node 22 n22 (.node 20 n20 .leaf .leaf) (.node 23 n23 .leaf .leaf)) (.node 29 n29 (.node 26 n26 .leaf .leaf) .leaf))) (.node 37 n37 (.node 34 n34 (.node 32 n32 (.node 31 n31 .leaf .leaf) (.node 33 n33 .leaf .leaf)) (.node 36 n36 (.node 35 n35 .leaf .leaf) .leaf)) (.node 40 n40 (.node 39 n39 (.node 38 n38 .leaf .leaf) .leaf) (.node 42 n42 (.node 41 n41 .leaf .leaf) .leaf))))
theorem d5_ok : CallSim Try.prog tys stl tab d5.fn := Disp.sim ⟨n30_ok, ⟨n18_ok, ⟨n11_ok, ⟨n9_ok, ⟨n7_ok, True.intro, True.intro⟩, ⟨n10_ok, True.intro, True.intro⟩⟩, ⟨n16_ok, ⟨n14_ok, True.intro, True.intro⟩, True.intro⟩⟩, ⟨n25_ok, ⟨n22_ok, ⟨n20_ok, True.intro, True.intro⟩, ⟨n23_ok, True.intro, True.intro⟩⟩, ⟨n29_ok, ⟨n26_ok, True.intro, True.intro⟩, True.intro⟩⟩⟩, ⟨n37_ok, ⟨n34_ok, ⟨n32_ok, ⟨n31_ok, True.intro, True.intro⟩, ⟨n33_ok, True.intro, True.intro⟩⟩, ⟨n36_ok, ⟨n35_ok, True.intro, True.intro⟩, True.intro⟩⟩, ⟨n40_ok, ⟨n39_ok, ⟨n38_ok, True.intro, True.intro⟩, True.intro⟩, ⟨n42_ok, ⟨n41_ok, True.intro, True.intro⟩, True.intro⟩⟩⟩⟩
/- (foghorn/trellis.Code).Encode -/
noncomputable def R24 (q_subW : Nat → Nat → Option CV → W → W → (W → Bool) → Bool) (q_mulW : Nat → Nat → Option CV → W → W → (W → Bool) → Bool) (q_cmpW : (Nat → Nat → Bool) → Nat → Option CV → W → W → (W → Bool) → Bool) (q_condW : W → Bool → Bool → Bool) (q_fadW : Nat → W → (W → Bool) → Bool) (q_lenW : Option CV → W → (W → Bool) → Bool) (q_tupW : W → (List W → Bool) → Bool) (q_nthW : Nat → List W → (W → Bool) → Bool) (q_killVW : W → HW → (HW → Bool) → Bool) (q_loadSW : HW → W → (W → Bool) → Bool) (q_loadAW : Nat → HW → W → (W → Bool) → Bool) (q_storeSW : HW → W → W → (HW → Bool) → Bool) (q_makeSW : Nat → Nat → Nat → Kind → List W → Bool → HW → Nat → W → W → KW → Bool) (q_allocW : Trie W → Nat → Bool → HW → Nat → KW → Bool) (q_boxW : HW → Nat → W → KW → Bool) (fu : Nat) (call : CallW) (a0 : W) (a1 : W) (h0 : HW) (c0 : Nat) (K : KW) : Bool :=
q_boxW h0 c0 a0 fun v1 h2 c3 =>
q_loadAW 3 h2 v1 fun v4 =>
q_lenW (lenC tys 22 (dec a1)) a1 fun v5 =>
call 31 [v4, v5] h2 c3 fun v6 h7 c8 =>
q_tupW v6 fun l9 => q_nthW 0 l9 fun v10 =>
q_tupW v6 fun l11 => q_nthW 1 l11 fun v12 =>
q_cmpW (cmpF2 .neq) 3 (binC Try.prog .neq 23 (.tmp 16) (.const (.int .i64 (.ofNat 0))) (dec v12) (dec ⟨3, 0, r0, []⟩)) v12 ⟨3, 0, r0, []⟩ fun v13 =>
q_condW v13 (
q_killVW v1 h7 fun h14 =>
K ⟨13, 0, r0, [⟨12, 0, ⟨0, 0, 0, .nils⟩, []⟩, v12]⟩ h14 c8) (
q_mulW 3 9223372036854775807 (binC Try.prog .mul 3 (.const (.int .i64 (.ofNat 2))) (.tmp 19) (dec ⟨3, 2, r0, []⟩) (dec v10)) ⟨3, 2, r0, []⟩ v10 fun v15 =>
q_makeSW 1 1 8 .bools [⟨8, 0, r0, []⟩] true h7 c8 ⟨3, 0, r0, []⟩ v15 fun v16 h17 c18 =>
q_allocW (allocT tys 22) 1 true h17 c18 fun v19 h20 c21 =>
q_storeSW h20 v19 v16 fun h22 =>
q_loadAW 3 h22 v1 fun v23 =>
(fun (v24 : W) =>
q_fadW 0 v1 fun v25 =>
q_loadSW h22 v25 fun v26 =>
q_subW 3 9223372036854775807 (binC Try.prog .sub 3 (.tmp 26) (.const (.int .i64 (.ofNat 1))) (dec v26) (dec ⟨3, 1, r0, []⟩)) v26 ⟨3, 1, r0, []⟩ fun v27 =>
(fun (v28 : W) =>
call 32 [v24, a1, v27, v28] h22 c21 fun v29 h30 c31 =>
q_loadSW h30 v19 fun v32 =>
q_killVW v1 h30 fun h33 =>
K ⟨13, 0, r0, [v32, ⟨3, 0, r0, []⟩]⟩ h33 c31) ⟨14, 34, r0, [v19]⟩) ⟨16, 33, r0, [v23]⟩)
theorem R24_eq (Q : PrimW) (fu : Nat) (call : CallW) : curryA 2 (fnK Q Try.prog tys stl fu call e24) = R24 Q.subW Q.mulW Q.cmpW Q.condW Q.fadW Q.lenW Q.tupW Q.nthW Q.killVW Q.loadSW Q.loadAW Q.storeSW Q.makeSW Q.allocW Q.boxW fu call := by kernel_rfl
noncomputable def n24 : List W → HW → Nat → KW → Bool := appF 2 (R24 subW mulW cmpW condW fadW lenW tupW nthW killVW loadSW loadAW storeSW makeSW allocW boxW 1000000 d5.fn)
theorem n24_ok : FnGood Try.prog tys stl tab 24 n24 := node_ok d5_ok (by kernel_rfl) rfl g24 (R24_eq real _ _)
/- foghorn/lattice.Of -/
noncomputable def R27 (q_genW : Option CV → (W → Bool) → Bool) (q_addW : Nat → Nat → Option CV → W → W → (W → Bool) → Bool) (q_subW : Nat → Nat → Option CV → W → W → (W → Bool) → Bool) (q_cmpW : (Nat → Nat → Bool) → Nat → Option CV → W → W → (W → Bool) → Bool) (q_condW : W → Bool → Bool → Bool) (q_nilcW : W → (W → Bool) → Bool) (q_fadW : Nat → W → (W → Bool) → Bool) (q_idxAW : Nat → Nat → W → W → (W → Bool) → Bool) (q_tupW : W → (List W → Bool) → Bool) (q_nthW : Nat → List W → (W → Bool) → Bool) (q_killVW : W → HW → (HW → Bool) → Bool) (q_loadSW : HW → W → (W → Bool) → Bool) (q_loadAW : Nat → HW → W → (W → Bool) → Bool) (q_storeAW : Nat → HW → W → W → (HW → Bool) → Bool) (q_boxW : HW → Nat → W → KW → Bool) (q_flatW : W → Bool → Bool) (fu : Nat) (call : CallW) (a0 : W) (h0 : HW) (c0 : Nat) (K : KW) : Bool :=
q_boxW h0 c0 a0 fun v1 h2 c3 =>
q_loadAW 3 h2 v1 fun v4 =>
call 35 [v4] h2 c3 fun v5 h6 c7 =>
q_tupW v5 fun l8 => q_nthW 0 l8 fun v9 =>
q_tupW v5 fun l10 => q_nthW 1 l10 fun v11 =>
q_cmpW (cmpF2 .neq) 3 (binC Try.prog .neq 23 (.tmp 19) (.const (.int .i64 (.ofNat 0))) (dec v11) (dec ⟨3, 0, r0, []⟩)) v11 ⟨3, 0, r0, []⟩ fun v12 =>
q_condW v12 (
q_killVW v1 h6 fun h13 =>
K ⟨13, 0, r0, [⟨12, 0, ⟨0, 0, 0, .nilp⟩, []⟩, v11]⟩ h13 c7) (
q_fadW 0 v1 fun v14 =>
q_loadSW h6 v14 fun v15 =>
q_subW 3 9223372036854775807 (binC Try.prog .sub 3 (.tmp 24) (.const (.int .i64 (.ofNat 1))) (dec v15) (dec ⟨3, 1, r0, []⟩)) v15 ⟨3, 1, r0, []⟩ fun v16 =>
q_flatW v9 (
q_flatW v16 (
(fun (v17 : W) =>
q_boxW h6 c7 v17 fun v18 h19 c20 =>
@Nat.rec (fun _ => Fun 1) (fun _ _ _ => false) (fun _ f24 v21 h22 c23 =>
q_cmpW (cmpF2 .lss) 3 (binC Try.prog .lss 3 (.tmp 29) (.tmp 28) (dec v21) (dec v9)) v21 v9 fun v25 =>
q_condW v25 (
q_flatW ⟨8, 0, r0, []⟩ (
q_flatW ⟨8, 1, r0, []⟩ (
(fun (v26 : W) =>
@Nat.rec (fun _ => Fun 1) (fun _ _ _ => false) (fun _ f30 v27 h28 c29 =>
q_cmpW (cmpF2 .lss) 3 (binC Try.prog .lss 3 (.tmp 33) (.const (.int .i64 (.ofNat 2))) (dec v27) (dec ⟨3, 2, r0, []⟩)) v27 ⟨3, 2, r0, []⟩ fun v31 =>
q_condW v31 (
q_genW (two2 Try.prog (dec v26) (dec v27) (Instr.index 78)) fun v32 =>
q_loadAW 3 h28 v1 fun v33 =>
call 36 [v33, v21, v32] h28 c29 fun v34 h35 c36 =>
q_tupW v34 fun l37 => q_nthW 0 l37 fun v38 =>
q_tupW v34 fun l39 => q_nthW 1 l39 fun v40 =>
q_tupW v34 fun l41 => q_nthW 2 l41 fun v42 =>
q_tupW v34 fun l43 => q_nthW 3 l43 fun v44 =>
q_cmpW (cmpF2 .neq) 3 (binC Try.prog .neq 23 (.tmp 46) (.const (.int .i64 (.ofNat 0))) (dec v44) (dec ⟨3, 0, r0, []⟩)) v44 ⟨3, 0, r0, []⟩ fun v45 =>
q_condW v45 (
q_killVW v1 h35 fun h46 =>
K ⟨13, 0, r0, [⟨12, 0, ⟨0, 0, 0, .nilp⟩, []⟩, v44]⟩ h46 c36) (
q_flatW v38 (
q_flatW v40 (
q_flatW v42 (
(fun (v47 : W) =>
q_nilcW v18 fun v48 =>
q_fadW 2 v48 fun v49 =>
q_idxAW 6 64 v49 v21 fun v50 =>
q_idxAW 3 2 v50 v27 fun v51 =>
q_storeAW 3 h35 v51 v47 fun h52 =>
q_addW 3 9223372036854775807 (binC Try.prog .add 3 (.tmp 33) (.const (.int .i64 (.ofNat 1))) (dec v27) (dec ⟨3, 1, r0, []⟩)) v27 ⟨3, 1, r0, []⟩ fun v53 =>
f30 v53 h52 c36) ⟨15, 0, r0, [v38, v40, v42]⟩))))) (
q_addW 3 9223372036854775807 (binC Try.prog .add 3 (.tmp 29) (.const (.int .i64 (.ofNat 1))) (dec v21) (dec ⟨3, 1, r0, []⟩)) v21 ⟨3, 1, r0, []⟩ fun v54 =>
f24 v54 h28 c29)) fu ⟨3, 0, r0, []⟩ h22 c23) ⟨15, 0, r0, [⟨8, 0, r0, []⟩, ⟨8, 1, r0, []⟩]⟩))) (
q_killVW v1 h22 fun h55 =>
K ⟨13, 0, r0, [v18, ⟨3, 0, r0, []⟩]⟩ h55 c23)) fu ⟨3, 0, r0, []⟩ h19 c20) ⟨15, 0, r0, [v9, v16, ⟨3, 0, r0, []⟩, ⟨8, 0, r0, []⟩, ⟨8, 0, r0, []⟩, ⟨3, 0, r0, []⟩, ⟨8, 0, r0, []⟩, ⟨8, 0, r0, []⟩, ⟨3, 0, r0, []⟩, ⟨8, 0, r0, []⟩, ⟨8, 0, r0, []⟩, ⟨3, 0, r0, []⟩, ⟨8, 0, r0, []⟩, ⟨8, 0, r0, []⟩, ⟨3, 0, r0, []⟩, ⟨8, 0, r0, []⟩, ⟨8, 0, r0, []⟩, ⟨3, 0, r0, []⟩, ⟨8, 0, r0, []⟩, ⟨8, 0, r0, []⟩, ⟨3, 0, r0, []⟩, ⟨8, 0, r0, []⟩, ⟨8, 0, r0, []⟩, ⟨3, 0, r0, []⟩, ⟨8, 0, r0, []⟩, ⟨8, 0, r0, []⟩, ⟨3, 0, r0, []⟩, ⟨8, 0, r0, []⟩, ⟨8, 0, r0, []⟩, ⟨3, 0, r0, []⟩, ⟨8, 0, r0, []⟩, ⟨8, 0, r0, []⟩, ⟨3, 0, r0, []⟩, ⟨8, 0, r0, []⟩, ⟨8, 0, r0, []⟩, ⟨3, 0, r0, []⟩, ⟨8, 0, r0, []⟩, ⟨8, 0, r0, []⟩, ⟨3, 0, r0, []⟩, ⟨8, 0, r0, []⟩, ⟨8, 0, r0, []⟩, ⟨3, 0, r0, []⟩, ⟨8, 0, r0, []⟩, ⟨8, 0, r0, []⟩, ⟨3, 0, r0, []⟩, ⟨8, 0, r0, []⟩, ⟨8, 0, r0, []⟩, ⟨3, 0, r0, []⟩, ⟨8, 0, r0, []⟩, ⟨8, 0, r0, []⟩, ⟨3, 0, r0, []⟩, ⟨8, 0, r0, []⟩, ⟨8, 0, r0, []⟩, ⟨3, 0, r0, []⟩, ⟨8, 0, r0, []⟩, ⟨8, 0, r0, []⟩, ⟨3, 0, r0, []⟩, ⟨8, 0, r0, []⟩, ⟨8, 0, r0, []⟩, ⟨3, 0, r0, []⟩, ⟨8, 0, r0, []⟩, ⟨8, 0, r0, []⟩, ⟨3, 0, r0, []⟩, ⟨8, 0, r0, []⟩, ⟨8, 0, r0, []⟩, ⟨3, 0, r0, []⟩, ⟨8, 0, r0, []⟩, ⟨8, 0, r0, []⟩, ⟨3, 0, r0, []⟩, ⟨8, 0, r0, []⟩, ⟨8, 0, r0, []⟩, ⟨3, 0, r0, []⟩, ⟨8, 0, r0, []⟩, ⟨8, 0, r0, []⟩, ⟨3, 0, r0, []⟩, ⟨8, 0, r0, []⟩, ⟨8, 0, r0, []⟩, ⟨3, 0, r0, []⟩, ⟨8, 0, r0, []⟩, ⟨8, 0, r0, []⟩, ⟨3, 0, r0, []⟩, ⟨8, 0, r0, []⟩, ⟨8, 0, r0, []⟩, ⟨3, 0, r0, []⟩, ⟨8, 0, r0, []⟩, ⟨8, 0, r0, []⟩, ⟨3, 0, r0, []⟩, ⟨8, 0, r0, []⟩, ⟨8, 0, r0, []⟩, ⟨3, 0, r0, []⟩, ⟨8, 0, r0, []⟩, ⟨8, 0, r0, []⟩, ⟨3, 0, r0, []⟩, ⟨8, 0, r0, []⟩, ⟨8, 0, r0, []⟩, ⟨3, 0, r0, []⟩, ⟨8, 0, r0, []⟩, ⟨8, 0, r0, []⟩, ⟨3, 0, r0, []⟩, ⟨8, 0, r0, []⟩, ⟨8, 0, r0, []⟩, ⟨3, 0, r0, []⟩, ⟨8, 0, r0, []⟩, ⟨8, 0, r0, []⟩, ⟨3, 0, r0, []⟩, ⟨8, 0, r0, []⟩, ⟨8, 0, r0, []⟩, ⟨3, 0, r0, []⟩, ⟨8, 0, r0, []⟩, ⟨8, 0, r0, []⟩, ⟨3, 0, r0, []⟩, ⟨8, 0, r0, []⟩, ⟨8, 0, r0, []⟩, ⟨3, 0, r0, []⟩, ⟨8, 0, r0, []⟩, ⟨8, 0, r0, []⟩, ⟨3, 0, r0, []⟩, ⟨8, 0, r0, []⟩, ⟨8, 0, r0, []⟩, ⟨3, 0, r0, []⟩, ⟨8, 0, r0, []⟩, ⟨8, 0, r0, []⟩, ⟨3, 0, r0, []⟩, ⟨8, 0, r0, []⟩, ⟨8, 0, r0, []⟩, ⟨3, 0, r0, []⟩, ⟨8, 0, r0, []⟩, ⟨8, 0, r0, []⟩, ⟨3, 0, r0, []⟩, ⟨8, 0, r0, []⟩, ⟨8, 0, r0, []⟩, ⟨3, 0, r0, []⟩, ⟨8, 0, r0, []⟩, ⟨8, 0, r0, []⟩, ⟨3, 0, r0, []⟩, ⟨8, 0, r0, []⟩, ⟨8, 0, r0, []⟩, ⟨3, 0, r0, []⟩, ⟨8, 0, r0, []⟩, ⟨8, 0, r0, []⟩, ⟨3, 0, r0, []⟩, ⟨8, 0, r0, []⟩, ⟨8, 0, r0, []⟩, ⟨3, 0, r0, []⟩, ⟨8, 0, r0, []⟩, ⟨8, 0, r0, []⟩, ⟨3, 0, r0, []⟩, ⟨8, 0, r0, []⟩, ⟨8, 0, r0, []⟩, ⟨3, 0, r0, []⟩, ⟨8, 0, r0, []⟩, ⟨8, 0, r0, []⟩, ⟨3, 0, r0, []⟩, ⟨8, 0, r0, []⟩, ⟨8, 0, r0, []⟩, ⟨3, 0, r0, []⟩, ⟨8, 0, r0, []⟩, ⟨8, 0, r0, []⟩, ⟨3, 0, r0, []⟩, ⟨8, 0, r0, []⟩, ⟨8, 0, r0, []⟩, ⟨3, 0, r0, []⟩, ⟨8, 0, r0, []⟩, ⟨8, 0, r0, []⟩, ⟨3, 0, r0, []⟩, ⟨8, 0, r0, []⟩, ⟨8, 0, r0, []⟩, ⟨3, 0, r0, []⟩, ⟨8, 0, r0, []⟩, ⟨8, 0, r0, []⟩, ⟨3, 0, r0, []⟩, ⟨8, 0, r0, []⟩, ⟨8, 0, r0, []⟩, ⟨3, 0, r0, []⟩, ⟨8, 0, r0, []⟩, ⟨8, 0, r0, []⟩, ⟨3, 0, r0, []⟩, ⟨8, 0, r0, []⟩, ⟨8, 0, r0, []⟩, ⟨3, 0, r0, []⟩, ⟨8, 0, r0, []⟩, ⟨8, 0, r0, []⟩, ⟨3, 0, r0, []⟩, ⟨8, 0, r0, []⟩, ⟨8, 0, r0, []⟩, ⟨3, 0, r0, []⟩, ⟨8, 0, r0, []⟩, ⟨8, 0, r0, []⟩, ⟨3, 0, r0, []⟩, ⟨8, 0, r0, []⟩, ⟨8, 0, r0, []⟩, ⟨3, 0, r0, []⟩, ⟨8, 0, r0, []⟩, ⟨8, 0, r0, []⟩, ⟨3, 0, r0, []⟩, ⟨8, 0, r0, []⟩, ⟨8, 0, r0, []⟩, ⟨3, 0, r0, []⟩, ⟨8, 0, r0, []⟩, ⟨8, 0, r0, []⟩, ⟨3, 0, r0, []⟩, ⟨8, 0, r0, []⟩, ⟨8, 0, r0, []⟩, ⟨3, 0, r0, []⟩, ⟨8, 0, r0, []⟩, ⟨8, 0, r0, []⟩, ⟨3, 0, r0, []⟩, ⟨8, 0, r0, []⟩, ⟨8, 0, r0, []⟩, ⟨3, 0, r0, []⟩, ⟨8, 0, r0, []⟩, ⟨8, 0, r0, []⟩, ⟨3, 0, r0, []⟩, ⟨8, 0, r0, []⟩, ⟨8, 0, r0, []⟩, ⟨3, 0, r0, []⟩, ⟨8, 0, r0, []⟩, ⟨8, 0, r0, []⟩, ⟨3, 0, r0, []⟩, ⟨8, 0, r0, []⟩, ⟨8, 0, r0, []⟩, ⟨3, 0, r0, []⟩, ⟨8, 0, r0, []⟩, ⟨8, 0, r0, []⟩, ⟨3, 0, r0, []⟩, ⟨8, 0, r0, []⟩, ⟨8, 0, r0, []⟩, ⟨3, 0, r0, []⟩, ⟨8, 0, r0, []⟩, ⟨8, 0, r0, []⟩, ⟨3, 0, r0, []⟩, ⟨8, 0, r0, []⟩, ⟨8, 0, r0, []⟩, ⟨3, 0, r0, []⟩, ⟨8, 0, r0, []⟩, ⟨8, 0, r0, []⟩, ⟨3, 0, r0, []⟩, ⟨8, 0, r0, []⟩, ⟨8, 0, r0, []⟩, ⟨3, 0, r0, []⟩, ⟨8, 0, r0, []⟩, ⟨8, 0, r0, []⟩, ⟨3, 0, r0, []⟩, ⟨8, 0, r0, []⟩, ⟨8, 0, r0, []⟩, ⟨3, 0, r0, []⟩, ⟨8, 0, r0, []⟩, ⟨8, 0, r0, []⟩, ⟨3, 0, r0, []⟩, ⟨8, 0, r0, []⟩, ⟨8, 0, r0, []⟩, ⟨3, 0, r0, []⟩, ⟨8, 0, r0, []⟩, ⟨8, 0, r0, []⟩, ⟨3, 0, r0, []⟩, ⟨8, 0, r0, []⟩, ⟨8, 0, r0, []⟩, ⟨3, 0, r0, []⟩, ⟨8, 0, r0, []⟩, ⟨8, 0, r0, []⟩, ⟨3, 0, r0, []⟩, ⟨8, 0, r0, []⟩, ⟨8, 0, r0, []⟩, ⟨3, 0, r0, []⟩, ⟨8, 0, r0, []⟩, ⟨8, 0, r0, []⟩, ⟨3, 0, r0, []⟩, ⟨8, 0, r0, []⟩, ⟨8, 0, r0, []⟩, ⟨3, 0, r0, []⟩, ⟨8, 0, r0, []⟩, ⟨8, 0, r0, []⟩, ⟨3, 0, r0, []⟩, ⟨8, 0, r0, []⟩, ⟨8, 0, r0, []⟩, ⟨3, 0, r0, []⟩, ⟨8, 0, r0, []⟩, ⟨8, 0, r0, []⟩, ⟨3, 0, r0, []⟩, ⟨8, 0, r0, []⟩, ⟨8, 0, r0, []⟩, ⟨3, 0, r0, []⟩, ⟨8, 0, r0, []⟩, ⟨8, 0, r0, []⟩, ⟨3, 0, r0, []⟩, ⟨8, 0, r0, []⟩, ⟨8, 0, r0, []⟩, ⟨3, 0, r0, []⟩, ⟨8, 0, r0, []⟩, ⟨8, 0, r0, []⟩, ⟨3, 0, r0, []⟩, ⟨8, 0, r0, []⟩, ⟨8, 0, r0, []⟩, ⟨3, 0, r0, []⟩, ⟨8, 0, r0, []⟩, ⟨8, 0, r0, []⟩, ⟨3, 0, r0, []⟩, ⟨8, 0, r0, []⟩, ⟨8, 0, r0, []⟩, ⟨3, 0, r0, []⟩, ⟨8, 0, r0, []⟩, ⟨8, 0, r0, []⟩, ⟨3, 0, r0, []⟩, ⟨8, 0, r0, []⟩, ⟨8, 0, r0, []⟩, ⟨3, 0, r0, []⟩, ⟨8, 0, r0, []⟩, ⟨8, 0, r0, []⟩, ⟨3, 0, r0, []⟩, ⟨8, 0, r0, []⟩, ⟨8, 0, r0, []⟩, ⟨3, 0, r0, []⟩, ⟨8, 0, r0, []⟩, ⟨8, 0, r0, []⟩, ⟨3, 0, r0, []⟩, ⟨8, 0, r0, []⟩, ⟨8, 0, r0, []⟩, ⟨3, 0, r0, []⟩, ⟨8, 0, r0, []⟩, ⟨8, 0, r0, []⟩, ⟨3, 0, r0, []⟩, ⟨8, 0, r0, []⟩, ⟨8, 0, r0, []⟩, ⟨3, 0, r0, []⟩, ⟨8, 0, r0, []⟩, ⟨8, 0, r0, []⟩, ⟨3, 0, r0, []⟩, ⟨8, 0, r0, []⟩, ⟨8, 0, r0, []⟩, ⟨3, 0, r0, []⟩, ⟨8, 0, r0, []⟩, ⟨8, 0, r0, []⟩, ⟨3, 0, r0, []⟩, ⟨8, 0, r0, []⟩, ⟨8, 0, r0, []⟩, ⟨3, 0, r0, []⟩, ⟨8, 0, r0, []⟩, ⟨8, 0, r0, []⟩, ⟨3, 0, r0, []⟩, ⟨8, 0, r0, []⟩, ⟨8, 0, r0, []⟩, ⟨3, 0, r0, []⟩, ⟨8, 0, r0, []⟩, ⟨8, 0, r0, []⟩, ⟨3, 0, r0, []⟩, ⟨8, 0, r0, []⟩, ⟨8, 0, r0, []⟩, ⟨3, 0, r0, []⟩, ⟨8, 0, r0, []⟩, ⟨8, 0, r0, []⟩, ⟨3, 0, r0, []⟩, ⟨8, 0, r0, []⟩, ⟨8, 0, r0, []⟩, ⟨3, 0, r0, []⟩, ⟨8, 0, r0, []⟩, ⟨8, 0, r0, []⟩, ⟨3, 0, r0, []⟩, ⟨8, 0, r0, []⟩, ⟨8, 0, r0, []⟩, ⟨3, 0, r0, []⟩, ⟨8, 0, r0, []⟩, ⟨8, 0, r0, []⟩, ⟨3, 0, r0, []⟩, ⟨8, 0, r0, []⟩, ⟨8, 0, r0, []⟩, ⟨3, 0, r0, []⟩, ⟨8, 0, r0, []⟩, ⟨8, 0, r0, []⟩, ⟨3, 0, r0, []⟩, ⟨8, 0, r0, []⟩, ⟨8, 0, r0, []⟩, ⟨3, 0, r0, []⟩, ⟨8, 0, r0, []⟩, ⟨8, 0, r0, []⟩, ⟨3, 0, r0, []⟩, ⟨8, 0, r0, []⟩, ⟨8, 0, r0, []⟩, ⟨3, 0, r0, []⟩, ⟨8, 0, r0, []⟩, ⟨8, 0, r0, []⟩, ⟨3, 0, r0, []⟩, ⟨8, 0, r0, []⟩, ⟨8, 0, r0, []⟩, ⟨3, 0, r0, []⟩, ⟨8, 0, r0, []⟩, ⟨8, 0, r0, []⟩]⟩)))
theorem R27_eq (Q : PrimW) (fu : Nat) (call : CallW) : curryA 1 (fnK Q Try.prog tys stl fu call e27) = R27 Q.genW Q.addW Q.subW Q.cmpW Q.condW Q.nilcW Q.fadW Q.idxAW Q.tupW Q.nthW Q.killVW Q.loadSW Q.loadAW Q.storeAW Q.boxW Q.flatW fu call := by kernel_rfl
noncomputable def n27 : List W → HW → Nat → KW → Bool := appF 1 (R27 genW addW subW cmpW condW nilcW fadW idxAW tupW nthW killVW loadSW loadAW storeAW boxW flatW 1000000 d5.fn)
theorem n27_ok : FnGood Try.prog tys stl tab 27 n27 := node_ok d5_ok (by kernel_rfl) rfl g27 (R27_eq real _ _)
/- slices.ContainsFunc[[]foghorn/hard.Mark,foghorn/hard.Mark] -/
noncomputable def R28 (q_cmpW : (Nat → Nat → Bool) → Nat → Option CV → W → W → (W → Bool) → Bool) (fu : Nat) (call : CallW) (a0 : W) (a1 : W) (h0 : HW) (c0 : Nat) (K : KW) : Bool :=
call 37 [a0, a1] h0 c0 fun v1 h2 c3 =>
q_cmpW (cmpF2 .geq) 3 (binC Try.prog .geq 3 (.tmp 7) (.const (.int .i64 (.ofNat 0))) (dec v1) (dec ⟨3, 0, r0, []⟩)) v1 ⟨3, 0, r0, []⟩ fun v4 =>
K v4 h2 c3
theorem R28_eq (Q : PrimW) (fu : Nat) (call : CallW) : curryA 2 (fnK Q Try.prog tys stl fu call e28) = R28 Q.cmpW fu call := by kernel_rfl
noncomputable def n28 : List W → HW → Nat → KW → Bool := appF 2 (R28 cmpW 1000000 d5.fn)
theorem n28_ok : FnGood Try.prog tys stl tab 28 n28 := node_ok d5_ok (by kernel_rfl) rfl g28 (R28_eq real _ _)
noncomputable def d6 : Disp := (.node 28 n28 (.node 20 n20 (.node 11 n11 (.node 9 n9 (.node 7 n7 .leaf .leaf) (.node 10 n10 .leaf .leaf)) (.node 16 n16 (.node 14 n14 .leaf .leaf) (.node 18 n18 .leaf .leaf))) (.node 25 n25 (.node 23 n23 (.node 22 n22 .leaf .leaf) (.node 24 n24 .leaf .leaf)) (.node 27 n27 (.node 26 n26 .leaf .leaf) .leaf))) (.node 36 n36 (.node 32 n32 (.node 30 n30 (.node 29 n29 .leaf .leaf) (.node 31 n31 .leaf .leaf)) (.node 34 n34 (.node 33 n33 .leaf .leaf) (.node 35 n35 .leaf .leaf))) (.node 40 n40 (.node 38 n38 (.node 37 n37 .leaf .leaf) (.node 39 n39 .leaf .leaf)) (.node 42 n42 (.node 41 n41 .leaf .leaf) .leaf))))
theorem d6_ok : CallSim Try.prog tys stl tab d6.fn := Disp.sim ⟨n28_ok, ⟨n20_ok, ⟨n11_ok, ⟨n9_ok, ⟨n7_ok, True.intro, True.intro⟩, ⟨n10_ok, True.intro, True.intro⟩⟩, ⟨n16_ok, ⟨n14_ok, True.intro, True.intro⟩, ⟨n18_ok, True.intro, True.intro⟩⟩⟩, ⟨n25_ok, ⟨n23_ok, ⟨n22_ok, True.intro, True.intro⟩, ⟨n24_ok, True.intro, True.intro⟩⟩, ⟨n27_ok, ⟨n26_ok, True.intro, True.intro⟩, True.intro⟩⟩⟩, ⟨n36_ok, ⟨n32_ok, ⟨n30_ok, ⟨n29_ok, True.intro, True.intro⟩, ⟨n31_ok, True.intro, True.intro⟩⟩, ⟨n34_ok, ⟨n33_ok, True.intro, True.intro⟩, ⟨n35_ok, True.intro, True.intro⟩⟩⟩, ⟨n40_ok, ⟨n38_ok, ⟨n37_ok, True.intro, True.intro⟩, ⟨n39_ok, True.intro, True.intro⟩⟩, ⟨n42_ok, ⟨n41_ok, True.intro, True.intro⟩, True.intro⟩⟩⟩⟩
/- foghorn/hard.checked -/
noncomputable def R21 (q_share : (α : Type) → α → (α → Bool) → Bool) (q_mulW : Nat → Nat → Option CV → W → W → (W → Bool) → Bool) (q_remW : Nat → Nat → Option CV → W → W → (W → Bool) → Bool) (q_cmpW : (Nat → Nat → Bool) → Nat → Option CV → W → W → (W → Bool) → Bool) (q_condW : W → Bool → Bool → Bool) (q_guardW : Bool → W → Bool → Bool → Bool) (q_pickW : W → W → W → (W → Bool) → Bool) (q_nilcW : W → (W → Bool) → Bool) (q_fadW : Nat → W → (W → Bool) → Bool) (q_lenW : Option CV → W → (W → Bool) → Bool) (q_tupW : W → (List W → Bool) → Bool) (q_nthW : Nat → List W → (W → Bool) → Bool) (q_killVW : W → HW → (HW → Bool) → Bool) (q_loadSW : HW → W → (W → Bool) → Bool) (q_loadAW : Nat → HW → W → (W → Bool) → Bool) (q_boxW : HW → Nat → W → KW → Bool) (fu : Nat) (call : CallW) (a0 : W) (a1 : W) (h0 : HW) (c0 : Nat) (K : KW) : Bool :=
q_boxW h0 c0 a0 fun v1 h2 c3 =>
q_loadAW 3 h2 v1 fun v4 =>
call 27 [v4] h2 c3 fun v5 h6 c7 =>
q_tupW v5 fun l8 => q_nthW 0 l8 fun v9 =>
q_tupW v5 fun l10 => q_nthW 1 l10 fun v11 =>
q_cmpW (cmpF2 .neq) 3 (binC Try.prog .neq 23 (.tmp 13) (.const (.int .i64 (.ofNat 0))) (dec v11) (dec ⟨3, 0, r0, []⟩)) v11 ⟨3, 0, r0, []⟩ fun v12 =>
q_condW v12 (
q_killVW v1 h6 fun h13 =>
K ⟨13, 0, r0, [⟨12, 0, ⟨0, 0, 0, .nilp⟩, []⟩, v11]⟩ h13 c7) (
q_lenW (lenC tys 26 (dec a1)) a1 fun v14 =>
q_cmpW (cmpF2 .gtr) 3 (binC Try.prog .gtr 3 (.tmp 17) (.const (.int .i64 (.ofNat 32768))) (dec v14) (dec ⟨3, 32768, r0, []⟩)) v14 ⟨3, 32768, r0, []⟩ fun v15 =>
q_share _ (fun (v17 : W) (h18 : HW) (c19 : Nat) =>
q_share _ (fun (v21 : W) (h22 : HW) (c23 : Nat) =>
q_share _ (fun (v25 : W) (h26 : HW) (c27 : Nat) =>
q_share _ (fun (v29 : W) (h30 : HW) (c31 : Nat) =>
q_pickW v15 ⟨8, 1, r0, []⟩ v29 fun v32 =>
q_share _ (fun (v34 : W) (h35 : HW) (c36 : Nat) =>
q_share _ (fun (v38 : W) (h39 : HW) (c40 : Nat) =>
q_share _ (fun (v42 : W) (h43 : HW) (c44 : Nat) =>
q_share _ (fun (v46 : W) (h47 : HW) (c48 : Nat) =>
q_share _ (fun (v50 : W) (h51 : HW) (c52 : Nat) =>
q_share _ (fun (v54 : W) (h55 : HW) (c56 : Nat) =>
q_share _ (fun (v58 : W) (h59 : HW) (c60 : Nat) =>
q_share _ (fun (v62 : W) (h63 : HW) (c64 : Nat) =>
q_pickW v32 ⟨8, 1, r0, []⟩ v62 fun v65 =>
q_condW v65 (
q_killVW v1 h63 fun h66 =>
K ⟨13, 0, r0, [⟨12, 0, ⟨0, 0, 0, .nilp⟩, []⟩, ⟨3, 1, r0, []⟩]⟩ h66 c64) (
call 28 [a1, ⟨14, 29, r0, []⟩] h63 c64 fun v67 h68 c69 =>
q_condW v67 (
q_killVW v1 h68 fun h70 =>
K ⟨13, 0, r0, [⟨12, 0, ⟨0, 0, 0, .nilp⟩, []⟩, ⟨3, 1, r0, []⟩]⟩ h70 c69) (
q_killVW v1 h68 fun h71 =>
K ⟨13, 0, r0, [v9, ⟨3, 0, r0, []⟩]⟩ h71 c69))) fun f61 =>
q_guardW false v32 (q_cmpW (cmpF2 .lss) 3 (binC Try.prog .lss 3 (.tmp 27) (.tmp 32) (dec v38) (dec v58)) v38 v58 fun v72 =>
f61 v72 h59 c60) (f61 wUnd h59 c60)) fun f57 =>
q_guardW false v32 (q_mulW 3 9223372036854775807 (binC Try.prog .mul 3 (.const (.int .i64 (.ofNat 2))) (.tmp 31) (dec ⟨3, 2, r0, []⟩) (dec v54)) ⟨3, 2, r0, []⟩ v54 fun v73 =>
f57 v73 h55 c56) (f57 wUnd h55 c56)) fun f53 =>
q_guardW false v32 (q_loadSW h51 v50 fun v74 =>
f53 v74 h51 c52) (f53 wUnd h51 c52)) fun f49 =>
q_guardW false v32 (q_fadW 1 v46 fun v75 =>
f49 v75 h47 c48) (f49 wUnd h47 c48)) fun f45 =>
q_guardW false v32 (q_nilcW v42 fun v76 =>
f45 v76 h43 c44) (f45 wUnd h43 c44)) fun f41 =>
q_guardW false v32 (f41 v9 h39 c40) (f41 wUnd h39 c40)) fun f37 =>
q_guardW false v32 (q_lenW (lenC tys 26 (dec v34)) v34 fun v77 =>
f37 v77 h35 c36) (f37 wUnd h35 c36)) fun f33 =>
q_guardW false v32 (f33 a1 h30 c31) (f33 wUnd h30 c31)) fun f28 =>
q_guardW false v15 (q_cmpW (cmpF2 .neq) 3 (binC Try.prog .neq 3 (.tmp 22) (.const (.int .i64 (.ofNat 0))) (dec v25) (dec ⟨3, 0, r0, []⟩)) v25 ⟨3, 0, r0, []⟩ fun v78 =>
f28 v78 h26 c27) (f28 wUnd h26 c27)) fun f24 =>
q_guardW false v15 (q_remW 3 9223372036854775807 (binC Try.prog .rem 3 (.tmp 21) (.const (.int .i64 (.ofNat 2))) (dec v21) (dec ⟨3, 2, r0, []⟩)) v21 ⟨3, 2, r0, []⟩ fun v79 =>
f24 v79 h22 c23) (f24 wUnd h22 c23)) fun f20 =>
q_guardW false v15 (q_lenW (lenC tys 26 (dec v17)) v17 fun v80 =>
f20 v80 h18 c19) (f20 wUnd h18 c19)) fun f16 =>
q_guardW false v15 (f16 a1 h6 c7) (f16 wUnd h6 c7))
theorem R21_eq (Q : PrimW) (fu : Nat) (call : CallW) : curryA 2 (fnK Q Try.prog tys stl fu call e21) = R21 Q.share Q.mulW Q.remW Q.cmpW Q.condW Q.guardW Q.pickW Q.nilcW Q.fadW Q.lenW Q.tupW Q.nthW Q.killVW Q.loadSW Q.loadAW Q.boxW fu call := by kernel_rfl
noncomputable def n21 : List W → HW → Nat → KW → Bool := appF 2 (R21 (fun _ x f => f x) mulW remW cmpW condW guardW pickW nilcW fadW lenW tupW nthW killVW loadSW loadAW boxW 1000000 d6.fn)
theorem n21_ok : FnGood Try.prog tys stl tab 21 n21 := node_ok d6_ok (by kernel_rfl) rfl g21 (R21_eq real _ _)
noncomputable def d7 : Disp := (.node 28 n28 (.node 20 n20 (.node 11 n11 (.node 9 n9 (.node 7 n7 .leaf .leaf) (.node 10 n10 .leaf .leaf)) (.node 16 n16 (.node 14 n14 .leaf .leaf) (.node 18 n18 .leaf .leaf))) (.node 24 n24 (.node 22 n22 (.node 21 n21 .leaf .leaf) (.node 23 n23 .leaf .leaf)) (.node 26 n26 (.node 25 n25 .leaf .leaf) (.node 27 n27 .leaf .leaf)))) (.node 36 n36 (.node 32 n32 (.node 30 n30 (.node 29 n29 .leaf .leaf) (.node 31 n31 .leaf .leaf)) (.node 34 n34 (.node 33 n33 .leaf .leaf) (.node 35 n35 .leaf .leaf))) (.node 40 n40 (.node 38 n38 (.node 37 n37 .leaf .leaf) (.node 39 n39 .leaf .leaf)) (.node 42 n42 (.node 41 n41 .leaf .leaf) .leaf))))
theorem d7_ok : CallSim Try.prog tys stl tab d7.fn := Disp.sim ⟨n28_ok, ⟨n20_ok, ⟨n11_ok, ⟨n9_ok, ⟨n7_ok, True.intro, True.intro⟩, ⟨n10_ok, True.intro, True.intro⟩⟩, ⟨n16_ok, ⟨n14_ok, True.intro, True.intro⟩, ⟨n18_ok, True.intro, True.intro⟩⟩⟩, ⟨n24_ok, ⟨n22_ok, ⟨n21_ok, True.intro, True.intro⟩, ⟨n23_ok, True.intro, True.intro⟩⟩, ⟨n26_ok, ⟨n25_ok, True.intro, True.intro⟩, ⟨n27_ok, True.intro, True.intro⟩⟩⟩⟩, ⟨n36_ok, ⟨n32_ok, ⟨n30_ok, ⟨n29_ok, True.intro, True.intro⟩, ⟨n31_ok, True.intro, True.intro⟩⟩, ⟨n34_ok, ⟨n33_ok, True.intro, True.intro⟩, ⟨n35_ok, True.intro, True.intro⟩⟩⟩, ⟨n40_ok, ⟨n38_ok, ⟨n37_ok, True.intro, True.intro⟩, ⟨n39_ok, True.intro, True.intro⟩⟩, ⟨n42_ok, ⟨n41_ok, True.intro, True.intro⟩, True.intro⟩⟩⟩⟩
/- foghorn/hard.Path -/
noncomputable def R17 (q_addW : Nat → Nat → Option CV → W → W → (W → Bool) → Bool) (q_subW : Nat → Nat → Option CV → W → W → (W → Bool) → Bool) (q_mulW : Nat → Nat → Option CV → W → W → (W → Bool) → Bool) (q_quoW : Nat → Nat → Option CV → W → W → (W → Bool) → Bool) (q_bitW : (Nat → Nat → Nat) → Nat → Nat → Option CV → W → W → (W → Bool) → Bool) (q_cmpW : (Nat → Nat → Bool) → Nat → Option CV → W → W → (W → Bool) → Bool) (q_shrW : Nat → Nat → Option CV → W → W → (W → Bool) → Bool) (q_condW : W → Bool → Bool → Bool) (q_nilcW : W → (W → Bool) → Bool) (q_fadW : Nat → W → (W → Bool) → Bool) (q_idxSW : Nat → W → W → (W → Bool) → Bool) (q_idxAW : Nat → Nat → W → W → (W → Bool) → Bool) (q_lenW : Option CV → W → (W → Bool) → Bool) (q_tupW : W → (List W → Bool) → Bool) (q_nthW : Nat → List W → (W → Bool) → Bool) (q_detW : W → Bool → Bool) (q_killVW : W → HW → (HW → Bool) → Bool) (q_loadSW : HW → W → (W → Bool) → Bool) (q_loadAW : Nat → HW → W → (W → Bool) → Bool) (q_storeSW : HW → W → W → (HW → Bool) → Bool) (q_storeAW : Nat → HW → W → W → (HW → Bool) → Bool) (q_makeSW : Nat → Nat → Nat → Kind → List W → Bool → HW → Nat → W → W → KW → Bool) (q_allocW : Trie W → Nat → Bool → HW → Nat → KW → Bool) (q_boxW : HW → Nat → W → KW → Bool) (fu : Nat) (call : CallW) (a0 : W) (a1 : W) (h0 : HW) (c0 : Nat) (K : KW) : Bool :=
q_boxW h0 c0 a0 fun v1 h2 c3 =>
q_loadAW 3 h2 v1 fun v4 =>
call 21 [v4, a1] h2 c3 fun v5 h6 c7 =>
q_tupW v5 fun l8 => q_nthW 0 l8 fun v9 =>
q_tupW v5 fun l10 => q_nthW 1 l10 fun v11 =>
q_cmpW (cmpF2 .neq) 3 (binC Try.prog .neq 23 (.tmp 21) (.const (.int .i64 (.ofNat 0))) (dec v11) (dec ⟨3, 0, r0, []⟩)) v11 ⟨3, 0, r0, []⟩ fun v12 =>
q_condW v12 (
q_killVW v1 h6 fun h13 =>
q_killVW wUnd h13 fun h14 =>
K ⟨13, 0, r0, [⟨12, 0, ⟨0, 0, 0, .nils⟩, []⟩, ⟨3, 0, r0, []⟩, v11]⟩ h14 c7) (
call 22 [] h6 c7 fun v15 h16 c17 =>
q_allocW (allocT tys 54) 64 true h16 c17 fun v18 h19 c20 =>
q_storeAW 64 h19 v18 v15 fun h21 =>
q_lenW (lenC tys 26 (dec a1)) a1 fun v22 =>
q_quoW 3 9223372036854775807 (binC Try.prog .quo 3 (.tmp 26) (.const (.int .i64 (.ofNat 2))) (dec v22) (dec ⟨3, 2, r0, []⟩)) v22 ⟨3, 2, r0, []⟩ fun v23 =>
q_makeSW 8 1 7 (.ints .u64) [⟨7, 0, r0, []⟩] true h21 c20 v23 v23 fun v24 h25 c26 =>
q_subW 3 9223372036854775807 (binC Try.prog .sub 3 (.tmp 30) (.const (.int .i64 (.ofNat 1))) (dec v23) (dec ⟨3, 1, r0, []⟩)) v23 ⟨3, 1, r0, []⟩ fun v27 =>
@Nat.rec (fun _ => Fun 1) (fun _ _ _ => false) (fun _ f31 v28 h29 c30 =>
q_cmpW (cmpF2 .geq) 3 (binC Try.prog .geq 3 (.tmp 32) (.const (.int .i64 (.ofNat 0))) (dec v28) (dec ⟨3, 0, r0, []⟩)) v28 ⟨3, 0, r0, []⟩ fun v32 =>
q_condW v32 (
q_loadAW 64 h29 v18 fun v33 =>
q_mulW 3 9223372036854775807 (binC Try.prog .mul 3 (.const (.int .i64 (.ofNat 2))) (.tmp 42) (dec ⟨3, 2, r0, []⟩) (dec v28)) ⟨3, 2, r0, []⟩ v28 fun v34 =>
q_idxSW 1 a1 v34 fun v35 =>
q_loadSW h29 v35 fun v36 =>
q_mulW 3 9223372036854775807 (binC Try.prog .mul 3 (.const (.int .i64 (.ofNat 2))) (.tmp 47) (dec ⟨3, 2, r0, []⟩) (dec v28)) ⟨3, 2, r0, []⟩ v28 fun v37 =>
q_addW 3 9223372036854775807 (binC Try.prog .add 3 (.tmp 48) (.const (.int .i64 (.ofNat 1))) (dec v37) (dec ⟨3, 1, r0, []⟩)) v37 ⟨3, 1, r0, []⟩ fun v38 =>
q_idxSW 1 a1 v38 fun v39 =>
q_loadSW h29 v39 fun v40 =>
q_nilcW v9 fun v41 =>
q_fadW 1 v41 fun v42 =>
q_loadSW h29 v42 fun v43 =>
q_subW 3 9223372036854775807 (binC Try.prog .sub 3 (.tmp 53) (.tmp 57) (dec v23) (dec v43)) v23 v43 fun v44 =>
q_cmpW (cmpF2 .lss) 3 (binC Try.prog .lss 3 (.tmp 52) (.tmp 58) (dec v28) (dec v44)) v28 v44 fun v45 =>
call 23 [v9, v33, v36, v40, v45] h29 c30 fun v46 h47 c48 =>
q_tupW v46 fun l49 => q_nthW 0 l49 fun v50 =>
q_tupW v46 fun l51 => q_nthW 1 l51 fun v52 =>
q_detW v52 (
q_storeAW 64 h47 v18 v50 fun h53 =>
q_idxSW 1 v24 v28 fun v54 =>
q_storeSW h53 v54 v52 fun h55 =>
q_subW 3 9223372036854775807 (binC Try.prog .sub 3 (.tmp 34) (.const (.int .i64 (.ofNat 1))) (dec v28) (dec ⟨3, 1, r0, []⟩)) v28 ⟨3, 1, r0, []⟩ fun v56 =>
f31 v56 h55 c48)) (
q_nilcW v9 fun v57 =>
q_fadW 1 v57 fun v58 =>
q_loadSW h29 v58 fun v59 =>
q_subW 3 9223372036854775807 (binC Try.prog .sub 3 (.tmp 64) (.tmp 68) (dec v23) (dec v59)) v23 v59 fun v60 =>
q_makeSW 1 1 8 .bools [⟨8, 0, r0, []⟩] true h29 c30 v60 v60 fun v61 h62 c63 =>
q_lenW (lenC tys 22 (dec v61)) v61 fun v64 =>
@Nat.rec (fun _ => Fun 2) (fun _ _ _ _ => false) (fun _ f69 v65 v66 h67 c68 =>
q_cmpW (cmpF2 .lss) 3 (binC Try.prog .lss 3 (.tmp 73) (.tmp 72) (dec v66) (dec v64)) v66 v64 fun v70 =>
q_condW v70 (
q_idxSW 1 v24 v66 fun v71 =>
q_loadSW h67 v71 fun v72 =>
q_shrW 7 64 (binC Try.prog .shr 57 (.tmp 79) (.tmp 80) (dec v72) (dec v65)) v72 v65 fun v73 =>
q_bitW Nat.land 7 18446744073709551615 (binC Try.prog .and 57 (.tmp 81) (.const (.int .u64 (.ofNat 1))) (dec v73) (dec ⟨7, 1, r0, []⟩)) v73 ⟨7, 1, r0, []⟩ fun v74 =>
q_cmpW (cmpF2 .neq) 7 (binC Try.prog .neq 57 (.tmp 85) (.const (.int .u64 (.ofNat 0))) (dec v74) (dec ⟨7, 0, r0, []⟩)) v74 ⟨7, 0, r0, []⟩ fun v75 =>
q_idxSW 1 v61 v66 fun v76 =>
q_storeSW h67 v76 v75 fun h77 =>
q_nilcW v9 fun v78 =>
q_fadW 2 v78 fun v79 =>
q_idxAW 6 64 v79 v65 fun v80 =>
q_idxAW 3 2 v80 v74 fun v81 =>
q_fadW 0 v81 fun v82 =>
q_loadSW h77 v82 fun v83 =>
q_addW 3 9223372036854775807 (binC Try.prog .add 3 (.tmp 73) (.const (.int .i64 (.ofNat 1))) (dec v66) (dec ⟨3, 1, r0, []⟩)) v66 ⟨3, 1, r0, []⟩ fun v84 =>
f69 v83 v84 h77 c68) (
q_idxAW 1 64 v18 ⟨3, 0, r0, []⟩ fun v85 =>
q_loadSW h67 v85 fun v86 =>
q_killVW v1 h67 fun h87 =>
q_killVW v18 h87 fun h88 =>
K ⟨13, 0, r0, [v61, v86, ⟨3, 0, r0, []⟩]⟩ h88 c68)) fu ⟨3, 0, r0, []⟩ ⟨3, 0, r0, []⟩ h62 c63)) fu v27 h25 c26)
theorem R17_eq (Q : PrimW) (fu : Nat) (call : CallW) : curryA 2 (fnK Q Try.prog tys stl fu call e17) = R17 Q.addW Q.subW Q.mulW Q.quoW Q.bitW Q.cmpW Q.shrW Q.condW Q.nilcW Q.fadW Q.idxSW Q.idxAW Q.lenW Q.tupW Q.nthW Q.detW Q.killVW Q.loadSW Q.loadAW Q.storeSW Q.storeAW Q.makeSW Q.allocW Q.boxW fu call := by kernel_rfl
noncomputable def n17 : List W → HW → Nat → KW → Bool := appF 2 (R17 addW subW mulW quoW bitW cmpW shrW condW nilcW fadW idxSW idxAW lenW tupW nthW detW killVW loadSW loadAW storeSW storeAW makeSW allocW boxW 1000000 d7.fn)
theorem n17_ok : FnGood Try.prog tys stl tab 17 n17 := node_ok d7_ok (by kernel_rfl) rfl g17 (R17_eq real _ _)
/- foghorn/hard.Cost -/
noncomputable def R19 (q_addW : Nat → Nat → Option CV → W → W → (W → Bool) → Bool) (q_subW : Nat → Nat → Option CV → W → W → (W → Bool) → Bool) (q_quoW : Nat → Nat → Option CV → W → W → (W → Bool) → Bool) (q_cmpW : (Nat → Nat → Bool) → Nat → Option CV → W → W → (W → Bool) → Bool) (q_condW : W → Bool → Bool → Bool) (q_nilcW : W → (W → Bool) → Bool) (q_fadW : Nat → W → (W → Bool) → Bool) (q_idxSW : Nat → W → W → (W → Bool) → Bool) (q_lenW : Option CV → W → (W → Bool) → Bool) (q_tupW : W → (List W → Bool) → Bool) (q_nthW : Nat → List W → (W → Bool) → Bool) (q_killVW : W → HW → (HW → Bool) → Bool) (q_loadSW : HW → W → (W → Bool) → Bool) (q_loadAW : Nat → HW → W → (W → Bool) → Bool) (q_boxW : HW → Nat → W → KW → Bool) (fu : Nat) (call : CallW) (a0 : W) (a1 : W) (a2 : W) (h0 : HW) (c0 : Nat) (K : KW) : Bool :=
q_boxW h0 c0 a0 fun v1 h2 c3 =>
q_loadAW 3 h2 v1 fun v4 =>
call 21 [v4, a2] h2 c3 fun v5 h6 c7 =>
q_tupW v5 fun l8 => q_nthW 0 l8 fun v9 =>
q_tupW v5 fun l10 => q_nthW 1 l10 fun v11 =>
q_cmpW (cmpF2 .neq) 3 (binC Try.prog .neq 23 (.tmp 20) (.const (.int .i64 (.ofNat 0))) (dec v11) (dec ⟨3, 0, r0, []⟩)) v11 ⟨3, 0, r0, []⟩ fun v12 =>
q_condW v12 (
q_killVW v1 h6 fun h13 =>
K ⟨13, 0, r0, [⟨3, 0, r0, []⟩, v11]⟩ h13 c7) (
q_lenW (lenC tys 22 (dec a1)) a1 fun v14 =>
q_lenW (lenC tys 26 (dec a2)) a2 fun v15 =>
q_quoW 3 9223372036854775807 (binC Try.prog .quo 3 (.tmp 26) (.const (.int .i64 (.ofNat 2))) (dec v15) (dec ⟨3, 2, r0, []⟩)) v15 ⟨3, 2, r0, []⟩ fun v16 =>
q_nilcW v9 fun v17 =>
q_fadW 1 v17 fun v18 =>
q_loadSW h6 v18 fun v19 =>
q_subW 3 9223372036854775807 (binC Try.prog .sub 3 (.tmp 27) (.tmp 31) (dec v16) (dec v19)) v16 v19 fun v20 =>
q_cmpW (cmpF2 .neq) 3 (binC Try.prog .neq 3 (.tmp 24) (.tmp 32) (dec v14) (dec v20)) v14 v20 fun v21 =>
q_condW v21 (
q_killVW v1 h6 fun h22 =>
K ⟨13, 0, r0, [⟨3, 0, r0, []⟩, ⟨3, 1, r0, []⟩]⟩ h22 c7) (
q_loadAW 3 h6 v1 fun v23 =>
call 24 [v23, a1] h6 c7 fun v24 h25 c26 =>
q_tupW v24 fun l27 => q_nthW 0 l27 fun v28 =>
q_tupW v24 fun l29 => q_nthW 1 l29 fun v30 =>
q_cmpW (cmpF2 .neq) 3 (binC Try.prog .neq 23 (.tmp 40) (.const (.int .i64 (.ofNat 0))) (dec v30) (dec ⟨3, 0, r0, []⟩)) v30 ⟨3, 0, r0, []⟩ fun v31 =>
q_condW v31 (
q_killVW v1 h25 fun h32 =>
K ⟨13, 0, r0, [⟨3, 0, r0, []⟩, v30]⟩ h32 c26) (
q_lenW (lenC tys 22 (dec v28)) v28 fun v33 =>
@Nat.rec (fun _ => Fun 2) (fun _ _ _ _ => false) (fun _ f38 v34 v35 h36 c37 =>
q_cmpW (cmpF2 .lss) 3 (binC Try.prog .lss 3 (.tmp 45) (.tmp 44) (dec v35) (dec v33)) v35 v33 fun v39 =>
q_condW v39 (
q_idxSW 1 v28 v35 fun v40 =>
q_loadSW h36 v40 fun v41 =>
q_idxSW 1 a2 v35 fun v42 =>
q_loadSW h36 v42 fun v43 =>
call 25 [v41, v43] h36 c37 fun v44 h45 c46 =>
q_addW 3 9223372036854775807 (binC Try.prog .add 3 (.tmp 50) (.tmp 56) (dec v34) (dec v44)) v34 v44 fun v47 =>
q_addW 3 9223372036854775807 (binC Try.prog .add 3 (.tmp 45) (.const (.int .i64 (.ofNat 1))) (dec v35) (dec ⟨3, 1, r0, []⟩)) v35 ⟨3, 1, r0, []⟩ fun v48 =>
f38 v47 v48 h45 c46) (
q_killVW v1 h36 fun h49 =>
K ⟨13, 0, r0, [v34, ⟨3, 0, r0, []⟩]⟩ h49 c37)) fu ⟨3, 0, r0, []⟩ ⟨3, 0, r0, []⟩ h25 c26)))
theorem R19_eq (Q : PrimW) (fu : Nat) (call : CallW) : curryA 3 (fnK Q Try.prog tys stl fu call e19) = R19 Q.addW Q.subW Q.quoW Q.cmpW Q.condW Q.nilcW Q.fadW Q.idxSW Q.lenW Q.tupW Q.nthW Q.killVW Q.loadSW Q.loadAW Q.boxW fu call := by kernel_rfl
noncomputable def n19 : List W → HW → Nat → KW → Bool := appF 3 (R19 addW subW quoW cmpW condW nilcW fadW idxSW lenW tupW nthW killVW loadSW loadAW boxW 1000000 d7.fn)
theorem n19_ok : FnGood Try.prog tys stl tab 19 n19 := node_ok d7_ok (by kernel_rfl) rfl g19 (R19_eq real _ _)
noncomputable def d8 : Disp := (.node 27 n27 (.node 19 n19 (.node 14 n14 (.node 10 n10 (.node 9 n9 (.node 7 n7 .leaf .leaf) .leaf) (.node 11 n11 .leaf .leaf)) (.node 17 n17 (.node 16 n16 .leaf .leaf) (.node 18 n18 .leaf .leaf))) (.node 23 n23 (.node 21 n21 (.node 20 n20 .leaf .leaf) (.node 22 n22 .leaf .leaf)) (.node 25 n25 (.node 24 n24 .leaf .leaf) (.node 26 n26 .leaf .leaf)))) (.node 35 n35 (.node 31 n31 (.node 29 n29 (.node 28 n28 .leaf .leaf) (.node 30 n30 .leaf .leaf)) (.node 33 n33 (.node 32 n32 .leaf .leaf) (.node 34 n34 .leaf .leaf))) (.node 39 n39 (.node 37 n37 (.node 36 n36 .leaf .leaf) (.node 38 n38 .leaf .leaf)) (.node 41 n41 (.node 40 n40 .leaf .leaf) (.node 42 n42 .leaf .leaf)))))
theorem d8_ok : CallSim Try.prog tys stl tab d8.fn := Disp.sim ⟨n27_ok, ⟨n19_ok, ⟨n14_ok, ⟨n10_ok, ⟨n9_ok, ⟨n7_ok, True.intro, True.intro⟩, True.intro⟩, ⟨n11_ok, True.intro, True.intro⟩⟩, ⟨n17_ok, ⟨n16_ok, True.intro, True.intro⟩, ⟨n18_ok, True.intro, True.intro⟩⟩⟩, ⟨n23_ok, ⟨n21_ok, ⟨n20_ok, True.intro, True.intro⟩, ⟨n22_ok, True.intro, True.intro⟩⟩, ⟨n25_ok, ⟨n24_ok, True.intro, True.intro⟩, ⟨n26_ok, True.intro, True.intro⟩⟩⟩⟩, ⟨n35_ok, ⟨n31_ok, ⟨n29_ok, ⟨n28_ok, True.intro, True.intro⟩, ⟨n30_ok, True.intro, True.intro⟩⟩, ⟨n33_ok, ⟨n32_ok, True.intro, True.intro⟩, ⟨n34_ok, True.intro, True.intro⟩⟩⟩, ⟨n39_ok, ⟨n37_ok, ⟨n36_ok, True.intro, True.intro⟩, ⟨n38_ok, True.intro, True.intro⟩⟩, ⟨n41_ok, ⟨n40_ok, True.intro, True.intro⟩, ⟨n42_ok, True.intro, True.intro⟩⟩⟩⟩⟩
/- foghorn/foghornlaw22.works -/
noncomputable def R13 (q_share : (α : Type) → α → (α → Bool) → Bool) (q_cmpW : (Nat → Nat → Bool) → Nat → Option CV → W → W → (W → Bool) → Bool) (q_guardW : Bool → W → Bool → Bool → Bool) (q_pickW : W → W → W → (W → Bool) → Bool) (q_tupW : W → (List W → Bool) → Bool) (q_nthW : Nat → List W → (W → Bool) → Bool) (q_buildSW : Nat → Nat → Kind → Nat → Bool → HW → Nat → Nat → List W → KW → Bool) (fu : Nat) (call : CallW) (h0 : HW) (c0 : Nat) (K : KW) : Bool :=
q_buildSW 1 8 .bools 6 true h0 c0 6 [⟨8, 1, r0, []⟩, ⟨8, 1, r0, []⟩, ⟨8, 0, r0, []⟩, ⟨8, 0, r0, []⟩, ⟨8, 1, r0, []⟩, ⟨8, 1, r0, []⟩] fun v1 h2 c3 =>
call 11 [v1] h2 c3 fun v4 h5 c6 =>
call 18 [] h5 c6 fun v7 h8 c9 =>
call 17 [v7, v4] h8 c9 fun v10 h11 c12 =>
q_tupW v10 fun l13 => q_nthW 0 l13 fun v14 =>
q_tupW v10 fun l15 => q_nthW 1 l15 fun v16 =>
q_tupW v10 fun l17 => q_nthW 2 l17 fun v18 =>
call 18 [] h11 c12 fun v19 h20 c21 =>
q_buildSW 1 8 .bools 1 true h20 c21 1 [⟨8, 1, r0, []⟩] fun v22 h23 c24 =>
call 19 [v19, v22, v4] h23 c24 fun v25 h26 c27 =>
q_tupW v25 fun l28 => q_nthW 0 l28 fun v29 =>
q_tupW v25 fun l30 => q_nthW 1 l30 fun v31 =>
q_buildSW 1 8 .bools 3 true h26 c27 3 [⟨8, 1, r0, []⟩, ⟨8, 0, r0, []⟩, ⟨8, 1, r0, []⟩] fun v32 h33 c34 =>
q_buildSW 1 8 .bools 3 true h33 c34 3 [⟨8, 1, r0, []⟩, ⟨8, 1, r0, []⟩, ⟨8, 0, r0, []⟩] fun v35 h36 c37 =>
call 7 [v32, v35, ⟨3, 4, r0, []⟩] h36 c37 fun v38 h39 c40 =>
q_tupW v38 fun l41 => q_nthW 0 l41 fun v42 =>
q_tupW v38 fun l43 => q_nthW 1 l43 fun v44 =>
q_cmpW (cmpF2 .eql) 3 (binC Try.prog .eql 23 (.tmp 31) (.const (.int .i64 (.ofNat 0))) (dec v18) (dec ⟨3, 0, r0, []⟩)) v18 ⟨3, 0, r0, []⟩ fun v45 =>
q_share _ (fun (v47 : W) (h48 : HW) (c49 : Nat) =>
q_share _ (fun (v51 : W) (h52 : HW) (c53 : Nat) =>
q_pickW v45 v51 ⟨8, 0, r0, []⟩ fun v54 =>
q_share _ (fun (v56 : W) (h57 : HW) (c58 : Nat) =>
q_share _ (fun (v60 : W) (h61 : HW) (c62 : Nat) =>
q_pickW v54 v60 ⟨8, 0, r0, []⟩ fun v63 =>
q_share _ (fun (v65 : W) (h66 : HW) (c67 : Nat) =>
q_share _ (fun (v69 : W) (h70 : HW) (c71 : Nat) =>
q_share _ (fun (v73 : W) (h74 : HW) (c75 : Nat) =>
q_pickW v63 v73 ⟨8, 0, r0, []⟩ fun v76 =>
q_share _ (fun (v78 : W) (h79 : HW) (c80 : Nat) =>
q_share _ (fun (v82 : W) (h83 : HW) (c84 : Nat) =>
q_pickW v76 v82 ⟨8, 0, r0, []⟩ fun v85 =>
q_share _ (fun (v87 : W) (h88 : HW) (c89 : Nat) =>
q_share _ (fun (v91 : W) (h92 : HW) (c93 : Nat) =>
q_pickW v85 v91 ⟨8, 0, r0, []⟩ fun v94 =>
q_share _ (fun (v96 : W) (h97 : HW) (c98 : Nat) =>
q_share _ (fun (v100 : W) (h101 : HW) (c102 : Nat) =>
q_share _ (fun (v104 : W) (h105 : HW) (c106 : Nat) =>
q_pickW v94 v104 ⟨8, 0, r0, []⟩ fun v107 =>
K v107 h105 c106) fun f103 =>
q_guardW true v94 (call 10 [v96, v100] h101 c102 fun v108 h109 c110 =>
f103 v108 h109 c110) (f103 wUnd h101 c102)) fun f99 =>
q_guardW true v94 (q_buildSW 1 4 (.ints .u8) 4 true h97 c98 4 [⟨4, 1, r0, []⟩, ⟨4, 0, r0, []⟩, ⟨4, 2, r0, []⟩, ⟨4, 1, r0, []⟩] fun v111 h112 c113 =>
f99 v111 h112 c113) (f99 wUnd h97 c98)) fun f95 =>
q_guardW true v94 (f95 v42 h92 c93) (f95 wUnd h92 c93)) fun f90 =>
q_guardW true v85 (q_cmpW (cmpF2 .eql) 3 (binC Try.prog .eql 3 (.tmp 51) (.const (.int .i64 (.ofNat 1))) (dec v87) (dec ⟨3, 1, r0, []⟩)) v87 ⟨3, 1, r0, []⟩ fun v114 =>
f90 v114 h88 c89) (f90 wUnd h88 c89)) fun f86 =>
q_guardW true v85 (f86 v29 h83 c84) (f86 wUnd h83 c84)) fun f81 =>
q_guardW true v76 (q_cmpW (cmpF2 .eql) 3 (binC Try.prog .eql 3 (.tmp 47) (.const (.int .i64 (.ofNat 1))) (dec v78) (dec ⟨3, 1, r0, []⟩)) v78 ⟨3, 1, r0, []⟩ fun v115 =>
f81 v115 h79 c80) (f81 wUnd h79 c80)) fun f77 =>
q_guardW true v76 (f77 v16 h74 c75) (f77 wUnd h74 c75)) fun f72 =>
q_guardW true v63 (call 9 [v65, v69] h70 c71 fun v116 h117 c118 =>
f72 v116 h117 c118) (f72 wUnd h70 c71)) fun f68 =>
q_guardW true v63 (q_buildSW 1 8 .bools 1 true h66 c67 1 [⟨8, 1, r0, []⟩] fun v119 h120 c121 =>
f68 v119 h120 c121) (f68 wUnd h66 c67)) fun f64 =>
q_guardW true v63 (f64 v14 h61 c62) (f64 wUnd h61 c62)) fun f59 =>
q_guardW true v54 (q_cmpW (cmpF2 .eql) 3 (binC Try.prog .eql 23 (.tmp 38) (.const (.int .i64 (.ofNat 0))) (dec v56) (dec ⟨3, 0, r0, []⟩)) v56 ⟨3, 0, r0, []⟩ fun v122 =>
f59 v122 h57 c58) (f59 wUnd h57 c58)) fun f55 =>
q_guardW true v54 (f55 v44 h52 c53) (f55 wUnd h52 c53)) fun f50 =>
q_guardW true v45 (q_cmpW (cmpF2 .eql) 3 (binC Try.prog .eql 23 (.tmp 34) (.const (.int .i64 (.ofNat 0))) (dec v47) (dec ⟨3, 0, r0, []⟩)) v47 ⟨3, 0, r0, []⟩ fun v123 =>
f50 v123 h48 c49) (f50 wUnd h48 c49)) fun f46 =>
q_guardW true v45 (f46 v31 h39 c40) (f46 wUnd h39 c40)
theorem R13_eq (Q : PrimW) (fu : Nat) (call : CallW) : curryA 0 (fnK Q Try.prog tys stl fu call e13) = R13 Q.share Q.cmpW Q.guardW Q.pickW Q.tupW Q.nthW Q.buildSW fu call := by kernel_rfl
noncomputable def n13 : List W → HW → Nat → KW → Bool := appF 0 (R13 (fun _ x f => f x) cmpW guardW pickW tupW nthW buildSW 1000000 d8.fn)
theorem n13_ok : FnGood Try.prog tys stl tab 13 n13 := node_ok d8_ok (by kernel_rfl) rfl g13 (R13_eq real _ _)
noncomputable def d9 : Disp := (.node 26 n26 (.node 18 n18 (.node 13 n13 (.node 10 n10 (.node 9 n9 (.node 7 n7 .leaf .leaf) .leaf) (.node 11 n11 .leaf .leaf)) (.node 16 n16 (.node 14 n14 .leaf .leaf) (.node 17 n17 .leaf .leaf))) (.node 22 n22 (.node 20 n20 (.node 19 n19 .leaf .leaf) (.node 21 n21 .leaf .leaf)) (.node 24 n24 (.node 23 n23 .leaf .leaf) (.node 25 n25 .leaf .leaf)))) (.node 35 n35 (.node 31 n31 (.node 29 n29 (.node 28 n28 (.node 27 n27 .leaf .leaf) .leaf) (.node 30 n30 .leaf .leaf)) (.node 33 n33 (.node 32 n32 .leaf .leaf) (.node 34 n34 .leaf .leaf))) (.node 39 n39 (.node 37 n37 (.node 36 n36 .leaf .leaf) (.node 38 n38 .leaf .leaf)) (.node 41 n41 (.node 40 n40 .leaf .leaf) (.node 42 n42 .leaf .leaf)))))
theorem d9_ok : CallSim Try.prog tys stl tab d9.fn := Disp.sim ⟨n26_ok, ⟨n18_ok, ⟨n13_ok, ⟨n10_ok, ⟨n9_ok, ⟨n7_ok, True.intro, True.intro⟩, True.intro⟩, ⟨n11_ok, True.intro, True.intro⟩⟩, ⟨n16_ok, ⟨n14_ok, True.intro, True.intro⟩, ⟨n17_ok, True.intro, True.intro⟩⟩⟩, ⟨n22_ok, ⟨n20_ok, ⟨n19_ok, True.intro, True.intro⟩, ⟨n21_ok, True.intro, True.intro⟩⟩, ⟨n24_ok, ⟨n23_ok, True.intro, True.intro⟩, ⟨n25_ok, True.intro, True.intro⟩⟩⟩⟩, ⟨n35_ok, ⟨n31_ok, ⟨n29_ok, ⟨n28_ok, ⟨n27_ok, True.intro, True.intro⟩, True.intro⟩, ⟨n30_ok, True.intro, True.intro⟩⟩, ⟨n33_ok, ⟨n32_ok, True.intro, True.intro⟩, ⟨n34_ok, True.intro, True.intro⟩⟩⟩, ⟨n39_ok, ⟨n37_ok, ⟨n36_ok, True.intro, True.intro⟩, ⟨n38_ok, True.intro, True.intro⟩⟩, ⟨n41_ok, ⟨n40_ok, True.intro, True.intro⟩, ⟨n42_ok, True.intro, True.intro⟩⟩⟩⟩⟩
noncomputable abbrev dT : Disp := d9
theorem dT_ok : CallSim Try.prog tys stl tab dT.fn := d9_ok
set_option maxHeartbeats 0 in
theorem run13 : lawK dT.fn 13 = true := by kernel_rfl
theorem works_f : Fits Try.prog 13 ⟨[], [], [⟨Unit, fun _ => True, fun _ => .bool true, fun _ => []⟩]⟩ :=
  lawK_fits tok mixed fok dT_ok (by kernel_rfl : tab 13 = some e13) rfl run13
end Go.Proofs.Ytflbhbiflcaocaa
