/-
  foghornlaw26.BlockNames returns true, whatever the memory it begins in. No condition.
-/
import Derived.Test.YtpoadfpkdjjfhaaGreatRows
import Derived.Test.YtpoadfpkdjjfhaaGreatGx
import Derived.WalkKit
import Derived.ProofKit
import Derived.OpenShut
set_option linter.unusedVariables false
set_option maxRecDepth 1000000
namespace Go.Proofs.YtpoadfpkdjjfhaaGreat
open Go Go.Fw
def tys : List (Nat × TyI) := [
  (1, ⟨.func, 1, 8, .nilFunc⟩),
  (2, ⟨.int .i64, 1, 8, .int .i64 0⟩),
  (3, ⟨.int .i64, 1, 8, .int .i64 0⟩),
  (4, ⟨.bool, 1, 1, .bool false⟩),
  (5, ⟨.int .u8, 1, 1, .int .u8 0⟩),
  (9, ⟨.str, 1, 16, .string (ByteArray.mk #[])⟩),
  (12, ⟨.int .u64, 1, 8, .int .u64 0⟩),
  (21, ⟨.int .i32, 1, 4, .int .i32 0⟩),
  (22, ⟨.float .f64, 1, 8, .float .f64 0⟩),
  (23, ⟨.slice 22, 1, 24, .slice none 0 0⟩),
  (24, ⟨.struct [(0, 3), (1, 3), (2, 23)], 3, 40, .agg #[.int .i64 0, .int .i64 0, .slice none 0 0]⟩),
  (25, ⟨.struct [(0, 3), (1, 3), (2, 23)], 3, 40, .agg #[.int .i64 0, .int .i64 0, .slice none 0 0]⟩),
  (26, ⟨.struct [(0, 3), (1, 3), (2, 3), (3, 3), (4, 3), (5, 3), (6, 3), (7, 25)], 10, 96, .agg #[.int .i64 0, .int .i64 0, .int .i64 0, .int .i64 0, .int .i64 0, .int .i64 0, .int .i64 0, .int .i64 0, .int .i64 0, .slice none 0 0]⟩),
  (27, ⟨.struct [(0, 3), (1, 3), (2, 3), (3, 3), (4, 3), (5, 3), (6, 3), (7, 25)], 10, 96, .agg #[.int .i64 0, .int .i64 0, .int .i64 0, .int .i64 0, .int .i64 0, .int .i64 0, .int .i64 0, .int .i64 0, .int .i64 0, .slice none 0 0]⟩),
  (28, ⟨.int .i64, 1, 8, .int .i64 0⟩),
  (30, ⟨.func, 1, 8, .nilFunc⟩),
  (31, ⟨.array 2 3, 2, 16, .agg #[.int .i64 0, .int .i64 0]⟩),
  (32, ⟨.slice 3, 1, 24, .slice none 0 0⟩),
  (33, ⟨.struct [(0, 3), (1, 31), (3, 32), (4, 3)], 5, 56, .agg #[.int .i64 0, .int .i64 0, .int .i64 0, .slice none 0 0, .int .i64 0]⟩),
  (34, ⟨.struct [(0, 3), (1, 31), (3, 32), (4, 3)], 5, 56, .agg #[.int .i64 0, .int .i64 0, .int .i64 0, .slice none 0 0, .int .i64 0]⟩),
  (36, ⟨.func, 1, 8, .nilFunc⟩),
  (37, ⟨.slice 78, 1, 24, .slice none 0 0⟩),
  (39, ⟨.func, 1, 8, .nilFunc⟩),
  (41, ⟨.func, 1, 8, .nilFunc⟩),
  (42, ⟨.slice 125, 1, 24, .slice none 0 0⟩),
  (43, ⟨.func, 1, 8, .nilFunc⟩),
  (44, ⟨.func, 1, 8, .nilFunc⟩),
  (45, ⟨.func, 1, 8, .nilFunc⟩),
  (46, ⟨.slice 37, 1, 24, .slice none 0 0⟩),
  (47, ⟨.func, 1, 8, .nilFunc⟩),
  (48, ⟨.func, 1, 8, .nilFunc⟩),
  (50, ⟨.func, 1, 8, .nilFunc⟩),
  (51, ⟨.func, 1, 8, .nilFunc⟩),
  (52, ⟨.slice 62, 1, 24, .slice none 0 0⟩),
  (53, ⟨.struct [(0, 3), (1, 22), (2, 3)], 3, 24, .agg #[.int .i64 0, .float .f64 0, .int .i64 0]⟩),
  (54, ⟨.struct [(0, 3), (1, 22), (2, 3)], 3, 24, .agg #[.int .i64 0, .float .f64 0, .int .i64 0]⟩),
  (55, ⟨.struct [(0, 54), (3, 37), (4, 9), (5, 32)], 6, 88, .agg #[.int .i64 0, .float .f64 0, .int .i64 0, .slice none 0 0, .string (ByteArray.mk #[]), .slice none 0 0]⟩),
  (56, ⟨.struct [(0, 54), (3, 37), (4, 9), (5, 32)], 6, 88, .agg #[.int .i64 0, .float .f64 0, .int .i64 0, .slice none 0 0, .string (ByteArray.mk #[]), .slice none 0 0]⟩),
  (58, ⟨.func, 1, 8, .nilFunc⟩),
  (60, ⟨.func, 1, 8, .nilFunc⟩),
  (61, ⟨.func, 1, 8, .nilFunc⟩),
  (62, ⟨.func, 1, 8, .nilFunc⟩),
  (63, ⟨.func, 1, 8, .nilFunc⟩),
  (64, ⟨.func, 1, 8, .nilFunc⟩),
  (65, ⟨.func, 1, 8, .nilFunc⟩),
  (66, ⟨.func, 1, 8, .nilFunc⟩),
  (67, ⟨.slice 9, 1, 24, .slice none 0 0⟩),
  (69, ⟨.func, 1, 8, .nilFunc⟩),
  (70, ⟨.func, 1, 8, .nilFunc⟩),
  (71, ⟨.func, 1, 8, .nilFunc⟩),
  (72, ⟨.slice 5, 1, 24, .slice none 0 0⟩),
  (73, ⟨.func, 1, 8, .nilFunc⟩),
  (74, ⟨.struct [(0, 3), (1, 3), (2, 3)], 3, 24, .agg #[.int .i64 0, .int .i64 0, .int .i64 0]⟩),
  (75, ⟨.struct [(0, 3), (1, 3), (2, 3)], 3, 24, .agg #[.int .i64 0, .int .i64 0, .int .i64 0]⟩),
  (76, ⟨.func, 1, 8, .nilFunc⟩),
  (77, ⟨.func, 1, 8, .nilFunc⟩),
  (78, ⟨.cpx .f64, 1, 16, .complex .f64 0 0⟩),
  (79, ⟨.func, 1, 8, .nilFunc⟩),
  (80, ⟨.func, 1, 8, .nilFunc⟩),
  (81, ⟨.func, 1, 8, .nilFunc⟩),
  (83, ⟨.func, 1, 8, .nilFunc⟩),
  (84, ⟨.func, 1, 8, .nilFunc⟩),
  (85, ⟨.func, 1, 8, .nilFunc⟩),
  (86, ⟨.func, 1, 8, .nilFunc⟩),
  (87, ⟨.ptr 56, 1, 8, .pointer none⟩),
  (88, ⟨.slice 32, 1, 24, .slice none 0 0⟩),
  (89, ⟨.slice 97, 1, 24, .slice none 0 0⟩),
  (91, ⟨.func, 1, 8, .nilFunc⟩),
  (92, ⟨.func, 1, 8, .nilFunc⟩),
  (94, ⟨.func, 1, 8, .nilFunc⟩),
  (95, ⟨.func, 1, 8, .nilFunc⟩),
  (96, ⟨.struct [(0, 9), (1, 32), (2, 32)], 3, 64, .agg #[.string (ByteArray.mk #[]), .slice none 0 0, .slice none 0 0]⟩),
  (97, ⟨.struct [(0, 9), (1, 32), (2, 32)], 3, 64, .agg #[.string (ByteArray.mk #[]), .slice none 0 0, .slice none 0 0]⟩),
  (98, ⟨.func, 1, 8, .nilFunc⟩),
  (99, ⟨.func, 1, 8, .nilFunc⟩),
  (100, ⟨.struct [(0, 3), (1, 3), (2, 3), (3, 98), (4, 99)], 5, 40, .agg #[.int .i64 0, .int .i64 0, .int .i64 0, .nilFunc, .nilFunc]⟩),
  (101, ⟨.struct [(0, 3), (1, 3), (2, 3), (3, 98), (4, 99)], 5, 40, .agg #[.int .i64 0, .int .i64 0, .int .i64 0, .nilFunc, .nilFunc]⟩),
  (103, ⟨.func, 1, 8, .nilFunc⟩),
  (104, ⟨.func, 1, 8, .nilFunc⟩),
  (105, ⟨.func, 1, 8, .nilFunc⟩),
  (106, ⟨.func, 1, 8, .nilFunc⟩),
  (107, ⟨.func, 1, 8, .nilFunc⟩),
  (108, ⟨.func, 1, 8, .nilFunc⟩),
  (109, ⟨.func, 1, 8, .nilFunc⟩),
  (110, ⟨.func, 1, 8, .nilFunc⟩),
  (111, ⟨.func, 1, 8, .nilFunc⟩),
  (112, ⟨.int .u64, 1, 8, .int .u64 0⟩),
  (113, ⟨.slice 4, 1, 24, .slice none 0 0⟩),
  (115, ⟨.func, 1, 8, .nilFunc⟩),
  (116, ⟨.func, 1, 8, .nilFunc⟩),
  (117, ⟨.func, 1, 8, .nilFunc⟩),
  (118, ⟨.func, 1, 8, .nilFunc⟩),
  (119, ⟨.slice 122, 1, 24, .slice none 0 0⟩),
  (121, ⟨.func, 1, 8, .nilFunc⟩),
  (122, ⟨.int .i8, 1, 1, .int .i8 0⟩),
  (123, ⟨.func, 1, 8, .nilFunc⟩),
  (124, ⟨.struct [(0, 78), (1, 4)], 2, 24, .agg #[.complex .f64 0 0, .bool false]⟩),
  (125, ⟨.struct [(0, 78), (1, 4)], 2, 24, .agg #[.complex .f64 0 0, .bool false]⟩),
  (126, ⟨.func, 1, 8, .nilFunc⟩),
  (128, ⟨.func, 1, 8, .nilFunc⟩),
  (129, ⟨.func, 1, 8, .nilFunc⟩),
  (131, ⟨.func, 1, 8, .nilFunc⟩),
  (132, ⟨.func, 1, 8, .nilFunc⟩),
  (134, ⟨.func, 1, 8, .nilFunc⟩),
  (136, ⟨.func, 1, 8, .nilFunc⟩),
  (137, ⟨.slice 173, 1, 24, .slice none 0 0⟩),
  (139, ⟨.func, 1, 8, .nilFunc⟩),
  (141, ⟨.func, 1, 8, .nilFunc⟩),
  (143, ⟨.func, 1, 8, .nilFunc⟩),
  (144, ⟨.func, 1, 8, .nilFunc⟩),
  (146, ⟨.func, 1, 8, .nilFunc⟩),
  (148, ⟨.func, 1, 8, .nilFunc⟩),
  (149, ⟨.func, 1, 8, .nilFunc⟩),
  (150, ⟨.func, 1, 8, .nilFunc⟩),
  (151, ⟨.func, 1, 8, .nilFunc⟩),
  (152, ⟨.func, 1, 8, .nilFunc⟩),
  (153, ⟨.int .u32, 1, 4, .int .u32 0⟩),
  (154, ⟨.func, 1, 8, .nilFunc⟩),
  (155, ⟨.func, 1, 8, .nilFunc⟩),
  (156, ⟨.ptr 215, 1, 8, .pointer none⟩),
  (158, ⟨.func, 1, 8, .nilFunc⟩),
  (159, ⟨.func, 1, 8, .nilFunc⟩),
  (161, ⟨.func, 1, 8, .nilFunc⟩),
  (162, ⟨.func, 1, 8, .nilFunc⟩),
  (164, ⟨.func, 1, 8, .nilFunc⟩),
  (165, ⟨.func, 1, 8, .nilFunc⟩),
  (166, ⟨.func, 1, 8, .nilFunc⟩),
  (168, ⟨.func, 1, 8, .nilFunc⟩),
  (169, ⟨.func, 1, 8, .nilFunc⟩),
  (170, ⟨.func, 1, 8, .nilFunc⟩),
  (171, ⟨.ptr 220, 1, 8, .pointer none⟩),
  (172, ⟨.struct [(0, 3), (1, 78), (2, 4)], 3, 32, .agg #[.int .i64 0, .complex .f64 0 0, .bool false]⟩),
  (173, ⟨.struct [(0, 3), (1, 78), (2, 4)], 3, 32, .agg #[.int .i64 0, .complex .f64 0 0, .bool false]⟩),
  (174, ⟨.func, 1, 8, .nilFunc⟩),
  (175, ⟨.func, 1, 8, .nilFunc⟩),
  (176, ⟨.func, 1, 8, .nilFunc⟩),
  (177, ⟨.array 255 4, 255, 255, .agg ⟨List.replicate 255 (.bool false)⟩⟩),
  (178, ⟨.array 255 4, 255, 255, .agg ⟨List.replicate 255 (.bool false)⟩⟩),
  (180, ⟨.func, 1, 8, .nilFunc⟩),
  (181, ⟨.func, 1, 8, .nilFunc⟩),
  (182, ⟨.func, 1, 8, .nilFunc⟩),
  (184, ⟨.func, 1, 8, .nilFunc⟩),
  (185, ⟨.func, 1, 8, .nilFunc⟩),
  (186, ⟨.array 64 5, 64, 64, .agg ⟨List.replicate 64 (.int .u8 0)⟩⟩),
  (187, ⟨.func, 1, 8, .nilFunc⟩),
  (188, ⟨.func, 1, 8, .nilFunc⟩),
  (189, ⟨.func, 1, 8, .nilFunc⟩),
  (190, ⟨.func, 1, 8, .nilFunc⟩),
  (191, ⟨.func, 1, 8, .nilFunc⟩),
  (192, ⟨.func, 1, 8, .nilFunc⟩),
  (193, ⟨.int .u64, 1, 8, .int .u64 0⟩),
  (194, ⟨.func, 1, 8, .nilFunc⟩),
  (196, ⟨.func, 1, 8, .nilFunc⟩),
  (198, ⟨.func, 1, 8, .nilFunc⟩),
  (199, ⟨.func, 1, 8, .nilFunc⟩),
  (200, ⟨.array 65 5, 65, 65, .agg ⟨List.replicate 65 (.int .u8 0)⟩⟩),
  (201, ⟨.array 65 5, 65, 65, .agg ⟨List.replicate 65 (.int .u8 0)⟩⟩),
  (202, ⟨.func, 1, 8, .nilFunc⟩),
  (203, ⟨.func, 1, 8, .nilFunc⟩),
  (205, ⟨.func, 1, 8, .nilFunc⟩),
  (207, ⟨.func, 1, 8, .nilFunc⟩),
  (208, ⟨.func, 1, 8, .nilFunc⟩),
  (209, ⟨.func, 1, 8, .nilFunc⟩),
  (210, ⟨.func, 1, 8, .nilFunc⟩),
  (211, ⟨.func, 1, 8, .nilFunc⟩),
  (212, ⟨.func, 1, 8, .nilFunc⟩),
  (213, ⟨.func, 1, 8, .nilFunc⟩),
  (214, ⟨.struct [(0, 112), (1, 153), (2, 153)], 3, 16, .agg #[.int .u64 0, .int .u32 0, .int .u32 0]⟩),
  (215, ⟨.struct [(0, 112), (1, 153), (2, 153)], 3, 16, .agg #[.int .u64 0, .int .u32 0, .int .u32 0]⟩),
  (216, ⟨.func, 1, 8, .nilFunc⟩),
  (217, ⟨.func, 1, 8, .nilFunc⟩),
  (218, ⟨.array 64 78, 64, 1024, .agg ⟨List.replicate 64 (.complex .f64 0 0)⟩⟩),
  (219, ⟨.struct [(0, 3), (1, 37), (2, 22), (3, 3), (4, 218), (68, 3), (69, 78), (70, 4), (71, 4)], 72, 1104, .agg #[.int .i64 0, .slice none 0 0, .float .f64 0, .int .i64 0, .complex .f64 0 0, .complex .f64 0 0, .complex .f64 0 0, .complex .f64 0 0, .complex .f64 0 0, .complex .f64 0 0, .complex .f64 0 0, .complex .f64 0 0, .complex .f64 0 0, .complex .f64 0 0, .complex .f64 0 0, .complex .f64 0 0, .complex .f64 0 0, .complex .f64 0 0, .complex .f64 0 0, .complex .f64 0 0, .complex .f64 0 0, .complex .f64 0 0, .complex .f64 0 0, .complex .f64 0 0, .complex .f64 0 0, .complex .f64 0 0, .complex .f64 0 0, .complex .f64 0 0, .complex .f64 0 0, .complex .f64 0 0, .complex .f64 0 0, .complex .f64 0 0, .complex .f64 0 0, .complex .f64 0 0, .complex .f64 0 0, .complex .f64 0 0, .complex .f64 0 0, .complex .f64 0 0, .complex .f64 0 0, .complex .f64 0 0, .complex .f64 0 0, .complex .f64 0 0, .complex .f64 0 0, .complex .f64 0 0, .complex .f64 0 0, .complex .f64 0 0, .complex .f64 0 0, .complex .f64 0 0, .complex .f64 0 0, .complex .f64 0 0, .complex .f64 0 0, .complex .f64 0 0, .complex .f64 0 0, .complex .f64 0 0, .complex .f64 0 0, .complex .f64 0 0, .complex .f64 0 0, .complex .f64 0 0, .complex .f64 0 0, .complex .f64 0 0, .complex .f64 0 0, .complex .f64 0 0, .complex .f64 0 0, .complex .f64 0 0, .complex .f64 0 0, .complex .f64 0 0, .complex .f64 0 0, .complex .f64 0 0, .int .i64 0, .complex .f64 0 0, .bool false, .bool false]⟩),
  (220, ⟨.struct [(0, 3), (1, 37), (2, 22), (3, 3), (4, 218), (68, 3), (69, 78), (70, 4), (71, 4)], 72, 1104, .agg #[.int .i64 0, .slice none 0 0, .float .f64 0, .int .i64 0, .complex .f64 0 0, .complex .f64 0 0, .complex .f64 0 0, .complex .f64 0 0, .complex .f64 0 0, .complex .f64 0 0, .complex .f64 0 0, .complex .f64 0 0, .complex .f64 0 0, .complex .f64 0 0, .complex .f64 0 0, .complex .f64 0 0, .complex .f64 0 0, .complex .f64 0 0, .complex .f64 0 0, .complex .f64 0 0, .complex .f64 0 0, .complex .f64 0 0, .complex .f64 0 0, .complex .f64 0 0, .complex .f64 0 0, .complex .f64 0 0, .complex .f64 0 0, .complex .f64 0 0, .complex .f64 0 0, .complex .f64 0 0, .complex .f64 0 0, .complex .f64 0 0, .complex .f64 0 0, .complex .f64 0 0, .complex .f64 0 0, .complex .f64 0 0, .complex .f64 0 0, .complex .f64 0 0, .complex .f64 0 0, .complex .f64 0 0, .complex .f64 0 0, .complex .f64 0 0, .complex .f64 0 0, .complex .f64 0 0, .complex .f64 0 0, .complex .f64 0 0, .complex .f64 0 0, .complex .f64 0 0, .complex .f64 0 0, .complex .f64 0 0, .complex .f64 0 0, .complex .f64 0 0, .complex .f64 0 0, .complex .f64 0 0, .complex .f64 0 0, .complex .f64 0 0, .complex .f64 0 0, .complex .f64 0 0, .complex .f64 0 0, .complex .f64 0 0, .complex .f64 0 0, .complex .f64 0 0, .complex .f64 0 0, .complex .f64 0 0, .complex .f64 0 0, .complex .f64 0 0, .complex .f64 0 0, .complex .f64 0 0, .int .i64 0, .complex .f64 0 0, .bool false, .bool false]⟩),
  (221, ⟨.func, 1, 8, .nilFunc⟩),
  (222, ⟨.func, 1, 8, .nilFunc⟩),
  (223, ⟨.func, 1, 8, .nilFunc⟩),
  (225, ⟨.func, 1, 8, .nilFunc⟩),
  (226, ⟨.func, 1, 8, .nilFunc⟩),
  (227, ⟨.func, 1, 8, .nilFunc⟩),
  (228, ⟨.func, 1, 8, .nilFunc⟩),
  (229, ⟨.func, 1, 8, .nilFunc⟩),
  (230, ⟨.func, 1, 8, .nilFunc⟩),
  (231, ⟨.func, 1, 8, .nilFunc⟩),
  (232, ⟨.func, 1, 8, .nilFunc⟩),
  (233, ⟨.func, 1, 8, .nilFunc⟩),
  (235, ⟨.map, 1, 8, .map none⟩),
  (236, ⟨.func, 1, 8, .nilFunc⟩),
  (237, ⟨.func, 1, 8, .nilFunc⟩),
  (238, ⟨.func, 1, 8, .nilFunc⟩),
  (239, ⟨.func, 1, 8, .nilFunc⟩),
  (240, ⟨.func, 1, 8, .nilFunc⟩),
  (241, ⟨.func, 1, 8, .nilFunc⟩),
  (242, ⟨.func, 1, 8, .nilFunc⟩),
  (243, ⟨.func, 1, 8, .nilFunc⟩),
  (244, ⟨.func, 1, 8, .nilFunc⟩),
  (245, ⟨.func, 1, 8, .nilFunc⟩),
  (246, ⟨.func, 1, 8, .nilFunc⟩),
  (247, ⟨.func, 1, 8, .nilFunc⟩),
  (249, ⟨.func, 1, 8, .nilFunc⟩),
  (250, ⟨.func, 1, 8, .nilFunc⟩),
  (251, ⟨.func, 1, 8, .nilFunc⟩),
  (253, ⟨.func, 1, 8, .nilFunc⟩),
  (254, ⟨.func, 1, 8, .nilFunc⟩),
  (262, ⟨.func, 1, 8, .nilFunc⟩),
  (263, ⟨.ptr 5, 1, 8, .pointer none⟩),
  (268, ⟨.func, 1, 8, .nilFunc⟩)]


theorem tok : TOk Tryz.prog tys := tok_of ⟨⟨by kernel_rfl, by kernel_rfl⟩, ⟨by kernel_rfl, by kernel_rfl⟩, ⟨by kernel_rfl, by kernel_rfl⟩, ⟨by kernel_rfl, by kernel_rfl⟩, ⟨by kernel_rfl, by kernel_rfl⟩, ⟨by kernel_rfl, by kernel_rfl⟩, ⟨by kernel_rfl, by kernel_rfl⟩, ⟨by kernel_rfl, by kernel_rfl⟩, ⟨by kernel_rfl, by kernel_rfl⟩, ⟨by kernel_rfl, by kernel_rfl⟩, ⟨by kernel_rfl, by kernel_rfl⟩, ⟨by kernel_rfl, by kernel_rfl⟩, ⟨by kernel_rfl, by kernel_rfl⟩, ⟨by kernel_rfl, by kernel_rfl⟩, ⟨by kernel_rfl, by kernel_rfl⟩, ⟨by kernel_rfl, by kernel_rfl⟩, ⟨by kernel_rfl, by kernel_rfl⟩, ⟨by kernel_rfl, by kernel_rfl⟩, ⟨by kernel_rfl, by kernel_rfl⟩, ⟨by kernel_rfl, by kernel_rfl⟩, ⟨by kernel_rfl, by kernel_rfl⟩, ⟨by kernel_rfl, by kernel_rfl⟩, ⟨by kernel_rfl, by kernel_rfl⟩, ⟨by kernel_rfl, by kernel_rfl⟩, ⟨by kernel_rfl, by kernel_rfl⟩, ⟨by kernel_rfl, by kernel_rfl⟩, ⟨by kernel_rfl, by kernel_rfl⟩, ⟨by kernel_rfl, by kernel_rfl⟩, ⟨by kernel_rfl, by kernel_rfl⟩, ⟨by kernel_rfl, by kernel_rfl⟩, ⟨by kernel_rfl, by kernel_rfl⟩, ⟨by kernel_rfl, by kernel_rfl⟩, ⟨by kernel_rfl, by kernel_rfl⟩, ⟨by kernel_rfl, by kernel_rfl⟩, ⟨by kernel_rfl, by kernel_rfl⟩, ⟨by kernel_rfl, by kernel_rfl⟩, ⟨by kernel_rfl, by kernel_rfl⟩, ⟨by kernel_rfl, by kernel_rfl⟩, ⟨by kernel_rfl, by kernel_rfl⟩, ⟨by kernel_rfl, by kernel_rfl⟩, ⟨by kernel_rfl, by kernel_rfl⟩, ⟨by kernel_rfl, by kernel_rfl⟩, ⟨by kernel_rfl, by kernel_rfl⟩, ⟨by kernel_rfl, by kernel_rfl⟩, ⟨by kernel_rfl, by kernel_rfl⟩, ⟨by kernel_rfl, by kernel_rfl⟩, ⟨by kernel_rfl, by kernel_rfl⟩, ⟨by kernel_rfl, by kernel_rfl⟩, ⟨by kernel_rfl, by kernel_rfl⟩, ⟨by kernel_rfl, by kernel_rfl⟩, ⟨by kernel_rfl, by kernel_rfl⟩, ⟨by kernel_rfl, by kernel_rfl⟩, ⟨by kernel_rfl, by kernel_rfl⟩, ⟨by kernel_rfl, by kernel_rfl⟩, ⟨by kernel_rfl, by kernel_rfl⟩, ⟨by kernel_rfl, by kernel_rfl⟩, ⟨by kernel_rfl, by kernel_rfl⟩, ⟨by kernel_rfl, by kernel_rfl⟩, ⟨by kernel_rfl, by kernel_rfl⟩, ⟨by kernel_rfl, by kernel_rfl⟩, ⟨by kernel_rfl, by kernel_rfl⟩, ⟨by kernel_rfl, by kernel_rfl⟩, ⟨by kernel_rfl, by kernel_rfl⟩, ⟨by kernel_rfl, by kernel_rfl⟩, ⟨by kernel_rfl, by kernel_rfl⟩, ⟨by kernel_rfl, by kernel_rfl⟩, ⟨by kernel_rfl, by kernel_rfl⟩, ⟨by kernel_rfl, by kernel_rfl⟩, ⟨by kernel_rfl, by kernel_rfl⟩, ⟨by kernel_rfl, by kernel_rfl⟩, ⟨by kernel_rfl, by kernel_rfl⟩, ⟨by kernel_rfl, by kernel_rfl⟩, ⟨by kernel_rfl, by kernel_rfl⟩, ⟨by kernel_rfl, by kernel_rfl⟩, ⟨by kernel_rfl, by kernel_rfl⟩, ⟨by kernel_rfl, by kernel_rfl⟩, ⟨by kernel_rfl, by kernel_rfl⟩, ⟨by kernel_rfl, by kernel_rfl⟩, ⟨by kernel_rfl, by kernel_rfl⟩, ⟨by kernel_rfl, by kernel_rfl⟩, ⟨by kernel_rfl, by kernel_rfl⟩, ⟨by kernel_rfl, by kernel_rfl⟩, ⟨by kernel_rfl, by kernel_rfl⟩, ⟨by kernel_rfl, by kernel_rfl⟩, ⟨by kernel_rfl, by kernel_rfl⟩, ⟨by kernel_rfl, by kernel_rfl⟩, ⟨by kernel_rfl, by kernel_rfl⟩, ⟨by kernel_rfl, by kernel_rfl⟩, ⟨by kernel_rfl, by kernel_rfl⟩, ⟨by kernel_rfl, by kernel_rfl⟩, ⟨by kernel_rfl, by kernel_rfl⟩, ⟨by kernel_rfl, by kernel_rfl⟩, ⟨by kernel_rfl, by kernel_rfl⟩, ⟨by kernel_rfl, by kernel_rfl⟩, ⟨by kernel_rfl, by kernel_rfl⟩, ⟨by kernel_rfl, by kernel_rfl⟩, ⟨by kernel_rfl, by kernel_rfl⟩, ⟨by kernel_rfl, by kernel_rfl⟩, ⟨by kernel_rfl, by kernel_rfl⟩, ⟨by kernel_rfl, by kernel_rfl⟩, ⟨by kernel_rfl, by kernel_rfl⟩, ⟨by kernel_rfl, by kernel_rfl⟩, ⟨by kernel_rfl, by kernel_rfl⟩, ⟨by kernel_rfl, by kernel_rfl⟩, ⟨by kernel_rfl, by kernel_rfl⟩, ⟨by kernel_rfl, by kernel_rfl⟩, ⟨by kernel_rfl, by kernel_rfl⟩, ⟨by kernel_rfl, by kernel_rfl⟩, ⟨by kernel_rfl, by kernel_rfl⟩, ⟨by kernel_rfl, by kernel_rfl⟩, ⟨by kernel_rfl, by kernel_rfl⟩, ⟨by kernel_rfl, by kernel_rfl⟩, ⟨by kernel_rfl, by kernel_rfl⟩, ⟨by kernel_rfl, by kernel_rfl⟩, ⟨by kernel_rfl, by kernel_rfl⟩, ⟨by kernel_rfl, by kernel_rfl⟩, ⟨by kernel_rfl, by kernel_rfl⟩, ⟨by kernel_rfl, by kernel_rfl⟩, ⟨by kernel_rfl, by kernel_rfl⟩, ⟨by kernel_rfl, by kernel_rfl⟩, ⟨by kernel_rfl, by kernel_rfl⟩, ⟨by kernel_rfl, by kernel_rfl⟩, ⟨by kernel_rfl, by kernel_rfl⟩, ⟨by kernel_rfl, by kernel_rfl⟩, ⟨by kernel_rfl, by kernel_rfl⟩, ⟨by kernel_rfl, by kernel_rfl⟩, ⟨by kernel_rfl, by kernel_rfl⟩, ⟨by kernel_rfl, by kernel_rfl⟩, ⟨by kernel_rfl, by kernel_rfl⟩, ⟨by kernel_rfl, by kernel_rfl⟩, ⟨by kernel_rfl, by kernel_rfl⟩, ⟨by kernel_rfl, by kernel_rfl⟩, ⟨by kernel_rfl, by kernel_rfl⟩, ⟨by kernel_rfl, by kernel_rfl⟩, ⟨by kernel_rfl, by kernel_rfl⟩, ⟨by kernel_rfl, by kernel_rfl⟩, ⟨by kernel_rfl, by kernel_rfl⟩, ⟨by kernel_rfl, by kernel_rfl⟩, ⟨by kernel_rfl, by kernel_rfl⟩, ⟨by kernel_rfl, by kernel_rfl⟩, ⟨by kernel_rfl, by kernel_rfl⟩, ⟨by kernel_rfl, by kernel_rfl⟩, ⟨by kernel_rfl, by kernel_rfl⟩, ⟨by kernel_rfl, by kernel_rfl⟩, ⟨by kernel_rfl, by kernel_rfl⟩, ⟨by kernel_rfl, by kernel_rfl⟩, ⟨by kernel_rfl, by kernel_rfl⟩, ⟨by kernel_rfl, by kernel_rfl⟩, ⟨by kernel_rfl, by kernel_rfl⟩, ⟨by kernel_rfl, by kernel_rfl⟩, ⟨by kernel_rfl, by kernel_rfl⟩, ⟨by kernel_rfl, by kernel_rfl⟩, ⟨by kernel_rfl, by kernel_rfl⟩, ⟨by kernel_rfl, by kernel_rfl⟩, ⟨by kernel_rfl, by kernel_rfl⟩, ⟨by kernel_rfl, by kernel_rfl⟩, ⟨by kernel_rfl, by kernel_rfl⟩, ⟨by kernel_rfl, by kernel_rfl⟩, ⟨by kernel_rfl, by kernel_rfl⟩, ⟨by kernel_rfl, by kernel_rfl⟩, ⟨by kernel_rfl, by kernel_rfl⟩, ⟨by kernel_rfl, by kernel_rfl⟩, ⟨by kernel_rfl, by kernel_rfl⟩, ⟨by kernel_rfl, by kernel_rfl⟩, ⟨by kernel_rfl, by kernel_rfl⟩, ⟨by kernel_rfl, by kernel_rfl⟩, ⟨by kernel_rfl, by kernel_rfl⟩, ⟨by kernel_rfl, by kernel_rfl⟩, ⟨by kernel_rfl, by kernel_rfl⟩, ⟨by kernel_rfl, by kernel_rfl⟩, ⟨by kernel_rfl, by kernel_rfl⟩, ⟨by kernel_rfl, by kernel_rfl⟩, ⟨by kernel_rfl, by kernel_rfl⟩, ⟨by kernel_rfl, by kernel_rfl⟩, ⟨by kernel_rfl, by kernel_rfl⟩, ⟨by kernel_rfl, by kernel_rfl⟩, ⟨by kernel_rfl, by kernel_rfl⟩, ⟨by kernel_rfl, by kernel_rfl⟩, ⟨by kernel_rfl, by kernel_rfl⟩, ⟨by kernel_rfl, by kernel_rfl⟩, ⟨by kernel_rfl, by kernel_rfl⟩, ⟨by kernel_rfl, by kernel_rfl⟩, ⟨by kernel_rfl, by kernel_rfl⟩, ⟨by kernel_rfl, by kernel_rfl⟩, ⟨by kernel_rfl, by kernel_rfl⟩, ⟨by kernel_rfl, by kernel_rfl⟩, ⟨by kernel_rfl, by kernel_rfl⟩, ⟨by kernel_rfl, by kernel_rfl⟩, ⟨by kernel_rfl, by kernel_rfl⟩, ⟨by kernel_rfl, by kernel_rfl⟩, ⟨by kernel_rfl, by kernel_rfl⟩, ⟨by kernel_rfl, by kernel_rfl⟩, ⟨by kernel_rfl, by kernel_rfl⟩, ⟨by kernel_rfl, by kernel_rfl⟩, ⟨by kernel_rfl, by kernel_rfl⟩, ⟨by kernel_rfl, by kernel_rfl⟩, ⟨by kernel_rfl, by kernel_rfl⟩, ⟨by kernel_rfl, by kernel_rfl⟩, ⟨by kernel_rfl, by kernel_rfl⟩, ⟨by kernel_rfl, by kernel_rfl⟩, ⟨by kernel_rfl, by kernel_rfl⟩, ⟨by kernel_rfl, by kernel_rfl⟩, ⟨by kernel_rfl, by kernel_rfl⟩, ⟨by kernel_rfl, by kernel_rfl⟩, ⟨by kernel_rfl, by kernel_rfl⟩, ⟨by kernel_rfl, by kernel_rfl⟩, ⟨by kernel_rfl, by kernel_rfl⟩, True.intro⟩
theorem mixed : Tryz.prog.follows .mixedOrders = true := by kernel_rfl
def inL : List Nat → Nat → Bool
  | [], _ => false
  | a :: r, n => match Nat.beq a n with | true => true | false => inL r n
def stl : Nat → Bool := inL [23, 24, 51, 52, 65, 66, 67, 72, 76, 84, 87, 88, 90, 91, 92, 109, 112, 113, 114, 115, 116, 117, 123, 134, 139, 140, 141, 142, 147, 152, 153, 158, 159, 161, 162, 166, 167, 170, 171, 173, 175, 176, 177, 179, 180, 181, 182, 190, 192, 196, 197, 198, 199, 201, 202, 203, 205, 206, 207, 208]
/- 3: foghorn/foghornlaw26.BlockNames -/
def p3 : Nat → Option PlanC := fun
  | 5 => some (.op 0 false (.op 1 false (.chk [0] (.op 2 false (.op 3 false (.op 4 false (.op 5 false (.op 6 false (.op 7 false (.done))))))))))
  | _ => none
def wl3 : Nat → List Nat := fun _ => []
def wj3 : Nat → Option (List Nat) := fun _ => none
def kr3 : Nat → List Nat := fun _ => []
noncomputable def e3 : Ent := entOf Tryz.f3 ⟨p3, wl3, wj3, kr3, [1, 4]⟩
theorem g3 : EntOk Tryz.prog tys stl 3 e3 := .inr ⟨rfl, Tryz.func3, by kernel_rfl, by kernel_rfl, by kernel_rfl, by kernel_rfl, by kernel_rfl, rfl⟩
/- 4: (foghorn/block.Plan).Room -/
def p4 : Nat → Option PlanC := fun _ => none
def wl4 : Nat → List Nat := fun _ => []
def wj4 : Nat → Option (List Nat) := fun _ => none
def kr4 : Nat → List Nat := fun _ => []
noncomputable def e4 : Ent := entOf Tryz.f4 ⟨p4, wl4, wj4, kr4, [1]⟩
theorem g4 : EntOk Tryz.prog tys stl 4 e4 := .inr ⟨rfl, Tryz.func4, by kernel_rfl, by kernel_rfl, by kernel_rfl, by kernel_rfl, by kernel_rfl, rfl⟩
/- 5: (foghorn/block.Plan).Places -/
def p5 : Nat → Option PlanC := fun _ => none
def wl5 : Nat → List Nat := fun _ => []
def wj5 : Nat → Option (List Nat) := fun _ => none
def kr5 : Nat → List Nat := fun _ => []
noncomputable def e5 : Ent := entOf Tryz.f5 ⟨p5, wl5, wj5, kr5, [1]⟩
theorem g5 : EntOk Tryz.prog tys stl 5 e5 := .inr ⟨rfl, Tryz.func5, by kernel_rfl, by kernel_rfl, by kernel_rfl, by kernel_rfl, by kernel_rfl, rfl⟩
/- 6: (foghorn/block.Plan).Send -/
def p6 : Nat → Option PlanC := fun _ => none
def wl6 : Nat → List Nat := fun _ => []
def wj6 : Nat → Option (List Nat) := fun _ => none
def kr6 : Nat → List Nat := fun _ => []
noncomputable def e6 : Ent := entOf Tryz.f6 ⟨p6, wl6, wj6, kr6, []⟩
theorem g6 : EntOk Tryz.prog tys stl 6 e6 := .inr ⟨rfl, Tryz.func6, by kernel_rfl, by kernel_rfl, by kernel_rfl, by kernel_rfl, by kernel_rfl, rfl⟩
/- 7: (foghorn/block.Plan).Receive -/
def p7 : Nat → Option PlanC := fun _ => none
def wl7 : Nat → List Nat := fun _ => []
def wj7 : Nat → Option (List Nat) := fun _ => none
def kr7 : Nat → List Nat := fun _ => []
noncomputable def e7 : Ent := entOf Tryz.f7 ⟨p7, wl7, wj7, kr7, [2, 6]⟩
theorem g7 : EntOk Tryz.prog tys stl 7 e7 := .inr ⟨rfl, Tryz.func7, by kernel_rfl, by kernel_rfl, by kernel_rfl, by kernel_rfl, by kernel_rfl, rfl⟩
/- 8: (foghorn/block.Plan).Check -/
def p8 : Nat → Option PlanC := fun
  | 1 => some (.op 1 false (.op 2 false (.op 4 true (.op 7 true (.op 10 true (.op 0 false (.op 5 false (.op 8 false (.op 11 false (.op 13 false (.op 14 false (.op 17 false (.op 18 false (.op 3 false (.chk [18, 17, 14, 13, 11, 8, 5, 0] (.op 6 false (.chk [18, 17, 14, 13, 11, 8, 0] (.op 9 false (.chk [18, 17, 14, 13, 11, 0] (.op 12 false (.chk [18, 17, 14, 13, 0] (.op 15 false (.chk [18, 17, 13, 0] (.op 16 false (.chk [18, 17, 13, 0] (.op 19 false (.op 20 false (.op 21 false (.done)))))))))))))))))))))))))))))
  | _ => none
def wl8 : Nat → List Nat := fun _ => []
def wj8 : Nat → Option (List Nat) := fun _ => none
def kr8 : Nat → List Nat := fun _ => []
noncomputable def e8 : Ent := entOf Tryz.f8 ⟨p8, wl8, wj8, kr8, []⟩
theorem g8 : EntOk Tryz.prog tys stl 8 e8 := .inr ⟨rfl, Tryz.func8, by kernel_rfl, by kernel_rfl, by kernel_rfl, by kernel_rfl, by kernel_rfl, rfl⟩
/- 9: (foghorn/block.Plan).room -/
def p9 : Nat → Option PlanC := fun _ => none
def wl9 : Nat → List Nat := fun _ => []
def wj9 : Nat → Option (List Nat) := fun _ => none
def kr9 : Nat → List Nat := fun _ => []
noncomputable def e9 : Ent := entOf Tryz.f9 ⟨p9, wl9, wj9, kr9, [1]⟩
theorem g9 : EntOk Tryz.prog tys stl 9 e9 := .inr ⟨rfl, Tryz.func9, by kernel_rfl, by kernel_rfl, by kernel_rfl, by kernel_rfl, by kernel_rfl, rfl⟩
/- 10: (foghorn/block.Plan).places -/
def p10 : Nat → Option PlanC := fun
  | 1 => some (.op 7 false (.op 0 true (.op 2 true (.op 4 true (.op 1 false (.op 3 false (.op 5 false (.op 6 true (.op 9 false (.op 8 false (.chk [9, 5, 3, 1] (.op 10 false (.chk [5, 3, 1] (.op 11 false (.op 12 false (.op 13 false (.op 14 false (.op 15 false (.done)))))))))))))))))))
  | _ => none
def wl10 : Nat → List Nat := fun _ => []
def wj10 : Nat → Option (List Nat) := fun _ => none
def kr10 : Nat → List Nat := fun _ => []
noncomputable def e10 : Ent := entOf Tryz.f10 ⟨p10, wl10, wj10, kr10, [1]⟩
theorem g10 : EntOk Tryz.prog tys stl 10 e10 := .inr ⟨rfl, Tryz.func10, by kernel_rfl, by kernel_rfl, by kernel_rfl, by kernel_rfl, by kernel_rfl, rfl⟩
/- 11: foghorn/block.gone -/
def p11 : Nat → Option PlanC := fun _ => none
def wl11 : Nat → List Nat := fun
  | 2 => [8]
  | _ => []
def wj11 : Nat → Option (List Nat) := fun _ => none
def kr11 : Nat → List Nat := fun _ => []
noncomputable def e11 : Ent := entOf Tryz.f11 ⟨p11, wl11, wj11, kr11, []⟩
theorem g11 : EntOk Tryz.prog tys stl 11 e11 := .inr ⟨rfl, Tryz.func11, by kernel_rfl, by kernel_rfl, by kernel_rfl, by kernel_rfl, by kernel_rfl, rfl⟩
/- 12: (foghorn/block.Plan).Send$1 -/
def p12 : Nat → Option PlanC := fun _ => none
def wl12 : Nat → List Nat := fun _ => []
def wj12 : Nat → Option (List Nat) := fun _ => none
def kr12 : Nat → List Nat := fun _ => []
noncomputable def e12 : Ent := entOf Tryz.f12 ⟨p12, wl12, wj12, kr12, []⟩
theorem g12 : EntOk Tryz.prog tys stl 12 e12 := .inr ⟨rfl, Tryz.func12, by kernel_rfl, by kernel_rfl, by kernel_rfl, by kernel_rfl, by kernel_rfl, rfl⟩
/- 13: (foghorn/block.Plan).Code -/
def p13 : Nat → Option PlanC := fun _ => none
def wl13 : Nat → List Nat := fun _ => []
def wj13 : Nat → Option (List Nat) := fun _ => none
def kr13 : Nat → List Nat := fun _ => []
noncomputable def e13 : Ent := entOf Tryz.f13 ⟨p13, wl13, wj13, kr13, []⟩
theorem g13 : EntOk Tryz.prog tys stl 13 e13 := .inr ⟨rfl, Tryz.func13, by kernel_rfl, by kernel_rfl, by kernel_rfl, by kernel_rfl, by kernel_rfl, rfl⟩
/- 18: (foghorn/block.Plan).Hear -/
def p18 : Nat → Option PlanC := fun _ => none
def wl18 : Nat → List Nat := fun _ => []
def wj18 : Nat → Option (List Nat) := fun _ => none
def kr18 : Nat → List Nat := fun _ => []
noncomputable def e18 : Ent := entOf Tryz.f18 ⟨p18, wl18, wj18, kr18, []⟩
theorem g18 : EntOk Tryz.prog tys stl 18 e18 := .inr ⟨rfl, Tryz.func18, by kernel_rfl, by kernel_rfl, by kernel_rfl, by kernel_rfl, by kernel_rfl, rfl⟩
/- 20: (foghorn/block.Plan).Check$1 -/
def p20 : Nat → Option PlanC := fun _ => none
def wl20 : Nat → List Nat := fun _ => []
def wj20 : Nat → Option (List Nat) := fun _ => none
def kr20 : Nat → List Nat := fun _ => []
noncomputable def e20 : Ent := entOf Tryz.f20 ⟨p20, wl20, wj20, kr20, []⟩
theorem g20 : EntOk Tryz.prog tys stl 20 e20 := .inr ⟨rfl, Tryz.func20, by kernel_rfl, by kernel_rfl, by kernel_rfl, by kernel_rfl, by kernel_rfl, rfl⟩
/- 21: foghorn/points.Bits -/
def p21 : Nat → Option PlanC := fun _ => none
def wl21 : Nat → List Nat := fun _ => []
def wj21 : Nat → Option (List Nat) := fun _ => none
def kr21 : Nat → List Nat := fun _ => []
noncomputable def e21 : Ent := entOf Tryz.f21 ⟨p21, wl21, wj21, kr21, [4]⟩
theorem g21 : EntOk Tryz.prog tys stl 21 e21 := .inr ⟨rfl, Tryz.func21, by kernel_rfl, by kernel_rfl, by kernel_rfl, by kernel_rfl, by kernel_rfl, rfl⟩
/- 22: foghorn/block.within -/
def p22 : Nat → Option PlanC := fun _ => none
def wl22 : Nat → List Nat := fun _ => []
def wj22 : Nat → Option (List Nat) := fun _ => none
def kr22 : Nat → List Nat := fun _ => []
noncomputable def e22 : Ent := entOf Tryz.f22 ⟨p22, wl22, wj22, kr22, []⟩
theorem g22 : EntOk Tryz.prog tys stl 22 e22 := .inr ⟨rfl, Tryz.func22, by kernel_rfl, by kernel_rfl, by kernel_rfl, by kernel_rfl, by kernel_rfl, rfl⟩
/- 23: (foghorn/block.Plan).Check$2 -/
def p23 : Nat → Option PlanC := fun _ => none
def wl23 : Nat → List Nat := fun _ => []
def wj23 : Nat → Option (List Nat) := fun _ => none
def kr23 : Nat → List Nat := fun _ => []
noncomputable def e23 : Ent := entOf Tryz.f23 ⟨p23, wl23, wj23, kr23, []⟩
theorem g23 : EntOk Tryz.prog tys stl 23 e23 := .inr ⟨rfl, Tryz.func23, by kernel_rfl, by kernel_rfl, by kernel_rfl, by kernel_rfl, by kernel_rfl, rfl⟩
/- 24: foghorn/reed.Check -/
def p24 : Nat → Option PlanC := fun _ => none
def wl24 : Nat → List Nat := fun _ => []
def wj24 : Nat → Option (List Nat) := fun _ => none
def kr24 : Nat → List Nat := fun _ => []
noncomputable def e24 : Ent := entOf Tryz.f24 ⟨p24, wl24, wj24, kr24, []⟩
theorem g24 : EntOk Tryz.prog tys stl 24 e24 := .inr ⟨rfl, Tryz.func24, by kernel_rfl, by kernel_rfl, by kernel_rfl, by kernel_rfl, by kernel_rfl, rfl⟩
/- 25: (foghorn/block.Plan).data -/
def p25 : Nat → Option PlanC := fun _ => none
def wl25 : Nat → List Nat := fun _ => []
def wj25 : Nat → Option (List Nat) := fun _ => none
def kr25 : Nat → List Nat := fun _ => []
noncomputable def e25 : Ent := entOf Tryz.f25 ⟨p25, wl25, wj25, kr25, [1]⟩
theorem g25 : EntOk Tryz.prog tys stl 25 e25 := .inr ⟨rfl, Tryz.func25, by kernel_rfl, by kernel_rfl, by kernel_rfl, by kernel_rfl, by kernel_rfl, rfl⟩
/- 26: (foghorn/block.Plan).Check$3 -/
def p26 : Nat → Option PlanC := fun _ => none
def wl26 : Nat → List Nat := fun _ => []
def wj26 : Nat → Option (List Nat) := fun _ => none
def kr26 : Nat → List Nat := fun _ => []
noncomputable def e26 : Ent := entOf Tryz.f26 ⟨p26, wl26, wj26, kr26, []⟩
theorem g26 : EntOk Tryz.prog tys stl 26 e26 := .inr ⟨rfl, Tryz.func26, by kernel_rfl, by kernel_rfl, by kernel_rfl, by kernel_rfl, by kernel_rfl, rfl⟩
/- 27: foghorn/pulse.Check -/
def p27 : Nat → Option PlanC := fun _ => none
def wl27 : Nat → List Nat := fun
  | 6 => [33]
  | _ => []
def wj27 : Nat → Option (List Nat) := fun _ => none
def kr27 : Nat → List Nat := fun _ => []
noncomputable def e27 : Ent := entOf Tryz.f27 ⟨p27, wl27, wj27, kr27, [1]⟩
theorem g27 : EntOk Tryz.prog tys stl 27 e27 := .inr ⟨rfl, Tryz.func27, by kernel_rfl, by kernel_rfl, by kernel_rfl, by kernel_rfl, by kernel_rfl, rfl⟩
/- 28: (foghorn/block.Plan).Check$4 -/
def p28 : Nat → Option PlanC := fun _ => none
def wl28 : Nat → List Nat := fun _ => []
def wj28 : Nat → Option (List Nat) := fun _ => none
def kr28 : Nat → List Nat := fun _ => []
noncomputable def e28 : Ent := entOf Tryz.f28 ⟨p28, wl28, wj28, kr28, [2]⟩
theorem g28 : EntOk Tryz.prog tys stl 28 e28 := .inr ⟨rfl, Tryz.func28, by kernel_rfl, by kernel_rfl, by kernel_rfl, by kernel_rfl, by kernel_rfl, rfl⟩
/- 29: foghorn/hunt.Plan -/
def p29 : Nat → Option PlanC := fun
  | 18 => some (.op 2 false (.op 3 false (.op 0 true (.op 1 false (.op 4 false (.chk [1] (.op 5 false (.chk [1] (.op 6 false (.op 7 false (.op 8 false (.done))))))))))))
  | _ => none
def wl29 : Nat → List Nat := fun
  | 12 => [65]
  | 17 => [79]
  | _ => []
def wj29 : Nat → Option (List Nat) := fun _ => none
def kr29 : Nat → List Nat := fun
  | 18 => [86]
  | _ => []
noncomputable def e29 : Ent := entOf Tryz.f29 ⟨p29, wl29, wj29, kr29, [5, 16]⟩
theorem g29 : EntOk Tryz.prog tys stl 29 e29 := .inr ⟨rfl, Tryz.func29, by kernel_rfl, by kernel_rfl, by kernel_rfl, by kernel_rfl, by kernel_rfl, rfl⟩
/- 30: (foghorn/block.Plan).points -/
def p30 : Nat → Option PlanC := fun
  | 1 => some (.op 3 false (.op 0 true (.op 1 false (.op 2 true (.op 4 false (.chk [1] (.op 5 false (.op 6 false (.done)))))))))
  | _ => none
def wl30 : Nat → List Nat := fun _ => []
def wj30 : Nat → Option (List Nat) := fun _ => none
def kr30 : Nat → List Nat := fun _ => []
noncomputable def e30 : Ent := entOf Tryz.f30 ⟨p30, wl30, wj30, kr30, [1]⟩
theorem g30 : EntOk Tryz.prog tys stl 30 e30 := .inr ⟨rfl, Tryz.func30, by kernel_rfl, by kernel_rfl, by kernel_rfl, by kernel_rfl, by kernel_rfl, rfl⟩
/- 31: (foghorn/block.Plan).blocks -/
def p31 : Nat → Option PlanC := fun
  | 1 => some (.op 0 false (.op 2 true (.op 3 false (.op 1 false (.chk [3] (.op 4 false (.op 5 false (.done))))))))
  | _ => none
def wl31 : Nat → List Nat := fun _ => []
def wj31 : Nat → Option (List Nat) := fun _ => none
def kr31 : Nat → List Nat := fun _ => []
noncomputable def e31 : Ent := entOf Tryz.f31 ⟨p31, wl31, wj31, kr31, [1]⟩
theorem g31 : EntOk Tryz.prog tys stl 31 e31 := .inr ⟨rfl, Tryz.func31, by kernel_rfl, by kernel_rfl, by kernel_rfl, by kernel_rfl, by kernel_rfl, rfl⟩
/- 32: (foghorn/block.Plan).Code$1 -/
def p32 : Nat → Option PlanC := fun
  | 1 => some (.op 2 false (.op 0 false (.op 1 true (.op 3 false (.chk [0] (.op 4 false (.op 5 false (.op 6 false (.done)))))))))
  | _ => none
def wl32 : Nat → List Nat := fun _ => []
def wj32 : Nat → Option (List Nat) := fun _ => none
def kr32 : Nat → List Nat := fun _ => []
noncomputable def e32 : Ent := entOf Tryz.f32 ⟨p32, wl32, wj32, kr32, []⟩
theorem g32 : EntOk Tryz.prog tys stl 32 e32 := .inr ⟨rfl, Tryz.func32, by kernel_rfl, by kernel_rfl, by kernel_rfl, by kernel_rfl, by kernel_rfl, rfl⟩
/- 38: (foghorn/block.Plan).coded -/
def p38 : Nat → Option PlanC := fun _ => none
def wl38 : Nat → List Nat := fun _ => []
def wj38 : Nat → Option (List Nat) := fun _ => none
def kr38 : Nat → List Nat := fun _ => []
noncomputable def e38 : Ent := entOf Tryz.f38 ⟨p38, wl38, wj38, kr38, [1]⟩
theorem g38 : EntOk Tryz.prog tys stl 38 e38 := .inr ⟨rfl, Tryz.func38, by kernel_rfl, by kernel_rfl, by kernel_rfl, by kernel_rfl, by kernel_rfl, rfl⟩
/- 43: (foghorn/block.Plan).Hear$1 -/
def p43 : Nat → Option PlanC := fun _ => none
def wl43 : Nat → List Nat := fun _ => []
def wj43 : Nat → Option (List Nat) := fun _ => none
def kr43 : Nat → List Nat := fun _ => []
noncomputable def e43 : Ent := entOf Tryz.f43 ⟨p43, wl43, wj43, kr43, []⟩
theorem g43 : EntOk Tryz.prog tys stl 43 e43 := .inr ⟨rfl, Tryz.func43, by kernel_rfl, by kernel_rfl, by kernel_rfl, by kernel_rfl, by kernel_rfl, rfl⟩
/- 44: (foghorn/block.Plan).Hear$2 -/
def p44 : Nat → Option PlanC := fun _ => none
def wl44 : Nat → List Nat := fun _ => []
def wj44 : Nat → Option (List Nat) := fun _ => none
def kr44 : Nat → List Nat := fun _ => []
noncomputable def e44 : Ent := entOf Tryz.f44 ⟨p44, wl44, wj44, kr44, []⟩
theorem g44 : EntOk Tryz.prog tys stl 44 e44 := .inr ⟨rfl, Tryz.func44, by kernel_rfl, by kernel_rfl, by kernel_rfl, by kernel_rfl, by kernel_rfl, rfl⟩
/- 45: foghorn/grid.Check -/
def p45 : Nat → Option PlanC := fun _ => none
def wl45 : Nat → List Nat := fun
  | 4 => [11]
  | _ => []
def wj45 : Nat → Option (List Nat) := fun _ => none
def kr45 : Nat → List Nat := fun _ => []
noncomputable def e45 : Ent := entOf Tryz.f45 ⟨p45, wl45, wj45, kr45, []⟩
theorem g45 : EntOk Tryz.prog tys stl 45 e45 := .inr ⟨rfl, Tryz.func45, by kernel_rfl, by kernel_rfl, by kernel_rfl, by kernel_rfl, by kernel_rfl, rfl⟩
/- 46: foghorn/block.lostUnless -/
def p46 : Nat → Option PlanC := fun _ => none
def wl46 : Nat → List Nat := fun _ => []
def wj46 : Nat → Option (List Nat) := fun _ => none
def kr46 : Nat → List Nat := fun _ => []
noncomputable def e46 : Ent := entOf Tryz.f46 ⟨p46, wl46, wj46, kr46, []⟩
theorem g46 : EntOk Tryz.prog tys stl 46 e46 := .inr ⟨rfl, Tryz.func46, by kernel_rfl, by kernel_rfl, by kernel_rfl, by kernel_rfl, by kernel_rfl, rfl⟩
/- 47: (foghorn/block.Plan).Hear$3 -/
def p47 : Nat → Option PlanC := fun _ => none
def wl47 : Nat → List Nat := fun _ => []
def wj47 : Nat → Option (List Nat) := fun _ => none
def kr47 : Nat → List Nat := fun _ => []
noncomputable def e47 : Ent := entOf Tryz.f47 ⟨p47, wl47, wj47, kr47, []⟩
theorem g47 : EntOk Tryz.prog tys stl 47 e47 := .inr ⟨rfl, Tryz.func47, by kernel_rfl, by kernel_rfl, by kernel_rfl, by kernel_rfl, by kernel_rfl, rfl⟩
/- 48: foghorn/hunt.Find -/
def p48 : Nat → Option PlanC := fun _ => none
def wl48 : Nat → List Nat := fun
  | 4 => [36]
  | _ => []
def wj48 : Nat → Option (List Nat) := fun
  | 10 => some []
  | _ => none
def kr48 : Nat → List Nat := fun _ => []
noncomputable def e48 : Ent := entOf Tryz.f48 ⟨p48, wl48, wj48, kr48, []⟩
theorem g48 : EntOk Tryz.prog tys stl 48 e48 := .inr ⟨rfl, Tryz.func48, by kernel_rfl, by kernel_rfl, by kernel_rfl, by kernel_rfl, by kernel_rfl, rfl⟩
/- 64: foghorn/points.of -/
def p64 : Nat → Option PlanC := fun _ => none
def wl64 : Nat → List Nat := fun _ => []
def wj64 : Nat → Option (List Nat) := fun _ => none
def kr64 : Nat → List Nat := fun _ => []
noncomputable def e64 : Ent := entOf Tryz.f64 ⟨p64, wl64, wj64, kr64, []⟩
theorem g64 : EntOk Tryz.prog tys stl 64 e64 := .inr ⟨rfl, Tryz.func64, by kernel_rfl, by kernel_rfl, by kernel_rfl, by kernel_rfl, by kernel_rfl, rfl⟩
/- 65: foghorn/block.within$1 -/
def p65 : Nat → Option PlanC := fun _ => none
def wl65 : Nat → List Nat := fun _ => []
def wj65 : Nat → Option (List Nat) := fun _ => none
def kr65 : Nat → List Nat := fun _ => []
noncomputable def e65 : Ent := entOf Tryz.f65 ⟨p65, wl65, wj65, kr65, []⟩
theorem g65 : EntOk Tryz.prog tys stl 65 e65 := .inr ⟨rfl, Tryz.func65, by kernel_rfl, by kernel_rfl, by kernel_rfl, by kernel_rfl, by kernel_rfl, rfl⟩
/- 66: foghorn/reed.areChecks -/
def p66 : Nat → Option PlanC := fun _ => none
def wl66 : Nat → List Nat := fun _ => []
def wj66 : Nat → Option (List Nat) := fun _ => none
def kr66 : Nat → List Nat := fun _ => []
noncomputable def e66 : Ent := entOf Tryz.f66 ⟨p66, wl66, wj66, kr66, []⟩
theorem g66 : EntOk Tryz.prog tys stl 66 e66 := .inr ⟨rfl, Tryz.func66, by kernel_rfl, by kernel_rfl, by kernel_rfl, by kernel_rfl, by kernel_rfl, rfl⟩
/- 67: foghorn/reed.isWord -/
def p67 : Nat → Option PlanC := fun _ => none
def wl67 : Nat → List Nat := fun _ => []
def wj67 : Nat → Option (List Nat) := fun _ => none
def kr67 : Nat → List Nat := fun _ => []
noncomputable def e67 : Ent := entOf Tryz.f67 ⟨p67, wl67, wj67, kr67, []⟩
theorem g67 : EntOk Tryz.prog tys stl 67 e67 := .inr ⟨rfl, Tryz.func67, by kernel_rfl, by kernel_rfl, by kernel_rfl, by kernel_rfl, by kernel_rfl, rfl⟩
/- 68: foghorn/bounds.Reals -/
def p68 : Nat → Option PlanC := fun _ => none
def wl68 : Nat → List Nat := fun
  | 5 => [14]
  | _ => []
def wj68 : Nat → Option (List Nat) := fun _ => none
def kr68 : Nat → List Nat := fun _ => []
noncomputable def e68 : Ent := entOf Tryz.f68 ⟨p68, wl68, wj68, kr68, []⟩
theorem g68 : EntOk Tryz.prog tys stl 68 e68 := .inr ⟨rfl, Tryz.func68, by kernel_rfl, by kernel_rfl, by kernel_rfl, by kernel_rfl, by kernel_rfl, rfl⟩
/- 69: foghorn/hunt.Guard -/
def p69 : Nat → Option PlanC := fun _ => none
def wl69 : Nat → List Nat := fun _ => []
def wj69 : Nat → Option (List Nat) := fun _ => none
def kr69 : Nat → List Nat := fun _ => []
noncomputable def e69 : Ent := entOf Tryz.f69 ⟨p69, wl69, wj69, kr69, [2]⟩
theorem g69 : EntOk Tryz.prog tys stl 69 e69 := .inr ⟨rfl, Tryz.func69, by kernel_rfl, by kernel_rfl, by kernel_rfl, by kernel_rfl, by kernel_rfl, rfl⟩
/- 70: foghorn/pulse.Length -/
def p70 : Nat → Option PlanC := fun _ => none
def wl70 : Nat → List Nat := fun _ => []
def wj70 : Nat → Option (List Nat) := fun _ => none
def kr70 : Nat → List Nat := fun _ => []
noncomputable def e70 : Ent := entOf Tryz.f70 ⟨p70, wl70, wj70, kr70, [2]⟩
theorem g70 : EntOk Tryz.prog tys stl 70 e70 := .inr ⟨rfl, Tryz.func70, by kernel_rfl, by kernel_rfl, by kernel_rfl, by kernel_rfl, by kernel_rfl, rfl⟩
/- 71: foghorn/hunt.laying -/
def p71 : Nat → Option PlanC := fun _ => none
def wl71 : Nat → List Nat := fun _ => []
def wj71 : Nat → Option (List Nat) := fun _ => none
def kr71 : Nat → List Nat := fun _ => []
noncomputable def e71 : Ent := entOf Tryz.f71 ⟨p71, wl71, wj71, kr71, []⟩
theorem g71 : EntOk Tryz.prog tys stl 71 e71 := .inr ⟨rfl, Tryz.func71, by kernel_rfl, by kernel_rfl, by kernel_rfl, by kernel_rfl, by kernel_rfl, rfl⟩
/- 72: foghorn/block.upward -/
def p72 : Nat → Option PlanC := fun _ => none
def wl72 : Nat → List Nat := fun _ => []
def wj72 : Nat → Option (List Nat) := fun _ => none
def kr72 : Nat → List Nat := fun _ => []
noncomputable def e72 : Ent := entOf Tryz.f72 ⟨p72, wl72, wj72, kr72, []⟩
theorem g72 : EntOk Tryz.prog tys stl 72 e72 := .inr ⟨rfl, Tryz.func72, by kernel_rfl, by kernel_rfl, by kernel_rfl, by kernel_rfl, by kernel_rfl, rfl⟩
/- 73: (foghorn/block.Plan).bits -/
def p73 : Nat → Option PlanC := fun _ => none
def wl73 : Nat → List Nat := fun _ => []
def wj73 : Nat → Option (List Nat) := fun _ => none
def kr73 : Nat → List Nat := fun _ => []
noncomputable def e73 : Ent := entOf Tryz.f73 ⟨p73, wl73, wj73, kr73, [1]⟩
theorem g73 : EntOk Tryz.prog tys stl 73 e73 := .inr ⟨rfl, Tryz.func73, by kernel_rfl, by kernel_rfl, by kernel_rfl, by kernel_rfl, by kernel_rfl, rfl⟩
/- 85: foghorn/grid.mayBe -/
def p85 : Nat → Option PlanC := fun _ => none
def wl85 : Nat → List Nat := fun _ => []
def wj85 : Nat → Option (List Nat) := fun _ => none
def kr85 : Nat → List Nat := fun _ => []
noncomputable def e85 : Ent := entOf Tryz.f85 ⟨p85, wl85, wj85, kr85, [1]⟩
theorem g85 : EntOk Tryz.prog tys stl 85 e85 := .inr ⟨rfl, Tryz.func85, by kernel_rfl, by kernel_rfl, by kernel_rfl, by kernel_rfl, by kernel_rfl, rfl⟩
/- 86: foghorn/block.lostUnless$1 -/
def p86 : Nat → Option PlanC := fun _ => none
def wl86 : Nat → List Nat := fun _ => []
def wj86 : Nat → Option (List Nat) := fun _ => none
def kr86 : Nat → List Nat := fun _ => []
noncomputable def e86 : Ent := entOf Tryz.f86 ⟨p86, wl86, wj86, kr86, []⟩
theorem g86 : EntOk Tryz.prog tys stl 86 e86 := .inr ⟨rfl, Tryz.func86, by kernel_rfl, by kernel_rfl, by kernel_rfl, by kernel_rfl, by kernel_rfl, rfl⟩
/- 87: foghorn/hunt.greater -/
def p87 : Nat → Option PlanC := fun _ => none
def wl87 : Nat → List Nat := fun _ => []
def wj87 : Nat → Option (List Nat) := fun _ => none
def kr87 : Nat → List Nat := fun _ => []
noncomputable def e87 : Ent := entOf Tryz.f87 ⟨p87, wl87, wj87, kr87, []⟩
theorem g87 : EntOk Tryz.prog tys stl 87 e87 := .inr ⟨rfl, Tryz.func87, by kernel_rfl, by kernel_rfl, by kernel_rfl, by kernel_rfl, by kernel_rfl, rfl⟩
/- 91: foghorn/bounds.Taps -/
def p91 : Nat → Option PlanC := fun _ => none
def wl91 : Nat → List Nat := fun
  | 5 => [3, 16]
  | _ => []
def wj91 : Nat → Option (List Nat) := fun _ => none
def kr91 : Nat → List Nat := fun _ => []
noncomputable def e91 : Ent := entOf Tryz.f91 ⟨p91, wl91, wj91, kr91, []⟩
theorem g91 : EntOk Tryz.prog tys stl 91 e91 := .inr ⟨rfl, Tryz.func91, by kernel_rfl, by kernel_rfl, by kernel_rfl, by kernel_rfl, by kernel_rfl, rfl⟩
/- 100: foghorn/points.square -/
def p100 : Nat → Option PlanC := fun _ => none
def wl100 : Nat → List Nat := fun _ => []
def wj100 : Nat → Option (List Nat) := fun _ => none
def kr100 : Nat → List Nat := fun _ => []
noncomputable def e100 : Ent := entOf Tryz.f100 ⟨p100, wl100, wj100, kr100, []⟩
theorem g100 : EntOk Tryz.prog tys stl 100 e100 := .inr ⟨rfl, Tryz.func100, by kernel_rfl, by kernel_rfl, by kernel_rfl, by kernel_rfl, by kernel_rfl, rfl⟩
/- 102: foghorn/hunt.laying$1 -/
def p102 : Nat → Option PlanC := fun _ => none
def wl102 : Nat → List Nat := fun _ => []
def wj102 : Nat → Option (List Nat) := fun _ => none
def kr102 : Nat → List Nat := fun _ => []
noncomputable def e102 : Ent := entOf Tryz.f102 ⟨p102, wl102, wj102, kr102, []⟩
theorem g102 : EntOk Tryz.prog tys stl 102 e102 := .inr ⟨rfl, Tryz.func102, by kernel_rfl, by kernel_rfl, by kernel_rfl, by kernel_rfl, by kernel_rfl, rfl⟩
/- 112: foghorn/bounds.Fine -/
def p112 : Nat → Option PlanC := fun _ => none
def wl112 : Nat → List Nat := fun _ => []
def wj112 : Nat → Option (List Nat) := fun _ => none
def kr112 : Nat → List Nat := fun _ => []
noncomputable def e112 : Ent := entOf Tryz.f112 ⟨p112, wl112, wj112, kr112, []⟩
theorem g112 : EntOk Tryz.prog tys stl 112 e112 := .inr ⟨rfl, Tryz.func112, by kernel_rfl, by kernel_rfl, by kernel_rfl, by kernel_rfl, by kernel_rfl, rfl⟩
/- 113: foghorn/grid.On -/
def p113 : Nat → Option PlanC := fun _ => none
def wl113 : Nat → List Nat := fun _ => []
def wj113 : Nat → Option (List Nat) := fun _ => none
def kr113 : Nat → List Nat := fun _ => []
noncomputable def e113 : Ent := entOf Tryz.f113 ⟨p113, wl113, wj113, kr113, []⟩
theorem g113 : EntOk Tryz.prog tys stl 113 e113 := .inr ⟨rfl, Tryz.func113, by kernel_rfl, by kernel_rfl, by kernel_rfl, by kernel_rfl, by kernel_rfl, rfl⟩
/- 114: math.Abs -/
def p114 : Nat → Option PlanC := fun _ => none
def wl114 : Nat → List Nat := fun _ => []
def wj114 : Nat → Option (List Nat) := fun _ => none
def kr114 : Nat → List Nat := fun _ => []
noncomputable def e114 : Ent := entOf Tryz.f114 ⟨p114, wl114, wj114, kr114, []⟩
theorem g114 : EntOk Tryz.prog tys stl 114 e114 := .inr ⟨rfl, Tryz.func114, by kernel_rfl, by kernel_rfl, by kernel_rfl, by kernel_rfl, by kernel_rfl, rfl⟩
/- 115: math.IsNaN -/
def p115 : Nat → Option PlanC := fun _ => none
def wl115 : Nat → List Nat := fun _ => []
def wj115 : Nat → Option (List Nat) := fun _ => none
def kr115 : Nat → List Nat := fun _ => []
noncomputable def e115 : Ent := entOf Tryz.f115 ⟨p115, wl115, wj115, kr115, []⟩
theorem g115 : EntOk Tryz.prog tys stl 115 e115 := .inr ⟨rfl, Tryz.func115, by kernel_rfl, by kernel_rfl, by kernel_rfl, by kernel_rfl, by kernel_rfl, rfl⟩
/- 140: math.Trunc -/
def p140 : Nat → Option PlanC := fun _ => none
def wl140 : Nat → List Nat := fun _ => []
def wj140 : Nat → Option (List Nat) := fun _ => none
def kr140 : Nat → List Nat := fun _ => []
noncomputable def e140 : Ent := entOf Tryz.f140 ⟨p140, wl140, wj140, kr140, []⟩
theorem g140 : EntOk Tryz.prog tys stl 140 e140 := .inr ⟨rfl, Tryz.func140, by kernel_rfl, by kernel_rfl, by kernel_rfl, by kernel_rfl, by kernel_rfl, rfl⟩
/- 141: math.Float64frombits (no Go text) -/
noncomputable def e141 : Ent := extEnt
theorem g141 : EntOk Tryz.prog tys stl 141 e141 := .inl rfl
/- 142: math.Float64bits (no Go text) -/
noncomputable def e142 : Ent := extEnt
theorem g142 : EntOk Tryz.prog tys stl 142 e142 := .inl rfl
/- 161: math.archTrunc (no Go text) -/
noncomputable def e161 : Ent := extEnt
theorem g161 : EntOk Tryz.prog tys stl 161 e161 := .inl rfl
noncomputable def ents : List (Nat × Ent) := [(3, e3), (4, e4), (5, e5), (6, e6), (7, e7), (8, e8), (9, e9), (10, e10), (11, e11), (12, e12), (13, e13), (18, e18), (20, e20), (21, e21), (22, e22), (23, e23), (24, e24), (25, e25), (26, e26), (27, e27), (28, e28), (29, e29), (30, e30), (31, e31), (32, e32), (38, e38), (43, e43), (44, e44), (45, e45), (46, e46), (47, e47), (48, e48), (64, e64), (65, e65), (66, e66), (67, e67), (68, e68), (69, e69), (70, e70), (71, e71), (72, e72), (73, e73), (85, e85), (86, e86), (87, e87), (91, e91), (100, e100), (102, e102), (112, e112), (113, e113), (114, e114), (115, e115), (140, e140), (141, e141), (142, e142), (161, e161)]
theorem goods : EntsOk Tryz.prog tys stl ents := ⟨g3, g4, g5, g6, g7, g8, g9, g10, g11, g12, g13, g18, g20, g21, g22, g23, g24, g25, g26, g27, g28, g29, g30, g31, g32, g38, g43, g44, g45, g46, g47, g48, g64, g65, g66, g67, g68, g69, g70, g71, g72, g73, g85, g86, g87, g91, g100, g102, g112, g113, g114, g115, g140, g141, g142, g161, True.intro⟩
noncomputable def tab : Nat → Option Ent := (tabOf ents).get
theorem fok : FOk Tryz.prog tys stl tab := fok_of goods
noncomputable def d0 : Disp := .leaf
theorem d0_ok : CallSim Tryz.prog tys stl tab d0.fn := Disp.sim True.intro
/- foghorn/foghornlaw26.BlockNames -/
noncomputable def R3 (q_share : (α : Type) → α → (α → Bool) → Bool) (q_cmpW : (Nat → Nat → Bool) → Nat → Option CV → W → W → (W → Bool) → Bool) (q_guardW : Bool → W → Bool → Bool → Bool) (q_pickW : W → W → W → (W → Bool) → Bool) (q_fadW : Nat → W → (W → Bool) → Bool) (q_idxSW : Nat → W → W → (W → Bool) → Bool) (q_lenW : Option CV → W → (W → Bool) → Bool) (q_tupW : W → (List W → Bool) → Bool) (q_aggW : W → (List W → Bool) → Bool) (q_nthW : Nat → List W → (W → Bool) → Bool) (q_killVW : W → HW → (HW → Bool) → Bool) (q_loadSW : HW → W → (W → Bool) → Bool) (q_loadAW : Nat → HW → W → (W → Bool) → Bool) (q_storeSW : HW → W → W → (HW → Bool) → Bool) (q_storeAW : Nat → HW → W → W → (HW → Bool) → Bool) (q_makeSW : Nat → Nat → Nat → Kind → List W → Bool → HW → Nat → W → W → KW → Bool) (q_allocW : Trie W → Nat → Bool → HW → Nat → KW → Bool) (q_buildSW : Nat → Nat → Kind → Nat → Bool → HW → Nat → Nat → List W → KW → Bool) (q_flatW : W → Bool → Bool) (q_endW : List W → Bool → Bool) (q_uncW : List W → (W → List W → Bool) → Bool) (q_samQW : W → W → Bool → Bool) (fu : Nat) (call : CallW) (h0 : HW) (c0 : Nat) (K : KW) : Bool :=
q_buildSW 1 99 (.flts .f64) 1 true h0 c0 1 [⟨12, 0, ⟨0, 0, 0, .flt .f64 4607182418800017408⟩, []⟩] fun v1 h2 c3 =>
q_flatW ⟨3, 1, r0, []⟩ (
q_flatW v1 (
(fun (v4 : W) =>
q_flatW ⟨3, 4, r0, []⟩ (
q_flatW ⟨3, 1, r0, []⟩ (
q_flatW ⟨3, 1, r0, []⟩ (
q_flatW ⟨3, 8, r0, []⟩ (
q_flatW ⟨3, 1, r0, []⟩ (
q_flatW ⟨3, 10, r0, []⟩ (
q_flatW ⟨3, 2, r0, []⟩ (
q_aggW v4 fun l5 =>
q_uncW l5 fun v6 l7 =>
q_uncW l7 fun v8 l9 =>
q_uncW l9 fun v10 l11 =>
q_endW l11 (
(fun (v12 : W) =>
q_allocW (allocT tys 27) 10 true h2 c3 fun v13 h14 c15 =>
q_storeAW 10 h14 v13 v12 fun h16 =>
q_loadAW 10 h16 v13 fun v17 =>
call 4 [v17] h16 c15 fun v18 h19 c20 =>
q_tupW v18 fun l21 => q_nthW 0 l21 fun v22 =>
q_tupW v18 fun l23 => q_nthW 1 l23 fun v24 =>
q_loadAW 10 h19 v13 fun v25 =>
call 5 [v25] h19 c20 fun v26 h27 c28 =>
q_tupW v26 fun l29 => q_nthW 0 l29 fun v30 =>
q_tupW v26 fun l31 => q_nthW 1 l31 fun v32 =>
q_allocW (allocT tys 34) 5 true h27 c28 fun v33 h34 c35 =>
q_storeAW 5 h34 v33 v30 fun h36 =>
q_loadAW 10 h36 v13 fun v37 =>
call 6 [v37, ⟨12, 0, ⟨0, 0, 0, .str ⟨⟨[97, 98, 99]⟩⟩⟩, []⟩] h36 c35 fun v38 h39 c40 =>
q_tupW v38 fun l41 => q_nthW 0 l41 fun v42 =>
q_tupW v38 fun l43 => q_nthW 1 l43 fun v44 =>
q_loadAW 10 h39 v13 fun v45 =>
q_makeSW 24 2 9 .avs [⟨12, 0, ⟨0, 0, 0, .cpx .f64 0 0⟩, []⟩, ⟨8, 0, r0, []⟩] true h39 c40 ⟨3, 100, r0, []⟩ ⟨3, 100, r0, []⟩ fun v46 h47 c48 =>
q_loadAW 10 h47 v13 fun v49 =>
q_samQW v49 v45 (
call 7 [v45, v46] h47 c48 fun v50 h51 c52 =>
q_tupW v50 fun l53 => q_nthW 0 l53 fun v54 =>
q_tupW v50 fun l55 => q_nthW 1 l55 fun v56 =>
q_fadW 6 v13 fun v57 =>
q_storeSW h51 v57 ⟨3, 3, r0, []⟩ fun h58 =>
q_cmpW (cmpF2 .eql) 3 (binC Tryz.prog .eql 3 (.tmp 35) (.const (.int .i64 (.ofNat 2))) (dec v22) (dec ⟨3, 2, r0, []⟩)) v22 ⟨3, 2, r0, []⟩ fun v59 =>
q_share _ (fun (v61 : W) (h62 : HW) (c63 : Nat) =>
q_share _ (fun (v65 : W) (h66 : HW) (c67 : Nat) =>
q_pickW v59 v65 ⟨8, 0, r0, []⟩ fun v68 =>
q_share _ (fun (v70 : W) (h71 : HW) (c72 : Nat) =>
q_share _ (fun (v74 : W) (h75 : HW) (c76 : Nat) =>
q_pickW v68 v74 ⟨8, 0, r0, []⟩ fun v77 =>
q_share _ (fun (v79 : W) (h80 : HW) (c81 : Nat) =>
q_share _ (fun (v83 : W) (h84 : HW) (c85 : Nat) =>
q_share _ (fun (v87 : W) (h88 : HW) (c89 : Nat) =>
q_pickW v77 v87 ⟨8, 0, r0, []⟩ fun v90 =>
q_share _ (fun (v92 : W) (h93 : HW) (c94 : Nat) =>
q_share _ (fun (v96 : W) (h97 : HW) (c98 : Nat) =>
q_share _ (fun (v100 : W) (h101 : HW) (c102 : Nat) =>
q_pickW v90 v100 ⟨8, 0, r0, []⟩ fun v103 =>
q_share _ (fun (v105 : W) (h106 : HW) (c107 : Nat) =>
q_share _ (fun (v109 : W) (h110 : HW) (c111 : Nat) =>
q_share _ (fun (v113 : W) (h114 : HW) (c115 : Nat) =>
q_share _ (fun (v117 : W) (h118 : HW) (c119 : Nat) =>
q_pickW v103 v117 ⟨8, 0, r0, []⟩ fun v120 =>
q_share _ (fun (v122 : W) (h123 : HW) (c124 : Nat) =>
q_share _ (fun (v126 : W) (h127 : HW) (c128 : Nat) =>
q_share _ (fun (v130 : W) (h131 : HW) (c132 : Nat) =>
q_share _ (fun (v134 : W) (h135 : HW) (c136 : Nat) =>
q_share _ (fun (v138 : W) (h139 : HW) (c140 : Nat) =>
q_pickW v120 v138 ⟨8, 0, r0, []⟩ fun v141 =>
q_share _ (fun (v143 : W) (h144 : HW) (c145 : Nat) =>
q_share _ (fun (v147 : W) (h148 : HW) (c149 : Nat) =>
q_pickW v141 v147 ⟨8, 0, r0, []⟩ fun v150 =>
q_share _ (fun (v152 : W) (h153 : HW) (c154 : Nat) =>
q_share _ (fun (v156 : W) (h157 : HW) (c158 : Nat) =>
q_pickW v150 v156 ⟨8, 0, r0, []⟩ fun v159 =>
q_share _ (fun (v161 : W) (h162 : HW) (c163 : Nat) =>
q_share _ (fun (v165 : W) (h166 : HW) (c167 : Nat) =>
q_share _ (fun (v169 : W) (h170 : HW) (c171 : Nat) =>
q_pickW v159 v169 ⟨8, 0, r0, []⟩ fun v172 =>
q_pickW v172 ⟨8, 1, r0, []⟩ ⟨8, 0, r0, []⟩ fun v173 =>
q_pickW v173 ⟨8, 1, r0, []⟩ ⟨8, 0, r0, []⟩ fun v174 =>
q_pickW v174 ⟨8, 1, r0, []⟩ ⟨8, 0, r0, []⟩ fun v175 =>
q_killVW v13 h170 fun h176 =>
q_killVW v33 h176 fun h177 =>
K v175 h177 c171) fun f168 =>
q_guardW true v159 (q_cmpW (cmpF2 .eql) 3 (binC Tryz.prog .eql 28 (.tmp 78) (.const (.int .i64 (.ofNat 1))) (dec v165) (dec ⟨3, 1, r0, []⟩)) v165 ⟨3, 1, r0, []⟩ fun v178 =>
f168 v178 h166 c167) (f168 wUnd h166 c167)) fun f164 =>
q_guardW true v159 (call 8 [v161] h162 c163 fun v179 h180 c181 =>
f164 v179 h180 c181) (f164 wUnd h162 c163)) fun f160 =>
q_guardW true v159 (q_loadAW 10 h157 v13 fun v182 =>
f160 v182 h157 c158) (f160 wUnd h157 c158)) fun f155 =>
q_guardW true v150 (q_cmpW (cmpF2 .eql) 3 (binC Tryz.prog .eql 28 (.tmp 73) (.const (.int .i64 (.ofNat 9))) (dec v152) (dec ⟨3, 9, r0, []⟩)) v152 ⟨3, 9, r0, []⟩ fun v183 =>
f155 v183 h153 c154) (f155 wUnd h153 c154)) fun f151 =>
q_guardW true v150 (f151 v56 h148 c149) (f151 wUnd h148 c149)) fun f146 =>
q_guardW true v141 (q_cmpW (cmpF2 .eql) 3 (binC Tryz.prog .eql 28 (.tmp 69) (.const (.int .i64 (.ofNat 1))) (dec v143) (dec ⟨3, 1, r0, []⟩)) v143 ⟨3, 1, r0, []⟩ fun v184 =>
f146 v184 h144 c145) (f146 wUnd h144 c145)) fun f142 =>
q_guardW true v141 (f142 v44 h139 c140) (f142 wUnd h139 c140)) fun f137 =>
q_guardW true v120 (q_cmpW (cmpF2 .eql) 3 (binC Tryz.prog .eql 3 (.tmp 65) (.const (.int .i64 (.ofNat 52))) (dec v134) (dec ⟨3, 52, r0, []⟩)) v134 ⟨3, 52, r0, []⟩ fun v185 =>
f137 v185 h135 c136) (f137 wUnd h135 c136)) fun f133 =>
q_guardW true v120 (q_loadSW h131 v130 fun v186 =>
f133 v186 h131 c132) (f133 wUnd h131 c132)) fun f129 =>
q_guardW true v120 (q_idxSW 1 v126 ⟨3, 1, r0, []⟩ fun v187 =>
f129 v187 h127 c128) (f129 wUnd h127 c128)) fun f125 =>
q_guardW true v120 (q_loadSW h123 v122 fun v188 =>
f125 v188 h123 c124) (f125 wUnd h123 c124)) fun f121 =>
q_guardW true v120 (q_fadW 3 v33 fun v189 =>
f121 v189 h118 c119) (f121 wUnd h118 c119)) fun f116 =>
q_guardW true v103 (q_cmpW (cmpF2 .eql) 3 (binC Tryz.prog .eql 3 (.tmp 58) (.const (.int .i64 (.ofNat 2))) (dec v113) (dec ⟨3, 2, r0, []⟩)) v113 ⟨3, 2, r0, []⟩ fun v190 =>
f116 v190 h114 c115) (f116 wUnd h114 c115)) fun f112 =>
q_guardW true v103 (q_lenW (lenC tys 32 (dec v109)) v109 fun v191 =>
f112 v191 h110 c111) (f112 wUnd h110 c111)) fun f108 =>
q_guardW true v103 (q_loadSW h106 v105 fun v192 =>
f108 v192 h106 c107) (f108 wUnd h106 c107)) fun f104 =>
q_guardW true v103 (q_fadW 3 v33 fun v193 =>
f104 v193 h101 c102) (f104 wUnd h101 c102)) fun f99 =>
q_guardW true v90 (q_cmpW (cmpF2 .eql) 3 (binC Tryz.prog .eql 3 (.tmp 52) (.const (.int .i64 (.ofNat 87))) (dec v96) (dec ⟨3, 87, r0, []⟩)) v96 ⟨3, 87, r0, []⟩ fun v194 =>
f99 v194 h97 c98) (f99 wUnd h97 c98)) fun f95 =>
q_guardW true v90 (q_loadSW h93 v92 fun v195 =>
f95 v195 h93 c94) (f95 wUnd h93 c94)) fun f91 =>
q_guardW true v90 (q_fadW 4 v33 fun v196 =>
f91 v196 h88 c89) (f91 wUnd h88 c89)) fun f86 =>
q_guardW true v77 (q_cmpW (cmpF2 .eql) 3 (binC Tryz.prog .eql 3 (.tmp 47) (.const (.int .i64 (.ofNat 3))) (dec v83) (dec ⟨3, 3, r0, []⟩)) v83 ⟨3, 3, r0, []⟩ fun v197 =>
f86 v197 h84 c85) (f86 wUnd h84 c85)) fun f82 =>
q_guardW true v77 (q_loadSW h80 v79 fun v198 =>
f82 v198 h80 c81) (f82 wUnd h80 c81)) fun f78 =>
q_guardW true v77 (q_fadW 0 v33 fun v199 =>
f78 v199 h75 c76) (f78 wUnd h75 c76)) fun f73 =>
q_guardW true v68 (q_cmpW (cmpF2 .eql) 3 (binC Tryz.prog .eql 28 (.tmp 42) (.const (.int .i64 (.ofNat 0))) (dec v70) (dec ⟨3, 0, r0, []⟩)) v70 ⟨3, 0, r0, []⟩ fun v200 =>
f73 v200 h71 c72) (f73 wUnd h71 c72)) fun f69 =>
q_guardW true v68 (f69 v32 h66 c67) (f69 wUnd h66 c67)) fun f64 =>
q_guardW true v59 (q_cmpW (cmpF2 .eql) 3 (binC Tryz.prog .eql 28 (.tmp 38) (.const (.int .i64 (.ofNat 0))) (dec v61) (dec ⟨3, 0, r0, []⟩)) v61 ⟨3, 0, r0, []⟩ fun v201 =>
f64 v201 h62 c63) (f64 wUnd h62 c63)) fun f60 =>
q_guardW true v59 (f60 v24 h58 c52) (f60 wUnd h58 c52))) ⟨15, 0, r0, [⟨3, 4, r0, []⟩, ⟨3, 1, r0, []⟩, ⟨3, 1, r0, []⟩, ⟨3, 8, r0, []⟩, ⟨3, 1, r0, []⟩, ⟨3, 10, r0, []⟩, ⟨3, 2, r0, []⟩, v6, v8, v10]⟩))))))))) ⟨15, 0, r0, [⟨3, 1, r0, []⟩, ⟨3, 0, r0, []⟩, v1]⟩))
theorem R3_eq (Q : PrimW) (fu : Nat) (call : CallW) : curryA 0 (fnK Q Tryz.prog tys stl fu call e3) = R3 Q.share Q.cmpW Q.guardW Q.pickW Q.fadW Q.idxSW Q.lenW Q.tupW Q.aggW Q.nthW Q.killVW Q.loadSW Q.loadAW Q.storeSW Q.storeAW Q.makeSW Q.allocW Q.buildSW Q.flatW Q.endW Q.uncW Q.samQW fu call := by kernel_rfl
noncomputable def n3 (call : CallW) : List W → HW → Nat → KW → Bool := appF 0 (R3 (fun _ x f => f x) cmpW guardW pickW fadW idxSW lenW tupW aggW nthW killVW loadSW loadAW storeSW storeAW makeSW allocW buildSW flatW endW uncW samQW 1000000 call)
theorem n3_ok {call : CallW} (h : CallSim Tryz.prog tys stl tab call) : FnGood Tryz.prog tys stl tab 3 (n3 call) := node_ok h (by kernel_rfl) rfl g3 (R3_eq real _ _)
/- (foghorn/block.Plan).Room -/
noncomputable def R4 (q_cmpW : (Nat → Nat → Bool) → Nat → Option CV → W → W → (W → Bool) → Bool) (q_condW : W → Bool → Bool → Bool) (q_killVW : W → HW → (HW → Bool) → Bool) (q_loadAW : Nat → HW → W → (W → Bool) → Bool) (q_boxW : HW → Nat → W → KW → Bool) (fu : Nat) (call : CallW) (a0 : W) (h0 : HW) (c0 : Nat) (K : KW) : Bool :=
q_boxW h0 c0 a0 fun v1 h2 c3 =>
q_loadAW 10 h2 v1 fun v4 =>
call 8 [v4] h2 c3 fun v5 h6 c7 =>
q_cmpW (cmpF2 .neq) 3 (binC Tryz.prog .neq 28 (.tmp 7) (.const (.int .i64 (.ofNat 0))) (dec v5) (dec ⟨3, 0, r0, []⟩)) v5 ⟨3, 0, r0, []⟩ fun v8 =>
q_condW v8 (
q_killVW v1 h6 fun h9 =>
K ⟨13, 0, r0, [⟨3, 0, r0, []⟩, v5]⟩ h9 c7) (
q_loadAW 10 h6 v1 fun v10 =>
call 9 [v10] h6 c7 fun v11 h12 c13 =>
q_killVW v1 h12 fun h14 =>
K ⟨13, 0, r0, [v11, ⟨3, 0, r0, []⟩]⟩ h14 c13)
theorem R4_eq (Q : PrimW) (fu : Nat) (call : CallW) : curryA 1 (fnK Q Tryz.prog tys stl fu call e4) = R4 Q.cmpW Q.condW Q.killVW Q.loadAW Q.boxW fu call := by kernel_rfl
noncomputable def n4 (call : CallW) : List W → HW → Nat → KW → Bool := appF 1 (R4 cmpW condW killVW loadAW boxW 1000000 call)
theorem n4_ok {call : CallW} (h : CallSim Tryz.prog tys stl tab call) : FnGood Tryz.prog tys stl tab 4 (n4 call) := node_ok h (by kernel_rfl) rfl g4 (R4_eq real _ _)
/- (foghorn/block.Plan).Places -/
noncomputable def R5 (q_cmpW : (Nat → Nat → Bool) → Nat → Option CV → W → W → (W → Bool) → Bool) (q_condW : W → Bool → Bool → Bool) (q_tupW : W → (List W → Bool) → Bool) (q_nthW : Nat → List W → (W → Bool) → Bool) (q_killVW : W → HW → (HW → Bool) → Bool) (q_loadAW : Nat → HW → W → (W → Bool) → Bool) (q_storeAW : Nat → HW → W → W → (HW → Bool) → Bool) (q_allocW : Trie W → Nat → Bool → HW → Nat → KW → Bool) (q_boxW : HW → Nat → W → KW → Bool) (fu : Nat) (call : CallW) (a0 : W) (h0 : HW) (c0 : Nat) (K : KW) : Bool :=
q_boxW h0 c0 a0 fun v1 h2 c3 =>
q_allocW (allocT tys 34) 5 true h2 c3 fun v4 h5 c6 =>
q_loadAW 10 h5 v1 fun v7 =>
call 8 [v7] h5 c6 fun v8 h9 c10 =>
q_cmpW (cmpF2 .neq) 3 (binC Tryz.prog .neq 28 (.tmp 7) (.const (.int .i64 (.ofNat 0))) (dec v8) (dec ⟨3, 0, r0, []⟩)) v8 ⟨3, 0, r0, []⟩ fun v11 =>
q_condW v11 (
(fun (v12 : W) =>
q_storeAW 5 h9 v4 v12 fun h13 =>
q_loadAW 5 h13 v4 fun v14 =>
q_killVW v1 h13 fun h15 =>
K ⟨13, 0, r0, [v14, v8]⟩ h15 c10) ⟨15, 0, r0, [⟨3, 0, r0, []⟩, ⟨3, 0, r0, []⟩, ⟨3, 0, r0, []⟩, ⟨12, 0, ⟨0, 0, 0, .nils⟩, []⟩, ⟨3, 0, r0, []⟩]⟩) (
q_loadAW 10 h9 v1 fun v16 =>
call 10 [v16] h9 c10 fun v17 h18 c19 =>
q_tupW v17 fun l20 => q_nthW 0 l20 fun v21 =>
q_tupW v17 fun l22 => q_nthW 1 l22 fun v23 =>
q_storeAW 5 h18 v4 v21 fun h24 =>
q_loadAW 5 h24 v4 fun v25 =>
q_killVW v1 h24 fun h26 =>
K ⟨13, 0, r0, [v25, v23]⟩ h26 c19)
theorem R5_eq (Q : PrimW) (fu : Nat) (call : CallW) : curryA 1 (fnK Q Tryz.prog tys stl fu call e5) = R5 Q.cmpW Q.condW Q.tupW Q.nthW Q.killVW Q.loadAW Q.storeAW Q.allocW Q.boxW fu call := by kernel_rfl
noncomputable def n5 (call : CallW) : List W → HW → Nat → KW → Bool := appF 1 (R5 cmpW condW tupW nthW killVW loadAW storeAW allocW boxW 1000000 call)
theorem n5_ok {call : CallW} (h : CallSim Tryz.prog tys stl tab call) : FnGood Tryz.prog tys stl tab 5 (n5 call) := node_ok h (by kernel_rfl) rfl g5 (R5_eq real _ _)
/- (foghorn/block.Plan).Send -/
noncomputable def R6 (q_cmpW : (Nat → Nat → Bool) → Nat → Option CV → W → W → (W → Bool) → Bool) (q_condW : W → Bool → Bool → Bool) (q_loadSW : HW → W → (W → Bool) → Bool) (q_allocW : Trie W → Nat → Bool → HW → Nat → KW → Bool) (q_boxW : HW → Nat → W → KW → Bool) (q_buildSW : Nat → Nat → Kind → Nat → Bool → HW → Nat → Nat → List W → KW → Bool) (fu : Nat) (call : CallW) (a0 : W) (a1 : W) (h0 : HW) (c0 : Nat) (K : KW) : Bool :=
q_boxW h0 c0 a0 fun v1 h2 c3 =>
q_boxW h2 c3 a1 fun v4 h5 c6 =>
q_allocW (allocT tys 9) 1 true h5 c6 fun v7 h8 c9 =>
q_allocW (allocT tys 46) 1 true h8 c9 fun v10 h11 c12 =>
q_allocW (allocT tys 37) 1 true h11 c12 fun v13 h14 c15 =>
(fun (v16 : W) =>
(fun (v17 : W) =>
(fun (v18 : W) =>
q_buildSW 1 9 .avs 3 true h14 c15 3 [v16, v17, v18] fun v19 h20 c21 =>
call 11 [v19] h20 c21 fun v22 h23 c24 =>
q_cmpW (cmpF2 .neq) 3 (binC Tryz.prog .neq 28 (.tmp 15) (.const (.int .i64 (.ofNat 0))) (dec v22) (dec ⟨3, 0, r0, []⟩)) v22 ⟨3, 0, r0, []⟩ fun v25 =>
q_condW v25 (
K ⟨13, 0, r0, [⟨12, 0, ⟨0, 0, 0, .nils⟩, []⟩, v22]⟩ h23 c24) (
q_loadSW h23 v13 fun v26 =>
K ⟨13, 0, r0, [v26, ⟨3, 0, r0, []⟩]⟩ h23 c24)) ⟨14, 16, r0, [v1, v10, v13]⟩) ⟨14, 14, r0, [v1, v7, v10]⟩) ⟨14, 12, r0, [v1, v4, v7]⟩
theorem R6_eq (Q : PrimW) (fu : Nat) (call : CallW) : curryA 2 (fnK Q Tryz.prog tys stl fu call e6) = R6 Q.cmpW Q.condW Q.loadSW Q.allocW Q.boxW Q.buildSW fu call := by kernel_rfl
noncomputable def n6 (call : CallW) : List W → HW → Nat → KW → Bool := appF 2 (R6 cmpW condW loadSW allocW boxW buildSW 1000000 call)
theorem n6_ok {call : CallW} (h : CallSim Tryz.prog tys stl tab call) : FnGood Tryz.prog tys stl tab 6 (n6 call) := node_ok h (by kernel_rfl) rfl g6 (R6_eq real _ _)
/- (foghorn/block.Plan).Receive -/
noncomputable def R7 (q_cmpW : (Nat → Nat → Bool) → Nat → Option CV → W → W → (W → Bool) → Bool) (q_condW : W → Bool → Bool → Bool) (q_fadW : Nat → W → (W → Bool) → Bool) (q_tupW : W → (List W → Bool) → Bool) (q_nthW : Nat → List W → (W → Bool) → Bool) (q_killVW : W → HW → (HW → Bool) → Bool) (q_loadSW : HW → W → (W → Bool) → Bool) (q_loadAW : Nat → HW → W → (W → Bool) → Bool) (q_storeAW : Nat → HW → W → W → (HW → Bool) → Bool) (q_allocW : Trie W → Nat → Bool → HW → Nat → KW → Bool) (q_boxW : HW → Nat → W → KW → Bool) (fu : Nat) (call : CallW) (a0 : W) (a1 : W) (h0 : HW) (c0 : Nat) (K : KW) : Bool :=
q_boxW h0 c0 a0 fun v1 h2 c3 =>
q_loadAW 10 h2 v1 fun v4 =>
call 18 [v4, a1] h2 c3 fun v5 h6 c7 =>
q_tupW v5 fun l8 => q_nthW 0 l8 fun v9 =>
q_tupW v5 fun l10 => q_nthW 1 l10 fun v11 =>
q_allocW (allocT tys 56) 6 true h6 c7 fun v12 h13 c14 =>
q_storeAW 6 h13 v12 v9 fun h15 =>
q_cmpW (cmpF2 .neq) 3 (binC Tryz.prog .neq 28 (.tmp 16) (.const (.int .i64 (.ofNat 0))) (dec v11) (dec ⟨3, 0, r0, []⟩)) v11 ⟨3, 0, r0, []⟩ fun v16 =>
q_condW v16 (
q_killVW v1 h15 fun h17 =>
q_killVW v12 h17 fun h18 =>
K ⟨13, 0, r0, [⟨12, 0, ⟨0, 0, 0, .str ⟨⟨[]⟩⟩⟩, []⟩, v11]⟩ h18 c14) (
q_loadAW 10 h15 v1 fun v19 =>
q_fadW 4 v12 fun v20 =>
q_loadSW h15 v20 fun v21 =>
q_fadW 5 v12 fun v22 =>
q_loadSW h15 v22 fun v23 =>
call 19 [v19, v21, v23] h15 c14 fun v24 h25 c26 =>
q_tupW v24 fun l27 => q_nthW 0 l27 fun v28 =>
q_tupW v24 fun l29 => q_nthW 1 l29 fun v30 =>
q_tupW v24 fun l31 => q_nthW 2 l31 fun v32 =>
q_killVW v1 h25 fun h33 =>
q_killVW v12 h33 fun h34 =>
K ⟨13, 0, r0, [v28, v32]⟩ h34 c26)
theorem R7_eq (Q : PrimW) (fu : Nat) (call : CallW) : curryA 2 (fnK Q Tryz.prog tys stl fu call e7) = R7 Q.cmpW Q.condW Q.fadW Q.tupW Q.nthW Q.killVW Q.loadSW Q.loadAW Q.storeAW Q.allocW Q.boxW fu call := by kernel_rfl
noncomputable def n7 (call : CallW) : List W → HW → Nat → KW → Bool := appF 2 (R7 cmpW condW fadW tupW nthW killVW loadSW loadAW storeAW allocW boxW 1000000 call)
theorem n7_ok {call : CallW} (h : CallSim Tryz.prog tys stl tab call) : FnGood Tryz.prog tys stl tab 7 (n7 call) := node_ok h (by kernel_rfl) rfl g7 (R7_eq real _ _)
/- (foghorn/block.Plan).Check -/
noncomputable def R8 (q_fadW : Nat → W → (W → Bool) → Bool) (q_detW : W → Bool → Bool) (q_loadSW : HW → W → (W → Bool) → Bool) (q_loadAW : Nat → HW → W → (W → Bool) → Bool) (q_boxW : HW → Nat → W → KW → Bool) (q_buildSW : Nat → Nat → Kind → Nat → Bool → HW → Nat → Nat → List W → KW → Bool) (q_samQW : W → W → Bool → Bool) (fu : Nat) (call : CallW) (a0 : W) (h0 : HW) (c0 : Nat) (K : KW) : Bool :=
q_boxW h0 c0 a0 fun v1 h2 c3 =>
q_fadW 1 v1 fun v4 =>
q_loadSW h2 v4 fun v5 =>
q_fadW 2 v1 fun v6 =>
q_detW v6 (
q_fadW 3 v1 fun v7 =>
q_detW v7 (
q_fadW 4 v1 fun v8 =>
q_detW v8 (
(fun (v9 : W) =>
q_loadSW h2 v6 fun v10 =>
q_loadSW h2 v7 fun v11 =>
q_loadSW h2 v8 fun v12 =>
(fun (v13 : W) =>
q_loadAW 10 h2 v1 fun v14 =>
(fun (v15 : W) =>
(fun (v16 : W) =>
call 22 [v5, ⟨3, 1, r0, []⟩, ⟨3, 64, r0, []⟩] h2 c3 fun v17 h18 c19 =>
(fun (v20 : W) =>
q_samQW v20 v16 (
(fun (v21 : W) =>
q_samQW v21 v15 (
q_loadAW 10 h18 v1 fun v22 =>
q_samQW v22 v14 (
(fun (v23 : W) =>
q_samQW v23 v13 (
q_loadSW h18 v8 fun v24 =>
q_samQW v24 v12 (
q_loadSW h18 v7 fun v25 =>
q_samQW v25 v11 (
q_loadSW h18 v6 fun v26 =>
q_samQW v26 v10 (
(fun (v27 : W) =>
q_samQW v27 v9 (
call 22 [v10, ⟨3, 1, r0, []⟩, ⟨3, 8, r0, []⟩] h18 c19 fun v28 h29 c30 =>
(fun (v31 : W) =>
q_samQW v31 v16 (
(fun (v32 : W) =>
q_samQW v32 v15 (
q_loadAW 10 h29 v1 fun v33 =>
q_samQW v33 v14 (
(fun (v34 : W) =>
q_samQW v34 v13 (
q_loadSW h29 v8 fun v35 =>
q_samQW v35 v12 (
q_loadSW h29 v7 fun v36 =>
q_samQW v36 v11 (
(fun (v37 : W) =>
q_samQW v37 v9 (
call 22 [v11, ⟨3, 1, r0, []⟩, ⟨3, 4096, r0, []⟩] h29 c30 fun v38 h39 c40 =>
(fun (v41 : W) =>
q_samQW v41 v16 (
(fun (v42 : W) =>
q_samQW v42 v15 (
q_loadAW 10 h39 v1 fun v43 =>
q_samQW v43 v14 (
(fun (v44 : W) =>
q_samQW v44 v13 (
q_loadSW h39 v8 fun v45 =>
q_samQW v45 v12 (
(fun (v46 : W) =>
q_samQW v46 v9 (
call 22 [v12, ⟨3, 1, r0, []⟩, ⟨3, 255, r0, []⟩] h39 c40 fun v47 h48 c49 =>
(fun (v50 : W) =>
q_samQW v50 v16 (
(fun (v51 : W) =>
q_samQW v51 v15 (
q_loadAW 10 h48 v1 fun v52 =>
q_samQW v52 v14 (
(fun (v53 : W) =>
q_samQW v53 v13 (
(fun (v54 : W) =>
q_samQW v54 v9 (
call 25 [v14] h48 c49 fun v55 h56 c57 =>
(fun (v58 : W) =>
q_samQW v58 v16 (
(fun (v59 : W) =>
q_samQW v59 v15 (
(fun (v60 : W) =>
q_samQW v60 v13 (
(fun (v61 : W) =>
q_samQW v61 v9 (
call 22 [v55, ⟨3, 6, r0, []⟩, ⟨3, 65025, r0, []⟩] h56 c57 fun v62 h63 c64 =>
(fun (v65 : W) =>
q_samQW v65 v16 (
(fun (v66 : W) =>
q_samQW v66 v15 (
(fun (v67 : W) =>
q_samQW v67 v13 (
(fun (v68 : W) =>
q_samQW v68 v9 (
q_buildSW 1 9 .avs 9 true h63 c64 9 [v9, v17, v28, v38, v47, v13, v62, v15, v16] fun v69 h70 c71 =>
call 11 [v69] h70 c71 fun v72 h73 c74 =>
K v72 h73 c74)) ⟨14, 20, r0, [v1]⟩)) ⟨14, 23, r0, [v1]⟩)) ⟨14, 26, r0, [v1]⟩)) ⟨14, 28, r0, [v1]⟩)) ⟨14, 20, r0, [v1]⟩)) ⟨14, 23, r0, [v1]⟩)) ⟨14, 26, r0, [v1]⟩)) ⟨14, 28, r0, [v1]⟩)) ⟨14, 20, r0, [v1]⟩)) ⟨14, 23, r0, [v1]⟩))) ⟨14, 26, r0, [v1]⟩)) ⟨14, 28, r0, [v1]⟩)) ⟨14, 20, r0, [v1]⟩))) ⟨14, 23, r0, [v1]⟩))) ⟨14, 26, r0, [v1]⟩)) ⟨14, 28, r0, [v1]⟩)) ⟨14, 20, r0, [v1]⟩)))) ⟨14, 23, r0, [v1]⟩))) ⟨14, 26, r0, [v1]⟩)) ⟨14, 28, r0, [v1]⟩)) ⟨14, 20, r0, [v1]⟩))))) ⟨14, 23, r0, [v1]⟩))) ⟨14, 26, r0, [v1]⟩)) ⟨14, 28, r0, [v1]⟩) ⟨14, 28, r0, [v1]⟩) ⟨14, 26, r0, [v1]⟩) ⟨14, 23, r0, [v1]⟩) ⟨14, 20, r0, [v1]⟩)))
theorem R8_eq (Q : PrimW) (fu : Nat) (call : CallW) : curryA 1 (fnK Q Tryz.prog tys stl fu call e8) = R8 Q.fadW Q.detW Q.loadSW Q.loadAW Q.boxW Q.buildSW Q.samQW fu call := by kernel_rfl
noncomputable def n8 (call : CallW) : List W → HW → Nat → KW → Bool := appF 1 (R8 fadW detW loadSW loadAW boxW buildSW samQW 1000000 call)
theorem n8_ok {call : CallW} (h : CallSim Tryz.prog tys stl tab call) : FnGood Tryz.prog tys stl tab 8 (n8 call) := node_ok h (by kernel_rfl) rfl g8 (R8_eq real _ _)
/- (foghorn/block.Plan).room -/
noncomputable def R9 (q_genW : Option CV → (W → Bool) → Bool) (q_subW : Nat → Nat → Option CV → W → W → (W → Bool) → Bool) (q_killVW : W → HW → (HW → Bool) → Bool) (q_loadAW : Nat → HW → W → (W → Bool) → Bool) (q_boxW : HW → Nat → W → KW → Bool) (fu : Nat) (call : CallW) (a0 : W) (h0 : HW) (c0 : Nat) (K : KW) : Bool :=
q_boxW h0 c0 a0 fun v1 h2 c3 =>
q_loadAW 10 h2 v1 fun v4 =>
call 25 [v4] h2 c3 fun v5 h6 c7 =>
q_subW 3 9223372036854775807 (binC Tryz.prog .sub 3 (.tmp 4) (.const (.int .i64 (.ofNat 6))) (dec v5) (dec ⟨3, 6, r0, []⟩)) v5 ⟨3, 6, r0, []⟩ fun v8 =>
q_genW (two2 Tryz.prog (dec v8) (dec ⟨3, 32768, r0, []⟩) fun v u => Builtin.min_ #[3, 3] 3 #[v, u]) fun v9 =>
q_killVW v1 h6 fun h10 =>
K v9 h10 c7
theorem R9_eq (Q : PrimW) (fu : Nat) (call : CallW) : curryA 1 (fnK Q Tryz.prog tys stl fu call e9) = R9 Q.genW Q.subW Q.killVW Q.loadAW Q.boxW fu call := by kernel_rfl
noncomputable def n9 (call : CallW) : List W → HW → Nat → KW → Bool := appF 1 (R9 genW subW killVW loadAW boxW 1000000 call)
theorem n9_ok {call : CallW} (h : CallSim Tryz.prog tys stl tab call) : FnGood Tryz.prog tys stl tab 9 (n9 call) := node_ok h (by kernel_rfl) rfl g9 (R9_eq real _ _)
/- (foghorn/block.Plan).places -/
noncomputable def R10 (q_shlW : Nat → Nat → Nat → Option CV → W → W → (W → Bool) → Bool) (q_fadW : Nat → W → (W → Bool) → Bool) (q_tupW : W → (List W → Bool) → Bool) (q_nthW : Nat → List W → (W → Bool) → Bool) (q_detW : W → Bool → Bool) (q_killVW : W → HW → (HW → Bool) → Bool) (q_loadSW : HW → W → (W → Bool) → Bool) (q_loadAW : Nat → HW → W → (W → Bool) → Bool) (q_storeAW : Nat → HW → W → W → (HW → Bool) → Bool) (q_allocW : Trie W → Nat → Bool → HW → Nat → KW → Bool) (q_boxW : HW → Nat → W → KW → Bool) (q_samQW : W → W → Bool → Bool) (fu : Nat) (call : CallW) (a0 : W) (h0 : HW) (c0 : Nat) (K : KW) : Bool :=
q_boxW h0 c0 a0 fun v1 h2 c3 =>
q_allocW (allocT tys 34) 5 true h2 c3 fun v4 h5 c6 =>
q_loadAW 10 h5 v1 fun v7 =>
q_fadW 7 v1 fun v8 =>
q_detW v8 (
q_fadW 1 v1 fun v9 =>
q_detW v9 (
q_fadW 2 v1 fun v10 =>
q_detW v10 (
q_loadAW 3 h5 v8 fun v11 =>
q_loadSW h5 v9 fun v12 =>
q_loadSW h5 v10 fun v13 =>
q_shlW 3 9223372036854775807 64 (binC Tryz.prog .shl 3 (.const (.int .i64 (.ofNat 1))) (.tmp 9) (dec ⟨3, 1, r0, []⟩) (dec v13)) ⟨3, 1, r0, []⟩ v13 fun v14 =>
q_detW v14 (
q_loadAW 10 h5 v1 fun v15 =>
call 30 [v7] h5 c6 fun v16 h17 c18 =>
q_loadAW 10 h17 v1 fun v19 =>
q_samQW v19 v15 (
q_loadSW h17 v10 fun v20 =>
q_samQW v20 v13 (
q_loadSW h17 v9 fun v21 =>
q_samQW v21 v12 (
q_loadAW 3 h17 v8 fun v22 =>
q_samQW v22 v11 (
call 31 [v15] h17 c18 fun v23 h24 c25 =>
q_loadSW h24 v10 fun v26 =>
q_samQW v26 v13 (
q_loadSW h24 v9 fun v27 =>
q_samQW v27 v12 (
q_loadAW 3 h24 v8 fun v28 =>
q_samQW v28 v11 (
call 29 [v11, v12, v14, v16, v23] h24 c25 fun v29 h30 c31 =>
q_tupW v29 fun l32 => q_nthW 0 l32 fun v33 =>
q_tupW v29 fun l34 => q_nthW 1 l34 fun v35 =>
q_storeAW 5 h30 v4 v33 fun h36 =>
q_loadAW 5 h36 v4 fun v37 =>
q_killVW v1 h36 fun h38 =>
K ⟨13, 0, r0, [v37, v35]⟩ h38 c31)))))))))))
theorem R10_eq (Q : PrimW) (fu : Nat) (call : CallW) : curryA 1 (fnK Q Tryz.prog tys stl fu call e10) = R10 Q.shlW Q.fadW Q.tupW Q.nthW Q.detW Q.killVW Q.loadSW Q.loadAW Q.storeAW Q.allocW Q.boxW Q.samQW fu call := by kernel_rfl
noncomputable def n10 (call : CallW) : List W → HW → Nat → KW → Bool := appF 1 (R10 shlW fadW tupW nthW detW killVW loadSW loadAW storeAW allocW boxW samQW 1000000 call)
theorem n10_ok {call : CallW} (h : CallSim Tryz.prog tys stl tab call) : FnGood Tryz.prog tys stl tab 10 (n10 call) := node_ok h (by kernel_rfl) rfl g10 (R10_eq real _ _)
/- foghorn/block.gone -/
noncomputable def R11 (q_addW : Nat → Nat → Option CV → W → W → (W → Bool) → Bool) (q_cmpW : (Nat → Nat → Bool) → Nat → Option CV → W → W → (W → Bool) → Bool) (q_condW : W → Bool → Bool → Bool) (q_idxSW : Nat → W → W → (W → Bool) → Bool) (q_lenW : Option CV → W → (W → Bool) → Bool) (q_onG : W → List W → (FuncId → List W → Bool) → Bool) (q_loadSW : HW → W → (W → Bool) → Bool) (fu : Nat) (call : CallW) (a0 : W) (h0 : HW) (c0 : Nat) (K : KW) : Bool :=
q_lenW (lenC tys 52 (dec a0)) a0 fun v1 =>
@Nat.rec (fun _ => Fun 1) (fun _ _ _ => false) (fun _ f5 v2 h3 c4 =>
q_cmpW (cmpF2 .lss) 3 (binC Tryz.prog .lss 3 (.tmp 8) (.tmp 7) (dec v2) (dec v1)) v2 v1 fun v6 =>
q_condW v6 (
q_idxSW 1 a0 v2 fun v7 =>
q_loadSW h3 v7 fun v8 =>
q_onG v8 [] fun g9 l10 => call g9 l10 h3 c4 fun v11 h12 c13 =>
q_cmpW (cmpF2 .neq) 3 (binC Tryz.prog .neq 28 (.tmp 14) (.const (.int .i64 (.ofNat 0))) (dec v11) (dec ⟨3, 0, r0, []⟩)) v11 ⟨3, 0, r0, []⟩ fun v14 =>
q_condW v14 (
K v11 h12 c13) (
q_addW 3 9223372036854775807 (binC Tryz.prog .add 3 (.tmp 8) (.const (.int .i64 (.ofNat 1))) (dec v2) (dec ⟨3, 1, r0, []⟩)) v2 ⟨3, 1, r0, []⟩ fun v15 =>
f5 v15 h12 c13)) (
K ⟨3, 0, r0, []⟩ h3 c4)) fu ⟨3, 0, r0, []⟩ h0 c0
theorem R11_eq (Q : PrimW) (fu : Nat) (call : CallW) : curryA 1 (fnK Q Tryz.prog tys stl fu call e11) = R11 Q.addW Q.cmpW Q.condW Q.idxSW Q.lenW Q.onG Q.loadSW fu call := by kernel_rfl
noncomputable def n11 (call : CallW) : List W → HW → Nat → KW → Bool := appF 1 (R11 addW cmpW condW idxSW lenW onG loadSW 1000000 call)
theorem n11_ok {call : CallW} (h : CallSim Tryz.prog tys stl tab call) : FnGood Tryz.prog tys stl tab 11 (n11 call) := node_ok h (by kernel_rfl) rfl g11 (R11_eq real _ _)
/- (foghorn/block.Plan).Send$1 -/
noncomputable def R12 (q_tupW : W → (List W → Bool) → Bool) (q_nthW : Nat → List W → (W → Bool) → Bool) (q_loadSW : HW → W → (W → Bool) → Bool) (q_loadAW : Nat → HW → W → (W → Bool) → Bool) (q_storeSW : HW → W → W → (HW → Bool) → Bool) (fu : Nat) (call : CallW) (a0 : W) (a1 : W) (a2 : W) (h0 : HW) (c0 : Nat) (K : KW) : Bool :=
q_loadAW 10 h0 a0 fun v1 =>
q_loadSW h0 a1 fun v2 =>
call 13 [v1, v2] h0 c0 fun v3 h4 c5 =>
q_tupW v3 fun l6 => q_nthW 0 l6 fun v7 =>
q_tupW v3 fun l8 => q_nthW 1 l8 fun v9 =>
q_storeSW h4 a2 v7 fun h10 =>
K v9 h10 c5
theorem R12_eq (Q : PrimW) (fu : Nat) (call : CallW) : curryA 3 (fnK Q Tryz.prog tys stl fu call e12) = R12 Q.tupW Q.nthW Q.loadSW Q.loadAW Q.storeSW fu call := by kernel_rfl
noncomputable def n12 (call : CallW) : List W → HW → Nat → KW → Bool := appF 3 (R12 tupW nthW loadSW loadAW storeSW 1000000 call)
theorem n12_ok {call : CallW} (h : CallSim Tryz.prog tys stl tab call) : FnGood Tryz.prog tys stl tab 12 (n12 call) := node_ok h (by kernel_rfl) rfl g12 (R12_eq real _ _)
/- (foghorn/block.Plan).Code -/
noncomputable def R13 (q_cmpW : (Nat → Nat → Bool) → Nat → Option CV → W → W → (W → Bool) → Bool) (q_condW : W → Bool → Bool → Bool) (q_loadSW : HW → W → (W → Bool) → Bool) (q_loadAW : Nat → HW → W → (W → Bool) → Bool) (q_allocW : Trie W → Nat → Bool → HW → Nat → KW → Bool) (q_boxW : HW → Nat → W → KW → Bool) (q_buildSW : Nat → Nat → Kind → Nat → Bool → HW → Nat → Nat → List W → KW → Bool) (fu : Nat) (call : CallW) (a0 : W) (a1 : W) (h0 : HW) (c0 : Nat) (K : KW) : Bool :=
q_boxW h0 c0 a0 fun v1 h2 c3 =>
q_boxW h2 c3 a1 fun v4 h5 c6 =>
q_allocW (allocT tys 67) 1 true h5 c6 fun v7 h8 c9 =>
q_allocW (allocT tys 9) 1 true h8 c9 fun v10 h11 c12 =>
q_loadAW 10 h11 v1 fun v13 =>
(fun (v14 : W) =>
(fun (v15 : W) =>
(fun (v16 : W) =>
(fun (v17 : W) =>
q_buildSW 1 9 .avs 4 true h11 c12 4 [v14, v15, v16, v17] fun v18 h19 c20 =>
call 11 [v18] h19 c20 fun v21 h22 c23 =>
q_cmpW (cmpF2 .neq) 3 (binC Tryz.prog .neq 28 (.tmp 16) (.const (.int .i64 (.ofNat 0))) (dec v21) (dec ⟨3, 0, r0, []⟩)) v21 ⟨3, 0, r0, []⟩ fun v24 =>
q_condW v24 (
K ⟨13, 0, r0, [⟨12, 0, ⟨0, 0, 0, .str ⟨⟨[]⟩⟩⟩, []⟩, v21]⟩ h22 c23) (
q_loadSW h22 v10 fun v25 =>
K ⟨13, 0, r0, [v25, ⟨3, 0, r0, []⟩]⟩ h22 c23)) ⟨14, 36, r0, [v7, v10]⟩) ⟨14, 33, r0, [v1, v4, v7]⟩) ⟨14, 32, r0, [v4, v1]⟩) ⟨16, 8, r0, [v13]⟩
theorem R13_eq (Q : PrimW) (fu : Nat) (call : CallW) : curryA 2 (fnK Q Tryz.prog tys stl fu call e13) = R13 Q.cmpW Q.condW Q.loadSW Q.loadAW Q.allocW Q.boxW Q.buildSW fu call := by kernel_rfl
noncomputable def n13 (call : CallW) : List W → HW → Nat → KW → Bool := appF 2 (R13 cmpW condW loadSW loadAW allocW boxW buildSW 1000000 call)
theorem n13_ok {call : CallW} (h : CallSim Tryz.prog tys stl tab call) : FnGood Tryz.prog tys stl tab 13 (n13 call) := node_ok h (by kernel_rfl) rfl g13 (R13_eq real _ _)
/- (foghorn/block.Plan).Hear -/
noncomputable def R18 (q_cmpW : (Nat → Nat → Bool) → Nat → Option CV → W → W → (W → Bool) → Bool) (q_condW : W → Bool → Bool → Bool) (q_loadAW : Nat → HW → W → (W → Bool) → Bool) (q_storeSW : HW → W → W → (HW → Bool) → Bool) (q_storeAW : Nat → HW → W → W → (HW → Bool) → Bool) (q_allocW : Trie W → Nat → Bool → HW → Nat → KW → Bool) (q_boxW : HW → Nat → W → KW → Bool) (q_buildSW : Nat → Nat → Kind → Nat → Bool → HW → Nat → Nat → List W → KW → Bool) (fu : Nat) (call : CallW) (a0 : W) (a1 : W) (h0 : HW) (c0 : Nat) (K : KW) : Bool :=
q_boxW h0 c0 a0 fun v1 h2 c3 =>
q_boxW h2 c3 a1 fun v4 h5 c6 =>
q_allocW (allocT tys 56) 6 true h5 c6 fun v7 h8 c9 =>
q_allocW (allocT tys 56) 6 true h8 c9 fun v10 h11 c12 =>
q_allocW (allocT tys 34) 5 true h11 c12 fun v13 h14 c15 =>
q_allocW (allocT tys 3) 1 true h14 c15 fun v16 h17 c18 =>
q_storeSW h17 v16 ⟨3, 0, r0, []⟩ fun h19 =>
(fun (v20 : W) =>
(fun (v21 : W) =>
(fun (v22 : W) =>
call 46 [v22] h19 c18 fun v23 h24 c25 =>
(fun (v26 : W) =>
call 46 [v26] h24 c25 fun v27 h28 c29 =>
(fun (v30 : W) =>
call 46 [v30] h28 c29 fun v31 h32 c33 =>
(fun (v34 : W) =>
q_buildSW 1 9 .avs 6 true h32 c33 6 [v20, v21, v23, v27, v31, v34] fun v35 h36 c37 =>
call 11 [v35] h36 c37 fun v38 h39 c40 =>
q_cmpW (cmpF2 .neq) 3 (binC Tryz.prog .neq 28 (.tmp 21) (.const (.int .i64 (.ofNat 0))) (dec v38) (dec ⟨3, 0, r0, []⟩)) v38 ⟨3, 0, r0, []⟩ fun v41 =>
q_condW v41 (
(fun (v42 : W) =>
q_storeAW 6 h39 v7 v42 fun h43 =>
q_loadAW 6 h43 v7 fun v44 =>
K ⟨13, 0, r0, [v44, v38]⟩ h43 c40) ⟨15, 0, r0, [⟨3, 0, r0, []⟩, ⟨12, 0, ⟨0, 0, 0, .flt .f64 0⟩, []⟩, ⟨3, 0, r0, []⟩, ⟨12, 0, ⟨0, 0, 0, .nils⟩, []⟩, ⟨12, 0, ⟨0, 0, 0, .str ⟨⟨[]⟩⟩⟩, []⟩, ⟨12, 0, ⟨0, 0, 0, .nils⟩, []⟩]⟩) (
q_loadAW 6 h39 v10 fun v45 =>
q_storeAW 6 h39 v7 v45 fun h46 =>
q_loadAW 6 h46 v7 fun v47 =>
K ⟨13, 0, r0, [v47, ⟨3, 0, r0, []⟩]⟩ h46 c40)) ⟨14, 53, r0, [v1, v10, v4, v13, v16]⟩) ⟨14, 51, r0, [v10]⟩) ⟨14, 49, r0, [v1, v4, v13, v16, v10]⟩) ⟨14, 47, r0, [v4, v10, v13, v16]⟩) ⟨14, 44, r0, [v4]⟩) ⟨14, 43, r0, [v1, v13]⟩
theorem R18_eq (Q : PrimW) (fu : Nat) (call : CallW) : curryA 2 (fnK Q Tryz.prog tys stl fu call e18) = R18 Q.cmpW Q.condW Q.loadAW Q.storeSW Q.storeAW Q.allocW Q.boxW Q.buildSW fu call := by kernel_rfl
noncomputable def n18 (call : CallW) : List W → HW → Nat → KW → Bool := appF 2 (R18 cmpW condW loadAW storeSW storeAW allocW boxW buildSW 1000000 call)
theorem n18_ok {call : CallW} (h : CallSim Tryz.prog tys stl tab call) : FnGood Tryz.prog tys stl tab 18 (n18 call) := node_ok h (by kernel_rfl) rfl g18 (R18_eq real _ _)
/- (foghorn/block.Plan).Check$1 -/
noncomputable def R20 (q_fadW : Nat → W → (W → Bool) → Bool) (q_tupW : W → (List W → Bool) → Bool) (q_nthW : Nat → List W → (W → Bool) → Bool) (q_loadSW : HW → W → (W → Bool) → Bool) (fu : Nat) (call : CallW) (a0 : W) (h0 : HW) (c0 : Nat) (K : KW) : Bool :=
q_fadW 0 a0 fun v1 =>
q_loadSW h0 v1 fun v2 =>
call 21 [v2] h0 c0 fun v3 h4 c5 =>
q_tupW v3 fun l6 => q_nthW 0 l6 fun v7 =>
q_tupW v3 fun l8 => q_nthW 1 l8 fun v9 =>
K v9 h4 c5
theorem R20_eq (Q : PrimW) (fu : Nat) (call : CallW) : curryA 1 (fnK Q Tryz.prog tys stl fu call e20) = R20 Q.fadW Q.tupW Q.nthW Q.loadSW fu call := by kernel_rfl
noncomputable def n20 (call : CallW) : List W → HW → Nat → KW → Bool := appF 1 (R20 fadW tupW nthW loadSW 1000000 call)
theorem n20_ok {call : CallW} (h : CallSim Tryz.prog tys stl tab call) : FnGood Tryz.prog tys stl tab 20 (n20 call) := node_ok h (by kernel_rfl) rfl g20 (R20_eq real _ _)
/- foghorn/points.Bits -/
noncomputable def R21 (q_notW : Option CV → W → (W → Bool) → Bool) (q_condW : W → Bool → Bool → Bool) (q_fadW : Nat → W → (W → Bool) → Bool) (q_tupW : W → (List W → Bool) → Bool) (q_nthW : Nat → List W → (W → Bool) → Bool) (q_killVW : W → HW → (HW → Bool) → Bool) (q_loadSW : HW → W → (W → Bool) → Bool) (q_storeAW : Nat → HW → W → W → (HW → Bool) → Bool) (q_allocW : Trie W → Nat → Bool → HW → Nat → KW → Bool) (fu : Nat) (call : CallW) (a0 : W) (h0 : HW) (c0 : Nat) (K : KW) : Bool :=
call 64 [a0] h0 c0 fun v1 h2 c3 =>
q_tupW v1 fun l4 => q_nthW 0 l4 fun v5 =>
q_tupW v1 fun l6 => q_nthW 1 l6 fun v7 =>
q_allocW (allocT tys 101) 5 true h2 c3 fun v8 h9 c10 =>
q_storeAW 5 h9 v8 v5 fun h11 =>
q_notW (two Tryz.prog (dec v7) (Op.unary .not)) v7 fun v12 =>
q_condW v12 (
q_killVW v8 h11 fun h13 =>
K ⟨13, 0, r0, [⟨3, 0, r0, []⟩, ⟨3, 1, r0, []⟩]⟩ h13 c10) (
q_fadW 0 v8 fun v14 =>
q_loadSW h11 v14 fun v15 =>
q_killVW v8 h11 fun h16 =>
K ⟨13, 0, r0, [v15, ⟨3, 0, r0, []⟩]⟩ h16 c10)
theorem R21_eq (Q : PrimW) (fu : Nat) (call : CallW) : curryA 1 (fnK Q Tryz.prog tys stl fu call e21) = R21 Q.notW Q.condW Q.fadW Q.tupW Q.nthW Q.killVW Q.loadSW Q.storeAW Q.allocW fu call := by kernel_rfl
noncomputable def n21 (call : CallW) : List W → HW → Nat → KW → Bool := appF 1 (R21 notW condW fadW tupW nthW killVW loadSW storeAW allocW 1000000 call)
theorem n21_ok {call : CallW} (h : CallSim Tryz.prog tys stl tab call) : FnGood Tryz.prog tys stl tab 21 (n21 call) := node_ok h (by kernel_rfl) rfl g21 (R21_eq real _ _)
/- foghorn/block.within -/
noncomputable def R22 (q_boxW : HW → Nat → W → KW → Bool) (fu : Nat) (call : CallW) (a0 : W) (a1 : W) (a2 : W) (h0 : HW) (c0 : Nat) (K : KW) : Bool :=
q_boxW h0 c0 a0 fun v1 h2 c3 =>
q_boxW h2 c3 a1 fun v4 h5 c6 =>
q_boxW h5 c6 a2 fun v7 h8 c9 =>
(fun (v10 : W) =>
K v10 h8 c9) ⟨14, 65, r0, [v1, v4, v7]⟩
theorem R22_eq (Q : PrimW) (fu : Nat) (call : CallW) : curryA 3 (fnK Q Tryz.prog tys stl fu call e22) = R22 Q.boxW fu call := by kernel_rfl
noncomputable def n22 (call : CallW) : List W → HW → Nat → KW → Bool := appF 3 (R22 boxW 1000000 call)
theorem n22_ok {call : CallW} (h : CallSim Tryz.prog tys stl tab call) : FnGood Tryz.prog tys stl tab 22 (n22 call) := node_ok h (by kernel_rfl) rfl g22 (R22_eq real _ _)
/- (foghorn/block.Plan).Check$2 -/
noncomputable def R23 (q_fadW : Nat → W → (W → Bool) → Bool) (q_loadSW : HW → W → (W → Bool) → Bool) (fu : Nat) (call : CallW) (a0 : W) (h0 : HW) (c0 : Nat) (K : KW) : Bool :=
q_fadW 5 a0 fun v1 =>
q_loadSW h0 v1 fun v2 =>
q_fadW 6 a0 fun v3 =>
q_loadSW h0 v3 fun v4 =>
call 24 [v2, v4] h0 c0 fun v5 h6 c7 =>
K v5 h6 c7
theorem R23_eq (Q : PrimW) (fu : Nat) (call : CallW) : curryA 1 (fnK Q Tryz.prog tys stl fu call e23) = R23 Q.fadW Q.loadSW fu call := by kernel_rfl
noncomputable def n23 (call : CallW) : List W → HW → Nat → KW → Bool := appF 1 (R23 fadW loadSW 1000000 call)
theorem n23_ok {call : CallW} (h : CallSim Tryz.prog tys stl tab call) : FnGood Tryz.prog tys stl tab 23 (n23 call) := node_ok h (by kernel_rfl) rfl g23 (R23_eq real _ _)
/- foghorn/reed.Check -/
noncomputable def R24 (q_share : (α : Type) → α → (α → Bool) → Bool) (q_notW : Option CV → W → (W → Bool) → Bool) (q_condW : W → Bool → Bool → Bool) (q_guardW : Bool → W → Bool → Bool → Bool) (q_pickW : W → W → W → (W → Bool) → Bool) (fu : Nat) (call : CallW) (a0 : W) (a1 : W) (h0 : HW) (c0 : Nat) (K : KW) : Bool :=
call 66 [a1] h0 c0 fun v1 h2 c3 =>
q_notW (two Tryz.prog (dec v1) (Op.unary .not)) v1 fun v4 =>
q_share _ (fun (v6 : W) (h7 : HW) (c8 : Nat) =>
q_share _ (fun (v10 : W) (h11 : HW) (c12 : Nat) =>
q_share _ (fun (v14 : W) (h15 : HW) (c16 : Nat) =>
q_share _ (fun (v18 : W) (h19 : HW) (c20 : Nat) =>
q_pickW v4 ⟨8, 1, r0, []⟩ v18 fun v21 =>
q_condW v21 (
K ⟨3, 1, r0, []⟩ h19 c20) (
K ⟨3, 0, r0, []⟩ h19 c20)) fun f17 =>
q_guardW false v4 (q_notW (two Tryz.prog (dec v14) (Op.unary .not)) v14 fun v22 =>
f17 v22 h15 c16) (f17 wUnd h15 c16)) fun f13 =>
q_guardW false v4 (call 67 [v6, v10] h11 c12 fun v23 h24 c25 =>
f13 v23 h24 c25) (f13 wUnd h11 c12)) fun f9 =>
q_guardW false v4 (f9 a1 h7 c8) (f9 wUnd h7 c8)) fun f5 =>
q_guardW false v4 (f5 a0 h2 c3) (f5 wUnd h2 c3)
theorem R24_eq (Q : PrimW) (fu : Nat) (call : CallW) : curryA 2 (fnK Q Tryz.prog tys stl fu call e24) = R24 Q.share Q.notW Q.condW Q.guardW Q.pickW fu call := by kernel_rfl
noncomputable def n24 (call : CallW) : List W → HW → Nat → KW → Bool := appF 2 (R24 (fun _ x f => f x) notW condW guardW pickW 1000000 call)
theorem n24_ok {call : CallW} (h : CallSim Tryz.prog tys stl tab call) : FnGood Tryz.prog tys stl tab 24 (n24 call) := node_ok h (by kernel_rfl) rfl g24 (R24_eq real _ _)
/- (foghorn/block.Plan).data -/
noncomputable def R25 (q_subW : Nat → Nat → Option CV → W → W → (W → Bool) → Bool) (q_mulW : Nat → Nat → Option CV → W → W → (W → Bool) → Bool) (q_fadW : Nat → W → (W → Bool) → Bool) (q_killVW : W → HW → (HW → Bool) → Bool) (q_loadSW : HW → W → (W → Bool) → Bool) (q_boxW : HW → Nat → W → KW → Bool) (fu : Nat) (call : CallW) (a0 : W) (h0 : HW) (c0 : Nat) (K : KW) : Bool :=
q_boxW h0 c0 a0 fun v1 h2 c3 =>
q_fadW 4 v1 fun v4 =>
q_loadSW h2 v4 fun v5 =>
q_fadW 5 v1 fun v6 =>
q_loadSW h2 v6 fun v7 =>
q_fadW 6 v1 fun v8 =>
q_loadSW h2 v8 fun v9 =>
q_subW 3 9223372036854775807 (binC Tryz.prog .sub 3 (.tmp 6) (.tmp 8) (dec v7) (dec v9)) v7 v9 fun v10 =>
q_mulW 3 9223372036854775807 (binC Tryz.prog .mul 3 (.tmp 4) (.tmp 9) (dec v5) (dec v10)) v5 v10 fun v11 =>
q_killVW v1 h2 fun h12 =>
K v11 h12 c3
theorem R25_eq (Q : PrimW) (fu : Nat) (call : CallW) : curryA 1 (fnK Q Tryz.prog tys stl fu call e25) = R25 Q.subW Q.mulW Q.fadW Q.killVW Q.loadSW Q.boxW fu call := by kernel_rfl
noncomputable def n25 (call : CallW) : List W → HW → Nat → KW → Bool := appF 1 (R25 subW mulW fadW killVW loadSW boxW 1000000 call)
theorem n25_ok {call : CallW} (h : CallSim Tryz.prog tys stl tab call) : FnGood Tryz.prog tys stl tab 25 (n25 call) := node_ok h (by kernel_rfl) rfl g25 (R25_eq real _ _)
/- (foghorn/block.Plan).Check$3 -/
noncomputable def R26 (q_fadW : Nat → W → (W → Bool) → Bool) (q_loadAW : Nat → HW → W → (W → Bool) → Bool) (fu : Nat) (call : CallW) (a0 : W) (h0 : HW) (c0 : Nat) (K : KW) : Bool :=
q_fadW 7 a0 fun v1 =>
q_loadAW 3 h0 v1 fun v2 =>
call 27 [v2] h0 c0 fun v3 h4 c5 =>
K v3 h4 c5
theorem R26_eq (Q : PrimW) (fu : Nat) (call : CallW) : curryA 1 (fnK Q Tryz.prog tys stl fu call e26) = R26 Q.fadW Q.loadAW fu call := by kernel_rfl
noncomputable def n26 (call : CallW) : List W → HW → Nat → KW → Bool := appF 1 (R26 fadW loadAW 1000000 call)
theorem n26_ok {call : CallW} (h : CallSim Tryz.prog tys stl tab call) : FnGood Tryz.prog tys stl tab 26 (n26 call) := node_ok h (by kernel_rfl) rfl g26 (R26_eq real _ _)
/- foghorn/pulse.Check -/
noncomputable def R27 (q_share : (α : Type) → α → (α → Bool) → Bool) (q_genW : Option CV → (W → Bool) → Bool) (q_addW : Nat → Nat → Option CV → W → W → (W → Bool) → Bool) (q_subW : Nat → Nat → Option CV → W → W → (W → Bool) → Bool) (q_remW : Nat → Nat → Option CV → W → W → (W → Bool) → Bool) (q_cmpW : (Nat → Nat → Bool) → Nat → Option CV → W → W → (W → Bool) → Bool) (q_notW : Option CV → W → (W → Bool) → Bool) (q_condW : W → Bool → Bool → Bool) (q_guardW : Bool → W → Bool → Bool → Bool) (q_pickW : W → W → W → (W → Bool) → Bool) (q_fadW : Nat → W → (W → Bool) → Bool) (q_idxSW : Nat → W → W → (W → Bool) → Bool) (q_lenW : Option CV → W → (W → Bool) → Bool) (q_killVW : W → HW → (HW → Bool) → Bool) (q_loadSW : HW → W → (W → Bool) → Bool) (q_boxW : HW → Nat → W → KW → Bool) (fu : Nat) (call : CallW) (a0 : W) (h0 : HW) (c0 : Nat) (K : KW) : Bool :=
q_boxW h0 c0 a0 fun v1 h2 c3 =>
q_fadW 0 v1 fun v4 =>
q_loadSW h2 v4 fun v5 =>
q_cmpW (cmpF2 .lss) 3 (binC Tryz.prog .lss 3 (.tmp 6) (.const (.int .i64 (.ofNat 1))) (dec v5) (dec ⟨3, 1, r0, []⟩)) v5 ⟨3, 1, r0, []⟩ fun v6 =>
q_share _ (fun (v8 : W) (h9 : HW) (c10 : Nat) =>
q_share _ (fun (v12 : W) (h13 : HW) (c14 : Nat) =>
q_share _ (fun (v16 : W) (h17 : HW) (c18 : Nat) =>
q_pickW v6 ⟨8, 1, r0, []⟩ v16 fun v19 =>
q_share _ (fun (v21 : W) (h22 : HW) (c23 : Nat) =>
q_share _ (fun (v25 : W) (h26 : HW) (c27 : Nat) =>
q_share _ (fun (v29 : W) (h30 : HW) (c31 : Nat) =>
q_pickW v19 ⟨8, 1, r0, []⟩ v29 fun v32 =>
q_share _ (fun (v34 : W) (h35 : HW) (c36 : Nat) =>
q_share _ (fun (v38 : W) (h39 : HW) (c40 : Nat) =>
q_share _ (fun (v42 : W) (h43 : HW) (c44 : Nat) =>
q_share _ (fun (v46 : W) (h47 : HW) (c48 : Nat) =>
q_share _ (fun (v50 : W) (h51 : HW) (c52 : Nat) =>
q_share _ (fun (v54 : W) (h55 : HW) (c56 : Nat) =>
q_pickW v32 ⟨8, 1, r0, []⟩ v54 fun v57 =>
q_condW v57 (
q_killVW v1 h55 fun h58 =>
K ⟨3, 1, r0, []⟩ h58 c56) (
q_fadW 2 v1 fun v59 =>
q_loadSW h55 v59 fun v60 =>
call 68 [v60] h55 c56 fun v61 h62 c63 =>
q_notW (two Tryz.prog (dec v61) (Op.unary .not)) v61 fun v64 =>
q_condW v64 (
q_killVW v1 h62 fun h65 =>
K ⟨3, 8, r0, []⟩ h65 c63) (
q_fadW 2 v1 fun v66 =>
q_loadSW h62 v66 fun v67 =>
q_lenW (lenC tys 23 (dec v67)) v67 fun v68 =>
@Nat.rec (fun _ => Fun 1) (fun _ _ _ => false) (fun _ f72 v69 h70 c71 =>
q_cmpW (cmpF2 .lss) 3 (binC Tryz.prog .lss 3 (.tmp 33) (.tmp 32) (dec v69) (dec v68)) v69 v68 fun v73 =>
q_condW v73 (
q_idxSW 1 v67 v69 fun v74 =>
q_loadSW h70 v74 fun v75 =>
q_fadW 1 v1 fun v76 =>
q_loadSW h70 v76 fun v77 =>
q_cmpW (cmpF2 .eql) 3 (binC Tryz.prog .eql 3 (.tmp 38) (.tmp 40) (dec v69) (dec v77)) v69 v77 fun v78 =>
q_share _ (fun (v80 : W) (h81 : HW) (c82 : Nat) =>
q_share _ (fun (v84 : W) (h85 : HW) (c86 : Nat) =>
q_pickW v78 v84 ⟨8, 0, r0, []⟩ fun v87 =>
q_share _ (fun (v89 : W) (h90 : HW) (c91 : Nat) =>
q_share _ (fun (v93 : W) (h94 : HW) (c95 : Nat) =>
q_share _ (fun (v97 : W) (h98 : HW) (c99 : Nat) =>
q_share _ (fun (v101 : W) (h102 : HW) (c103 : Nat) =>
q_share _ (fun (v105 : W) (h106 : HW) (c107 : Nat) =>
q_share _ (fun (v109 : W) (h110 : HW) (c111 : Nat) =>
q_share _ (fun (v113 : W) (h114 : HW) (c115 : Nat) =>
q_share _ (fun (v117 : W) (h118 : HW) (c119 : Nat) =>
q_share _ (fun (v121 : W) (h122 : HW) (c123 : Nat) =>
q_share _ (fun (v125 : W) (h126 : HW) (c127 : Nat) =>
q_share _ (fun (v129 : W) (h130 : HW) (c131 : Nat) =>
q_share _ (fun (v133 : W) (h134 : HW) (c135 : Nat) =>
q_share _ (fun (v137 : W) (h138 : HW) (c139 : Nat) =>
q_share _ (fun (v141 : W) (h142 : HW) (c143 : Nat) =>
q_share _ (fun (v145 : W) (h146 : HW) (c147 : Nat) =>
q_share _ (fun (v149 : W) (h150 : HW) (c151 : Nat) =>
q_share _ (fun (v153 : W) (h154 : HW) (c155 : Nat) =>
q_share _ (fun (v157 : W) (h158 : HW) (c159 : Nat) =>
q_pickW v87 ⟨8, 1, r0, []⟩ v157 fun v160 =>
q_condW v160 (
q_killVW v1 h158 fun h161 =>
K ⟨3, 8, r0, []⟩ h161 c159) (
q_addW 3 9223372036854775807 (binC Tryz.prog .add 3 (.tmp 33) (.const (.int .i64 (.ofNat 1))) (dec v69) (dec ⟨3, 1, r0, []⟩)) v69 ⟨3, 1, r0, []⟩ fun v162 =>
f72 v162 h158 c159)) fun f156 =>
q_guardW false v87 (q_pickW v145 v153 ⟨8, 0, r0, []⟩ fun v163 =>
f156 v163 h154 c155) (f156 wUnd h154 c155)) fun f152 =>
q_guardW true v145 (q_genW (binC Tryz.prog .neq 22 (.tmp 62) (.const (.float .f64 0)) (dec v149) (dec ⟨12, 0, ⟨0, 0, 0, .flt .f64 0⟩, []⟩)) fun v164 =>
f152 v164 h150 c151) (f152 wUnd h150 c151)) fun f148 =>
q_guardW true v145 (f148 v75 h146 c147) (f148 wUnd h146 c147)) fun f144 =>
q_guardW false v87 (f144 v141 h142 c143) (f144 wUnd h142 c143)) fun f140 =>
q_guardW false v87 (q_pickW v105 v137 ⟨8, 0, r0, []⟩ fun v165 =>
f140 v165 h138 c139) (f140 wUnd h138 c139)) fun f136 =>
q_guardW true v105 (q_cmpW (cmpF2 .eql) 3 (binC Tryz.prog .eql 3 (.tmp 58) (.const (.int .i64 (.ofNat 0))) (dec v133) (dec ⟨3, 0, r0, []⟩)) v133 ⟨3, 0, r0, []⟩ fun v166 =>
f136 v166 h134 c135) (f136 wUnd h134 c135)) fun f132 =>
q_guardW true v105 (q_remW 3 9223372036854775807 (binC Tryz.prog .rem 3 (.tmp 55) (.tmp 57) (dec v121) (dec v129)) v121 v129 fun v167 =>
f132 v167 h130 c131) (f132 wUnd h130 c131)) fun f128 =>
q_guardW true v105 (q_loadSW h126 v125 fun v168 =>
f128 v168 h126 c127) (f128 wUnd h126 c127)) fun f124 =>
q_guardW true v105 (q_fadW 0 v1 fun v169 =>
f124 v169 h122 c123) (f124 wUnd h122 c123)) fun f120 =>
q_guardW true v105 (q_subW 3 9223372036854775807 (binC Tryz.prog .sub 3 (.tmp 52) (.tmp 54) (dec v109) (dec v117)) v109 v117 fun v170 =>
f120 v170 h118 c119) (f120 wUnd h118 c119)) fun f116 =>
q_guardW true v105 (q_loadSW h114 v113 fun v171 =>
f116 v171 h114 c115) (f116 wUnd h114 c115)) fun f112 =>
q_guardW true v105 (q_fadW 1 v1 fun v172 =>
f112 v172 h110 c111) (f112 wUnd h110 c111)) fun f108 =>
q_guardW true v105 (f108 v69 h106 c107) (f108 wUnd h106 c107)) fun f104 =>
q_guardW false v87 (f104 v101 h102 c103) (f104 wUnd h102 c103)) fun f100 =>
q_guardW false v87 (q_cmpW (cmpF2 .neq) 3 (binC Tryz.prog .neq 3 (.tmp 47) (.tmp 49) (dec v89) (dec v97)) v89 v97 fun v173 =>
f100 v173 h98 c99) (f100 wUnd h98 c99)) fun f96 =>
q_guardW false v87 (q_loadSW h94 v93 fun v174 =>
f96 v174 h94 c95) (f96 wUnd h94 c95)) fun f92 =>
q_guardW false v87 (q_fadW 1 v1 fun v175 =>
f92 v175 h90 c91) (f92 wUnd h90 c91)) fun f88 =>
q_guardW false v87 (f88 v69 h85 c86) (f88 wUnd h85 c86)) fun f83 =>
q_guardW true v78 (q_genW (binC Tryz.prog .neq 22 (.tmp 43) (.const (.float .f64 4607182418800017408)) (dec v80) (dec ⟨12, 0, ⟨0, 0, 0, .flt .f64 4607182418800017408⟩, []⟩)) fun v176 =>
f83 v176 h81 c82) (f83 wUnd h81 c82)) fun f79 =>
q_guardW true v78 (f79 v75 h70 c71) (f79 wUnd h70 c71)) (
q_killVW v1 h70 fun h177 =>
K ⟨3, 0, r0, []⟩ h177 c71)) fu ⟨3, 0, r0, []⟩ h62 c63))) fun f53 =>
q_guardW false v32 (q_cmpW (cmpF2 .geq) 3 (binC Tryz.prog .geq 3 (.tmp 20) (.tmp 23) (dec v38) (dec v50)) v38 v50 fun v178 =>
f53 v178 h51 c52) (f53 wUnd h51 c52)) fun f49 =>
q_guardW false v32 (q_lenW (lenC tys 23 (dec v46)) v46 fun v179 =>
f49 v179 h47 c48) (f49 wUnd h47 c48)) fun f45 =>
q_guardW false v32 (q_loadSW h43 v42 fun v180 =>
f45 v180 h43 c44) (f45 wUnd h43 c44)) fun f41 =>
q_guardW false v32 (q_fadW 2 v1 fun v181 =>
f41 v181 h39 c40) (f41 wUnd h39 c40)) fun f37 =>
q_guardW false v32 (q_loadSW h35 v34 fun v182 =>
f37 v182 h35 c36) (f37 wUnd h35 c36)) fun f33 =>
q_guardW false v32 (q_fadW 1 v1 fun v183 =>
f33 v183 h30 c31) (f33 wUnd h30 c31)) fun f28 =>
q_guardW false v19 (q_cmpW (cmpF2 .lss) 3 (binC Tryz.prog .lss 3 (.tmp 15) (.const (.int .i64 (.ofNat 0))) (dec v25) (dec ⟨3, 0, r0, []⟩)) v25 ⟨3, 0, r0, []⟩ fun v184 =>
f28 v184 h26 c27) (f28 wUnd h26 c27)) fun f24 =>
q_guardW false v19 (q_loadSW h22 v21 fun v185 =>
f24 v185 h22 c23) (f24 wUnd h22 c23)) fun f20 =>
q_guardW false v19 (q_fadW 1 v1 fun v186 =>
f20 v186 h17 c18) (f20 wUnd h17 c18)) fun f15 =>
q_guardW false v6 (q_cmpW (cmpF2 .gtr) 3 (binC Tryz.prog .gtr 3 (.tmp 10) (.const (.int .i64 (.ofNat 8))) (dec v12) (dec ⟨3, 8, r0, []⟩)) v12 ⟨3, 8, r0, []⟩ fun v187 =>
f15 v187 h13 c14) (f15 wUnd h13 c14)) fun f11 =>
q_guardW false v6 (q_loadSW h9 v8 fun v188 =>
f11 v188 h9 c10) (f11 wUnd h9 c10)) fun f7 =>
q_guardW false v6 (q_fadW 0 v1 fun v189 =>
f7 v189 h2 c3) (f7 wUnd h2 c3)
theorem R27_eq (Q : PrimW) (fu : Nat) (call : CallW) : curryA 1 (fnK Q Tryz.prog tys stl fu call e27) = R27 Q.share Q.genW Q.addW Q.subW Q.remW Q.cmpW Q.notW Q.condW Q.guardW Q.pickW Q.fadW Q.idxSW Q.lenW Q.killVW Q.loadSW Q.boxW fu call := by kernel_rfl
noncomputable def n27 (call : CallW) : List W → HW → Nat → KW → Bool := appF 1 (R27 (fun _ x f => f x) genW addW subW remW cmpW notW condW guardW pickW fadW idxSW lenW killVW loadSW boxW 1000000 call)
theorem n27_ok {call : CallW} (h : CallSim Tryz.prog tys stl tab call) : FnGood Tryz.prog tys stl tab 27 (n27 call) := node_ok h (by kernel_rfl) rfl g27 (R27_eq real _ _)
/- (foghorn/block.Plan).Check$4 -/
noncomputable def R28 (q_tupW : W → (List W → Bool) → Bool) (q_nthW : Nat → List W → (W → Bool) → Bool) (q_killVW : W → HW → (HW → Bool) → Bool) (q_loadAW : Nat → HW → W → (W → Bool) → Bool) (q_storeAW : Nat → HW → W → W → (HW → Bool) → Bool) (q_allocW : Trie W → Nat → Bool → HW → Nat → KW → Bool) (fu : Nat) (call : CallW) (a0 : W) (h0 : HW) (c0 : Nat) (K : KW) : Bool :=
q_loadAW 10 h0 a0 fun v1 =>
call 10 [v1] h0 c0 fun v2 h3 c4 =>
q_tupW v2 fun l5 => q_nthW 0 l5 fun v6 =>
q_tupW v2 fun l7 => q_nthW 1 l7 fun v8 =>
q_allocW (allocT tys 34) 5 true h3 c4 fun v9 h10 c11 =>
q_storeAW 5 h10 v9 v6 fun h12 =>
q_killVW v9 h12 fun h13 =>
K v8 h13 c11
theorem R28_eq (Q : PrimW) (fu : Nat) (call : CallW) : curryA 1 (fnK Q Tryz.prog tys stl fu call e28) = R28 Q.tupW Q.nthW Q.killVW Q.loadAW Q.storeAW Q.allocW fu call := by kernel_rfl
noncomputable def n28 (call : CallW) : List W → HW → Nat → KW → Bool := appF 1 (R28 tupW nthW killVW loadAW storeAW allocW 1000000 call)
theorem n28_ok {call : CallW} (h : CallSim Tryz.prog tys stl tab call) : FnGood Tryz.prog tys stl tab 28 (n28 call) := node_ok h (by kernel_rfl) rfl g28 (R28_eq real _ _)
/- foghorn/hunt.Plan -/
noncomputable def R29 (q_share : (α : Type) → α → (α → Bool) → Bool) (q_addW : Nat → Nat → Option CV → W → W → (W → Bool) → Bool) (q_subW : Nat → Nat → Option CV → W → W → (W → Bool) → Bool) (q_mulW : Nat → Nat → Option CV → W → W → (W → Bool) → Bool) (q_bitW : (Nat → Nat → Nat) → Nat → Nat → Option CV → W → W → (W → Bool) → Bool) (q_cmpW : (Nat → Nat → Bool) → Nat → Option CV → W → W → (W → Bool) → Bool) (q_condW : W → Bool → Bool → Bool) (q_guardW : Bool → W → Bool → Bool → Bool) (q_pickW : W → W → W → (W → Bool) → Bool) (q_fadW : Nat → W → (W → Bool) → Bool) (q_idxAW : Nat → Nat → W → W → (W → Bool) → Bool) (q_tupW : W → (List W → Bool) → Bool) (q_nthW : Nat → List W → (W → Bool) → Bool) (q_onG : W → List W → (FuncId → List W → Bool) → Bool) (q_detW : W → Bool → Bool) (q_killVW : W → HW → (HW → Bool) → Bool) (q_loadSW : HW → W → (W → Bool) → Bool) (q_loadAW : Nat → HW → W → (W → Bool) → Bool) (q_storeSW : HW → W → W → (HW → Bool) → Bool) (q_storeAW : Nat → HW → W → W → (HW → Bool) → Bool) (q_allocW : Trie W → Nat → Bool → HW → Nat → KW → Bool) (q_boxW : HW → Nat → W → KW → Bool) (q_buildSW : Nat → Nat → Kind → Nat → Bool → HW → Nat → Nat → List W → KW → Bool) (q_appSW : Nat → Nat → (Kind → Bool) → Bool → HW → Nat → W → W → Bool → KW → Bool) (q_flatW : W → Bool → Bool) (q_samQW : W → W → Bool → Bool) (fu : Nat) (call : CallW) (a0 : W) (a1 : W) (a2 : W) (a3 : W) (a4 : W) (h0 : HW) (c0 : Nat) (K : KW) : Bool :=
q_boxW h0 c0 a0 fun v1 h2 c3 =>
q_allocW (allocT tys 34) 5 true h2 c3 fun v4 h5 c6 =>
q_loadAW 3 h5 v1 fun v7 =>
call 69 [v7, a1] h5 c6 fun v8 h9 c10 =>
q_tupW v8 fun l11 => q_nthW 0 l11 fun v12 =>
q_tupW v8 fun l13 => q_nthW 1 l13 fun v14 =>
q_cmpW (cmpF2 .neq) 3 (binC Tryz.prog .neq 28 (.tmp 24) (.const (.int .i64 (.ofNat 0))) (dec v14) (dec ⟨3, 0, r0, []⟩)) v14 ⟨3, 0, r0, []⟩ fun v15 =>
q_condW v15 (
(fun (v16 : W) =>
q_storeAW 5 h9 v4 v16 fun h17 =>
q_loadAW 5 h17 v4 fun v18 =>
q_killVW v1 h17 fun h19 =>
q_killVW wUnd h19 fun h20 =>
K ⟨13, 0, r0, [v18, v14]⟩ h20 c10) ⟨15, 0, r0, [⟨3, 0, r0, []⟩, ⟨3, 0, r0, []⟩, ⟨3, 0, r0, []⟩, ⟨12, 0, ⟨0, 0, 0, .nils⟩, []⟩, ⟨3, 0, r0, []⟩]⟩) (
q_cmpW (cmpF2 .lss) 3 (binC Tryz.prog .lss 3 (.tmp 28) (.const (.int .i64 (.ofNat 2))) (dec a2) (dec ⟨3, 2, r0, []⟩)) a2 ⟨3, 2, r0, []⟩ fun v21 =>
q_share _ (fun (v23 : W) (h24 : HW) (c25 : Nat) =>
q_share _ (fun (v27 : W) (h28 : HW) (c29 : Nat) =>
q_pickW v21 ⟨8, 1, r0, []⟩ v27 fun v30 =>
q_share _ (fun (v32 : W) (h33 : HW) (c34 : Nat) =>
q_share _ (fun (v36 : W) (h37 : HW) (c38 : Nat) =>
q_share _ (fun (v40 : W) (h41 : HW) (c42 : Nat) =>
q_share _ (fun (v44 : W) (h45 : HW) (c46 : Nat) =>
q_share _ (fun (v48 : W) (h49 : HW) (c50 : Nat) =>
q_pickW v30 ⟨8, 1, r0, []⟩ v48 fun v51 =>
q_share _ (fun (v53 : W) (h54 : HW) (c55 : Nat) =>
q_share _ (fun (v57 : W) (h58 : HW) (c59 : Nat) =>
q_pickW v51 ⟨8, 1, r0, []⟩ v57 fun v60 =>
q_share _ (fun (v62 : W) (h63 : HW) (c64 : Nat) =>
q_share _ (fun (v66 : W) (h67 : HW) (c68 : Nat) =>
q_pickW v60 ⟨8, 1, r0, []⟩ v66 fun v69 =>
q_condW v69 (
(fun (v70 : W) =>
q_storeAW 5 h67 v4 v70 fun h71 =>
q_loadAW 5 h71 v4 fun v72 =>
q_killVW v1 h71 fun h73 =>
q_killVW wUnd h73 fun h74 =>
K ⟨13, 0, r0, [v72, ⟨3, 1, r0, []⟩]⟩ h74 c68) ⟨15, 0, r0, [⟨3, 0, r0, []⟩, ⟨3, 0, r0, []⟩, ⟨3, 0, r0, []⟩, ⟨12, 0, ⟨0, 0, 0, .nils⟩, []⟩, ⟨3, 0, r0, []⟩]⟩) (
q_loadAW 3 h67 v1 fun v75 =>
call 70 [v75, a3] h67 c68 fun v76 h77 c78 =>
q_tupW v76 fun l79 => q_nthW 0 l79 fun v80 =>
q_tupW v76 fun l81 => q_nthW 1 l81 fun v82 =>
q_cmpW (cmpF2 .neq) 3 (binC Tryz.prog .neq 28 (.tmp 56) (.const (.int .i64 (.ofNat 0))) (dec v82) (dec ⟨3, 0, r0, []⟩)) v82 ⟨3, 0, r0, []⟩ fun v83 =>
q_condW v83 (
(fun (v84 : W) =>
q_storeAW 5 h77 v4 v84 fun h85 =>
q_loadAW 5 h85 v4 fun v86 =>
q_killVW v1 h85 fun h87 =>
q_killVW wUnd h87 fun h88 =>
K ⟨13, 0, r0, [v86, v82]⟩ h88 c78) ⟨15, 0, r0, [⟨3, 0, r0, []⟩, ⟨3, 0, r0, []⟩, ⟨3, 0, r0, []⟩, ⟨12, 0, ⟨0, 0, 0, .nils⟩, []⟩, ⟨3, 0, r0, []⟩]⟩) (
call 71 [v12] h77 c78 fun v89 h90 c91 =>
q_onG v89 [⟨3, 1, r0, []⟩] fun g92 l93 => call g92 l93 h90 c91 fun v94 h95 c96 =>
q_flatW v94 (
(fun (v97 : W) =>
q_allocW (allocT tys 34) 5 true h95 c96 fun v98 h99 c100 =>
q_storeAW 5 h99 v98 v97 fun h101 =>
@Nat.rec (fun _ => Fun 1) (fun _ _ _ => false) (fun _ f105 v102 h103 c104 =>
q_cmpW (cmpF2 .lss) 3 (binC Tryz.prog .lss 3 (.tmp 65) (.const (.int .i64 (.ofNat 2))) (dec v102) (dec ⟨3, 2, r0, []⟩)) v102 ⟨3, 2, r0, []⟩ fun v106 =>
q_condW v106 (
q_fadW 0 v1 fun v107 =>
q_loadSW h103 v107 fun v108 =>
q_mulW 3 9223372036854775807 (binC Tryz.prog .mul 3 (.tmp 70) (.tmp 72) (dec a2) (dec v108)) a2 v108 fun v109 =>
q_onG v89 [v109] fun g110 l111 => call g110 l111 h103 c104 fun v112 h113 c114 =>
q_fadW 1 v98 fun v115 =>
q_idxAW 1 2 v115 v102 fun v116 =>
q_storeSW h113 v116 v112 fun h117 =>
q_addW 3 9223372036854775807 (binC Tryz.prog .add 3 (.tmp 65) (.const (.int .i64 (.ofNat 1))) (dec v102) (dec ⟨3, 1, r0, []⟩)) v102 ⟨3, 1, r0, []⟩ fun v118 =>
f105 v118 h117 c114) (
@Nat.rec (fun _ => Fun 1) (fun _ _ _ => false) (fun _ f122 v119 h120 c121 =>
q_cmpW (cmpF2 .lss) 3 (binC Tryz.prog .lss 3 (.tmp 79) (.tmp 78) (dec v119) (dec a4)) v119 a4 fun v123 =>
q_condW v123 (
q_fadW 3 v98 fun v124 =>
q_detW v124 (
q_loadSW h120 v124 fun v125 =>
q_onG v89 [v80] fun g126 l127 => call g126 l127 h120 c121 fun v128 h129 c130 =>
q_loadSW h129 v124 fun v131 =>
q_samQW v131 v125 (
q_buildSW 1 3 (.ints .i64) 1 true h129 c130 1 [v128] fun v132 h133 c134 =>
q_loadSW h133 v124 fun v135 =>
q_samQW v135 v125 (
q_appSW 8 1 (appKindOk (elemJ tys 32)) false h133 c134 v125 v132 false fun v136 h137 c138 =>
q_fadW 3 v98 fun v139 =>
q_storeSW h137 v139 v136 fun h140 =>
q_killVW v132 h140 fun h141 =>
q_addW 3 9223372036854775807 (binC Tryz.prog .add 3 (.tmp 79) (.const (.int .i64 (.ofNat 1))) (dec v119) (dec ⟨3, 1, r0, []⟩)) v119 ⟨3, 1, r0, []⟩ fun v142 =>
f122 v142 h141 c138)))) (
q_onG v89 [⟨3, 0, r0, []⟩] fun g143 l144 => call g143 l144 h120 c121 fun v145 h146 c147 =>
q_fadW 4 v98 fun v148 =>
q_storeSW h146 v148 v145 fun h149 =>
q_fadW 4 v98 fun v150 =>
q_loadSW h149 v150 fun v151 =>
q_cmpW (cmpF2 .gtr) 3 (binC Tryz.prog .gtr 3 (.tmp 94) (.const (.int .i64 (.ofNat 65536))) (dec v151) (dec ⟨3, 65536, r0, []⟩)) v151 ⟨3, 65536, r0, []⟩ fun v152 =>
q_condW v152 (
(fun (v153 : W) =>
q_storeAW 5 h149 v4 v153 fun h154 =>
q_loadAW 5 h154 v4 fun v155 =>
q_killVW v1 h154 fun h156 =>
q_killVW v98 h156 fun h157 =>
K ⟨13, 0, r0, [v155, ⟨3, 1, r0, []⟩]⟩ h157 c147) ⟨15, 0, r0, [⟨3, 0, r0, []⟩, ⟨3, 0, r0, []⟩, ⟨3, 0, r0, []⟩, ⟨12, 0, ⟨0, 0, 0, .nils⟩, []⟩, ⟨3, 0, r0, []⟩]⟩) (
q_loadAW 5 h149 v98 fun v158 =>
q_storeAW 5 h149 v4 v158 fun h159 =>
q_loadAW 5 h159 v4 fun v160 =>
q_killVW v1 h159 fun h161 =>
q_killVW v98 h161 fun h162 =>
K ⟨13, 0, r0, [v160, ⟨3, 0, r0, []⟩]⟩ h162 c147))) fu ⟨3, 0, r0, []⟩ h103 c104)) fu ⟨3, 0, r0, []⟩ h101 c100) ⟨15, 0, r0, [v94, ⟨3, 0, r0, []⟩, ⟨3, 0, r0, []⟩, ⟨12, 0, ⟨0, 0, 0, .nils⟩, []⟩, ⟨3, 0, r0, []⟩]⟩)))) fun f65 =>
q_guardW false v60 (q_cmpW (cmpF2 .gtr) 3 (binC Tryz.prog .gtr 3 (.tmp 46) (.const (.int .i64 (.ofNat 65536))) (dec v62) (dec ⟨3, 65536, r0, []⟩)) v62 ⟨3, 65536, r0, []⟩ fun v163 =>
f65 v163 h63 c64) (f65 wUnd h63 c64)) fun f61 =>
q_guardW false v60 (f61 a4 h58 c59) (f61 wUnd h58 c59)) fun f56 =>
q_guardW false v51 (q_cmpW (cmpF2 .lss) 3 (binC Tryz.prog .lss 3 (.tmp 42) (.const (.int .i64 (.ofNat 0))) (dec v53) (dec ⟨3, 0, r0, []⟩)) v53 ⟨3, 0, r0, []⟩ fun v164 =>
f56 v164 h54 c55) (f56 wUnd h54 c55)) fun f52 =>
q_guardW false v51 (f52 a4 h49 c50) (f52 wUnd h49 c50)) fun f47 =>
q_guardW false v30 (q_cmpW (cmpF2 .neq) 3 (binC Tryz.prog .neq 3 (.tmp 38) (.const (.int .i64 (.ofNat 0))) (dec v44) (dec ⟨3, 0, r0, []⟩)) v44 ⟨3, 0, r0, []⟩ fun v165 =>
f47 v165 h45 c46) (f47 wUnd h45 c46)) fun f43 =>
q_guardW false v30 (q_bitW Nat.land 3 9223372036854775807 (binC Tryz.prog .and 3 (.tmp 35) (.tmp 37) (dec v32) (dec v40)) v32 v40 fun v166 =>
f43 v166 h41 c42) (f43 wUnd h41 c42)) fun f39 =>
q_guardW false v30 (q_subW 3 9223372036854775807 (binC Tryz.prog .sub 3 (.tmp 36) (.const (.int .i64 (.ofNat 1))) (dec v36) (dec ⟨3, 1, r0, []⟩)) v36 ⟨3, 1, r0, []⟩ fun v167 =>
f39 v167 h37 c38) (f39 wUnd h37 c38)) fun f35 =>
q_guardW false v30 (f35 a2 h33 c34) (f35 wUnd h33 c34)) fun f31 =>
q_guardW false v30 (f31 a2 h28 c29) (f31 wUnd h28 c29)) fun f26 =>
q_guardW false v21 (q_cmpW (cmpF2 .gtr) 3 (binC Tryz.prog .gtr 3 (.tmp 31) (.const (.int .i64 (.ofNat 256))) (dec v23) (dec ⟨3, 256, r0, []⟩)) v23 ⟨3, 256, r0, []⟩ fun v168 =>
f26 v168 h24 c25) (f26 wUnd h24 c25)) fun f22 =>
q_guardW false v21 (f22 a2 h9 c10) (f22 wUnd h9 c10))
theorem R29_eq (Q : PrimW) (fu : Nat) (call : CallW) : curryA 5 (fnK Q Tryz.prog tys stl fu call e29) = R29 Q.share Q.addW Q.subW Q.mulW Q.bitW Q.cmpW Q.condW Q.guardW Q.pickW Q.fadW Q.idxAW Q.tupW Q.nthW Q.onG Q.detW Q.killVW Q.loadSW Q.loadAW Q.storeSW Q.storeAW Q.allocW Q.boxW Q.buildSW Q.appSW Q.flatW Q.samQW fu call := by kernel_rfl
noncomputable def n29 (call : CallW) : List W → HW → Nat → KW → Bool := appF 5 (R29 (fun _ x f => f x) addW subW mulW bitW cmpW condW guardW pickW fadW idxAW tupW nthW onG detW killVW loadSW loadAW storeSW storeAW allocW boxW buildSW appSW flatW samQW 1000000 call)
theorem n29_ok {call : CallW} (h : CallSim Tryz.prog tys stl tab call) : FnGood Tryz.prog tys stl tab 29 (n29 call) := node_ok h (by kernel_rfl) rfl g29 (R29_eq real _ _)
/- (foghorn/block.Plan).points -/
noncomputable def R30 (q_mulW : Nat → Nat → Option CV → W → W → (W → Bool) → Bool) (q_fadW : Nat → W → (W → Bool) → Bool) (q_detW : W → Bool → Bool) (q_knownW : W → Bool → Bool) (q_killVW : W → HW → (HW → Bool) → Bool) (q_loadSW : HW → W → (W → Bool) → Bool) (q_loadAW : Nat → HW → W → (W → Bool) → Bool) (q_boxW : HW → Nat → W → KW → Bool) (q_samQW : W → W → Bool → Bool) (fu : Nat) (call : CallW) (a0 : W) (h0 : HW) (c0 : Nat) (K : KW) : Bool :=
q_boxW h0 c0 a0 fun v1 h2 c3 =>
q_loadAW 10 h2 v1 fun v4 =>
q_fadW 3 v1 fun v5 =>
q_detW v5 (
q_loadSW h2 v5 fun v6 =>
q_mulW 3 9223372036854775807 (binC Tryz.prog .mul 3 (.const (.int .i64 (.ofNat 8))) (.tmp 4) (dec ⟨3, 8, r0, []⟩) (dec v6)) ⟨3, 8, r0, []⟩ v6 fun v7 =>
q_detW v7 (
call 73 [v4] h2 c3 fun v8 h9 c10 =>
q_loadSW h9 v5 fun v11 =>
q_samQW v11 v6 (
call 72 [v7, v8] h9 c10 fun v12 _ _ => q_knownW v12 (
q_killVW v1 h9 fun h13 =>
K v12 h13 c10))))
theorem R30_eq (Q : PrimW) (fu : Nat) (call : CallW) : curryA 1 (fnK Q Tryz.prog tys stl fu call e30) = R30 Q.mulW Q.fadW Q.detW Q.knownW Q.killVW Q.loadSW Q.loadAW Q.boxW Q.samQW fu call := by kernel_rfl
noncomputable def n30 (call : CallW) : List W → HW → Nat → KW → Bool := appF 1 (R30 mulW fadW detW knownW killVW loadSW loadAW boxW samQW 1000000 call)
theorem n30_ok {call : CallW} (h : CallSim Tryz.prog tys stl tab call) : FnGood Tryz.prog tys stl tab 30 (n30 call) := node_ok h (by kernel_rfl) rfl g30 (R30_eq real _ _)
/- (foghorn/block.Plan).blocks -/
noncomputable def R31 (q_fadW : Nat → W → (W → Bool) → Bool) (q_detW : W → Bool → Bool) (q_knownW : W → Bool → Bool) (q_killVW : W → HW → (HW → Bool) → Bool) (q_loadSW : HW → W → (W → Bool) → Bool) (q_loadAW : Nat → HW → W → (W → Bool) → Bool) (q_boxW : HW → Nat → W → KW → Bool) (q_samQW : W → W → Bool → Bool) (fu : Nat) (call : CallW) (a0 : W) (h0 : HW) (c0 : Nat) (K : KW) : Bool :=
q_boxW h0 c0 a0 fun v1 h2 c3 =>
q_loadAW 10 h2 v1 fun v4 =>
q_fadW 3 v1 fun v5 =>
q_detW v5 (
q_loadSW h2 v5 fun v6 =>
call 38 [v4] h2 c3 fun v7 h8 c9 =>
q_loadSW h8 v5 fun v10 =>
q_samQW v10 v6 (
call 72 [v7, v6] h8 c9 fun v11 _ _ => q_knownW v11 (
q_killVW v1 h8 fun h12 =>
K v11 h12 c9)))
theorem R31_eq (Q : PrimW) (fu : Nat) (call : CallW) : curryA 1 (fnK Q Tryz.prog tys stl fu call e31) = R31 Q.fadW Q.detW Q.knownW Q.killVW Q.loadSW Q.loadAW Q.boxW Q.samQW fu call := by kernel_rfl
noncomputable def n31 (call : CallW) : List W → HW → Nat → KW → Bool := appF 1 (R31 fadW detW knownW killVW loadSW loadAW boxW samQW 1000000 call)
theorem n31_ok {call : CallW} (h : CallSim Tryz.prog tys stl tab call) : FnGood Tryz.prog tys stl tab 31 (n31 call) := node_ok h (by kernel_rfl) rfl g31 (R31_eq real _ _)
/- (foghorn/block.Plan).Code$1 -/
noncomputable def R32 (q_genW : Option CV → (W → Bool) → Bool) (q_onG : W → List W → (FuncId → List W → Bool) → Bool) (q_detW : W → Bool → Bool) (q_loadSW : HW → W → (W → Bool) → Bool) (q_loadAW : Nat → HW → W → (W → Bool) → Bool) (q_samQW : W → W → Bool → Bool) (fu : Nat) (call : CallW) (a0 : W) (a1 : W) (h0 : HW) (c0 : Nat) (K : KW) : Bool :=
q_loadAW 10 h0 a1 fun v1 =>
q_loadSW h0 a0 fun v2 =>
q_genW (lenMC Tryz.prog tys ⟨[], 0, decH h0, 0⟩ 9 (dec v2)) fun v3 =>
q_detW v3 (
call 9 [v1] h0 c0 fun v4 h5 c6 =>
q_loadSW h5 a0 fun v7 =>
q_samQW v7 v2 (
call 22 [v3, ⟨3, 0, r0, []⟩, v4] h5 c6 fun v8 h9 c10 =>
q_onG v8 [] fun g11 l12 => call g11 l12 h9 c10 fun v13 h14 c15 =>
K v13 h14 c15))
theorem R32_eq (Q : PrimW) (fu : Nat) (call : CallW) : curryA 2 (fnK Q Tryz.prog tys stl fu call e32) = R32 Q.genW Q.onG Q.detW Q.loadSW Q.loadAW Q.samQW fu call := by kernel_rfl
noncomputable def n32 (call : CallW) : List W → HW → Nat → KW → Bool := appF 2 (R32 genW onG detW loadSW loadAW samQW 1000000 call)
theorem n32_ok {call : CallW} (h : CallSim Tryz.prog tys stl tab call) : FnGood Tryz.prog tys stl tab 32 (n32 call) := node_ok h (by kernel_rfl) rfl g32 (R32_eq real _ _)
/- (foghorn/block.Plan).coded -/
noncomputable def R38 (q_mulW : Nat → Nat → Option CV → W → W → (W → Bool) → Bool) (q_fadW : Nat → W → (W → Bool) → Bool) (q_killVW : W → HW → (HW → Bool) → Bool) (q_loadSW : HW → W → (W → Bool) → Bool) (q_boxW : HW → Nat → W → KW → Bool) (fu : Nat) (call : CallW) (a0 : W) (h0 : HW) (c0 : Nat) (K : KW) : Bool :=
q_boxW h0 c0 a0 fun v1 h2 c3 =>
q_fadW 4 v1 fun v4 =>
q_loadSW h2 v4 fun v5 =>
q_fadW 5 v1 fun v6 =>
q_loadSW h2 v6 fun v7 =>
q_mulW 3 9223372036854775807 (binC Tryz.prog .mul 3 (.tmp 4) (.tmp 6) (dec v5) (dec v7)) v5 v7 fun v8 =>
q_killVW v1 h2 fun h9 =>
K v8 h9 c3
theorem R38_eq (Q : PrimW) (fu : Nat) (call : CallW) : curryA 1 (fnK Q Tryz.prog tys stl fu call e38) = R38 Q.mulW Q.fadW Q.killVW Q.loadSW Q.boxW fu call := by kernel_rfl
noncomputable def n38 (call : CallW) : List W → HW → Nat → KW → Bool := appF 1 (R38 mulW fadW killVW loadSW boxW 1000000 call)
theorem n38_ok {call : CallW} (h : CallSim Tryz.prog tys stl tab call) : FnGood Tryz.prog tys stl tab 38 (n38 call) := node_ok h (by kernel_rfl) rfl g38 (R38_eq real _ _)
/- (foghorn/block.Plan).Hear$1 -/
noncomputable def R43 (q_tupW : W → (List W → Bool) → Bool) (q_nthW : Nat → List W → (W → Bool) → Bool) (q_loadAW : Nat → HW → W → (W → Bool) → Bool) (q_storeAW : Nat → HW → W → W → (HW → Bool) → Bool) (fu : Nat) (call : CallW) (a0 : W) (a1 : W) (h0 : HW) (c0 : Nat) (K : KW) : Bool :=
q_loadAW 10 h0 a0 fun v1 =>
call 5 [v1] h0 c0 fun v2 h3 c4 =>
q_tupW v2 fun l5 => q_nthW 0 l5 fun v6 =>
q_tupW v2 fun l7 => q_nthW 1 l7 fun v8 =>
q_storeAW 5 h3 a1 v6 fun h9 =>
K v8 h9 c4
theorem R43_eq (Q : PrimW) (fu : Nat) (call : CallW) : curryA 2 (fnK Q Tryz.prog tys stl fu call e43) = R43 Q.tupW Q.nthW Q.loadAW Q.storeAW fu call := by kernel_rfl
noncomputable def n43 (call : CallW) : List W → HW → Nat → KW → Bool := appF 2 (R43 tupW nthW loadAW storeAW 1000000 call)
theorem n43_ok {call : CallW} (h : CallSim Tryz.prog tys stl tab call) : FnGood Tryz.prog tys stl tab 43 (n43 call) := node_ok h (by kernel_rfl) rfl g43 (R43_eq real _ _)
/- (foghorn/block.Plan).Hear$2 -/
noncomputable def R44 (q_tupW : W → (List W → Bool) → Bool) (q_nthW : Nat → List W → (W → Bool) → Bool) (q_loadSW : HW → W → (W → Bool) → Bool) (fu : Nat) (call : CallW) (a0 : W) (h0 : HW) (c0 : Nat) (K : KW) : Bool :=
q_loadSW h0 a0 fun v1 =>
call 45 [v1] h0 c0 fun v2 h3 c4 =>
q_tupW v2 fun l5 => q_nthW 0 l5 fun v6 =>
q_tupW v2 fun l7 => q_nthW 1 l7 fun v8 =>
K v8 h3 c4
theorem R44_eq (Q : PrimW) (fu : Nat) (call : CallW) : curryA 1 (fnK Q Tryz.prog tys stl fu call e44) = R44 Q.tupW Q.nthW Q.loadSW fu call := by kernel_rfl
noncomputable def n44 (call : CallW) : List W → HW → Nat → KW → Bool := appF 1 (R44 tupW nthW loadSW 1000000 call)
theorem n44_ok {call : CallW} (h : CallSim Tryz.prog tys stl tab call) : FnGood Tryz.prog tys stl tab 44 (n44 call) := node_ok h (by kernel_rfl) rfl g44 (R44_eq real _ _)
/- foghorn/grid.Check -/
noncomputable def R45 (q_addW : Nat → Nat → Option CV → W → W → (W → Bool) → Bool) (q_cmpW : (Nat → Nat → Bool) → Nat → Option CV → W → W → (W → Bool) → Bool) (q_notW : Option CV → W → (W → Bool) → Bool) (q_condW : W → Bool → Bool → Bool) (q_idxSW : Nat → W → W → (W → Bool) → Bool) (q_lenW : Option CV → W → (W → Bool) → Bool) (q_loadAW : Nat → HW → W → (W → Bool) → Bool) (q_storeAW : Nat → HW → W → W → (HW → Bool) → Bool) (q_allocW : Trie W → Nat → Bool → HW → Nat → KW → Bool) (fu : Nat) (call : CallW) (a0 : W) (h0 : HW) (c0 : Nat) (K : KW) : Bool :=
q_lenW (lenC tys 42 (dec a0)) a0 fun v1 =>
q_cmpW (cmpF2 .gtr) 3 (binC Tryz.prog .gtr 3 (.tmp 7) (.const (.int .i64 (.ofNat 65536))) (dec v1) (dec ⟨3, 65536, r0, []⟩)) v1 ⟨3, 65536, r0, []⟩ fun v2 =>
q_condW v2 (
K ⟨13, 0, r0, [⟨3, 0, r0, []⟩, ⟨3, 1, r0, []⟩]⟩ h0 c0) (
q_lenW (lenC tys 42 (dec a0)) a0 fun v3 =>
@Nat.rec (fun _ => Fun 1) (fun _ _ _ => false) (fun _ f7 v4 h5 c6 =>
q_cmpW (cmpF2 .lss) 3 (binC Tryz.prog .lss 3 (.tmp 11) (.tmp 10) (dec v4) (dec v3)) v4 v3 fun v8 =>
q_condW v8 (
q_idxSW 2 a0 v4 fun v9 =>
q_loadAW 2 h5 v9 fun v10 =>
q_allocW (allocT tys 125) 2 true h5 c6 fun v11 h12 c13 =>
q_storeAW 2 h12 v11 v10 fun h14 =>
q_loadAW 2 h14 v11 fun v15 =>
call 85 [v15] h14 c13 fun v16 h17 c18 =>
q_notW (two Tryz.prog (dec v16) (Op.unary .not)) v16 fun v19 =>
q_condW v19 (
K ⟨13, 0, r0, [v4, ⟨3, 7, r0, []⟩]⟩ h17 c18) (
q_addW 3 9223372036854775807 (binC Tryz.prog .add 3 (.tmp 11) (.const (.int .i64 (.ofNat 1))) (dec v4) (dec ⟨3, 1, r0, []⟩)) v4 ⟨3, 1, r0, []⟩ fun v20 =>
f7 v20 h17 c18)) (
K ⟨13, 0, r0, [⟨3, 0, r0, []⟩, ⟨3, 0, r0, []⟩]⟩ h5 c6)) fu ⟨3, 0, r0, []⟩ h0 c0)
theorem R45_eq (Q : PrimW) (fu : Nat) (call : CallW) : curryA 1 (fnK Q Tryz.prog tys stl fu call e45) = R45 Q.addW Q.cmpW Q.notW Q.condW Q.idxSW Q.lenW Q.loadAW Q.storeAW Q.allocW fu call := by kernel_rfl
noncomputable def n45 (call : CallW) : List W → HW → Nat → KW → Bool := appF 1 (R45 addW cmpW notW condW idxSW lenW loadAW storeAW allocW 1000000 call)
theorem n45_ok {call : CallW} (h : CallSim Tryz.prog tys stl tab call) : FnGood Tryz.prog tys stl tab 45 (n45 call) := node_ok h (by kernel_rfl) rfl g45 (R45_eq real _ _)
/- foghorn/block.lostUnless -/
noncomputable def R46 (q_boxW : HW → Nat → W → KW → Bool) (fu : Nat) (call : CallW) (a0 : W) (h0 : HW) (c0 : Nat) (K : KW) : Bool :=
q_boxW h0 c0 a0 fun v1 h2 c3 =>
(fun (v4 : W) =>
K v4 h2 c3) ⟨14, 86, r0, [v1]⟩
theorem R46_eq (Q : PrimW) (fu : Nat) (call : CallW) : curryA 1 (fnK Q Tryz.prog tys stl fu call e46) = R46 Q.boxW fu call := by kernel_rfl
noncomputable def n46 (call : CallW) : List W → HW → Nat → KW → Bool := appF 1 (R46 boxW 1000000 call)
theorem n46_ok {call : CallW} (h : CallSim Tryz.prog tys stl tab call) : FnGood Tryz.prog tys stl tab 46 (n46 call) := node_ok h (by kernel_rfl) rfl g46 (R46_eq real _ _)
/- (foghorn/block.Plan).Hear$3 -/
noncomputable def R47 (q_subW : Nat → Nat → Option CV → W → W → (W → Bool) → Bool) (q_fadW : Nat → W → (W → Bool) → Bool) (q_lenW : Option CV → W → (W → Bool) → Bool) (q_tupW : W → (List W → Bool) → Bool) (q_nthW : Nat → List W → (W → Bool) → Bool) (q_loadSW : HW → W → (W → Bool) → Bool) (q_storeSW : HW → W → W → (HW → Bool) → Bool) (q_storeAW : Nat → HW → W → W → (HW → Bool) → Bool) (fu : Nat) (call : CallW) (a0 : W) (a1 : W) (a2 : W) (a3 : W) (h0 : HW) (c0 : Nat) (K : KW) : Bool :=
q_loadSW h0 a0 fun v1 =>
q_loadSW h0 a0 fun v2 =>
q_lenW (lenC tys 42 (dec v2)) v2 fun v3 =>
call 48 [v1, ⟨3, 0, r0, []⟩, v3] h0 c0 fun v4 h5 c6 =>
q_tupW v4 fun l7 => q_nthW 0 l7 fun v8 =>
q_tupW v4 fun l9 => q_nthW 1 l9 fun v10 =>
q_fadW 0 a1 fun v11 =>
q_storeAW 3 h5 v11 v8 fun h12 =>
q_fadW 0 a1 fun v13 =>
q_fadW 0 v13 fun v14 =>
q_loadSW h12 v14 fun v15 =>
q_fadW 0 a2 fun v16 =>
q_loadSW h12 v16 fun v17 =>
q_subW 3 9223372036854775807 (binC Tryz.prog .sub 3 (.tmp 15) (.tmp 17) (dec v15) (dec v17)) v15 v17 fun v18 =>
q_storeSW h12 a3 v18 fun h19 =>
K v10 h19 c6
theorem R47_eq (Q : PrimW) (fu : Nat) (call : CallW) : curryA 4 (fnK Q Tryz.prog tys stl fu call e47) = R47 Q.subW Q.fadW Q.lenW Q.tupW Q.nthW Q.loadSW Q.storeSW Q.storeAW fu call := by kernel_rfl
noncomputable def n47 (call : CallW) : List W → HW → Nat → KW → Bool := appF 4 (R47 subW fadW lenW tupW nthW loadSW storeSW storeAW 1000000 call)
theorem n47_ok {call : CallW} (h : CallSim Tryz.prog tys stl tab call) : FnGood Tryz.prog tys stl tab 47 (n47 call) := node_ok h (by kernel_rfl) rfl g47 (R47_eq real _ _)
/- foghorn/hunt.Find -/
noncomputable def R48 (q_share : (α : Type) → α → (α → Bool) → Bool) (q_genW : Option CV → (W → Bool) → Bool) (q_addW : Nat → Nat → Option CV → W → W → (W → Bool) → Bool) (q_cmpW : (Nat → Nat → Bool) → Nat → Option CV → W → W → (W → Bool) → Bool) (q_condW : W → Bool → Bool → Bool) (q_guardW : Bool → W → Bool → Bool → Bool) (q_pickW : W → W → W → (W → Bool) → Bool) (q_fadW : Nat → W → (W → Bool) → Bool) (q_idxSW : Nat → W → W → (W → Bool) → Bool) (q_lenW : Option CV → W → (W → Bool) → Bool) (q_tupW : W → (List W → Bool) → Bool) (q_nthW : Nat → List W → (W → Bool) → Bool) (q_loadSW : HW → W → (W → Bool) → Bool) (q_loadAW : Nat → HW → W → (W → Bool) → Bool) (q_storeAW : Nat → HW → W → W → (HW → Bool) → Bool) (q_allocW : Trie W → Nat → Bool → HW → Nat → KW → Bool) (q_flatW : W → Bool → Bool) (fu : Nat) (call : CallW) (a0 : W) (a1 : W) (a2 : W) (h0 : HW) (c0 : Nat) (K : KW) : Bool :=
q_allocW (allocT tys 54) 3 true h0 c0 fun v1 h2 c3 =>
q_lenW (lenC tys 42 (dec a0)) a0 fun v4 =>
q_cmpW (cmpF2 .gtr) 3 (binC Tryz.prog .gtr 3 (.tmp 13) (.const (.int .i64 (.ofNat 65536))) (dec v4) (dec ⟨3, 65536, r0, []⟩)) v4 ⟨3, 65536, r0, []⟩ fun v5 =>
q_share _ (fun (v7 : W) (h8 : HW) (c9 : Nat) =>
q_share _ (fun (v11 : W) (h12 : HW) (c13 : Nat) =>
q_pickW v5 ⟨8, 1, r0, []⟩ v11 fun v14 =>
q_share _ (fun (v16 : W) (h17 : HW) (c18 : Nat) =>
q_share _ (fun (v20 : W) (h21 : HW) (c22 : Nat) =>
q_share _ (fun (v24 : W) (h25 : HW) (c26 : Nat) =>
q_pickW v14 ⟨8, 1, r0, []⟩ v24 fun v27 =>
q_share _ (fun (v29 : W) (h30 : HW) (c31 : Nat) =>
q_share _ (fun (v33 : W) (h34 : HW) (c35 : Nat) =>
q_share _ (fun (v37 : W) (h38 : HW) (c39 : Nat) =>
q_share _ (fun (v41 : W) (h42 : HW) (c43 : Nat) =>
q_pickW v27 ⟨8, 1, r0, []⟩ v41 fun v44 =>
q_condW v44 (
(fun (v45 : W) =>
q_storeAW 3 h42 v1 v45 fun h46 =>
q_loadAW 3 h46 v1 fun v47 =>
K ⟨13, 0, r0, [v47, ⟨3, 1, r0, []⟩]⟩ h46 c43) ⟨15, 0, r0, [⟨3, 0, r0, []⟩, ⟨12, 0, ⟨0, 0, 0, .flt .f64 0⟩, []⟩, ⟨3, 0, r0, []⟩]⟩) (
q_genW (sliceM tys ⟨[], 0, decH h42, 0⟩ 42 (dec a0) (some (dec a1)) (some (dec a2)) none) fun v48 =>
q_lenW (lenC tys 42 (dec v48)) v48 fun v49 =>
@Nat.rec (fun _ => Fun 1) (fun _ _ _ => false) (fun _ f53 v50 h51 c52 =>
q_cmpW (cmpF2 .lss) 3 (binC Tryz.prog .lss 3 (.tmp 36) (.tmp 35) (dec v50) (dec v49)) v50 v49 fun v54 =>
q_condW v54 (
q_share _ (fun  (h55 : HW) (c56 : Nat) =>
q_addW 3 9223372036854775807 (binC Tryz.prog .add 3 (.tmp 36) (.const (.int .i64 (.ofNat 1))) (dec v50) (dec ⟨3, 1, r0, []⟩)) v50 ⟨3, 1, r0, []⟩ fun v58 =>
f53 v58 h55 c56) fun f57 =>
q_idxSW 2 v48 v50 fun v59 =>
q_loadAW 2 h51 v59 fun v60 =>
q_allocW (allocT tys 125) 2 true h51 c52 fun v61 h62 c63 =>
q_storeAW 2 h62 v61 v60 fun h64 =>
q_fadW 1 v61 fun v65 =>
q_loadSW h64 v65 fun v66 =>
q_condW v66 (
f57 h64 c63) (
q_fadW 0 v61 fun v67 =>
q_loadSW h64 v67 fun v68 =>
call 87 [v68] h64 c63 fun v69 h70 c71 =>
q_tupW v69 fun l72 => q_nthW 0 l72 fun v73 =>
q_tupW v69 fun l74 => q_nthW 1 l74 fun v75 =>
q_genW (binC Tryz.prog .geq 22 (.tmp 49) (.const (.float .f64 4625196817309499392)) (dec v73) (dec ⟨12, 0, ⟨0, 0, 0, .flt .f64 4625196817309499392⟩, []⟩)) fun v76 =>
q_condW v76 (
q_addW 3 9223372036854775807 (binC Tryz.prog .add 3 (.tmp 51) (.tmp 52) (dec a1) (dec v50)) a1 v50 fun v77 =>
call 88 [v73] h70 c71 fun v78 h79 c80 =>
q_flatW v77 (
q_flatW v78 (
q_flatW v75 (
(fun (v81 : W) =>
q_storeAW 3 h79 v1 v81 fun h82 =>
q_loadAW 3 h82 v1 fun v83 =>
K ⟨13, 0, r0, [v83, ⟨3, 0, r0, []⟩]⟩ h82 c80) ⟨15, 0, r0, [v77, v78, v75]⟩)))) (
f57 h70 c71))) (
(fun (v84 : W) =>
q_storeAW 3 h51 v1 v84 fun h85 =>
q_loadAW 3 h85 v1 fun v86 =>
K ⟨13, 0, r0, [v86, ⟨3, 6, r0, []⟩]⟩ h85 c52) ⟨15, 0, r0, [⟨3, 0, r0, []⟩, ⟨12, 0, ⟨0, 0, 0, .flt .f64 0⟩, []⟩, ⟨3, 0, r0, []⟩]⟩)) fu ⟨3, 0, r0, []⟩ h42 c43)) fun f40 =>
q_guardW false v27 (q_cmpW (cmpF2 .gtr) 3 (binC Tryz.prog .gtr 3 (.tmp 25) (.tmp 27) (dec v29) (dec v37)) v29 v37 fun v87 =>
f40 v87 h38 c39) (f40 wUnd h38 c39)) fun f36 =>
q_guardW false v27 (q_lenW (lenC tys 42 (dec v33)) v33 fun v88 =>
f36 v88 h34 c35) (f36 wUnd h34 c35)) fun f32 =>
q_guardW false v27 (f32 a0 h30 c31) (f32 wUnd h30 c31)) fun f28 =>
q_guardW false v27 (f28 a2 h25 c26) (f28 wUnd h25 c26)) fun f23 =>
q_guardW false v14 (q_cmpW (cmpF2 .gtr) 3 (binC Tryz.prog .gtr 3 (.tmp 20) (.tmp 21) (dec v16) (dec v20)) v16 v20 fun v89 =>
f23 v89 h21 c22) (f23 wUnd h21 c22)) fun f19 =>
q_guardW false v14 (f19 a2 h17 c18) (f19 wUnd h17 c18)) fun f15 =>
q_guardW false v14 (f15 a1 h12 c13) (f15 wUnd h12 c13)) fun f10 =>
q_guardW false v5 (q_cmpW (cmpF2 .lss) 3 (binC Tryz.prog .lss 3 (.tmp 16) (.const (.int .i64 (.ofNat 0))) (dec v7) (dec ⟨3, 0, r0, []⟩)) v7 ⟨3, 0, r0, []⟩ fun v90 =>
f10 v90 h8 c9) (f10 wUnd h8 c9)) fun f6 =>
q_guardW false v5 (f6 a1 h2 c3) (f6 wUnd h2 c3)
theorem R48_eq (Q : PrimW) (fu : Nat) (call : CallW) : curryA 3 (fnK Q Tryz.prog tys stl fu call e48) = R48 Q.share Q.genW Q.addW Q.cmpW Q.condW Q.guardW Q.pickW Q.fadW Q.idxSW Q.lenW Q.tupW Q.nthW Q.loadSW Q.loadAW Q.storeAW Q.allocW Q.flatW fu call := by kernel_rfl
noncomputable def n48 (call : CallW) : List W → HW → Nat → KW → Bool := appF 3 (R48 (fun _ x f => f x) genW addW cmpW condW guardW pickW fadW idxSW lenW tupW nthW loadSW loadAW storeAW allocW flatW 1000000 call)
theorem n48_ok {call : CallW} (h : CallSim Tryz.prog tys stl tab call) : FnGood Tryz.prog tys stl tab 48 (n48 call) := node_ok h (by kernel_rfl) rfl g48 (R48_eq real _ _)
/- foghorn/points.of -/
noncomputable def R64 (q_cmpW : (Nat → Nat → Bool) → Nat → Option CV → W → W → (W → Bool) → Bool) (q_condW : W → Bool → Bool → Bool) (q_loadAW : Nat → HW → W → (W → Bool) → Bool) (q_storeAW : Nat → HW → W → W → (HW → Bool) → Bool) (q_allocW : Trie W → Nat → Bool → HW → Nat → KW → Bool) (fu : Nat) (call : CallW) (a0 : W) (h0 : HW) (c0 : Nat) (K : KW) : Bool :=
q_allocW (allocT tys 101) 5 true h0 c0 fun v1 h2 c3 =>
q_cmpW (cmpF2 .eql) 3 (binC Tryz.prog .eql 3 (.tmp 4) (.const (.int .i64 (.ofNat 4))) (dec a0) (dec ⟨3, 4, r0, []⟩)) a0 ⟨3, 4, r0, []⟩ fun v4 =>
q_condW v4 (
call 100 [⟨3, 2, r0, []⟩, ⟨3, 1, r0, []⟩] h2 c3 fun v5 h6 c7 =>
q_storeAW 5 h6 v1 v5 fun h8 =>
q_loadAW 5 h8 v1 fun v9 =>
K ⟨13, 0, r0, [v9, ⟨8, 1, r0, []⟩]⟩ h8 c7) (
q_cmpW (cmpF2 .eql) 3 (binC Tryz.prog .eql 3 (.tmp 4) (.const (.int .i64 (.ofNat 16))) (dec a0) (dec ⟨3, 16, r0, []⟩)) a0 ⟨3, 16, r0, []⟩ fun v10 =>
q_condW v10 (
call 100 [⟨3, 4, r0, []⟩, ⟨3, 3, r0, []⟩] h2 c3 fun v11 h12 c13 =>
q_storeAW 5 h12 v1 v11 fun h14 =>
q_loadAW 5 h14 v1 fun v15 =>
K ⟨13, 0, r0, [v15, ⟨8, 1, r0, []⟩]⟩ h14 c13) (
q_cmpW (cmpF2 .eql) 3 (binC Tryz.prog .eql 3 (.tmp 4) (.const (.int .i64 (.ofNat 32))) (dec a0) (dec ⟨3, 32, r0, []⟩)) a0 ⟨3, 32, r0, []⟩ fun v16 =>
q_condW v16 (
call 101 [⟨3, 5, r0, []⟩, ⟨3, 5, r0, []⟩, ⟨3, 1, r0, []⟩] h2 c3 fun v17 h18 c19 =>
q_storeAW 5 h18 v1 v17 fun h20 =>
q_loadAW 5 h20 v1 fun v21 =>
K ⟨13, 0, r0, [v21, ⟨8, 1, r0, []⟩]⟩ h20 c19) (
q_cmpW (cmpF2 .eql) 3 (binC Tryz.prog .eql 3 (.tmp 4) (.const (.int .i64 (.ofNat 64))) (dec a0) (dec ⟨3, 64, r0, []⟩)) a0 ⟨3, 64, r0, []⟩ fun v22 =>
q_condW v22 (
call 100 [⟨3, 6, r0, []⟩, ⟨3, 7, r0, []⟩] h2 c3 fun v23 h24 c25 =>
q_storeAW 5 h24 v1 v23 fun h26 =>
q_loadAW 5 h26 v1 fun v27 =>
K ⟨13, 0, r0, [v27, ⟨8, 1, r0, []⟩]⟩ h26 c25) (
q_cmpW (cmpF2 .eql) 3 (binC Tryz.prog .eql 3 (.tmp 4) (.const (.int .i64 (.ofNat 128))) (dec a0) (dec ⟨3, 128, r0, []⟩)) a0 ⟨3, 128, r0, []⟩ fun v28 =>
q_condW v28 (
call 101 [⟨3, 7, r0, []⟩, ⟨3, 11, r0, []⟩, ⟨3, 2, r0, []⟩] h2 c3 fun v29 h30 c31 =>
q_storeAW 5 h30 v1 v29 fun h32 =>
q_loadAW 5 h32 v1 fun v33 =>
K ⟨13, 0, r0, [v33, ⟨8, 1, r0, []⟩]⟩ h32 c31) (
q_cmpW (cmpF2 .eql) 3 (binC Tryz.prog .eql 3 (.tmp 4) (.const (.int .i64 (.ofNat 256))) (dec a0) (dec ⟨3, 256, r0, []⟩)) a0 ⟨3, 256, r0, []⟩ fun v34 =>
q_condW v34 (
call 100 [⟨3, 8, r0, []⟩, ⟨3, 15, r0, []⟩] h2 c3 fun v35 h36 c37 =>
q_storeAW 5 h36 v1 v35 fun h38 =>
q_loadAW 5 h38 v1 fun v39 =>
K ⟨13, 0, r0, [v39, ⟨8, 1, r0, []⟩]⟩ h38 c37) (
(fun (v40 : W) =>
q_storeAW 5 h2 v1 v40 fun h41 =>
q_loadAW 5 h41 v1 fun v42 =>
K ⟨13, 0, r0, [v42, ⟨8, 0, r0, []⟩]⟩ h41 c3) ⟨15, 0, r0, [⟨3, 0, r0, []⟩, ⟨3, 0, r0, []⟩, ⟨3, 0, r0, []⟩, ⟨12, 0, ⟨0, 0, 0, .nilf⟩, []⟩, ⟨12, 0, ⟨0, 0, 0, .nilf⟩, []⟩]⟩))))))
theorem R64_eq (Q : PrimW) (fu : Nat) (call : CallW) : curryA 1 (fnK Q Tryz.prog tys stl fu call e64) = R64 Q.cmpW Q.condW Q.loadAW Q.storeAW Q.allocW fu call := by kernel_rfl
noncomputable def n64 (call : CallW) : List W → HW → Nat → KW → Bool := appF 1 (R64 cmpW condW loadAW storeAW allocW 1000000 call)
theorem n64_ok {call : CallW} (h : CallSim Tryz.prog tys stl tab call) : FnGood Tryz.prog tys stl tab 64 (n64 call) := node_ok h (by kernel_rfl) rfl g64 (R64_eq real _ _)
/- foghorn/block.within$1 -/
noncomputable def R65 (q_share : (α : Type) → α → (α → Bool) → Bool) (q_cmpW : (Nat → Nat → Bool) → Nat → Option CV → W → W → (W → Bool) → Bool) (q_condW : W → Bool → Bool → Bool) (q_guardW : Bool → W → Bool → Bool → Bool) (q_pickW : W → W → W → (W → Bool) → Bool) (q_loadSW : HW → W → (W → Bool) → Bool) (fu : Nat) (call : CallW) (a0 : W) (a1 : W) (a2 : W) (h0 : HW) (c0 : Nat) (K : KW) : Bool :=
q_loadSW h0 a0 fun v1 =>
q_loadSW h0 a1 fun v2 =>
q_cmpW (cmpF2 .lss) 3 (binC Tryz.prog .lss 3 (.tmp 4) (.tmp 5) (dec v1) (dec v2)) v1 v2 fun v3 =>
q_share _ (fun (v5 : W) (h6 : HW) (c7 : Nat) =>
q_share _ (fun (v9 : W) (h10 : HW) (c11 : Nat) =>
q_share _ (fun (v13 : W) (h14 : HW) (c15 : Nat) =>
q_pickW v3 ⟨8, 1, r0, []⟩ v13 fun v16 =>
q_condW v16 (
K ⟨3, 1, r0, []⟩ h14 c15) (
K ⟨3, 0, r0, []⟩ h14 c15)) fun f12 =>
q_guardW false v3 (q_cmpW (cmpF2 .gtr) 3 (binC Tryz.prog .gtr 3 (.tmp 8) (.tmp 9) (dec v5) (dec v9)) v5 v9 fun v17 =>
f12 v17 h10 c11) (f12 wUnd h10 c11)) fun f8 =>
q_guardW false v3 (q_loadSW h6 a2 fun v18 =>
f8 v18 h6 c7) (f8 wUnd h6 c7)) fun f4 =>
q_guardW false v3 (q_loadSW h0 a0 fun v19 =>
f4 v19 h0 c0) (f4 wUnd h0 c0)
theorem R65_eq (Q : PrimW) (fu : Nat) (call : CallW) : curryA 3 (fnK Q Tryz.prog tys stl fu call e65) = R65 Q.share Q.cmpW Q.condW Q.guardW Q.pickW Q.loadSW fu call := by kernel_rfl
noncomputable def n65 (call : CallW) : List W → HW → Nat → KW → Bool := appF 3 (R65 (fun _ x f => f x) cmpW condW guardW pickW loadSW 1000000 call)
theorem n65_ok {call : CallW} (h : CallSim Tryz.prog tys stl tab call) : FnGood Tryz.prog tys stl tab 65 (n65 call) := node_ok h (by kernel_rfl) rfl g65 (R65_eq real _ _)
/- foghorn/reed.areChecks -/
noncomputable def R66 (q_share : (α : Type) → α → (α → Bool) → Bool) (q_remW : Nat → Nat → Option CV → W → W → (W → Bool) → Bool) (q_cmpW : (Nat → Nat → Bool) → Nat → Option CV → W → W → (W → Bool) → Bool) (q_guardW : Bool → W → Bool → Bool → Bool) (q_pickW : W → W → W → (W → Bool) → Bool) (fu : Nat) (call : CallW) (a0 : W) (h0 : HW) (c0 : Nat) (K : KW) : Bool :=
q_cmpW (cmpF2 .geq) 3 (binC Tryz.prog .geq 3 (.tmp 3) (.const (.int .i64 (.ofNat 2))) (dec a0) (dec ⟨3, 2, r0, []⟩)) a0 ⟨3, 2, r0, []⟩ fun v1 =>
q_share _ (fun (v3 : W) (h4 : HW) (c5 : Nat) =>
q_share _ (fun (v7 : W) (h8 : HW) (c9 : Nat) =>
q_pickW v1 v7 ⟨8, 0, r0, []⟩ fun v10 =>
q_share _ (fun (v12 : W) (h13 : HW) (c14 : Nat) =>
q_share _ (fun (v16 : W) (h17 : HW) (c18 : Nat) =>
q_share _ (fun (v20 : W) (h21 : HW) (c22 : Nat) =>
q_pickW v10 v20 ⟨8, 0, r0, []⟩ fun v23 =>
K v23 h21 c22) fun f19 =>
q_guardW true v10 (q_cmpW (cmpF2 .eql) 3 (binC Tryz.prog .eql 3 (.tmp 11) (.const (.int .i64 (.ofNat 0))) (dec v16) (dec ⟨3, 0, r0, []⟩)) v16 ⟨3, 0, r0, []⟩ fun v24 =>
f19 v24 h17 c18) (f19 wUnd h17 c18)) fun f15 =>
q_guardW true v10 (q_remW 3 9223372036854775807 (binC Tryz.prog .rem 3 (.tmp 10) (.const (.int .i64 (.ofNat 2))) (dec v12) (dec ⟨3, 2, r0, []⟩)) v12 ⟨3, 2, r0, []⟩ fun v25 =>
f15 v25 h13 c14) (f15 wUnd h13 c14)) fun f11 =>
q_guardW true v10 (f11 a0 h8 c9) (f11 wUnd h8 c9)) fun f6 =>
q_guardW true v1 (q_cmpW (cmpF2 .leq) 3 (binC Tryz.prog .leq 3 (.tmp 6) (.const (.int .i64 (.ofNat 64))) (dec v3) (dec ⟨3, 64, r0, []⟩)) v3 ⟨3, 64, r0, []⟩ fun v26 =>
f6 v26 h4 c5) (f6 wUnd h4 c5)) fun f2 =>
q_guardW true v1 (f2 a0 h0 c0) (f2 wUnd h0 c0)
theorem R66_eq (Q : PrimW) (fu : Nat) (call : CallW) : curryA 1 (fnK Q Tryz.prog tys stl fu call e66) = R66 Q.share Q.remW Q.cmpW Q.guardW Q.pickW fu call := by kernel_rfl
noncomputable def n66 (call : CallW) : List W → HW → Nat → KW → Bool := appF 1 (R66 (fun _ x f => f x) remW cmpW guardW pickW 1000000 call)
theorem n66_ok {call : CallW} (h : CallSim Tryz.prog tys stl tab call) : FnGood Tryz.prog tys stl tab 66 (n66 call) := node_ok h (by kernel_rfl) rfl g66 (R66_eq real _ _)
/- foghorn/reed.isWord -/
noncomputable def R67 (q_share : (α : Type) → α → (α → Bool) → Bool) (q_cmpW : (Nat → Nat → Bool) → Nat → Option CV → W → W → (W → Bool) → Bool) (q_guardW : Bool → W → Bool → Bool → Bool) (q_pickW : W → W → W → (W → Bool) → Bool) (fu : Nat) (call : CallW) (a0 : W) (a1 : W) (h0 : HW) (c0 : Nat) (K : KW) : Bool :=
q_cmpW (cmpF2 .gtr) 3 (binC Tryz.prog .gtr 3 (.tmp 5) (.tmp 6) (dec a0) (dec a1)) a0 a1 fun v1 =>
q_share _ (fun (v3 : W) (h4 : HW) (c5 : Nat) =>
q_share _ (fun (v7 : W) (h8 : HW) (c9 : Nat) =>
q_pickW v1 v7 ⟨8, 0, r0, []⟩ fun v10 =>
K v10 h8 c9) fun f6 =>
q_guardW true v1 (q_cmpW (cmpF2 .leq) 3 (binC Tryz.prog .leq 3 (.tmp 9) (.const (.int .i64 (.ofNat 255))) (dec v3) (dec ⟨3, 255, r0, []⟩)) v3 ⟨3, 255, r0, []⟩ fun v11 =>
f6 v11 h4 c5) (f6 wUnd h4 c5)) fun f2 =>
q_guardW true v1 (f2 a0 h0 c0) (f2 wUnd h0 c0)
theorem R67_eq (Q : PrimW) (fu : Nat) (call : CallW) : curryA 2 (fnK Q Tryz.prog tys stl fu call e67) = R67 Q.share Q.cmpW Q.guardW Q.pickW fu call := by kernel_rfl
noncomputable def n67 (call : CallW) : List W → HW → Nat → KW → Bool := appF 2 (R67 (fun _ x f => f x) cmpW guardW pickW 1000000 call)
theorem n67_ok {call : CallW} (h : CallSim Tryz.prog tys stl tab call) : FnGood Tryz.prog tys stl tab 67 (n67 call) := node_ok h (by kernel_rfl) rfl g67 (R67_eq real _ _)
/- foghorn/bounds.Reals -/
noncomputable def R68 (q_genW : Option CV → (W → Bool) → Bool) (q_addW : Nat → Nat → Option CV → W → W → (W → Bool) → Bool) (q_cmpW : (Nat → Nat → Bool) → Nat → Option CV → W → W → (W → Bool) → Bool) (q_condW : W → Bool → Bool → Bool) (q_idxSW : Nat → W → W → (W → Bool) → Bool) (q_lenW : Option CV → W → (W → Bool) → Bool) (q_loadSW : HW → W → (W → Bool) → Bool) (q_storeSW : HW → W → W → (HW → Bool) → Bool) (q_makeSW : Nat → Nat → Nat → Kind → List W → Bool → HW → Nat → W → W → KW → Bool) (fu : Nat) (call : CallW) (a0 : W) (h0 : HW) (c0 : Nat) (K : KW) : Bool :=
q_lenW (lenC tys 23 (dec a0)) a0 fun v1 =>
q_cmpW (cmpF2 .gtr) 3 (binC Tryz.prog .gtr 3 (.tmp 7) (.const (.int .i64 (.ofNat 64))) (dec v1) (dec ⟨3, 64, r0, []⟩)) v1 ⟨3, 64, r0, []⟩ fun v2 =>
q_condW v2 (
K ⟨8, 0, r0, []⟩ h0 c0) (
q_lenW (lenC tys 23 (dec a0)) a0 fun v3 =>
q_makeSW 16 1 99 (.cpxs .f64) [⟨12, 0, ⟨0, 0, 0, .cpx .f64 0 0⟩, []⟩] true h0 c0 v3 v3 fun v4 h5 c6 =>
q_lenW (lenC tys 23 (dec a0)) a0 fun v7 =>
@Nat.rec (fun _ => Fun 1) (fun _ _ _ => false) (fun _ f11 v8 h9 c10 =>
q_cmpW (cmpF2 .lss) 3 (binC Tryz.prog .lss 3 (.tmp 14) (.tmp 13) (dec v8) (dec v7)) v8 v7 fun v12 =>
q_condW v12 (
q_idxSW 1 a0 v8 fun v13 =>
q_loadSW h9 v13 fun v14 =>
q_genW (two2 Tryz.prog (dec v14) (dec ⟨12, 0, ⟨0, 0, 0, .flt .f64 0⟩, []⟩) fun v u => Builtin.complex_ #[22, 22] 78 #[v, u]) fun v15 =>
q_idxSW 1 v4 v8 fun v16 =>
q_storeSW h9 v16 v15 fun h17 =>
q_addW 3 9223372036854775807 (binC Tryz.prog .add 3 (.tmp 14) (.const (.int .i64 (.ofNat 1))) (dec v8) (dec ⟨3, 1, r0, []⟩)) v8 ⟨3, 1, r0, []⟩ fun v18 =>
f11 v18 h17 c10) (
call 91 [v4] h9 c10 fun v19 h20 c21 =>
K v19 h20 c21)) fu ⟨3, 0, r0, []⟩ h5 c6)
theorem R68_eq (Q : PrimW) (fu : Nat) (call : CallW) : curryA 1 (fnK Q Tryz.prog tys stl fu call e68) = R68 Q.genW Q.addW Q.cmpW Q.condW Q.idxSW Q.lenW Q.loadSW Q.storeSW Q.makeSW fu call := by kernel_rfl
noncomputable def n68 (call : CallW) : List W → HW → Nat → KW → Bool := appF 1 (R68 genW addW cmpW condW idxSW lenW loadSW storeSW makeSW 1000000 call)
theorem n68_ok {call : CallW} (h : CallSim Tryz.prog tys stl tab call) : FnGood Tryz.prog tys stl tab 68 (n68 call) := node_ok h (by kernel_rfl) rfl g68 (R68_eq real _ _)
/- foghorn/hunt.Guard -/
noncomputable def R69 (q_share : (α : Type) → α → (α → Bool) → Bool) (q_addW : Nat → Nat → Option CV → W → W → (W → Bool) → Bool) (q_mulW : Nat → Nat → Option CV → W → W → (W → Bool) → Bool) (q_cmpW : (Nat → Nat → Bool) → Nat → Option CV → W → W → (W → Bool) → Bool) (q_condW : W → Bool → Bool → Bool) (q_guardW : Bool → W → Bool → Bool → Bool) (q_pickW : W → W → W → (W → Bool) → Bool) (q_fadW : Nat → W → (W → Bool) → Bool) (q_lenW : Option CV → W → (W → Bool) → Bool) (q_killVW : W → HW → (HW → Bool) → Bool) (q_loadSW : HW → W → (W → Bool) → Bool) (q_loadAW : Nat → HW → W → (W → Bool) → Bool) (q_boxW : HW → Nat → W → KW → Bool) (fu : Nat) (call : CallW) (a0 : W) (a1 : W) (h0 : HW) (c0 : Nat) (K : KW) : Bool :=
q_boxW h0 c0 a0 fun v1 h2 c3 =>
q_loadAW 3 h2 v1 fun v4 =>
call 27 [v4] h2 c3 fun v5 h6 c7 =>
q_cmpW (cmpF2 .neq) 3 (binC Tryz.prog .neq 28 (.tmp 9) (.const (.int .i64 (.ofNat 0))) (dec v5) (dec ⟨3, 0, r0, []⟩)) v5 ⟨3, 0, r0, []⟩ fun v8 =>
q_condW v8 (
q_killVW v1 h6 fun h9 =>
K ⟨13, 0, r0, [⟨3, 0, r0, []⟩, v5]⟩ h9 c7) (
q_cmpW (cmpF2 .lss) 3 (binC Tryz.prog .lss 3 (.tmp 12) (.const (.int .i64 (.ofNat 1))) (dec a1) (dec ⟨3, 1, r0, []⟩)) a1 ⟨3, 1, r0, []⟩ fun v10 =>
q_share _ (fun (v12 : W) (h13 : HW) (c14 : Nat) =>
q_share _ (fun (v16 : W) (h17 : HW) (c18 : Nat) =>
q_pickW v10 ⟨8, 1, r0, []⟩ v16 fun v19 =>
q_condW v19 (
q_killVW v1 h17 fun h20 =>
K ⟨13, 0, r0, [⟨3, 0, r0, []⟩, ⟨3, 1, r0, []⟩]⟩ h20 c18) (
q_fadW 0 v1 fun v21 =>
q_loadSW h17 v21 fun v22 =>
q_addW 3 9223372036854775807 (binC Tryz.prog .add 3 (.tmp 20) (.const (.int .i64 (.ofNat 1))) (dec a1) (dec ⟨3, 1, r0, []⟩)) a1 ⟨3, 1, r0, []⟩ fun v23 =>
q_mulW 3 9223372036854775807 (binC Tryz.prog .mul 3 (.tmp 19) (.tmp 21) (dec v22) (dec v23)) v22 v23 fun v24 =>
q_fadW 2 v1 fun v25 =>
q_loadSW h17 v25 fun v26 =>
q_lenW (lenC tys 23 (dec v26)) v26 fun v27 =>
q_addW 3 9223372036854775807 (binC Tryz.prog .add 3 (.tmp 22) (.tmp 25) (dec v24) (dec v27)) v24 v27 fun v28 =>
q_killVW v1 h17 fun h29 =>
K ⟨13, 0, r0, [v28, ⟨3, 0, r0, []⟩]⟩ h29 c18)) fun f15 =>
q_guardW false v10 (q_cmpW (cmpF2 .gtr) 3 (binC Tryz.prog .gtr 3 (.tmp 15) (.const (.int .i64 (.ofNat 64))) (dec v12) (dec ⟨3, 64, r0, []⟩)) v12 ⟨3, 64, r0, []⟩ fun v30 =>
f15 v30 h13 c14) (f15 wUnd h13 c14)) fun f11 =>
q_guardW false v10 (f11 a1 h6 c7) (f11 wUnd h6 c7))
theorem R69_eq (Q : PrimW) (fu : Nat) (call : CallW) : curryA 2 (fnK Q Tryz.prog tys stl fu call e69) = R69 Q.share Q.addW Q.mulW Q.cmpW Q.condW Q.guardW Q.pickW Q.fadW Q.lenW Q.killVW Q.loadSW Q.loadAW Q.boxW fu call := by kernel_rfl
noncomputable def n69 (call : CallW) : List W → HW → Nat → KW → Bool := appF 2 (R69 (fun _ x f => f x) addW mulW cmpW condW guardW pickW fadW lenW killVW loadSW loadAW boxW 1000000 call)
theorem n69_ok {call : CallW} (h : CallSim Tryz.prog tys stl tab call) : FnGood Tryz.prog tys stl tab 69 (n69 call) := node_ok h (by kernel_rfl) rfl g69 (R69_eq real _ _)
/- foghorn/pulse.Length -/
noncomputable def R70 (q_share : (α : Type) → α → (α → Bool) → Bool) (q_addW : Nat → Nat → Option CV → W → W → (W → Bool) → Bool) (q_subW : Nat → Nat → Option CV → W → W → (W → Bool) → Bool) (q_mulW : Nat → Nat → Option CV → W → W → (W → Bool) → Bool) (q_cmpW : (Nat → Nat → Bool) → Nat → Option CV → W → W → (W → Bool) → Bool) (q_condW : W → Bool → Bool → Bool) (q_guardW : Bool → W → Bool → Bool → Bool) (q_pickW : W → W → W → (W → Bool) → Bool) (q_fadW : Nat → W → (W → Bool) → Bool) (q_lenW : Option CV → W → (W → Bool) → Bool) (q_killVW : W → HW → (HW → Bool) → Bool) (q_loadSW : HW → W → (W → Bool) → Bool) (q_loadAW : Nat → HW → W → (W → Bool) → Bool) (q_boxW : HW → Nat → W → KW → Bool) (fu : Nat) (call : CallW) (a0 : W) (a1 : W) (h0 : HW) (c0 : Nat) (K : KW) : Bool :=
q_boxW h0 c0 a0 fun v1 h2 c3 =>
q_loadAW 3 h2 v1 fun v4 =>
call 27 [v4] h2 c3 fun v5 h6 c7 =>
q_cmpW (cmpF2 .neq) 3 (binC Tryz.prog .neq 28 (.tmp 10) (.const (.int .i64 (.ofNat 0))) (dec v5) (dec ⟨3, 0, r0, []⟩)) v5 ⟨3, 0, r0, []⟩ fun v8 =>
q_condW v8 (
q_killVW v1 h6 fun h9 =>
K ⟨13, 0, r0, [⟨3, 0, r0, []⟩, v5]⟩ h9 c7) (
q_cmpW (cmpF2 .lss) 3 (binC Tryz.prog .lss 3 (.tmp 13) (.const (.int .i64 (.ofNat 0))) (dec a1) (dec ⟨3, 0, r0, []⟩)) a1 ⟨3, 0, r0, []⟩ fun v10 =>
q_share _ (fun (v12 : W) (h13 : HW) (c14 : Nat) =>
q_share _ (fun (v16 : W) (h17 : HW) (c18 : Nat) =>
q_pickW v10 ⟨8, 1, r0, []⟩ v16 fun v19 =>
q_condW v19 (
q_killVW v1 h17 fun h20 =>
K ⟨13, 0, r0, [⟨3, 0, r0, []⟩, ⟨3, 1, r0, []⟩]⟩ h20 c18) (
q_cmpW (cmpF2 .eql) 3 (binC Tryz.prog .eql 3 (.tmp 19) (.const (.int .i64 (.ofNat 0))) (dec a1) (dec ⟨3, 0, r0, []⟩)) a1 ⟨3, 0, r0, []⟩ fun v21 =>
q_condW v21 (
q_killVW v1 h17 fun h22 =>
K ⟨13, 0, r0, [⟨3, 0, r0, []⟩, ⟨3, 0, r0, []⟩]⟩ h22 c18) (
q_subW 3 9223372036854775807 (binC Tryz.prog .sub 3 (.tmp 21) (.const (.int .i64 (.ofNat 1))) (dec a1) (dec ⟨3, 1, r0, []⟩)) a1 ⟨3, 1, r0, []⟩ fun v23 =>
q_fadW 0 v1 fun v24 =>
q_loadSW h17 v24 fun v25 =>
q_mulW 3 9223372036854775807 (binC Tryz.prog .mul 3 (.tmp 22) (.tmp 24) (dec v23) (dec v25)) v23 v25 fun v26 =>
q_fadW 2 v1 fun v27 =>
q_loadSW h17 v27 fun v28 =>
q_lenW (lenC tys 23 (dec v28)) v28 fun v29 =>
q_addW 3 9223372036854775807 (binC Tryz.prog .add 3 (.tmp 25) (.tmp 28) (dec v26) (dec v29)) v26 v29 fun v30 =>
q_cmpW (cmpF2 .gtr) 3 (binC Tryz.prog .gtr 3 (.tmp 30) (.const (.int .i64 (.ofNat 65536))) (dec v30) (dec ⟨3, 65536, r0, []⟩)) v30 ⟨3, 65536, r0, []⟩ fun v31 =>
q_condW v31 (
q_killVW v1 h17 fun h32 =>
K ⟨13, 0, r0, [⟨3, 0, r0, []⟩, ⟨3, 1, r0, []⟩]⟩ h32 c18) (
q_killVW v1 h17 fun h33 =>
K ⟨13, 0, r0, [v30, ⟨3, 0, r0, []⟩]⟩ h33 c18)))) fun f15 =>
q_guardW false v10 (q_cmpW (cmpF2 .gtr) 3 (binC Tryz.prog .gtr 3 (.tmp 16) (.const (.int .i64 (.ofNat 65536))) (dec v12) (dec ⟨3, 65536, r0, []⟩)) v12 ⟨3, 65536, r0, []⟩ fun v34 =>
f15 v34 h13 c14) (f15 wUnd h13 c14)) fun f11 =>
q_guardW false v10 (f11 a1 h6 c7) (f11 wUnd h6 c7))
theorem R70_eq (Q : PrimW) (fu : Nat) (call : CallW) : curryA 2 (fnK Q Tryz.prog tys stl fu call e70) = R70 Q.share Q.addW Q.subW Q.mulW Q.cmpW Q.condW Q.guardW Q.pickW Q.fadW Q.lenW Q.killVW Q.loadSW Q.loadAW Q.boxW fu call := by kernel_rfl
noncomputable def n70 (call : CallW) : List W → HW → Nat → KW → Bool := appF 2 (R70 (fun _ x f => f x) addW subW mulW cmpW condW guardW pickW fadW lenW killVW loadSW loadAW boxW 1000000 call)
theorem n70_ok {call : CallW} (h : CallSim Tryz.prog tys stl tab call) : FnGood Tryz.prog tys stl tab 70 (n70 call) := node_ok h (by kernel_rfl) rfl g70 (R70_eq real _ _)
/- foghorn/hunt.laying -/
noncomputable def R71 (q_loadSW : HW → W → (W → Bool) → Bool) (q_storeSW : HW → W → W → (HW → Bool) → Bool) (q_allocW : Trie W → Nat → Bool → HW → Nat → KW → Bool) (q_boxW : HW → Nat → W → KW → Bool) (fu : Nat) (call : CallW) (a0 : W) (h0 : HW) (c0 : Nat) (K : KW) : Bool :=
q_boxW h0 c0 a0 fun v1 h2 c3 =>
q_loadSW h2 v1 fun v4 =>
q_allocW (allocT tys 3) 1 true h2 c3 fun v5 h6 c7 =>
q_storeSW h6 v5 v4 fun h8 =>
(fun (v9 : W) =>
K v9 h8 c7) ⟨14, 102, r0, [v5, v1]⟩
theorem R71_eq (Q : PrimW) (fu : Nat) (call : CallW) : curryA 1 (fnK Q Tryz.prog tys stl fu call e71) = R71 Q.loadSW Q.storeSW Q.allocW Q.boxW fu call := by kernel_rfl
noncomputable def n71 (call : CallW) : List W → HW → Nat → KW → Bool := appF 1 (R71 loadSW storeSW allocW boxW 1000000 call)
theorem n71_ok {call : CallW} (h : CallSim Tryz.prog tys stl tab call) : FnGood Tryz.prog tys stl tab 71 (n71 call) := node_ok h (by kernel_rfl) rfl g71 (R71_eq real _ _)
/- foghorn/block.upward -/
noncomputable def R72 (q_addW : Nat → Nat → Option CV → W → W → (W → Bool) → Bool) (q_subW : Nat → Nat → Option CV → W → W → (W → Bool) → Bool) (q_quoW : Nat → Nat → Option CV → W → W → (W → Bool) → Bool) (fu : Nat) (call : CallW) (a0 : W) (a1 : W) (h0 : HW) (c0 : Nat) (K : KW) : Bool :=
q_addW 3 9223372036854775807 (binC Tryz.prog .add 3 (.tmp 5) (.tmp 6) (dec a0) (dec a1)) a0 a1 fun v1 =>
q_subW 3 9223372036854775807 (binC Tryz.prog .sub 3 (.tmp 7) (.const (.int .i64 (.ofNat 1))) (dec v1) (dec ⟨3, 1, r0, []⟩)) v1 ⟨3, 1, r0, []⟩ fun v2 =>
q_quoW 3 9223372036854775807 (binC Tryz.prog .quo 3 (.tmp 8) (.tmp 9) (dec v2) (dec a1)) v2 a1 fun v3 =>
K v3 h0 c0
theorem R72_eq (Q : PrimW) (fu : Nat) (call : CallW) : curryA 2 (fnK Q Tryz.prog tys stl fu call e72) = R72 Q.addW Q.subW Q.quoW fu call := by kernel_rfl
noncomputable def n72 (call : CallW) : List W → HW → Nat → KW → Bool := appF 2 (R72 addW subW quoW 1000000 call)
theorem n72_ok {call : CallW} (h : CallSim Tryz.prog tys stl tab call) : FnGood Tryz.prog tys stl tab 72 (n72 call) := node_ok h (by kernel_rfl) rfl g72 (R72_eq real _ _)
/- (foghorn/block.Plan).bits -/
noncomputable def R73 (q_fadW : Nat → W → (W → Bool) → Bool) (q_tupW : W → (List W → Bool) → Bool) (q_nthW : Nat → List W → (W → Bool) → Bool) (q_killVW : W → HW → (HW → Bool) → Bool) (q_loadSW : HW → W → (W → Bool) → Bool) (q_boxW : HW → Nat → W → KW → Bool) (fu : Nat) (call : CallW) (a0 : W) (h0 : HW) (c0 : Nat) (K : KW) : Bool :=
q_boxW h0 c0 a0 fun v1 h2 c3 =>
q_fadW 0 v1 fun v4 =>
q_loadSW h2 v4 fun v5 =>
call 21 [v5] h2 c3 fun v6 h7 c8 =>
q_tupW v6 fun l9 => q_nthW 0 l9 fun v10 =>
q_tupW v6 fun l11 => q_nthW 1 l11 fun v12 =>
q_killVW v1 h7 fun h13 =>
K v10 h13 c8
theorem R73_eq (Q : PrimW) (fu : Nat) (call : CallW) : curryA 1 (fnK Q Tryz.prog tys stl fu call e73) = R73 Q.fadW Q.tupW Q.nthW Q.killVW Q.loadSW Q.boxW fu call := by kernel_rfl
noncomputable def n73 (call : CallW) : List W → HW → Nat → KW → Bool := appF 1 (R73 fadW tupW nthW killVW loadSW boxW 1000000 call)
theorem n73_ok {call : CallW} (h : CallSim Tryz.prog tys stl tab call) : FnGood Tryz.prog tys stl tab 73 (n73 call) := node_ok h (by kernel_rfl) rfl g73 (R73_eq real _ _)
/- foghorn/grid.mayBe -/
noncomputable def R85 (q_share : (α : Type) → α → (α → Bool) → Bool) (q_genW : Option CV → (W → Bool) → Bool) (q_condW : W → Bool → Bool → Bool) (q_guardW : Bool → W → Bool → Bool → Bool) (q_pickW : W → W → W → (W → Bool) → Bool) (q_fadW : Nat → W → (W → Bool) → Bool) (q_killVW : W → HW → (HW → Bool) → Bool) (q_loadSW : HW → W → (W → Bool) → Bool) (q_boxW : HW → Nat → W → KW → Bool) (fu : Nat) (call : CallW) (a0 : W) (h0 : HW) (c0 : Nat) (K : KW) : Bool :=
q_boxW h0 c0 a0 fun v1 h2 c3 =>
q_fadW 1 v1 fun v4 =>
q_loadSW h2 v4 fun v5 =>
q_condW v5 (
q_fadW 0 v1 fun v6 =>
q_loadSW h2 v6 fun v7 =>
q_genW (two Tryz.prog (dec v7) fun v => Builtin.real_ #[78] 22 #[v]) fun v8 =>
q_genW (binC Tryz.prog .eql 22 (.tmp 7) (.const (.float .f64 0)) (dec v8) (dec ⟨12, 0, ⟨0, 0, 0, .flt .f64 0⟩, []⟩)) fun v9 =>
q_share _ (fun (v11 : W) (h12 : HW) (c13 : Nat) =>
q_share _ (fun (v15 : W) (h16 : HW) (c17 : Nat) =>
q_share _ (fun (v19 : W) (h20 : HW) (c21 : Nat) =>
q_share _ (fun (v23 : W) (h24 : HW) (c25 : Nat) =>
q_pickW v9 v23 ⟨8, 0, r0, []⟩ fun v26 =>
q_killVW v1 h24 fun h27 =>
K v26 h27 c25) fun f22 =>
q_guardW true v9 (q_genW (binC Tryz.prog .eql 22 (.tmp 12) (.const (.float .f64 0)) (dec v19) (dec ⟨12, 0, ⟨0, 0, 0, .flt .f64 0⟩, []⟩)) fun v28 =>
f22 v28 h20 c21) (f22 wUnd h20 c21)) fun f18 =>
q_guardW true v9 (q_genW (two Tryz.prog (dec v15) fun v => Builtin.imag_ #[78] 22 #[v]) fun v29 =>
f18 v29 h16 c17) (f18 wUnd h16 c17)) fun f14 =>
q_guardW true v9 (q_loadSW h12 v11 fun v30 =>
f14 v30 h12 c13) (f14 wUnd h12 c13)) fun f10 =>
q_guardW true v9 (q_fadW 0 v1 fun v31 =>
f10 v31 h2 c3) (f10 wUnd h2 c3)) (
q_fadW 0 v1 fun v32 =>
q_loadSW h2 v32 fun v33 =>
q_genW (two Tryz.prog (dec v33) fun v => Builtin.real_ #[78] 22 #[v]) fun v34 =>
call 113 [v34] h2 c3 fun v35 h36 c37 =>
q_share _ (fun (v39 : W) (h40 : HW) (c41 : Nat) =>
q_share _ (fun (v43 : W) (h44 : HW) (c45 : Nat) =>
q_share _ (fun (v47 : W) (h48 : HW) (c49 : Nat) =>
q_share _ (fun (v51 : W) (h52 : HW) (c53 : Nat) =>
q_pickW v35 v51 ⟨8, 0, r0, []⟩ fun v54 =>
q_killVW v1 h52 fun h55 =>
K v54 h55 c53) fun f50 =>
q_guardW true v35 (call 113 [v47] h48 c49 fun v56 h57 c58 =>
f50 v56 h57 c58) (f50 wUnd h48 c49)) fun f46 =>
q_guardW true v35 (q_genW (two Tryz.prog (dec v43) fun v => Builtin.imag_ #[78] 22 #[v]) fun v59 =>
f46 v59 h44 c45) (f46 wUnd h44 c45)) fun f42 =>
q_guardW true v35 (q_loadSW h40 v39 fun v60 =>
f42 v60 h40 c41) (f42 wUnd h40 c41)) fun f38 =>
q_guardW true v35 (q_fadW 0 v1 fun v61 =>
f38 v61 h36 c37) (f38 wUnd h36 c37))
theorem R85_eq (Q : PrimW) (fu : Nat) (call : CallW) : curryA 1 (fnK Q Tryz.prog tys stl fu call e85) = R85 Q.share Q.genW Q.condW Q.guardW Q.pickW Q.fadW Q.killVW Q.loadSW Q.boxW fu call := by kernel_rfl
noncomputable def n85 (call : CallW) : List W → HW → Nat → KW → Bool := appF 1 (R85 (fun _ x f => f x) genW condW guardW pickW fadW killVW loadSW boxW 1000000 call)
theorem n85_ok {call : CallW} (h : CallSim Tryz.prog tys stl tab call) : FnGood Tryz.prog tys stl tab 85 (n85 call) := node_ok h (by kernel_rfl) rfl g85 (R85_eq real _ _)
/- foghorn/block.lostUnless$1 -/
noncomputable def R86 (q_cmpW : (Nat → Nat → Bool) → Nat → Option CV → W → W → (W → Bool) → Bool) (q_condW : W → Bool → Bool → Bool) (q_onG : W → List W → (FuncId → List W → Bool) → Bool) (q_loadSW : HW → W → (W → Bool) → Bool) (fu : Nat) (call : CallW) (a0 : W) (h0 : HW) (c0 : Nat) (K : KW) : Bool :=
q_loadSW h0 a0 fun v1 =>
q_onG v1 [] fun g2 l3 => call g2 l3 h0 c0 fun v4 h5 c6 =>
q_cmpW (cmpF2 .neq) 3 (binC Tryz.prog .neq 28 (.tmp 3) (.const (.int .i64 (.ofNat 0))) (dec v4) (dec ⟨3, 0, r0, []⟩)) v4 ⟨3, 0, r0, []⟩ fun v7 =>
q_condW v7 (
K ⟨3, 9, r0, []⟩ h5 c6) (
K ⟨3, 0, r0, []⟩ h5 c6)
theorem R86_eq (Q : PrimW) (fu : Nat) (call : CallW) : curryA 1 (fnK Q Tryz.prog tys stl fu call e86) = R86 Q.cmpW Q.condW Q.onG Q.loadSW fu call := by kernel_rfl
noncomputable def n86 (call : CallW) : List W → HW → Nat → KW → Bool := appF 1 (R86 cmpW condW onG loadSW 1000000 call)
theorem n86_ok {call : CallW} (h : CallSim Tryz.prog tys stl tab call) : FnGood Tryz.prog tys stl tab 86 (n86 call) := node_ok h (by kernel_rfl) rfl g86 (R86_eq real _ _)
/- foghorn/hunt.greater -/
noncomputable def R87 (q_share : (α : Type) → α → (α → Bool) → Bool) (q_genW : Option CV → (W → Bool) → Bool) (q_condW : W → Bool → Bool → Bool) (q_guardW : Bool → W → Bool → Bool → Bool) (q_pickW : W → W → W → (W → Bool) → Bool) (fu : Nat) (call : CallW) (a0 : W) (h0 : HW) (c0 : Nat) (K : KW) : Bool :=
q_genW (two Tryz.prog (dec a0) fun v => Builtin.real_ #[78] 22 #[v]) fun v1 =>
call 114 [v1] h0 c0 fun v2 h3 c4 =>
q_genW (two Tryz.prog (dec a0) fun v => Builtin.imag_ #[78] 22 #[v]) fun v5 =>
call 114 [v5] h3 c4 fun v6 h7 c8 =>
q_genW (binC Tryz.prog .gtr 22 (.tmp 12) (.tmp 13) (dec v6) (dec v2)) fun v9 =>
q_share _ (fun (v11 : W) (h12 : HW) (c13 : Nat) =>
q_share _ (fun (v15 : W) (h16 : HW) (c17 : Nat) =>
q_pickW v9 ⟨8, 1, r0, []⟩ v15 fun v18 =>
q_condW v18 (
q_genW (two Tryz.prog (dec a0) fun v => Builtin.imag_ #[78] 22 #[v]) fun v19 =>
q_genW (binC Tryz.prog .gtr 22 (.tmp 20) (.const (.float .f64 0)) (dec v19) (dec ⟨12, 0, ⟨0, 0, 0, .flt .f64 0⟩, []⟩)) fun v20 =>
q_condW v20 (
K ⟨13, 0, r0, [v6, ⟨3, 1, r0, []⟩]⟩ h16 c17) (
K ⟨13, 0, r0, [v6, ⟨3, 3, r0, []⟩]⟩ h16 c17)) (
q_genW (two Tryz.prog (dec a0) fun v => Builtin.real_ #[78] 22 #[v]) fun v21 =>
q_genW (binC Tryz.prog .gtr 22 (.tmp 25) (.const (.float .f64 0)) (dec v21) (dec ⟨12, 0, ⟨0, 0, 0, .flt .f64 0⟩, []⟩)) fun v22 =>
q_condW v22 (
K ⟨13, 0, r0, [v2, ⟨3, 0, r0, []⟩]⟩ h16 c17) (
K ⟨13, 0, r0, [v2, ⟨3, 2, r0, []⟩]⟩ h16 c17))) fun f14 =>
q_guardW false v9 (call 115 [v11] h12 c13 fun v23 h24 c25 =>
f14 v23 h24 c25) (f14 wUnd h12 c13)) fun f10 =>
q_guardW false v9 (f10 v2 h7 c8) (f10 wUnd h7 c8)
theorem R87_eq (Q : PrimW) (fu : Nat) (call : CallW) : curryA 1 (fnK Q Tryz.prog tys stl fu call e87) = R87 Q.share Q.genW Q.condW Q.guardW Q.pickW fu call := by kernel_rfl
noncomputable def n87 (call : CallW) : List W → HW → Nat → KW → Bool := appF 1 (R87 (fun _ x f => f x) genW condW guardW pickW 1000000 call)
theorem n87_ok {call : CallW} (h : CallSim Tryz.prog tys stl tab call) : FnGood Tryz.prog tys stl tab 87 (n87 call) := node_ok h (by kernel_rfl) rfl g87 (R87_eq real _ _)
/- foghorn/bounds.Taps -/
noncomputable def R91 (q_share : (α : Type) → α → (α → Bool) → Bool) (q_genW : Option CV → (W → Bool) → Bool) (q_addW : Nat → Nat → Option CV → W → W → (W → Bool) → Bool) (q_cmpW : (Nat → Nat → Bool) → Nat → Option CV → W → W → (W → Bool) → Bool) (q_notW : Option CV → W → (W → Bool) → Bool) (q_condW : W → Bool → Bool → Bool) (q_guardW : Bool → W → Bool → Bool → Bool) (q_pickW : W → W → W → (W → Bool) → Bool) (q_idxSW : Nat → W → W → (W → Bool) → Bool) (q_lenW : Option CV → W → (W → Bool) → Bool) (q_loadSW : HW → W → (W → Bool) → Bool) (fu : Nat) (call : CallW) (a0 : W) (h0 : HW) (c0 : Nat) (K : KW) : Bool :=
q_lenW (lenC tys 37 (dec a0)) a0 fun v1 =>
q_cmpW (cmpF2 .lss) 3 (binC Tryz.prog .lss 3 (.tmp 7) (.const (.int .i64 (.ofNat 1))) (dec v1) (dec ⟨3, 1, r0, []⟩)) v1 ⟨3, 1, r0, []⟩ fun v2 =>
q_share _ (fun (v4 : W) (h5 : HW) (c6 : Nat) =>
q_share _ (fun (v8 : W) (h9 : HW) (c10 : Nat) =>
q_share _ (fun (v12 : W) (h13 : HW) (c14 : Nat) =>
q_pickW v2 ⟨8, 1, r0, []⟩ v12 fun v15 =>
q_condW v15 (
K ⟨8, 0, r0, []⟩ h13 c14) (
q_lenW (lenC tys 37 (dec a0)) a0 fun v16 =>
@Nat.rec (fun _ => Fun 2) (fun _ _ _ _ => false) (fun _ f21 v17 v18 h19 c20 =>
q_cmpW (cmpF2 .lss) 3 (binC Tryz.prog .lss 3 (.tmp 16) (.tmp 15) (dec v18) (dec v16)) v18 v16 fun v22 =>
q_condW v22 (
q_idxSW 1 a0 v18 fun v23 =>
q_loadSW h19 v23 fun v24 =>
q_genW (two Tryz.prog (dec v24) fun v => Builtin.real_ #[78] 22 #[v]) fun v25 =>
call 112 [v25, ⟨12, 0, ⟨0, 0, 0, .flt .f64 4607182418800017408⟩, []⟩] h19 c20 fun v26 h27 c28 =>
q_notW (two Tryz.prog (dec v26) (Op.unary .not)) v26 fun v29 =>
q_share _ (fun (v31 : W) (h32 : HW) (c33 : Nat) =>
q_share _ (fun (v35 : W) (h36 : HW) (c37 : Nat) =>
q_share _ (fun (v39 : W) (h40 : HW) (c41 : Nat) =>
q_share _ (fun (v43 : W) (h44 : HW) (c45 : Nat) =>
q_pickW v29 ⟨8, 1, r0, []⟩ v43 fun v46 =>
q_condW v46 (
K ⟨8, 0, r0, []⟩ h44 c45) (
q_genW (two Tryz.prog (dec v24) fun v => Builtin.real_ #[78] 22 #[v]) fun v47 =>
call 114 [v47] h44 c45 fun v48 h49 c50 =>
q_genW (two Tryz.prog (dec v24) fun v => Builtin.imag_ #[78] 22 #[v]) fun v51 =>
call 114 [v51] h49 c50 fun v52 h53 c54 =>
q_genW (binC Tryz.prog .add 22 (.tmp 33) (.tmp 36) (dec v48) (dec v52)) fun v55 =>
q_genW (binC Tryz.prog .add 22 (.tmp 30) (.tmp 37) (dec v17) (dec v55)) fun v56 =>
q_addW 3 9223372036854775807 (binC Tryz.prog .add 3 (.tmp 16) (.const (.int .i64 (.ofNat 1))) (dec v18) (dec ⟨3, 1, r0, []⟩)) v18 ⟨3, 1, r0, []⟩ fun v57 =>
f21 v56 v57 h53 c54)) fun f42 =>
q_guardW false v29 (q_notW (two Tryz.prog (dec v39) (Op.unary .not)) v39 fun v58 =>
f42 v58 h40 c41) (f42 wUnd h40 c41)) fun f38 =>
q_guardW false v29 (call 112 [v35, ⟨12, 0, ⟨0, 0, 0, .flt .f64 4607182418800017408⟩, []⟩] h36 c37 fun v59 h60 c61 =>
f38 v59 h60 c61) (f38 wUnd h36 c37)) fun f34 =>
q_guardW false v29 (q_genW (two Tryz.prog (dec v31) fun v => Builtin.imag_ #[78] 22 #[v]) fun v62 =>
f34 v62 h32 c33) (f34 wUnd h32 c33)) fun f30 =>
q_guardW false v29 (f30 v24 h27 c28) (f30 wUnd h27 c28)) (
q_genW (binC Tryz.prog .leq 22 (.tmp 40) (.const (.float .f64 4616189618054758400)) (dec v17) (dec ⟨12, 0, ⟨0, 0, 0, .flt .f64 4616189618054758400⟩, []⟩)) fun v63 =>
K v63 h19 c20)) fu ⟨12, 0, ⟨0, 0, 0, .flt .f64 0⟩, []⟩ ⟨3, 0, r0, []⟩ h13 c14)) fun f11 =>
q_guardW false v2 (q_cmpW (cmpF2 .gtr) 3 (binC Tryz.prog .gtr 3 (.tmp 11) (.const (.int .i64 (.ofNat 64))) (dec v8) (dec ⟨3, 64, r0, []⟩)) v8 ⟨3, 64, r0, []⟩ fun v64 =>
f11 v64 h9 c10) (f11 wUnd h9 c10)) fun f7 =>
q_guardW false v2 (q_lenW (lenC tys 37 (dec v4)) v4 fun v65 =>
f7 v65 h5 c6) (f7 wUnd h5 c6)) fun f3 =>
q_guardW false v2 (f3 a0 h0 c0) (f3 wUnd h0 c0)
theorem R91_eq (Q : PrimW) (fu : Nat) (call : CallW) : curryA 1 (fnK Q Tryz.prog tys stl fu call e91) = R91 Q.share Q.genW Q.addW Q.cmpW Q.notW Q.condW Q.guardW Q.pickW Q.idxSW Q.lenW Q.loadSW fu call := by kernel_rfl
noncomputable def n91 (call : CallW) : List W → HW → Nat → KW → Bool := appF 1 (R91 (fun _ x f => f x) genW addW cmpW notW condW guardW pickW idxSW lenW loadSW 1000000 call)
theorem n91_ok {call : CallW} (h : CallSim Tryz.prog tys stl tab call) : FnGood Tryz.prog tys stl tab 91 (n91 call) := node_ok h (by kernel_rfl) rfl g91 (R91_eq real _ _)
/- foghorn/points.square -/
noncomputable def R100 (q_loadAW : Nat → HW → W → (W → Bool) → Bool) (q_storeAW : Nat → HW → W → W → (HW → Bool) → Bool) (q_allocW : Trie W → Nat → Bool → HW → Nat → KW → Bool) (q_flatW : W → Bool → Bool) (fu : Nat) (call : CallW) (a0 : W) (a1 : W) (h0 : HW) (c0 : Nat) (K : KW) : Bool :=
q_allocW (allocT tys 101) 5 true h0 c0 fun v1 h2 c3 =>
q_flatW a0 (
q_flatW a1 (
q_flatW ⟨14, 127, r0, []⟩ (
q_flatW ⟨14, 128, r0, []⟩ (
(fun (v4 : W) =>
q_storeAW 5 h2 v1 v4 fun h5 =>
q_loadAW 5 h5 v1 fun v6 =>
K v6 h5 c3) ⟨15, 0, r0, [a0, a1, ⟨3, 0, r0, []⟩, ⟨14, 127, r0, []⟩, ⟨14, 128, r0, []⟩]⟩))))
theorem R100_eq (Q : PrimW) (fu : Nat) (call : CallW) : curryA 2 (fnK Q Tryz.prog tys stl fu call e100) = R100 Q.loadAW Q.storeAW Q.allocW Q.flatW fu call := by kernel_rfl
noncomputable def n100 (call : CallW) : List W → HW → Nat → KW → Bool := appF 2 (R100 loadAW storeAW allocW flatW 1000000 call)
theorem n100_ok {call : CallW} (h : CallSim Tryz.prog tys stl tab call) : FnGood Tryz.prog tys stl tab 100 (n100 call) := node_ok h (by kernel_rfl) rfl g100 (R100_eq real _ _)
/- foghorn/hunt.laying$1 -/
noncomputable def R102 (q_addW : Nat → Nat → Option CV → W → W → (W → Bool) → Bool) (q_loadSW : HW → W → (W → Bool) → Bool) (q_storeSW : HW → W → W → (HW → Bool) → Bool) (fu : Nat) (call : CallW) (a0 : W) (a1 : W) (a2 : W) (h0 : HW) (c0 : Nat) (K : KW) : Bool :=
q_loadSW h0 a1 fun v1 =>
q_loadSW h0 a1 fun v2 =>
q_loadSW h0 a2 fun v3 =>
q_addW 3 9223372036854775807 (binC Tryz.prog .add 3 (.tmp 8) (.tmp 9) (dec a0) (dec v3)) a0 v3 fun v4 =>
q_addW 3 9223372036854775807 (binC Tryz.prog .add 3 (.tmp 7) (.tmp 10) (dec v2) (dec v4)) v2 v4 fun v5 =>
q_storeSW h0 a1 v5 fun h6 =>
K v1 h6 c0
theorem R102_eq (Q : PrimW) (fu : Nat) (call : CallW) : curryA 3 (fnK Q Tryz.prog tys stl fu call e102) = R102 Q.addW Q.loadSW Q.storeSW fu call := by kernel_rfl
noncomputable def n102 (call : CallW) : List W → HW → Nat → KW → Bool := appF 3 (R102 addW loadSW storeSW 1000000 call)
theorem n102_ok {call : CallW} (h : CallSim Tryz.prog tys stl tab call) : FnGood Tryz.prog tys stl tab 102 (n102 call) := node_ok h (by kernel_rfl) rfl g102 (R102_eq real _ _)
/- foghorn/bounds.Fine -/
noncomputable def R112 (q_share : (α : Type) → α → (α → Bool) → Bool) (q_genW : Option CV → (W → Bool) → Bool) (q_guardW : Bool → W → Bool → Bool → Bool) (q_pickW : W → W → W → (W → Bool) → Bool) (fu : Nat) (call : CallW) (a0 : W) (a1 : W) (h0 : HW) (c0 : Nat) (K : KW) : Bool :=
call 114 [a0] h0 c0 fun v1 h2 c3 =>
q_genW (binC Tryz.prog .leq 22 (.tmp 6) (.tmp 7) (dec v1) (dec a1)) fun v4 =>
q_share _ (fun (v6 : W) (h7 : HW) (c8 : Nat) =>
q_share _ (fun (v10 : W) (h11 : HW) (c12 : Nat) =>
q_share _ (fun (v14 : W) (h15 : HW) (c16 : Nat) =>
q_share _ (fun (v18 : W) (h19 : HW) (c20 : Nat) =>
q_share _ (fun (v22 : W) (h23 : HW) (c24 : Nat) =>
q_share _ (fun (v26 : W) (h27 : HW) (c28 : Nat) =>
q_pickW v4 v26 ⟨8, 0, r0, []⟩ fun v29 =>
K v29 h27 c28) fun f25 =>
q_guardW true v4 (q_genW (binC Tryz.prog .eql 22 (.tmp 11) (.tmp 14) (dec v10) (dec v22)) fun v30 =>
f25 v30 h23 c24) (f25 wUnd h23 c24)) fun f21 =>
q_guardW true v4 (call 140 [v18] h19 c20 fun v31 h32 c33 =>
f21 v31 h32 c33) (f21 wUnd h19 c20)) fun f17 =>
q_guardW true v4 (q_genW (binC Tryz.prog .mul 22 (.tmp 12) (.const (.float .f64 4634204016564240384)) (dec v14) (dec ⟨12, 0, ⟨0, 0, 0, .flt .f64 4634204016564240384⟩, []⟩)) fun v34 =>
f17 v34 h15 c16) (f17 wUnd h15 c16)) fun f13 =>
q_guardW true v4 (f13 a0 h11 c12) (f13 wUnd h11 c12)) fun f9 =>
q_guardW true v4 (q_genW (binC Tryz.prog .mul 22 (.tmp 10) (.const (.float .f64 4634204016564240384)) (dec v6) (dec ⟨12, 0, ⟨0, 0, 0, .flt .f64 4634204016564240384⟩, []⟩)) fun v35 =>
f9 v35 h7 c8) (f9 wUnd h7 c8)) fun f5 =>
q_guardW true v4 (f5 a0 h2 c3) (f5 wUnd h2 c3)
theorem R112_eq (Q : PrimW) (fu : Nat) (call : CallW) : curryA 2 (fnK Q Tryz.prog tys stl fu call e112) = R112 Q.share Q.genW Q.guardW Q.pickW fu call := by kernel_rfl
noncomputable def n112 (call : CallW) : List W → HW → Nat → KW → Bool := appF 2 (R112 (fun _ x f => f x) genW guardW pickW 1000000 call)
theorem n112_ok {call : CallW} (h : CallSim Tryz.prog tys stl tab call) : FnGood Tryz.prog tys stl tab 112 (n112 call) := node_ok h (by kernel_rfl) rfl g112 (R112_eq real _ _)
/- foghorn/grid.On -/
noncomputable def R113 (q_share : (α : Type) → α → (α → Bool) → Bool) (q_genW : Option CV → (W → Bool) → Bool) (q_guardW : Bool → W → Bool → Bool → Bool) (q_pickW : W → W → W → (W → Bool) → Bool) (fu : Nat) (call : CallW) (a0 : W) (h0 : HW) (c0 : Nat) (K : KW) : Bool :=
call 114 [a0] h0 c0 fun v1 h2 c3 =>
q_genW (binC Tryz.prog .leq 22 (.tmp 4) (.const (.float .f64 4652218415073722368)) (dec v1) (dec ⟨12, 0, ⟨0, 0, 0, .flt .f64 4652218415073722368⟩, []⟩)) fun v4 =>
q_share _ (fun (v6 : W) (h7 : HW) (c8 : Nat) =>
q_share _ (fun (v10 : W) (h11 : HW) (c12 : Nat) =>
q_share _ (fun (v14 : W) (h15 : HW) (c16 : Nat) =>
q_share _ (fun (v18 : W) (h19 : HW) (c20 : Nat) =>
q_share _ (fun (v22 : W) (h23 : HW) (c24 : Nat) =>
q_share _ (fun (v26 : W) (h27 : HW) (c28 : Nat) =>
q_pickW v4 v26 ⟨8, 0, r0, []⟩ fun v29 =>
K v29 h27 c28) fun f25 =>
q_guardW true v4 (q_genW (binC Tryz.prog .eql 22 (.tmp 8) (.tmp 11) (dec v10) (dec v22)) fun v30 =>
f25 v30 h23 c24) (f25 wUnd h23 c24)) fun f21 =>
q_guardW true v4 (call 140 [v18] h19 c20 fun v31 h32 c33 =>
f21 v31 h32 c33) (f21 wUnd h19 c20)) fun f17 =>
q_guardW true v4 (q_genW (binC Tryz.prog .mul 22 (.tmp 9) (.const (.float .f64 4661225614328463360)) (dec v14) (dec ⟨12, 0, ⟨0, 0, 0, .flt .f64 4661225614328463360⟩, []⟩)) fun v34 =>
f17 v34 h15 c16) (f17 wUnd h15 c16)) fun f13 =>
q_guardW true v4 (f13 a0 h11 c12) (f13 wUnd h11 c12)) fun f9 =>
q_guardW true v4 (q_genW (binC Tryz.prog .mul 22 (.tmp 7) (.const (.float .f64 4661225614328463360)) (dec v6) (dec ⟨12, 0, ⟨0, 0, 0, .flt .f64 4661225614328463360⟩, []⟩)) fun v35 =>
f9 v35 h7 c8) (f9 wUnd h7 c8)) fun f5 =>
q_guardW true v4 (f5 a0 h2 c3) (f5 wUnd h2 c3)
theorem R113_eq (Q : PrimW) (fu : Nat) (call : CallW) : curryA 1 (fnK Q Tryz.prog tys stl fu call e113) = R113 Q.share Q.genW Q.guardW Q.pickW fu call := by kernel_rfl
noncomputable def n113 (call : CallW) : List W → HW → Nat → KW → Bool := appF 1 (R113 (fun _ x f => f x) genW guardW pickW 1000000 call)
theorem n113_ok {call : CallW} (h : CallSim Tryz.prog tys stl tab call) : FnGood Tryz.prog tys stl tab 113 (n113 call) := node_ok h (by kernel_rfl) rfl g113 (R113_eq real _ _)
/- math.Abs -/
noncomputable def R114 (q_genW : Option CV → (W → Bool) → Bool) (fu : Nat) (call : CallW) (a0 : W) (h0 : HW) (c0 : Nat) (K : KW) : Bool :=
call 142 [a0] h0 c0 fun v1 h2 c3 =>
q_genW (binC Tryz.prog .andNot 193 (.tmp 4) (.const (.int .u64 (.ofNat 9223372036854775808))) (dec v1) (dec ⟨7, 9223372036854775808, r0, []⟩)) fun v4 =>
call 141 [v4] h2 c3 fun v5 h6 c7 =>
K v5 h6 c7
theorem R114_eq (Q : PrimW) (fu : Nat) (call : CallW) : curryA 1 (fnK Q Tryz.prog tys stl fu call e114) = R114 Q.genW fu call := by kernel_rfl
noncomputable def n114 (call : CallW) : List W → HW → Nat → KW → Bool := appF 1 (R114 genW 1000000 call)
theorem n114_ok {call : CallW} (h : CallSim Tryz.prog tys stl tab call) : FnGood Tryz.prog tys stl tab 114 (n114 call) := node_ok h (by kernel_rfl) rfl g114 (R114_eq real _ _)
/- math.IsNaN -/
noncomputable def R115 (q_genW : Option CV → (W → Bool) → Bool) (fu : Nat) (call : CallW) (a0 : W) (h0 : HW) (c0 : Nat) (K : KW) : Bool :=
q_genW (binC Tryz.prog .neq 22 (.tmp 3) (.tmp 4) (dec a0) (dec a0)) fun v1 =>
K v1 h0 c0
theorem R115_eq (Q : PrimW) (fu : Nat) (call : CallW) : curryA 1 (fnK Q Tryz.prog tys stl fu call e115) = R115 Q.genW fu call := by kernel_rfl
noncomputable def n115 (call : CallW) : List W → HW → Nat → KW → Bool := appF 1 (R115 genW 1000000 call)
theorem n115_ok {call : CallW} (h : CallSim Tryz.prog tys stl tab call) : FnGood Tryz.prog tys stl tab 115 (n115 call) := node_ok h (by kernel_rfl) rfl g115 (R115_eq real _ _)
/- math.Trunc -/
noncomputable def R140 (q_condW : W → Bool → Bool → Bool) (fu : Nat) (call : CallW) (a0 : W) (h0 : HW) (c0 : Nat) (K : KW) : Bool :=
q_condW ⟨8, 1, r0, []⟩ (
call 161 [a0] h0 c0 fun v1 h2 c3 =>
K v1 h2 c3) (
call 162 [a0] h0 c0 fun v4 h5 c6 =>
K v4 h5 c6)
theorem R140_eq (Q : PrimW) (fu : Nat) (call : CallW) : curryA 1 (fnK Q Tryz.prog tys stl fu call e140) = R140 Q.condW fu call := by kernel_rfl
noncomputable def n140 (call : CallW) : List W → HW → Nat → KW → Bool := appF 1 (R140 condW 1000000 call)
theorem n140_ok {call : CallW} (h : CallSim Tryz.prog tys stl tab call) : FnGood Tryz.prog tys stl tab 140 (n140 call) := node_ok h (by kernel_rfl) rfl g140 (R140_eq real _ _)
noncomputable def n141 (_ : CallW) : List W → HW → Nat → KW → Bool := extN Tryz.prog 141
theorem n141_ok {call : CallW} (_ : CallSim Tryz.prog tys stl tab call) : FnGood Tryz.prog tys stl tab 141 (n141 call) := ext_ok (e := e141) (by kernel_rfl) rfl
noncomputable def n142 (_ : CallW) : List W → HW → Nat → KW → Bool := extN Tryz.prog 142
theorem n142_ok {call : CallW} (_ : CallSim Tryz.prog tys stl tab call) : FnGood Tryz.prog tys stl tab 142 (n142 call) := ext_ok (e := e142) (by kernel_rfl) rfl
noncomputable def n161 (_ : CallW) : List W → HW → Nat → KW → Bool := extN Tryz.prog 161
theorem n161_ok {call : CallW} (_ : CallSim Tryz.prog tys stl tab call) : FnGood Tryz.prog tys stl tab 161 (n161 call) := ext_ok (e := e161) (by kernel_rfl) rfl
noncomputable def dS (call : CallW) : Disp := (.node 45 (n45 call) (.node 22 (n22 call) (.node 10 (n10 call) (.node 6 (n6 call) (.node 4 (n4 call) (.node 3 (n3 call) .leaf .leaf) (.node 5 (n5 call) .leaf .leaf)) (.node 8 (n8 call) (.node 7 (n7 call) .leaf .leaf) (.node 9 (n9 call) .leaf .leaf))) (.node 18 (n18 call) (.node 12 (n12 call) (.node 11 (n11 call) .leaf .leaf) (.node 13 (n13 call) .leaf .leaf)) (.node 21 (n21 call) (.node 20 (n20 call) .leaf .leaf) .leaf))) (.node 29 (n29 call) (.node 26 (n26 call) (.node 24 (n24 call) (.node 23 (n23 call) .leaf .leaf) (.node 25 (n25 call) .leaf .leaf)) (.node 28 (n28 call) (.node 27 (n27 call) .leaf .leaf) .leaf)) (.node 38 (n38 call) (.node 31 (n31 call) (.node 30 (n30 call) .leaf .leaf) (.node 32 (n32 call) .leaf .leaf)) (.node 44 (n44 call) (.node 43 (n43 call) .leaf .leaf) .leaf)))) (.node 85 (n85 call) (.node 67 (n67 call) (.node 64 (n64 call) (.node 47 (n47 call) (.node 46 (n46 call) .leaf .leaf) (.node 48 (n48 call) .leaf .leaf)) (.node 66 (n66 call) (.node 65 (n65 call) .leaf .leaf) .leaf)) (.node 71 (n71 call) (.node 69 (n69 call) (.node 68 (n68 call) .leaf .leaf) (.node 70 (n70 call) .leaf .leaf)) (.node 73 (n73 call) (.node 72 (n72 call) .leaf .leaf) .leaf))) (.node 113 (n113 call) (.node 100 (n100 call) (.node 87 (n87 call) (.node 86 (n86 call) .leaf .leaf) (.node 91 (n91 call) .leaf .leaf)) (.node 112 (n112 call) (.node 102 (n102 call) .leaf .leaf) .leaf)) (.node 141 (n141 call) (.node 115 (n115 call) (.node 114 (n114 call) .leaf .leaf) (.node 140 (n140 call) .leaf .leaf)) (.node 161 (n161 call) (.node 142 (n142 call) .leaf .leaf) .leaf)))))
theorem dS_ok {call : CallW} (h : CallSim Tryz.prog tys stl tab call) : CallSim Tryz.prog tys stl tab (dS call).fn := Disp.sim (t := dS call) ⟨n45_ok h, ⟨n22_ok h, ⟨n10_ok h, ⟨n6_ok h, ⟨n4_ok h, ⟨n3_ok h, True.intro, True.intro⟩, ⟨n5_ok h, True.intro, True.intro⟩⟩, ⟨n8_ok h, ⟨n7_ok h, True.intro, True.intro⟩, ⟨n9_ok h, True.intro, True.intro⟩⟩⟩, ⟨n18_ok h, ⟨n12_ok h, ⟨n11_ok h, True.intro, True.intro⟩, ⟨n13_ok h, True.intro, True.intro⟩⟩, ⟨n21_ok h, ⟨n20_ok h, True.intro, True.intro⟩, True.intro⟩⟩⟩, ⟨n29_ok h, ⟨n26_ok h, ⟨n24_ok h, ⟨n23_ok h, True.intro, True.intro⟩, ⟨n25_ok h, True.intro, True.intro⟩⟩, ⟨n28_ok h, ⟨n27_ok h, True.intro, True.intro⟩, True.intro⟩⟩, ⟨n38_ok h, ⟨n31_ok h, ⟨n30_ok h, True.intro, True.intro⟩, ⟨n32_ok h, True.intro, True.intro⟩⟩, ⟨n44_ok h, ⟨n43_ok h, True.intro, True.intro⟩, True.intro⟩⟩⟩⟩, ⟨n85_ok h, ⟨n67_ok h, ⟨n64_ok h, ⟨n47_ok h, ⟨n46_ok h, True.intro, True.intro⟩, ⟨n48_ok h, True.intro, True.intro⟩⟩, ⟨n66_ok h, ⟨n65_ok h, True.intro, True.intro⟩, True.intro⟩⟩, ⟨n71_ok h, ⟨n69_ok h, ⟨n68_ok h, True.intro, True.intro⟩, ⟨n70_ok h, True.intro, True.intro⟩⟩, ⟨n73_ok h, ⟨n72_ok h, True.intro, True.intro⟩, True.intro⟩⟩⟩, ⟨n113_ok h, ⟨n100_ok h, ⟨n87_ok h, ⟨n86_ok h, True.intro, True.intro⟩, ⟨n91_ok h, True.intro, True.intro⟩⟩, ⟨n112_ok h, ⟨n102_ok h, True.intro, True.intro⟩, True.intro⟩⟩, ⟨n141_ok h, ⟨n115_ok h, ⟨n114_ok h, True.intro, True.intro⟩, ⟨n140_ok h, True.intro, True.intro⟩⟩, ⟨n161_ok h, ⟨n142_ok h, True.intro, True.intro⟩, True.intro⟩⟩⟩⟩⟩
noncomputable def dR (m : Nat) : Disp := @Nat.rec (fun _ => Disp) .leaf (fun _ ih => dS ih.fn) m
theorem dR_ok : ∀ m, CallSim Tryz.prog tys stl tab (dR m).fn
  | 0 => d0_ok
  | m + 1 => dS_ok (dR_ok m)
noncomputable abbrev dT : Disp := dR 200
theorem dT_ok : CallSim Tryz.prog tys stl tab dT.fn := dR_ok _

set_option maxHeartbeats 0 in
theorem run3 : lawK dT.fn 3 = true := by kernel_rfl
namespace blockNames
open Go.ChangeShapes Go.WideShapes Go.ChangeAt Go.RowKit
theorem own : ownKnob Tryz.prog.godebug = none := by kernel_rfl
theorem laid : laidOutB Tryz.prog = true := by kernel_rfl
theorem lifted (os : Os) (started : os.Started) (H : Type) (enc : TypeId × Value → H) :
    ReturnsInHanded {} Tryz.checked os 3 .any (Rows.blockNamesSpec.pre6 enc Tryz.prog Tryz.f3 Rows.blockNamesRow.domain false) (Rows.blockNamesSpec.post enc Tryz.prog Tryz.f3 false true false false) := by
  refine returnsInHanded_of_change (C := Tryz.checked) own started (by kernel_rfl) Tryz.func3
    (ChangeSpec.witness6 (enc := enc) (C := Tryz.checked) false ⟨#[], #[], []⟩ 8 (by kernel_rfl) (by kernel_rfl) (by kernel_rfl) (by kernel_rfl)) ?_
  intro W base args ds gs before hval0 hW hcnd _
  have hW' := hW
  obtain ⟨p, q, hA0, hV, rfl, hfz, hnd⟩ := hW
  have hA : DataW.TrodAll enc Tryz.prog W 0 (fun _ => true) true Tryz.f3.params.toList args.toList ds p := hA0
  rw [Tryz.params3] at hA
  obtain ⟨hargs, rfl, rfl⟩ := trodAll_nil hA
  obtain rfl : args = #[] := by cases args; simp_all
  obtain ⟨rfl, rfl⟩ := trodVars_none hV
  clear hA0 hval0
  refine (lawK_true tok mixed fok dT_ok (by kernel_rfl : tab 3 = some e3) rfl run3 W).mono fun e W' ⟨he, hg⟩ => ?_
  subst he
  exact ⟨_, rfl, law_done laid rfl rfl Tryz.underlying4 (by kernel_rfl) hW' rfl hg⟩

theorem over : Rows.blockNamesRow.holds Tryz.pinned (OpenSpec.ofChange Rows.blockNamesSpec) :=
  OpenClaim.holds_of_wide 3 Tryz.f3 rfl rfl rfl rfl rfl rfl rfl ⟨rfl, rfl, rfl, rfl, rfl⟩ rfl rfl rfl rfl rfl (by kernel_rfl) Tryz.func3 (by kernel_rfl)
    (of_decide_eq_true (by kernel_rfl)) (by unfold Func.isWrapper; first | (rw [if_pos (by decide +kernel)]; kernel_rfl) | (rw [if_neg (by decide +kernel)]; exact ⟨rfl, rfl⟩))
    (fun os started H enc _ => lifted os started H enc)

theorem proved : Rows.BlockNamesSaid := over
end blockNames
end Go.Proofs.YtpoadfpkdjjfhaaGreat
