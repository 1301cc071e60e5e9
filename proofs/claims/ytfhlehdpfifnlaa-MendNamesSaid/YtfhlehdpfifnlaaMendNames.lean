/-
  foghornlaw20.MendNames returns true, whatever the memory it begins in. No condition.
-/
import Derived.Test.YtfhlehdpfifnlaaRows
import Derived.Test.YtfhlehdpfifnlaaGx
import Derived.WalkKit
import Derived.ProofKit
import Derived.OpenShut
set_option linter.unusedVariables false
set_option maxRecDepth 1000000
namespace Go.Proofs.Ytfhlehdpfifnlaa
open Go Go.Fw
def tys : List (Nat × TyI) := [
  (1, ⟨.func, 1, 8, .nilFunc⟩),
  (2, ⟨.int .i64, 1, 8, .int .i64 0⟩),
  (3, ⟨.int .i64, 1, 8, .int .i64 0⟩),
  (4, ⟨.bool, 1, 1, .bool false⟩),
  (5, ⟨.int .u8, 1, 1, .int .u8 0⟩),
  (9, ⟨.str, 1, 16, .string (ByteArray.mk #[])⟩),
  (12, ⟨.int .u64, 1, 8, .int .u64 0⟩),
  (21, ⟨.int .i32, 1, 4, .int .i32 0⟩),
  (22, ⟨.slice 3, 1, 24, .slice none 0 0⟩),
  (23, ⟨.struct [(0, 9), (1, 22), (2, 22)], 3, 64, .agg #[.string (ByteArray.mk #[]), .slice none 0 0, .slice none 0 0]⟩),
  (24, ⟨.struct [(0, 9), (1, 22), (2, 22)], 3, 64, .agg #[.string (ByteArray.mk #[]), .slice none 0 0, .slice none 0 0]⟩),
  (25, ⟨.int .i64, 1, 8, .int .i64 0⟩),
  (27, ⟨.func, 1, 8, .nilFunc⟩),
  (28, ⟨.struct [(0, 9), (1, 22), (2, 22)], 3, 64, .agg #[.string (ByteArray.mk #[]), .slice none 0 0, .slice none 0 0]⟩),
  (30, ⟨.func, 1, 8, .nilFunc⟩),
  (31, ⟨.func, 1, 8, .nilFunc⟩),
  (32, ⟨.func, 1, 8, .nilFunc⟩),
  (33, ⟨.func, 1, 8, .nilFunc⟩),
  (35, ⟨.func, 1, 8, .nilFunc⟩),
  (36, ⟨.slice 5, 1, 24, .slice none 0 0⟩),
  (38, ⟨.func, 1, 8, .nilFunc⟩),
  (39, ⟨.func, 1, 8, .nilFunc⟩),
  (40, ⟨.slice 9, 1, 24, .slice none 0 0⟩),
  (41, ⟨.slice 22, 1, 24, .slice none 0 0⟩),
  (42, ⟨.slice 24, 1, 24, .slice none 0 0⟩),
  (44, ⟨.func, 1, 8, .nilFunc⟩),
  (45, ⟨.slice 28, 1, 24, .slice none 0 0⟩),
  (47, ⟨.func, 1, 8, .nilFunc⟩),
  (49, ⟨.func, 1, 8, .nilFunc⟩),
  (50, ⟨.func, 1, 8, .nilFunc⟩),
  (51, ⟨.func, 1, 8, .nilFunc⟩),
  (52, ⟨.slice 56, 1, 24, .slice none 0 0⟩),
  (54, ⟨.func, 1, 8, .nilFunc⟩),
  (55, ⟨.struct [(0, 3), (1, 4), (2, 5)], 3, 16, .agg #[.int .i64 0, .bool false, .int .u8 0]⟩),
  (56, ⟨.struct [(0, 3), (1, 4), (2, 5)], 3, 16, .agg #[.int .i64 0, .bool false, .int .u8 0]⟩),
  (57, ⟨.func, 1, 8, .nilFunc⟩),
  (58, ⟨.func, 1, 8, .nilFunc⟩),
  (59, ⟨.func, 1, 8, .nilFunc⟩),
  (60, ⟨.func, 1, 8, .nilFunc⟩),
  (61, ⟨.func, 1, 8, .nilFunc⟩),
  (62, ⟨.slice 4, 1, 24, .slice none 0 0⟩),
  (64, ⟨.func, 1, 8, .nilFunc⟩),
  (65, ⟨.func, 1, 8, .nilFunc⟩),
  (66, ⟨.func, 1, 8, .nilFunc⟩),
  (68, ⟨.func, 1, 8, .nilFunc⟩),
  (70, ⟨.func, 1, 8, .nilFunc⟩),
  (71, ⟨.func, 1, 8, .nilFunc⟩),
  (72, ⟨.func, 1, 8, .nilFunc⟩),
  (73, ⟨.array 255 4, 255, 255, .agg ⟨List.replicate 255 (.bool false)⟩⟩),
  (74, ⟨.array 255 4, 255, 255, .agg ⟨List.replicate 255 (.bool false)⟩⟩),
  (76, ⟨.func, 1, 8, .nilFunc⟩),
  (77, ⟨.func, 1, 8, .nilFunc⟩),
  (78, ⟨.func, 1, 8, .nilFunc⟩),
  (80, ⟨.func, 1, 8, .nilFunc⟩),
  (81, ⟨.func, 1, 8, .nilFunc⟩),
  (82, ⟨.func, 1, 8, .nilFunc⟩),
  (83, ⟨.func, 1, 8, .nilFunc⟩),
  (84, ⟨.func, 1, 8, .nilFunc⟩),
  (85, ⟨.func, 1, 8, .nilFunc⟩),
  (86, ⟨.func, 1, 8, .nilFunc⟩),
  (87, ⟨.func, 1, 8, .nilFunc⟩),
  (88, ⟨.func, 1, 8, .nilFunc⟩),
  (89, ⟨.func, 1, 8, .nilFunc⟩),
  (90, ⟨.func, 1, 8, .nilFunc⟩),
  (91, ⟨.slice 36, 1, 24, .slice none 0 0⟩),
  (93, ⟨.func, 1, 8, .nilFunc⟩),
  (94, ⟨.func, 1, 8, .nilFunc⟩),
  (96, ⟨.func, 1, 8, .nilFunc⟩),
  (97, ⟨.array 65 5, 65, 65, .agg ⟨List.replicate 65 (.int .u8 0)⟩⟩),
  (98, ⟨.array 65 5, 65, 65, .agg ⟨List.replicate 65 (.int .u8 0)⟩⟩),
  (99, ⟨.func, 1, 8, .nilFunc⟩),
  (101, ⟨.func, 1, 8, .nilFunc⟩),
  (103, ⟨.func, 1, 8, .nilFunc⟩),
  (104, ⟨.func, 1, 8, .nilFunc⟩),
  (105, ⟨.func, 1, 8, .nilFunc⟩),
  (106, ⟨.func, 1, 8, .nilFunc⟩),
  (107, ⟨.func, 1, 8, .nilFunc⟩),
  (108, ⟨.func, 1, 8, .nilFunc⟩),
  (109, ⟨.func, 1, 8, .nilFunc⟩),
  (110, ⟨.array 64 5, 64, 64, .agg ⟨List.replicate 64 (.int .u8 0)⟩⟩),
  (111, ⟨.func, 1, 8, .nilFunc⟩),
  (112, ⟨.func, 1, 8, .nilFunc⟩),
  (113, ⟨.func, 1, 8, .nilFunc⟩),
  (114, ⟨.func, 1, 8, .nilFunc⟩),
  (115, ⟨.func, 1, 8, .nilFunc⟩),
  (116, ⟨.func, 1, 8, .nilFunc⟩),
  (117, ⟨.int .u64, 1, 8, .int .u64 0⟩),
  (118, ⟨.func, 1, 8, .nilFunc⟩),
  (124, ⟨.func, 1, 8, .nilFunc⟩),
  (125, ⟨.int .u32, 1, 4, .int .u32 0⟩),
  (128, ⟨.func, 1, 8, .nilFunc⟩),
  (129, ⟨.ptr 5, 1, 8, .pointer none⟩)]


theorem tok : TOk Try.prog tys := tok_of ⟨⟨by kernel_rfl, by kernel_rfl⟩, ⟨by kernel_rfl, by kernel_rfl⟩, ⟨by kernel_rfl, by kernel_rfl⟩, ⟨by kernel_rfl, by kernel_rfl⟩, ⟨by kernel_rfl, by kernel_rfl⟩, ⟨by kernel_rfl, by kernel_rfl⟩, ⟨by kernel_rfl, by kernel_rfl⟩, ⟨by kernel_rfl, by kernel_rfl⟩, ⟨by kernel_rfl, by kernel_rfl⟩, ⟨by kernel_rfl, by kernel_rfl⟩, ⟨by kernel_rfl, by kernel_rfl⟩, ⟨by kernel_rfl, by kernel_rfl⟩, ⟨by kernel_rfl, by kernel_rfl⟩, ⟨by kernel_rfl, by kernel_rfl⟩, ⟨by kernel_rfl, by kernel_rfl⟩, ⟨by kernel_rfl, by kernel_rfl⟩, ⟨by kernel_rfl, by kernel_rfl⟩, ⟨by kernel_rfl, by kernel_rfl⟩, ⟨by kernel_rfl, by kernel_rfl⟩, ⟨by kernel_rfl, by kernel_rfl⟩, ⟨by kernel_rfl, by kernel_rfl⟩, ⟨by kernel_rfl, by kernel_rfl⟩, ⟨by kernel_rfl, by kernel_rfl⟩, ⟨by kernel_rfl, by kernel_rfl⟩, ⟨by kernel_rfl, by kernel_rfl⟩, ⟨by kernel_rfl, by kernel_rfl⟩, ⟨by kernel_rfl, by kernel_rfl⟩, ⟨by kernel_rfl, by kernel_rfl⟩, ⟨by kernel_rfl, by kernel_rfl⟩, ⟨by kernel_rfl, by kernel_rfl⟩, ⟨by kernel_rfl, by kernel_rfl⟩, ⟨by kernel_rfl, by kernel_rfl⟩, ⟨by kernel_rfl, by kernel_rfl⟩, ⟨by kernel_rfl, by kernel_rfl⟩, ⟨by kernel_rfl, by kernel_rfl⟩, ⟨by kernel_rfl, by kernel_rfl⟩, ⟨by kernel_rfl, by kernel_rfl⟩, ⟨by kernel_rfl, by kernel_rfl⟩, ⟨by kernel_rfl, by kernel_rfl⟩, ⟨by kernel_rfl, by kernel_rfl⟩, ⟨by kernel_rfl, by kernel_rfl⟩, ⟨by kernel_rfl, by kernel_rfl⟩, ⟨by kernel_rfl, by kernel_rfl⟩, ⟨by kernel_rfl, by kernel_rfl⟩, ⟨by kernel_rfl, by kernel_rfl⟩, ⟨by kernel_rfl, by kernel_rfl⟩, ⟨by kernel_rfl, by kernel_rfl⟩, ⟨by kernel_rfl, by kernel_rfl⟩, ⟨by kernel_rfl, by kernel_rfl⟩, ⟨by kernel_rfl, by kernel_rfl⟩, ⟨by kernel_rfl, by kernel_rfl⟩, ⟨by kernel_rfl, by kernel_rfl⟩, ⟨by kernel_rfl, by kernel_rfl⟩, ⟨by kernel_rfl, by kernel_rfl⟩, ⟨by kernel_rfl, by kernel_rfl⟩, ⟨by kernel_rfl, by kernel_rfl⟩, ⟨by kernel_rfl, by kernel_rfl⟩, ⟨by kernel_rfl, by kernel_rfl⟩, ⟨by kernel_rfl, by kernel_rfl⟩, ⟨by kernel_rfl, by kernel_rfl⟩, ⟨by kernel_rfl, by kernel_rfl⟩, ⟨by kernel_rfl, by kernel_rfl⟩, ⟨by kernel_rfl, by kernel_rfl⟩, ⟨by kernel_rfl, by kernel_rfl⟩, ⟨by kernel_rfl, by kernel_rfl⟩, ⟨by kernel_rfl, by kernel_rfl⟩, ⟨by kernel_rfl, by kernel_rfl⟩, ⟨by kernel_rfl, by kernel_rfl⟩, ⟨by kernel_rfl, by kernel_rfl⟩, ⟨by kernel_rfl, by kernel_rfl⟩, ⟨by kernel_rfl, by kernel_rfl⟩, ⟨by kernel_rfl, by kernel_rfl⟩, ⟨by kernel_rfl, by kernel_rfl⟩, ⟨by kernel_rfl, by kernel_rfl⟩, ⟨by kernel_rfl, by kernel_rfl⟩, ⟨by kernel_rfl, by kernel_rfl⟩, ⟨by kernel_rfl, by kernel_rfl⟩, ⟨by kernel_rfl, by kernel_rfl⟩, ⟨by kernel_rfl, by kernel_rfl⟩, ⟨by kernel_rfl, by kernel_rfl⟩, ⟨by kernel_rfl, by kernel_rfl⟩, ⟨by kernel_rfl, by kernel_rfl⟩, ⟨by kernel_rfl, by kernel_rfl⟩, ⟨by kernel_rfl, by kernel_rfl⟩, ⟨by kernel_rfl, by kernel_rfl⟩, ⟨by kernel_rfl, by kernel_rfl⟩, ⟨by kernel_rfl, by kernel_rfl⟩, ⟨by kernel_rfl, by kernel_rfl⟩, ⟨by kernel_rfl, by kernel_rfl⟩, ⟨by kernel_rfl, by kernel_rfl⟩, ⟨by kernel_rfl, by kernel_rfl⟩, ⟨by kernel_rfl, by kernel_rfl⟩, True.intro⟩
theorem mixed : Try.prog.follows .mixedOrders = true := by kernel_rfl
def inL : List Nat → Nat → Bool
  | [], _ => false
  | a :: r, n => match Nat.beq a n with | true => true | false => inL r n
def stl : Nat → Bool := inL [41, 46, 58, 60, 61, 62, 66, 68, 71, 72, 73]
/- 5: foghorn/foghornlaw20.MendNames -/
def p5 : Nat → Option PlanC := fun
  | 12 => some (.op 0 true (.op 1 false (.op 2 false (.chk [1] (.op 3 false (.op 4 false (.op 5 false (.op 6 false (.op 7 false (.op 8 false (.done)))))))))))
  | _ => none
def wl5 : Nat → List Nat := fun
  | 10 => [17]
  | _ => []
def wj5 : Nat → Option (List Nat) := fun _ => none
def kr5 : Nat → List Nat := fun
  | 11 => [62]
  | _ => []
noncomputable def e5 : Ent := entOf Try.f5 ⟨p5, wl5, wj5, kr5, [1, 3, 5, 7, 9]⟩
theorem g5 : EntOk Try.prog tys stl 5 e5 := .inr ⟨rfl, Try.func5, by kernel_rfl, by kernel_rfl, by kernel_rfl, by kernel_rfl, by kernel_rfl, rfl⟩
/- 10: foghorn/mend.Mend -/
def p10 : Nat → Option PlanC := fun _ => none
def wl10 : Nat → List Nat := fun
  | 11 => [52]
  | _ => []
def wj10 : Nat → Option (List Nat) := fun
  | 17 => some []
  | _ => none
def kr10 : Nat → List Nat := fun
  | 14 => [61]
  | 16 => [74]
  | _ => []
noncomputable def e10 : Ent := entOf Try.f10 ⟨p10, wl10, wj10, kr10, [8, 12]⟩
theorem g10 : EntOk Try.prog tys stl 10 e10 := .inr ⟨rfl, Try.func10, by kernel_rfl, by kernel_rfl, by kernel_rfl, by kernel_rfl, by kernel_rfl, rfl⟩
/- 17: foghorn/mend.Locator -/
def p17 : Nat → Option PlanC := fun _ => none
def wl17 : Nat → List Nat := fun
  | 8 => [8, 31]
  | _ => []
def wj17 : Nat → Option (List Nat) := fun _ => none
def kr17 : Nat → List Nat := fun _ => []
noncomputable def e17 : Ent := entOf Try.f17 ⟨p17, wl17, wj17, kr17, [6]⟩
theorem g17 : EntOk Try.prog tys stl 17 e17 := .inr ⟨rfl, Try.func17, by kernel_rfl, by kernel_rfl, by kernel_rfl, by kernel_rfl, by kernel_rfl, rfl⟩
/- 21: foghorn/mend.Message -/
def p21 : Nat → Option PlanC := fun _ => none
def wl21 : Nat → List Nat := fun
  | 6 => [9, 26]
  | 14 => [12, 43]
  | _ => []
def wj21 : Nat → Option (List Nat) := fun _ => none
def kr21 : Nat → List Nat := fun _ => []
noncomputable def e21 : Ent := entOf Try.f21 ⟨p21, wl21, wj21, kr21, []⟩
theorem g21 : EntOk Try.prog tys stl 21 e21 := .inr ⟨rfl, Try.func21, by kernel_rfl, by kernel_rfl, by kernel_rfl, by kernel_rfl, by kernel_rfl, rfl⟩
/- 33: foghorn/mend.checked -/
def p33 : Nat → Option PlanC := fun _ => none
def wl33 : Nat → List Nat := fun _ => []
def wj33 : Nat → Option (List Nat) := fun _ => none
def kr33 : Nat → List Nat := fun _ => []
noncomputable def e33 : Ent := entOf Try.f33 ⟨p33, wl33, wj33, kr33, []⟩
theorem g33 : EntOk Try.prog tys stl 33 e33 := .inr ⟨rfl, Try.func33, by kernel_rfl, by kernel_rfl, by kernel_rfl, by kernel_rfl, by kernel_rfl, rfl⟩
/- 34: foghorn/mend.sought -/
def p34 : Nat → Option PlanC := fun
  | 10 => some (.op 0 false (.op 1 false (.op 2 false (.op 3 false (.op 4 false (.op 5 false (.op 6 false (.op 7 false (.done)))))))))
  | 20 => some (.op 3 false (.op 4 false (.op 0 true (.op 1 true (.op 2 false (.op 5 false (.chk [2] (.op 6 false (.op 7 false (.op 8 false (.op 9 false (.op 10 false (.done)))))))))))))
  | _ => none
def wl34 : Nat → List Nat := fun
  | 6 => [10, 22]
  | _ => []
def wj34 : Nat → Option (List Nat) := fun
  | 12 => some [10]
  | _ => none
def kr34 : Nat → List Nat := fun _ => []
noncomputable def e34 : Ent := entOf Try.f34 ⟨p34, wl34, wj34, kr34, [5, 9, 12, 15]⟩
theorem g34 : EntOk Try.prog tys stl 34 e34 := .inr ⟨rfl, Try.func34, by kernel_rfl, by kernel_rfl, by kernel_rfl, by kernel_rfl, by kernel_rfl, rfl⟩
/- 35: foghorn/mend.isWithin -/
def p35 : Nat → Option PlanC := fun _ => none
def wl35 : Nat → List Nat := fun
  | 3 => [9, 13]
  | _ => []
def wj35 : Nat → Option (List Nat) := fun
  | 9 => some [9]
  | _ => none
def kr35 : Nat → List Nat := fun _ => []
noncomputable def e35 : Ent := entOf Try.f35 ⟨p35, wl35, wj35, kr35, [7]⟩
theorem g35 : EntOk Try.prog tys stl 35 e35 := .inr ⟨rfl, Try.func35, by kernel_rfl, by kernel_rfl, by kernel_rfl, by kernel_rfl, by kernel_rfl, rfl⟩
/- 39: foghorn/mend.marked -/
def p39 : Nat → Option PlanC := fun _ => none
def wl39 : Nat → List Nat := fun
  | 2 => [5, 10]
  | _ => []
def wj39 : Nat → Option (List Nat) := fun
  | 8 => some [5]
  | _ => none
def kr39 : Nat → List Nat := fun _ => []
noncomputable def e39 : Ent := entOf Try.f39 ⟨p39, wl39, wj39, kr39, []⟩
theorem g39 : EntOk Try.prog tys stl 39 e39 := .inr ⟨rfl, Try.func39, by kernel_rfl, by kernel_rfl, by kernel_rfl, by kernel_rfl, by kernel_rfl, rfl⟩
/- 40: foghorn/field.Product -/
def p40 : Nat → Option PlanC := fun _ => none
def wl40 : Nat → List Nat := fun _ => []
def wj40 : Nat → Option (List Nat) := fun _ => none
def kr40 : Nat → List Nat := fun _ => []
noncomputable def e40 : Ent := entOf Try.f40 ⟨p40, wl40, wj40, kr40, []⟩
theorem g40 : EntOk Try.prog tys stl 40 e40 := .inr ⟨rfl, Try.func40, by kernel_rfl, by kernel_rfl, by kernel_rfl, by kernel_rfl, by kernel_rfl, rfl⟩
/- 41: foghorn/mend.atPlace -/
def p41 : Nat → Option PlanC := fun _ => none
def wl41 : Nat → List Nat := fun _ => []
def wj41 : Nat → Option (List Nat) := fun _ => none
def kr41 : Nat → List Nat := fun _ => []
noncomputable def e41 : Ent := entOf Try.f41 ⟨p41, wl41, wj41, kr41, []⟩
theorem g41 : EntOk Try.prog tys stl 41 e41 := .inr ⟨rfl, Try.func41, by kernel_rfl, by kernel_rfl, by kernel_rfl, by kernel_rfl, by kernel_rfl, rfl⟩
/- 42: foghorn/mend.checkedAll -/
def p42 : Nat → Option PlanC := fun _ => none
def wl42 : Nat → List Nat := fun
  | 7 => [29]
  | _ => []
def wj42 : Nat → Option (List Nat) := fun _ => none
def kr42 : Nat → List Nat := fun _ => []
noncomputable def e42 : Ent := entOf Try.f42 ⟨p42, wl42, wj42, kr42, []⟩
theorem g42 : EntOk Try.prog tys stl 42 e42 := .inr ⟨rfl, Try.func42, by kernel_rfl, by kernel_rfl, by kernel_rfl, by kernel_rfl, by kernel_rfl, rfl⟩
/- 46: foghorn/reed.Check -/
def p46 : Nat → Option PlanC := fun _ => none
def wl46 : Nat → List Nat := fun _ => []
def wj46 : Nat → Option (List Nat) := fun _ => none
def kr46 : Nat → List Nat := fun _ => []
noncomputable def e46 : Ent := entOf Try.f46 ⟨p46, wl46, wj46, kr46, []⟩
theorem g46 : EntOk Try.prog tys stl 46 e46 := .inr ⟨rfl, Try.func46, by kernel_rfl, by kernel_rfl, by kernel_rfl, by kernel_rfl, by kernel_rfl, rfl⟩
/- 53: (foghorn/mend.polynomial).times -/
def p53 : Nat → Option PlanC := fun
  | 9 => some (.op 0 false (.op 1 false (.op 2 false (.op 3 false (.op 4 false (.op 5 false (.op 6 false (.op 7 false (.op 8 false (.op 9 false (.op 10 false (.done))))))))))))
  | _ => none
def wl53 : Nat → List Nat := fun
  | 3 => [11]
  | 7 => [21]
  | _ => []
def wj53 : Nat → Option (List Nat) := fun
  | 11 => some []
  | _ => none
def kr53 : Nat → List Nat := fun _ => []
noncomputable def e53 : Ent := entOf Try.f53 ⟨p53, wl53, wj53, kr53, [2, 5]⟩
theorem g53 : EntOk Try.prog tys stl 53 e53 := .inr ⟨rfl, Try.func53, by kernel_rfl, by kernel_rfl, by kernel_rfl, by kernel_rfl, by kernel_rfl, rfl⟩
/- 54: foghorn/mend.syndromesOf -/
def p54 : Nat → Option PlanC := fun _ => none
def wl54 : Nat → List Nat := fun
  | 3 => [5, 11]
  | 7 => [18]
  | _ => []
def wj54 : Nat → Option (List Nat) := fun _ => none
def kr54 : Nat → List Nat := fun _ => []
noncomputable def e54 : Ent := entOf Try.f54 ⟨p54, wl54, wj54, kr54, []⟩
theorem g54 : EntOk Try.prog tys stl 54 e54 := .inr ⟨rfl, Try.func54, by kernel_rfl, by kernel_rfl, by kernel_rfl, by kernel_rfl, by kernel_rfl, rfl⟩
/- 55: foghorn/mend.shortest -/
def p55 : Nat → Option PlanC := fun
  | 12 => some (.op 0 false (.op 1 false (.op 2 false (.op 3 false (.op 4 false (.op 5 false (.op 6 false (.op 7 false (.op 8 false (.op 9 false (.op 10 false (.op 11 false (.op 12 false (.done))))))))))))))
  | 18 => some (.op 0 false (.op 1 false (.op 2 false (.op 3 false (.op 4 false (.op 5 false (.op 6 false (.op 7 false (.op 8 false (.done))))))))))
  | _ => none
def wl55 : Nat → List Nat := fun
  | 4 => [3, 17]
  | 10 => [6, 7]
  | 16 => [49]
  | 23 => [71]
  | _ => []
def wj55 : Nat → Option (List Nat) := fun
  | 27 => some [3]
  | 28 => some [3]
  | _ => none
def kr55 : Nat → List Nat := fun _ => []
noncomputable def e55 : Ent := entOf Try.f55 ⟨p55, wl55, wj55, kr55, []⟩
theorem g55 : EntOk Try.prog tys stl 55 e55 := .inr ⟨rfl, Try.func55, by kernel_rfl, by kernel_rfl, by kernel_rfl, by kernel_rfl, by kernel_rfl, rfl⟩
/- 56: foghorn/mend.corrected -/
def p56 : Nat → Option PlanC := fun
  | 9 => some (.op 1 false (.op 2 false (.op 0 true (.op 6 true (.op 5 false (.op 3 false (.chk [5] (.op 4 false (.op 7 false (.op 8 false (.op 9 false (.op 10 false (.op 11 false (.op 12 false (.op 13 false (.done))))))))))))))))
  | _ => none
def wl56 : Nat → List Nat := fun
  | 4 => [26]
  | _ => []
def wj56 : Nat → Option (List Nat) := fun
  | 13 => some []
  | _ => none
def kr56 : Nat → List Nat := fun _ => []
noncomputable def e56 : Ent := entOf Try.f56 ⟨p56, wl56, wj56, kr56, [6, 7, 17]⟩
theorem g56 : EntOk Try.prog tys stl 56 e56 := .inr ⟨rfl, Try.func56, by kernel_rfl, by kernel_rfl, by kernel_rfl, by kernel_rfl, by kernel_rfl, rfl⟩
/- 58: foghorn/field.tooLong -/
def p58 : Nat → Option PlanC := fun _ => none
def wl58 : Nat → List Nat := fun
  | 2 => [7]
  | _ => []
def wj58 : Nat → Option (List Nat) := fun _ => none
def kr58 : Nat → List Nat := fun _ => []
noncomputable def e58 : Ent := entOf Try.f58 ⟨p58, wl58, wj58, kr58, []⟩
theorem g58 : EntOk Try.prog tys stl 58 e58 := .inr ⟨rfl, Try.func58, by kernel_rfl, by kernel_rfl, by kernel_rfl, by kernel_rfl, by kernel_rfl, rfl⟩
/- 59: foghorn/field.product -/
def p59 : Nat → Option PlanC := fun
  | 11 => some (.op 0 false (.op 1 false (.op 2 false (.op 3 false (.op 4 false (.op 5 false (.op 6 false (.op 7 false (.op 8 false (.op 9 false (.op 10 false (.op 11 false (.done)))))))))))))
  | _ => none
def wl59 : Nat → List Nat := fun
  | 6 => [31]
  | 9 => [38]
  | _ => []
def wj59 : Nat → Option (List Nat) := fun _ => none
def kr59 : Nat → List Nat := fun _ => []
noncomputable def e59 : Ent := entOf Try.f59 ⟨p59, wl59, wj59, kr59, []⟩
theorem g59 : EntOk Try.prog tys stl 59 e59 := .inr ⟨rfl, Try.func59, by kernel_rfl, by kernel_rfl, by kernel_rfl, by kernel_rfl, by kernel_rfl, rfl⟩
/- 60: foghorn/field.Exp -/
def p60 : Nat → Option PlanC := fun _ => none
def wl60 : Nat → List Nat := fun _ => []
def wj60 : Nat → Option (List Nat) := fun _ => none
def kr60 : Nat → List Nat := fun _ => []
noncomputable def e60 : Ent := entOf Try.f60 ⟨p60, wl60, wj60, kr60, []⟩
theorem g60 : EntOk Try.prog tys stl 60 e60 := .inr ⟨rfl, Try.func60, by kernel_rfl, by kernel_rfl, by kernel_rfl, by kernel_rfl, by kernel_rfl, rfl⟩
/- 61: foghorn/reed.areChecks -/
def p61 : Nat → Option PlanC := fun _ => none
def wl61 : Nat → List Nat := fun _ => []
def wj61 : Nat → Option (List Nat) := fun _ => none
def kr61 : Nat → List Nat := fun _ => []
noncomputable def e61 : Ent := entOf Try.f61 ⟨p61, wl61, wj61, kr61, []⟩
theorem g61 : EntOk Try.prog tys stl 61 e61 := .inr ⟨rfl, Try.func61, by kernel_rfl, by kernel_rfl, by kernel_rfl, by kernel_rfl, by kernel_rfl, rfl⟩
/- 62: foghorn/reed.isWord -/
def p62 : Nat → Option PlanC := fun _ => none
def wl62 : Nat → List Nat := fun _ => []
def wj62 : Nat → Option (List Nat) := fun _ => none
def kr62 : Nat → List Nat := fun _ => []
noncomputable def e62 : Ent := entOf Try.f62 ⟨p62, wl62, wj62, kr62, []⟩
theorem g62 : EntOk Try.prog tys stl 62 e62 := .inr ⟨rfl, Try.func62, by kernel_rfl, by kernel_rfl, by kernel_rfl, by kernel_rfl, by kernel_rfl, rfl⟩
/- 66: foghorn/field.Times -/
def p66 : Nat → Option PlanC := fun _ => none
def wl66 : Nat → List Nat := fun
  | 2 => [0, 1, 5]
  | _ => []
def wj66 : Nat → Option (List Nat) := fun _ => none
def kr66 : Nat → List Nat := fun _ => []
noncomputable def e66 : Ent := entOf Try.f66 ⟨p66, wl66, wj66, kr66, []⟩
theorem g66 : EntOk Try.prog tys stl 66 e66 := .inr ⟨rfl, Try.func66, by kernel_rfl, by kernel_rfl, by kernel_rfl, by kernel_rfl, by kernel_rfl, rfl⟩
/- 68: foghorn/field.Over -/
def p68 : Nat → Option PlanC := fun _ => none
def wl68 : Nat → List Nat := fun _ => []
def wj68 : Nat → Option (List Nat) := fun _ => none
def kr68 : Nat → List Nat := fun _ => []
noncomputable def e68 : Ent := entOf Try.f68 ⟨p68, wl68, wj68, kr68, []⟩
theorem g68 : EntOk Try.prog tys stl 68 e68 := .inr ⟨rfl, Try.func68, by kernel_rfl, by kernel_rfl, by kernel_rfl, by kernel_rfl, by kernel_rfl, rfl⟩
/- 69: (foghorn/mend.polynomial).at -/
def p69 : Nat → Option PlanC := fun
  | 5 => some (.op 0 false (.op 1 false (.op 2 false (.op 3 false (.op 4 false (.op 5 false (.op 6 false (.op 7 false (.done)))))))))
  | _ => none
def wl69 : Nat → List Nat := fun
  | 3 => [5, 6]
  | _ => []
def wj69 : Nat → Option (List Nat) := fun _ => none
def kr69 : Nat → List Nat := fun _ => []
noncomputable def e69 : Ent := entOf Try.f69 ⟨p69, wl69, wj69, kr69, [2]⟩
theorem g69 : EntOk Try.prog tys stl 69 e69 := .inr ⟨rfl, Try.func69, by kernel_rfl, by kernel_rfl, by kernel_rfl, by kernel_rfl, by kernel_rfl, rfl⟩
/- 70: (foghorn/mend.polynomial).slopeAt -/
def p70 : Nat → Option PlanC := fun _ => none
def wl70 : Nat → List Nat := fun
  | 3 => [6]
  | _ => []
def wj70 : Nat → Option (List Nat) := fun _ => none
def kr70 : Nat → List Nat := fun _ => []
noncomputable def e70 : Ent := entOf Try.f70 ⟨p70, wl70, wj70, kr70, [2, 5]⟩
theorem g70 : EntOk Try.prog tys stl 70 e70 := .inr ⟨rfl, Try.func70, by kernel_rfl, by kernel_rfl, by kernel_rfl, by kernel_rfl, by kernel_rfl, rfl⟩
/- 71: foghorn/field.trimmed -/
def p71 : Nat → Option PlanC := fun _ => none
def wl71 : Nat → List Nat := fun
  | 2 => [3]
  | _ => []
def wj71 : Nat → Option (List Nat) := fun _ => none
def kr71 : Nat → List Nat := fun _ => []
noncomputable def e71 : Ent := entOf Try.f71 ⟨p71, wl71, wj71, kr71, []⟩
theorem g71 : EntOk Try.prog tys stl 71 e71 := .inr ⟨rfl, Try.func71, by kernel_rfl, by kernel_rfl, by kernel_rfl, by kernel_rfl, by kernel_rfl, rfl⟩
/- 72: foghorn/field.power -/
def p72 : Nat → Option PlanC := fun _ => none
def wl72 : Nat → List Nat := fun
  | 2 => [0, 1, 5]
  | _ => []
def wj72 : Nat → Option (List Nat) := fun
  | 6 => some [5]
  | _ => none
def kr72 : Nat → List Nat := fun _ => []
noncomputable def e72 : Ent := entOf Try.f72 ⟨p72, wl72, wj72, kr72, []⟩
theorem g72 : EntOk Try.prog tys stl 72 e72 := .inr ⟨rfl, Try.func72, by kernel_rfl, by kernel_rfl, by kernel_rfl, by kernel_rfl, by kernel_rfl, rfl⟩
/- 73: foghorn/field.turned -/
def p73 : Nat → Option PlanC := fun _ => none
def wl73 : Nat → List Nat := fun _ => []
def wj73 : Nat → Option (List Nat) := fun
  | 4 => some [0]
  | _ => none
def kr73 : Nat → List Nat := fun _ => []
noncomputable def e73 : Ent := entOf Try.f73 ⟨p73, wl73, wj73, kr73, []⟩
theorem g73 : EntOk Try.prog tys stl 73 e73 := .inr ⟨rfl, Try.func73, by kernel_rfl, by kernel_rfl, by kernel_rfl, by kernel_rfl, by kernel_rfl, rfl⟩
noncomputable def ents : List (Nat × Ent) := [(5, e5), (10, e10), (17, e17), (21, e21), (33, e33), (34, e34), (35, e35), (39, e39), (40, e40), (41, e41), (42, e42), (46, e46), (53, e53), (54, e54), (55, e55), (56, e56), (58, e58), (59, e59), (60, e60), (61, e61), (62, e62), (66, e66), (68, e68), (69, e69), (70, e70), (71, e71), (72, e72), (73, e73)]
theorem goods : EntsOk Try.prog tys stl ents := ⟨g5, g10, g17, g21, g33, g34, g35, g39, g40, g41, g42, g46, g53, g54, g55, g56, g58, g59, g60, g61, g62, g66, g68, g69, g70, g71, g72, g73, True.intro⟩
noncomputable def tab : Nat → Option Ent := (tabOf ents).get
theorem fok : FOk Try.prog tys stl tab := fok_of goods
noncomputable def d0 : Disp := .leaf
theorem d0_ok : CallSim Try.prog tys stl tab d0.fn := Disp.sim True.intro
/- foghorn/mend.isWithin -/
noncomputable def R35 (q_share : (α : Type) → α → (α → Bool) → Bool) (q_genW : Option CV → (W → Bool) → Bool) (q_addW : Nat → Nat → Option CV → W → W → (W → Bool) → Bool) (q_cmpW : (Nat → Nat → Bool) → Nat → Option CV → W → W → (W → Bool) → Bool) (q_condW : W → Bool → Bool → Bool) (q_idxAW : Nat → Nat → W → W → (W → Bool) → Bool) (q_killVW : W → HW → (HW → Bool) → Bool) (q_loadSW : HW → W → (W → Bool) → Bool) (q_boxW : HW → Nat → W → KW → Bool) (fu : Nat) (call : CallW) (a0 : W) (a1 : W) (a2 : W) (a3 : W) (h0 : HW) (c0 : Nat) (K : KW) : Bool :=
q_boxW h0 c0 a3 fun v1 h2 c3 =>
q_genW (lenMC Try.prog tys ⟨[], 0, decH h2, 0⟩ 9 (dec a0)) fun v4 =>
@Nat.rec (fun _ => Fun 2) (fun _ _ _ _ => false) (fun _ f9 v5 v6 h7 c8 =>
q_cmpW (cmpF2 .lss) 3 (binC Try.prog .lss 3 (.tmp 13) (.tmp 12) (dec v6) (dec v4)) v6 v4 fun v10 =>
q_condW v10 (
q_share _ (fun (v11 : W) (h12 : HW) (c13 : Nat) =>
q_addW 3 9223372036854775807 (binC Try.prog .add 3 (.tmp 13) (.const (.int .i64 (.ofNat 1))) (dec v6) (dec ⟨3, 1, r0, []⟩)) v6 ⟨3, 1, r0, []⟩ fun v15 =>
f9 v11 v15 h12 c13) fun f14 =>
q_idxAW 1 255 v1 v6 fun v16 =>
q_loadSW h7 v16 fun v17 =>
q_condW v17 (
q_addW 3 9223372036854775807 (binC Try.prog .add 3 (.tmp 19) (.const (.int .i64 (.ofNat 1))) (dec v5) (dec ⟨3, 1, r0, []⟩)) v5 ⟨3, 1, r0, []⟩ fun v18 =>
f14 v18 h7 c8) (
q_genW (two2 Try.prog (dec a0) (dec v6) (Instr.index 9)) fun v19 =>
q_genW (two2 Try.prog (dec a1) (dec v6) (Instr.index 9)) fun v20 =>
q_cmpW (cmpF2 .neq) 4 (binC Try.prog .neq 5 (.tmp 23) (.tmp 26) (dec v19) (dec v20)) v19 v20 fun v21 =>
q_condW v21 (
q_addW 3 9223372036854775807 (binC Try.prog .add 3 (.tmp 28) (.const (.int .i64 (.ofNat 2))) (dec v5) (dec ⟨3, 2, r0, []⟩)) v5 ⟨3, 2, r0, []⟩ fun v22 =>
f14 v22 h7 c8) (
f14 v5 h7 c8))) (
q_cmpW (cmpF2 .leq) 3 (binC Try.prog .leq 3 (.tmp 31) (.tmp 32) (dec v5) (dec a2)) v5 a2 fun v23 =>
q_killVW v1 h7 fun h24 =>
K v23 h24 c8)) fu ⟨3, 0, r0, []⟩ ⟨3, 0, r0, []⟩ h2 c3
theorem R35_eq (Q : PrimW) (fu : Nat) (call : CallW) : curryA 4 (fnK Q Try.prog tys stl fu call e35) = R35 Q.share Q.genW Q.addW Q.cmpW Q.condW Q.idxAW Q.killVW Q.loadSW Q.boxW fu call := by kernel_rfl
noncomputable def n35 : List W → HW → Nat → KW → Bool := appF 4 (R35 (fun _ x f => f x) genW addW cmpW condW idxAW killVW loadSW boxW 1000000 d0.fn)
theorem n35_ok : FnGood Try.prog tys stl tab 35 n35 := node_ok d0_ok (by kernel_rfl) rfl g35 (R35_eq real _ _)
/- foghorn/mend.marked -/
noncomputable def R39 (q_share : (α : Type) → α → (α → Bool) → Bool) (q_addW : Nat → Nat → Option CV → W → W → (W → Bool) → Bool) (q_cmpW : (Nat → Nat → Bool) → Nat → Option CV → W → W → (W → Bool) → Bool) (q_condW : W → Bool → Bool → Bool) (q_guardW : Bool → W → Bool → Bool → Bool) (q_pickW : W → W → W → (W → Bool) → Bool) (q_idxSW : Nat → W → W → (W → Bool) → Bool) (q_idxAW : Nat → Nat → W → W → (W → Bool) → Bool) (q_lenW : Option CV → W → (W → Bool) → Bool) (q_loadSW : HW → W → (W → Bool) → Bool) (q_loadAW : Nat → HW → W → (W → Bool) → Bool) (q_storeSW : HW → W → W → (HW → Bool) → Bool) (q_storeAW : Nat → HW → W → W → (HW → Bool) → Bool) (q_allocW : Trie W → Nat → Bool → HW → Nat → KW → Bool) (fu : Nat) (call : CallW) (a0 : W) (a1 : W) (h0 : HW) (c0 : Nat) (K : KW) : Bool :=
q_allocW (allocT tys 74) 255 true h0 c0 fun v1 h2 c3 =>
q_share _ (fun (v4 : W) (h5 : HW) (c6 : Nat) =>
q_loadAW 255 h5 v1 fun v8 =>
q_storeAW 255 h5 v1 v8 fun h9 =>
q_loadAW 255 h9 v1 fun v10 =>
K ⟨13, 0, r0, [v10, v4]⟩ h9 c6) fun f7 =>
q_lenW (lenC tys 22 (dec a0)) a0 fun v11 =>
@Nat.rec (fun _ => Fun 2) (fun _ _ _ _ => false) (fun _ f16 v12 v13 h14 c15 =>
q_cmpW (cmpF2 .lss) 3 (binC Try.prog .lss 3 (.tmp 10) (.tmp 9) (dec v13) (dec v11)) v13 v11 fun v17 =>
q_condW v17 (
q_idxSW 1 a0 v13 fun v18 =>
q_loadSW h14 v18 fun v19 =>
q_cmpW (cmpF2 .lss) 3 (binC Try.prog .lss 3 (.tmp 14) (.const (.int .i64 (.ofNat 0))) (dec v19) (dec ⟨3, 0, r0, []⟩)) v19 ⟨3, 0, r0, []⟩ fun v20 =>
q_share _ (fun (v22 : W) (h23 : HW) (c24 : Nat) =>
q_share _ (fun (v26 : W) (h27 : HW) (c28 : Nat) =>
q_share _ (fun (v30 : W) (h31 : HW) (c32 : Nat) =>
q_pickW v20 ⟨8, 1, r0, []⟩ v30 fun v33 =>
q_share _ (fun (v35 : W) (h36 : HW) (c37 : Nat) =>
q_share _ (fun (v39 : W) (h40 : HW) (c41 : Nat) =>
q_share _ (fun (v43 : W) (h44 : HW) (c45 : Nat) =>
q_pickW v33 ⟨8, 1, r0, []⟩ v43 fun v46 =>
q_condW v46 (
(fun (v47 : W) =>
q_storeAW 255 h44 v1 v47 fun h48 =>
f7 ⟨3, 1, r0, []⟩ h48 c45) ⟨15, 0, r0, [⟨8, 0, r0, []⟩, ⟨8, 0, r0, []⟩, ⟨8, 0, r0, []⟩, ⟨8, 0, r0, []⟩, ⟨8, 0, r0, []⟩, ⟨8, 0, r0, []⟩, ⟨8, 0, r0, []⟩, ⟨8, 0, r0, []⟩, ⟨8, 0, r0, []⟩, ⟨8, 0, r0, []⟩, ⟨8, 0, r0, []⟩, ⟨8, 0, r0, []⟩, ⟨8, 0, r0, []⟩, ⟨8, 0, r0, []⟩, ⟨8, 0, r0, []⟩, ⟨8, 0, r0, []⟩, ⟨8, 0, r0, []⟩, ⟨8, 0, r0, []⟩, ⟨8, 0, r0, []⟩, ⟨8, 0, r0, []⟩, ⟨8, 0, r0, []⟩, ⟨8, 0, r0, []⟩, ⟨8, 0, r0, []⟩, ⟨8, 0, r0, []⟩, ⟨8, 0, r0, []⟩, ⟨8, 0, r0, []⟩, ⟨8, 0, r0, []⟩, ⟨8, 0, r0, []⟩, ⟨8, 0, r0, []⟩, ⟨8, 0, r0, []⟩, ⟨8, 0, r0, []⟩, ⟨8, 0, r0, []⟩, ⟨8, 0, r0, []⟩, ⟨8, 0, r0, []⟩, ⟨8, 0, r0, []⟩, ⟨8, 0, r0, []⟩, ⟨8, 0, r0, []⟩, ⟨8, 0, r0, []⟩, ⟨8, 0, r0, []⟩, ⟨8, 0, r0, []⟩, ⟨8, 0, r0, []⟩, ⟨8, 0, r0, []⟩, ⟨8, 0, r0, []⟩, ⟨8, 0, r0, []⟩, ⟨8, 0, r0, []⟩, ⟨8, 0, r0, []⟩, ⟨8, 0, r0, []⟩, ⟨8, 0, r0, []⟩, ⟨8, 0, r0, []⟩, ⟨8, 0, r0, []⟩, ⟨8, 0, r0, []⟩, ⟨8, 0, r0, []⟩, ⟨8, 0, r0, []⟩, ⟨8, 0, r0, []⟩, ⟨8, 0, r0, []⟩, ⟨8, 0, r0, []⟩, ⟨8, 0, r0, []⟩, ⟨8, 0, r0, []⟩, ⟨8, 0, r0, []⟩, ⟨8, 0, r0, []⟩, ⟨8, 0, r0, []⟩, ⟨8, 0, r0, []⟩, ⟨8, 0, r0, []⟩, ⟨8, 0, r0, []⟩, ⟨8, 0, r0, []⟩, ⟨8, 0, r0, []⟩, ⟨8, 0, r0, []⟩, ⟨8, 0, r0, []⟩, ⟨8, 0, r0, []⟩, ⟨8, 0, r0, []⟩, ⟨8, 0, r0, []⟩, ⟨8, 0, r0, []⟩, ⟨8, 0, r0, []⟩, ⟨8, 0, r0, []⟩, ⟨8, 0, r0, []⟩, ⟨8, 0, r0, []⟩, ⟨8, 0, r0, []⟩, ⟨8, 0, r0, []⟩, ⟨8, 0, r0, []⟩, ⟨8, 0, r0, []⟩, ⟨8, 0, r0, []⟩, ⟨8, 0, r0, []⟩, ⟨8, 0, r0, []⟩, ⟨8, 0, r0, []⟩, ⟨8, 0, r0, []⟩, ⟨8, 0, r0, []⟩, ⟨8, 0, r0, []⟩, ⟨8, 0, r0, []⟩, ⟨8, 0, r0, []⟩, ⟨8, 0, r0, []⟩, ⟨8, 0, r0, []⟩, ⟨8, 0, r0, []⟩, ⟨8, 0, r0, []⟩, ⟨8, 0, r0, []⟩, ⟨8, 0, r0, []⟩, ⟨8, 0, r0, []⟩, ⟨8, 0, r0, []⟩, ⟨8, 0, r0, []⟩, ⟨8, 0, r0, []⟩, ⟨8, 0, r0, []⟩, ⟨8, 0, r0, []⟩, ⟨8, 0, r0, []⟩, ⟨8, 0, r0, []⟩, ⟨8, 0, r0, []⟩, ⟨8, 0, r0, []⟩, ⟨8, 0, r0, []⟩, ⟨8, 0, r0, []⟩, ⟨8, 0, r0, []⟩, ⟨8, 0, r0, []⟩, ⟨8, 0, r0, []⟩, ⟨8, 0, r0, []⟩, ⟨8, 0, r0, []⟩, ⟨8, 0, r0, []⟩, ⟨8, 0, r0, []⟩, ⟨8, 0, r0, []⟩, ⟨8, 0, r0, []⟩, ⟨8, 0, r0, []⟩, ⟨8, 0, r0, []⟩, ⟨8, 0, r0, []⟩, ⟨8, 0, r0, []⟩, ⟨8, 0, r0, []⟩, ⟨8, 0, r0, []⟩, ⟨8, 0, r0, []⟩, ⟨8, 0, r0, []⟩, ⟨8, 0, r0, []⟩, ⟨8, 0, r0, []⟩, ⟨8, 0, r0, []⟩, ⟨8, 0, r0, []⟩, ⟨8, 0, r0, []⟩, ⟨8, 0, r0, []⟩, ⟨8, 0, r0, []⟩, ⟨8, 0, r0, []⟩, ⟨8, 0, r0, []⟩, ⟨8, 0, r0, []⟩, ⟨8, 0, r0, []⟩, ⟨8, 0, r0, []⟩, ⟨8, 0, r0, []⟩, ⟨8, 0, r0, []⟩, ⟨8, 0, r0, []⟩, ⟨8, 0, r0, []⟩, ⟨8, 0, r0, []⟩, ⟨8, 0, r0, []⟩, ⟨8, 0, r0, []⟩, ⟨8, 0, r0, []⟩, ⟨8, 0, r0, []⟩, ⟨8, 0, r0, []⟩, ⟨8, 0, r0, []⟩, ⟨8, 0, r0, []⟩, ⟨8, 0, r0, []⟩, ⟨8, 0, r0, []⟩, ⟨8, 0, r0, []⟩, ⟨8, 0, r0, []⟩, ⟨8, 0, r0, []⟩, ⟨8, 0, r0, []⟩, ⟨8, 0, r0, []⟩, ⟨8, 0, r0, []⟩, ⟨8, 0, r0, []⟩, ⟨8, 0, r0, []⟩, ⟨8, 0, r0, []⟩, ⟨8, 0, r0, []⟩, ⟨8, 0, r0, []⟩, ⟨8, 0, r0, []⟩, ⟨8, 0, r0, []⟩, ⟨8, 0, r0, []⟩, ⟨8, 0, r0, []⟩, ⟨8, 0, r0, []⟩, ⟨8, 0, r0, []⟩, ⟨8, 0, r0, []⟩, ⟨8, 0, r0, []⟩, ⟨8, 0, r0, []⟩, ⟨8, 0, r0, []⟩, ⟨8, 0, r0, []⟩, ⟨8, 0, r0, []⟩, ⟨8, 0, r0, []⟩, ⟨8, 0, r0, []⟩, ⟨8, 0, r0, []⟩, ⟨8, 0, r0, []⟩, ⟨8, 0, r0, []⟩, ⟨8, 0, r0, []⟩, ⟨8, 0, r0, []⟩, ⟨8, 0, r0, []⟩, ⟨8, 0, r0, []⟩, ⟨8, 0, r0, []⟩, ⟨8, 0, r0, []⟩, ⟨8, 0, r0, []⟩, ⟨8, 0, r0, []⟩, ⟨8, 0, r0, []⟩, ⟨8, 0, r0, []⟩, ⟨8, 0, r0, []⟩, ⟨8, 0, r0, []⟩, ⟨8, 0, r0, []⟩, ⟨8, 0, r0, []⟩, ⟨8, 0, r0, []⟩, ⟨8, 0, r0, []⟩, ⟨8, 0, r0, []⟩, ⟨8, 0, r0, []⟩, ⟨8, 0, r0, []⟩, ⟨8, 0, r0, []⟩, ⟨8, 0, r0, []⟩, ⟨8, 0, r0, []⟩, ⟨8, 0, r0, []⟩, ⟨8, 0, r0, []⟩, ⟨8, 0, r0, []⟩, ⟨8, 0, r0, []⟩, ⟨8, 0, r0, []⟩, ⟨8, 0, r0, []⟩, ⟨8, 0, r0, []⟩, ⟨8, 0, r0, []⟩, ⟨8, 0, r0, []⟩, ⟨8, 0, r0, []⟩, ⟨8, 0, r0, []⟩, ⟨8, 0, r0, []⟩, ⟨8, 0, r0, []⟩, ⟨8, 0, r0, []⟩, ⟨8, 0, r0, []⟩, ⟨8, 0, r0, []⟩, ⟨8, 0, r0, []⟩, ⟨8, 0, r0, []⟩, ⟨8, 0, r0, []⟩, ⟨8, 0, r0, []⟩, ⟨8, 0, r0, []⟩, ⟨8, 0, r0, []⟩, ⟨8, 0, r0, []⟩, ⟨8, 0, r0, []⟩, ⟨8, 0, r0, []⟩, ⟨8, 0, r0, []⟩, ⟨8, 0, r0, []⟩, ⟨8, 0, r0, []⟩, ⟨8, 0, r0, []⟩, ⟨8, 0, r0, []⟩, ⟨8, 0, r0, []⟩, ⟨8, 0, r0, []⟩, ⟨8, 0, r0, []⟩, ⟨8, 0, r0, []⟩, ⟨8, 0, r0, []⟩, ⟨8, 0, r0, []⟩, ⟨8, 0, r0, []⟩, ⟨8, 0, r0, []⟩, ⟨8, 0, r0, []⟩, ⟨8, 0, r0, []⟩, ⟨8, 0, r0, []⟩, ⟨8, 0, r0, []⟩, ⟨8, 0, r0, []⟩, ⟨8, 0, r0, []⟩, ⟨8, 0, r0, []⟩, ⟨8, 0, r0, []⟩, ⟨8, 0, r0, []⟩, ⟨8, 0, r0, []⟩, ⟨8, 0, r0, []⟩, ⟨8, 0, r0, []⟩, ⟨8, 0, r0, []⟩, ⟨8, 0, r0, []⟩, ⟨8, 0, r0, []⟩, ⟨8, 0, r0, []⟩, ⟨8, 0, r0, []⟩]⟩) (
q_idxAW 1 255 v1 v19 fun v49 =>
q_storeSW h44 v49 ⟨8, 1, r0, []⟩ fun h50 =>
q_addW 3 9223372036854775807 (binC Try.prog .add 3 (.tmp 10) (.const (.int .i64 (.ofNat 1))) (dec v13) (dec ⟨3, 1, r0, []⟩)) v13 ⟨3, 1, r0, []⟩ fun v51 =>
f16 v12 v51 h50 c45)) fun f42 =>
q_guardW false v33 (q_loadSW h40 v39 fun v52 =>
f42 v52 h40 c41) (f42 wUnd h40 c41)) fun f38 =>
q_guardW false v33 (q_idxAW 1 255 v1 v35 fun v53 =>
f38 v53 h36 c37) (f38 wUnd h36 c37)) fun f34 =>
q_guardW false v33 (f34 v19 h31 c32) (f34 wUnd h31 c32)) fun f29 =>
q_guardW false v20 (q_cmpW (cmpF2 .geq) 3 (binC Try.prog .geq 3 (.tmp 17) (.tmp 18) (dec v22) (dec v26)) v22 v26 fun v54 =>
f29 v54 h27 c28) (f29 wUnd h27 c28)) fun f25 =>
q_guardW false v20 (f25 a1 h23 c24) (f25 wUnd h23 c24)) fun f21 =>
q_guardW false v20 (f21 v19 h14 c15) (f21 wUnd h14 c15)) (
f7 v12 h14 c15)) fu ⟨3, 0, r0, []⟩ ⟨3, 0, r0, []⟩ h2 c3
theorem R39_eq (Q : PrimW) (fu : Nat) (call : CallW) : curryA 2 (fnK Q Try.prog tys stl fu call e39) = R39 Q.share Q.addW Q.cmpW Q.condW Q.guardW Q.pickW Q.idxSW Q.idxAW Q.lenW Q.loadSW Q.loadAW Q.storeSW Q.storeAW Q.allocW fu call := by kernel_rfl
noncomputable def n39 : List W → HW → Nat → KW → Bool := appF 2 (R39 (fun _ x f => f x) addW cmpW condW guardW pickW idxSW idxAW lenW loadSW loadAW storeSW storeAW allocW 1000000 d0.fn)
theorem n39_ok : FnGood Try.prog tys stl tab 39 n39 := node_ok d0_ok (by kernel_rfl) rfl g39 (R39_eq real _ _)
/- foghorn/field.tooLong -/
noncomputable def R58 (q_addW : Nat → Nat → Option CV → W → W → (W → Bool) → Bool) (q_cmpW : (Nat → Nat → Bool) → Nat → Option CV → W → W → (W → Bool) → Bool) (q_condW : W → Bool → Bool → Bool) (q_idxSW : Nat → W → W → (W → Bool) → Bool) (q_lenW : Option CV → W → (W → Bool) → Bool) (q_loadSW : HW → W → (W → Bool) → Bool) (fu : Nat) (call : CallW) (a0 : W) (h0 : HW) (c0 : Nat) (K : KW) : Bool :=
q_lenW (lenC tys 91 (dec a0)) a0 fun v1 =>
@Nat.rec (fun _ => Fun 1) (fun _ _ _ => false) (fun _ f5 v2 h3 c4 =>
q_cmpW (cmpF2 .lss) 3 (binC Try.prog .lss 3 (.tmp 7) (.tmp 6) (dec v2) (dec v1)) v2 v1 fun v6 =>
q_condW v6 (
q_idxSW 1 a0 v2 fun v7 =>
q_loadSW h3 v7 fun v8 =>
q_lenW (lenC tys 36 (dec v8)) v8 fun v9 =>
q_cmpW (cmpF2 .gtr) 3 (binC Try.prog .gtr 3 (.tmp 12) (.const (.int .i64 (.ofNat 512))) (dec v9) (dec ⟨3, 512, r0, []⟩)) v9 ⟨3, 512, r0, []⟩ fun v10 =>
q_condW v10 (
K ⟨8, 1, r0, []⟩ h3 c4) (
q_addW 3 9223372036854775807 (binC Try.prog .add 3 (.tmp 7) (.const (.int .i64 (.ofNat 1))) (dec v2) (dec ⟨3, 1, r0, []⟩)) v2 ⟨3, 1, r0, []⟩ fun v11 =>
f5 v11 h3 c4)) (
K ⟨8, 0, r0, []⟩ h3 c4)) fu ⟨3, 0, r0, []⟩ h0 c0
theorem R58_eq (Q : PrimW) (fu : Nat) (call : CallW) : curryA 1 (fnK Q Try.prog tys stl fu call e58) = R58 Q.addW Q.cmpW Q.condW Q.idxSW Q.lenW Q.loadSW fu call := by kernel_rfl
noncomputable def n58 : List W → HW → Nat → KW → Bool := appF 1 (R58 addW cmpW condW idxSW lenW loadSW 1000000 d0.fn)
theorem n58_ok : FnGood Try.prog tys stl tab 58 n58 := node_ok d0_ok (by kernel_rfl) rfl g58 (R58_eq real _ _)
/- foghorn/reed.areChecks -/
noncomputable def R61 (q_share : (α : Type) → α → (α → Bool) → Bool) (q_remW : Nat → Nat → Option CV → W → W → (W → Bool) → Bool) (q_cmpW : (Nat → Nat → Bool) → Nat → Option CV → W → W → (W → Bool) → Bool) (q_guardW : Bool → W → Bool → Bool → Bool) (q_pickW : W → W → W → (W → Bool) → Bool) (fu : Nat) (call : CallW) (a0 : W) (h0 : HW) (c0 : Nat) (K : KW) : Bool :=
q_cmpW (cmpF2 .geq) 3 (binC Try.prog .geq 3 (.tmp 3) (.const (.int .i64 (.ofNat 2))) (dec a0) (dec ⟨3, 2, r0, []⟩)) a0 ⟨3, 2, r0, []⟩ fun v1 =>
q_share _ (fun (v3 : W) (h4 : HW) (c5 : Nat) =>
q_share _ (fun (v7 : W) (h8 : HW) (c9 : Nat) =>
q_pickW v1 v7 ⟨8, 0, r0, []⟩ fun v10 =>
q_share _ (fun (v12 : W) (h13 : HW) (c14 : Nat) =>
q_share _ (fun (v16 : W) (h17 : HW) (c18 : Nat) =>
q_share _ (fun (v20 : W) (h21 : HW) (c22 : Nat) =>
q_pickW v10 v20 ⟨8, 0, r0, []⟩ fun v23 =>
K v23 h21 c22) fun f19 =>
q_guardW true v10 (q_cmpW (cmpF2 .eql) 3 (binC Try.prog .eql 3 (.tmp 11) (.const (.int .i64 (.ofNat 0))) (dec v16) (dec ⟨3, 0, r0, []⟩)) v16 ⟨3, 0, r0, []⟩ fun v24 =>
f19 v24 h17 c18) (f19 wUnd h17 c18)) fun f15 =>
q_guardW true v10 (q_remW 3 9223372036854775807 (binC Try.prog .rem 3 (.tmp 10) (.const (.int .i64 (.ofNat 2))) (dec v12) (dec ⟨3, 2, r0, []⟩)) v12 ⟨3, 2, r0, []⟩ fun v25 =>
f15 v25 h13 c14) (f15 wUnd h13 c14)) fun f11 =>
q_guardW true v10 (f11 a0 h8 c9) (f11 wUnd h8 c9)) fun f6 =>
q_guardW true v1 (q_cmpW (cmpF2 .leq) 3 (binC Try.prog .leq 3 (.tmp 6) (.const (.int .i64 (.ofNat 64))) (dec v3) (dec ⟨3, 64, r0, []⟩)) v3 ⟨3, 64, r0, []⟩ fun v26 =>
f6 v26 h4 c5) (f6 wUnd h4 c5)) fun f2 =>
q_guardW true v1 (f2 a0 h0 c0) (f2 wUnd h0 c0)
theorem R61_eq (Q : PrimW) (fu : Nat) (call : CallW) : curryA 1 (fnK Q Try.prog tys stl fu call e61) = R61 Q.share Q.remW Q.cmpW Q.guardW Q.pickW fu call := by kernel_rfl
noncomputable def n61 : List W → HW → Nat → KW → Bool := appF 1 (R61 (fun _ x f => f x) remW cmpW guardW pickW 1000000 d0.fn)
theorem n61_ok : FnGood Try.prog tys stl tab 61 n61 := node_ok d0_ok (by kernel_rfl) rfl g61 (R61_eq real _ _)
/- foghorn/reed.isWord -/
noncomputable def R62 (q_share : (α : Type) → α → (α → Bool) → Bool) (q_cmpW : (Nat → Nat → Bool) → Nat → Option CV → W → W → (W → Bool) → Bool) (q_guardW : Bool → W → Bool → Bool → Bool) (q_pickW : W → W → W → (W → Bool) → Bool) (fu : Nat) (call : CallW) (a0 : W) (a1 : W) (h0 : HW) (c0 : Nat) (K : KW) : Bool :=
q_cmpW (cmpF2 .gtr) 3 (binC Try.prog .gtr 3 (.tmp 5) (.tmp 6) (dec a0) (dec a1)) a0 a1 fun v1 =>
q_share _ (fun (v3 : W) (h4 : HW) (c5 : Nat) =>
q_share _ (fun (v7 : W) (h8 : HW) (c9 : Nat) =>
q_pickW v1 v7 ⟨8, 0, r0, []⟩ fun v10 =>
K v10 h8 c9) fun f6 =>
q_guardW true v1 (q_cmpW (cmpF2 .leq) 3 (binC Try.prog .leq 3 (.tmp 9) (.const (.int .i64 (.ofNat 255))) (dec v3) (dec ⟨3, 255, r0, []⟩)) v3 ⟨3, 255, r0, []⟩ fun v11 =>
f6 v11 h4 c5) (f6 wUnd h4 c5)) fun f2 =>
q_guardW true v1 (f2 a0 h0 c0) (f2 wUnd h0 c0)
theorem R62_eq (Q : PrimW) (fu : Nat) (call : CallW) : curryA 2 (fnK Q Try.prog tys stl fu call e62) = R62 Q.share Q.cmpW Q.guardW Q.pickW fu call := by kernel_rfl
noncomputable def n62 : List W → HW → Nat → KW → Bool := appF 2 (R62 (fun _ x f => f x) cmpW guardW pickW 1000000 d0.fn)
theorem n62_ok : FnGood Try.prog tys stl tab 62 n62 := node_ok d0_ok (by kernel_rfl) rfl g62 (R62_eq real _ _)
/- foghorn/field.Times -/
noncomputable def R66 (q_bitW : (Nat → Nat → Nat) → Nat → Nat → Option CV → W → W → (W → Bool) → Bool) (q_cmpW : (Nat → Nat → Bool) → Nat → Option CV → W → W → (W → Bool) → Bool) (q_shlW : Nat → Nat → Nat → Option CV → W → W → (W → Bool) → Bool) (q_shrW : Nat → Nat → Option CV → W → W → (W → Bool) → Bool) (q_negW : Nat → Nat → Bool → Option CV → W → (W → Bool) → Bool) (q_condW : W → Bool → Bool → Bool) (fu : Nat) (call : CallW) (a0 : W) (a1 : W) (h0 : HW) (c0 : Nat) (K : KW) : Bool :=
@Nat.rec (fun _ => Fun 3) (fun _ _ _ _ _ => false) (fun _ f6 v1 v2 v3 h4 c5 =>
q_cmpW (cmpF2 .neq) 4 (binC Try.prog .neq 5 (.tmp 7) (.const (.int .u8 (.ofNat 0))) (dec v2) (dec ⟨4, 0, r0, []⟩)) v2 ⟨4, 0, r0, []⟩ fun v7 =>
q_condW v7 (
q_bitW Nat.land 4 255 (binC Try.prog .and 5 (.tmp 13) (.const (.int .u8 (.ofNat 1))) (dec v2) (dec ⟨4, 1, r0, []⟩)) v2 ⟨4, 1, r0, []⟩ fun v8 =>
q_negW 4 255 true (two Try.prog (dec v8) (Op.unary .neg)) v8 fun v9 =>
q_bitW Nat.land 4 255 (binC Try.prog .and 5 (.tmp 12) (.tmp 15) (dec v1) (dec v9)) v1 v9 fun v10 =>
q_bitW Nat.xor 4 255 (binC Try.prog .xor 5 (.tmp 11) (.tmp 16) (dec v3) (dec v10)) v3 v10 fun v11 =>
q_shrW 4 8 (binC Try.prog .shr 5 (.tmp 18) (.const (.int .u64 (.ofNat 7))) (dec v1) (dec ⟨7, 7, r0, []⟩)) v1 ⟨7, 7, r0, []⟩ fun v12 =>
q_negW 4 255 true (two Try.prog (dec v12) (Op.unary .neg)) v12 fun v13 =>
q_bitW Nat.land 4 255 (binC Try.prog .and 5 (.const (.int .u8 (.ofNat 29))) (.tmp 20) (dec ⟨4, 29, r0, []⟩) (dec v13)) ⟨4, 29, r0, []⟩ v13 fun v14 =>
q_shlW 4 255 8 (binC Try.prog .shl 5 (.tmp 22) (.const (.int .u64 (.ofNat 1))) (dec v1) (dec ⟨7, 1, r0, []⟩)) v1 ⟨7, 1, r0, []⟩ fun v15 =>
q_bitW Nat.xor 4 255 (binC Try.prog .xor 5 (.tmp 24) (.tmp 25) (dec v15) (dec v14)) v15 v14 fun v16 =>
q_shrW 4 8 (binC Try.prog .shr 5 (.tmp 9) (.const (.int .u64 (.ofNat 1))) (dec v2) (dec ⟨7, 1, r0, []⟩)) v2 ⟨7, 1, r0, []⟩ fun v17 =>
f6 v16 v17 v11 h4 c5) (
K v3 h4 c5)) fu a0 a1 ⟨4, 0, r0, []⟩ h0 c0
theorem R66_eq (Q : PrimW) (fu : Nat) (call : CallW) : curryA 2 (fnK Q Try.prog tys stl fu call e66) = R66 Q.bitW Q.cmpW Q.shlW Q.shrW Q.negW Q.condW fu call := by kernel_rfl
noncomputable def n66 : List W → HW → Nat → KW → Bool := appF 2 (R66 bitW cmpW shlW shrW negW condW 1000000 d0.fn)
theorem n66_ok : FnGood Try.prog tys stl tab 66 n66 := node_ok d0_ok (by kernel_rfl) rfl g66 (R66_eq real _ _)
/- foghorn/field.trimmed -/
noncomputable def R71 (q_share : (α : Type) → α → (α → Bool) → Bool) (q_genW : Option CV → (W → Bool) → Bool) (q_subW : Nat → Nat → Option CV → W → W → (W → Bool) → Bool) (q_cmpW : (Nat → Nat → Bool) → Nat → Option CV → W → W → (W → Bool) → Bool) (q_condW : W → Bool → Bool → Bool) (q_guardW : Bool → W → Bool → Bool → Bool) (q_pickW : W → W → W → (W → Bool) → Bool) (q_idxSW : Nat → W → W → (W → Bool) → Bool) (q_lenW : Option CV → W → (W → Bool) → Bool) (q_loadSW : HW → W → (W → Bool) → Bool) (fu : Nat) (call : CallW) (a0 : W) (h0 : HW) (c0 : Nat) (K : KW) : Bool :=
q_lenW (lenC tys 36 (dec a0)) a0 fun v1 =>
@Nat.rec (fun _ => Fun 1) (fun _ _ _ => false) (fun _ f5 v2 h3 c4 =>
q_cmpW (cmpF2 .gtr) 3 (binC Try.prog .gtr 3 (.tmp 6) (.const (.int .i64 (.ofNat 0))) (dec v2) (dec ⟨3, 0, r0, []⟩)) v2 ⟨3, 0, r0, []⟩ fun v6 =>
q_share _ (fun (v8 : W) (h9 : HW) (c10 : Nat) =>
q_share _ (fun (v12 : W) (h13 : HW) (c14 : Nat) =>
q_share _ (fun (v16 : W) (h17 : HW) (c18 : Nat) =>
q_share _ (fun (v20 : W) (h21 : HW) (c22 : Nat) =>
q_share _ (fun (v24 : W) (h25 : HW) (c26 : Nat) =>
q_share _ (fun (v28 : W) (h29 : HW) (c30 : Nat) =>
q_pickW v6 v28 ⟨8, 0, r0, []⟩ fun v31 =>
q_condW v31 (
q_subW 3 9223372036854775807 (binC Try.prog .sub 3 (.tmp 16) (.const (.int .i64 (.ofNat 1))) (dec v2) (dec ⟨3, 1, r0, []⟩)) v2 ⟨3, 1, r0, []⟩ fun v32 =>
f5 v32 h29 c30) (
q_genW (sliceC tys 36 (dec a0) none (some (dec v2)) none) fun v33 =>
K v33 h29 c30)) fun f27 =>
q_guardW true v6 (q_cmpW (cmpF2 .eql) 4 (binC Try.prog .eql 5 (.tmp 13) (.const (.int .u8 (.ofNat 0))) (dec v24) (dec ⟨4, 0, r0, []⟩)) v24 ⟨4, 0, r0, []⟩ fun v34 =>
f27 v34 h25 c26) (f27 wUnd h25 c26)) fun f23 =>
q_guardW true v6 (q_loadSW h21 v20 fun v35 =>
f23 v35 h21 c22) (f23 wUnd h21 c22)) fun f19 =>
q_guardW true v6 (q_idxSW 1 v8 v16 fun v36 =>
f19 v36 h17 c18) (f19 wUnd h17 c18)) fun f15 =>
q_guardW true v6 (q_subW 3 9223372036854775807 (binC Try.prog .sub 3 (.tmp 10) (.const (.int .i64 (.ofNat 1))) (dec v12) (dec ⟨3, 1, r0, []⟩)) v12 ⟨3, 1, r0, []⟩ fun v37 =>
f15 v37 h13 c14) (f15 wUnd h13 c14)) fun f11 =>
q_guardW true v6 (f11 v2 h9 c10) (f11 wUnd h9 c10)) fun f7 =>
q_guardW true v6 (f7 a0 h3 c4) (f7 wUnd h3 c4)) fu v1 h0 c0
theorem R71_eq (Q : PrimW) (fu : Nat) (call : CallW) : curryA 1 (fnK Q Try.prog tys stl fu call e71) = R71 Q.share Q.genW Q.subW Q.cmpW Q.condW Q.guardW Q.pickW Q.idxSW Q.lenW Q.loadSW fu call := by kernel_rfl
noncomputable def n71 : List W → HW → Nat → KW → Bool := appF 1 (R71 (fun _ x f => f x) genW subW cmpW condW guardW pickW idxSW lenW loadSW 1000000 d0.fn)
theorem n71_ok : FnGood Try.prog tys stl tab 71 n71 := node_ok d0_ok (by kernel_rfl) rfl g71 (R71_eq real _ _)
/- foghorn/field.turned -/
noncomputable def R73 (q_share : (α : Type) → α → (α → Bool) → Bool) (q_addW : Nat → Nat → Option CV → W → W → (W → Bool) → Bool) (q_remW : Nat → Nat → Option CV → W → W → (W → Bool) → Bool) (q_cmpW : (Nat → Nat → Bool) → Nat → Option CV → W → W → (W → Bool) → Bool) (q_condW : W → Bool → Bool → Bool) (fu : Nat) (call : CallW) (a0 : W) (h0 : HW) (c0 : Nat) (K : KW) : Bool :=
q_remW 3 9223372036854775807 (binC Try.prog .rem 3 (.tmp 3) (.const (.int .i64 (.ofNat 255))) (dec a0) (dec ⟨3, 255, r0, []⟩)) a0 ⟨3, 255, r0, []⟩ fun v1 =>
q_share _ (fun (v2 : W) (h3 : HW) (c4 : Nat) =>
K v2 h3 c4) fun f5 =>
q_cmpW (cmpF2 .lss) 3 (binC Try.prog .lss 3 (.tmp 5) (.const (.int .i64 (.ofNat 0))) (dec v1) (dec ⟨3, 0, r0, []⟩)) v1 ⟨3, 0, r0, []⟩ fun v6 =>
q_condW v6 (
q_addW 3 9223372036854775807 (binC Try.prog .add 3 (.tmp 7) (.const (.int .i64 (.ofNat 255))) (dec v1) (dec ⟨3, 255, r0, []⟩)) v1 ⟨3, 255, r0, []⟩ fun v7 =>
f5 v7 h0 c0) (
f5 v1 h0 c0)
theorem R73_eq (Q : PrimW) (fu : Nat) (call : CallW) : curryA 1 (fnK Q Try.prog tys stl fu call e73) = R73 Q.share Q.addW Q.remW Q.cmpW Q.condW fu call := by kernel_rfl
noncomputable def n73 : List W → HW → Nat → KW → Bool := appF 1 (R73 (fun _ x f => f x) addW remW cmpW condW 1000000 d0.fn)
theorem n73_ok : FnGood Try.prog tys stl tab 73 n73 := node_ok d0_ok (by kernel_rfl) rfl g73 (R73_eq real _ _)
noncomputable def d1 : Disp := (.node 62 n62 (.node 58 n58 (.node 39 n39 (.node 35 n35 .leaf .leaf) .leaf) (.node 61 n61 .leaf .leaf)) (.node 71 n71 (.node 66 n66 .leaf .leaf) (.node 73 n73 .leaf .leaf)))
theorem d1_ok : CallSim Try.prog tys stl tab d1.fn := Disp.sim ⟨n62_ok, ⟨n58_ok, ⟨n39_ok, ⟨n35_ok, True.intro, True.intro⟩, True.intro⟩, ⟨n61_ok, True.intro, True.intro⟩⟩, ⟨n71_ok, ⟨n66_ok, True.intro, True.intro⟩, ⟨n73_ok, True.intro, True.intro⟩⟩⟩
/- foghorn/reed.Check -/
noncomputable def R46 (q_share : (α : Type) → α → (α → Bool) → Bool) (q_notW : Option CV → W → (W → Bool) → Bool) (q_condW : W → Bool → Bool → Bool) (q_guardW : Bool → W → Bool → Bool → Bool) (q_pickW : W → W → W → (W → Bool) → Bool) (fu : Nat) (call : CallW) (a0 : W) (a1 : W) (h0 : HW) (c0 : Nat) (K : KW) : Bool :=
call 61 [a1] h0 c0 fun v1 h2 c3 =>
q_notW (two Try.prog (dec v1) (Op.unary .not)) v1 fun v4 =>
q_share _ (fun (v6 : W) (h7 : HW) (c8 : Nat) =>
q_share _ (fun (v10 : W) (h11 : HW) (c12 : Nat) =>
q_share _ (fun (v14 : W) (h15 : HW) (c16 : Nat) =>
q_share _ (fun (v18 : W) (h19 : HW) (c20 : Nat) =>
q_pickW v4 ⟨8, 1, r0, []⟩ v18 fun v21 =>
q_condW v21 (
K ⟨3, 1, r0, []⟩ h19 c20) (
K ⟨3, 0, r0, []⟩ h19 c20)) fun f17 =>
q_guardW false v4 (q_notW (two Try.prog (dec v14) (Op.unary .not)) v14 fun v22 =>
f17 v22 h15 c16) (f17 wUnd h15 c16)) fun f13 =>
q_guardW false v4 (call 62 [v6, v10] h11 c12 fun v23 h24 c25 =>
f13 v23 h24 c25) (f13 wUnd h11 c12)) fun f9 =>
q_guardW false v4 (f9 a1 h7 c8) (f9 wUnd h7 c8)) fun f5 =>
q_guardW false v4 (f5 a0 h2 c3) (f5 wUnd h2 c3)
theorem R46_eq (Q : PrimW) (fu : Nat) (call : CallW) : curryA 2 (fnK Q Try.prog tys stl fu call e46) = R46 Q.share Q.notW Q.condW Q.guardW Q.pickW fu call := by kernel_rfl
noncomputable def n46 : List W → HW → Nat → KW → Bool := appF 2 (R46 (fun _ x f => f x) notW condW guardW pickW 1000000 d1.fn)
theorem n46_ok : FnGood Try.prog tys stl tab 46 n46 := node_ok d1_ok (by kernel_rfl) rfl g46 (R46_eq real _ _)
/- (foghorn/mend.polynomial).times -/
noncomputable def R53 (q_share : (α : Type) → α → (α → Bool) → Bool) (q_genW : Option CV → (W → Bool) → Bool) (q_addW : Nat → Nat → Option CV → W → W → (W → Bool) → Bool) (q_subW : Nat → Nat → Option CV → W → W → (W → Bool) → Bool) (q_bitW : (Nat → Nat → Nat) → Nat → Nat → Option CV → W → W → (W → Bool) → Bool) (q_cmpW : (Nat → Nat → Bool) → Nat → Option CV → W → W → (W → Bool) → Bool) (q_condW : W → Bool → Bool → Bool) (q_idxSW : Nat → W → W → (W → Bool) → Bool) (q_idxAW : Nat → Nat → W → W → (W → Bool) → Bool) (q_lenW : Option CV → W → (W → Bool) → Bool) (q_knownW : W → Bool → Bool) (q_killVW : W → HW → (HW → Bool) → Bool) (q_loadSW : HW → W → (W → Bool) → Bool) (q_loadAW : Nat → HW → W → (W → Bool) → Bool) (q_storeSW : HW → W → W → (HW → Bool) → Bool) (q_storeAW : Nat → HW → W → W → (HW → Bool) → Bool) (q_allocW : Trie W → Nat → Bool → HW → Nat → KW → Bool) (q_boxW : HW → Nat → W → KW → Bool) (fu : Nat) (call : CallW) (a0 : W) (a1 : W) (h0 : HW) (c0 : Nat) (K : KW) : Bool :=
q_boxW h0 c0 a0 fun v1 h2 c3 =>
q_boxW h2 c3 a1 fun v4 h5 c6 =>
q_allocW (allocT tys 98) 65 true h5 c6 fun v7 h8 c9 =>
q_allocW (allocT tys 98) 65 true h8 c9 fun v10 h11 c12 =>
q_loadAW 65 h11 v1 fun v13 =>
@Nat.rec (fun _ => Fun 1) (fun _ _ _ => false) (fun _ f17 v14 h15 c16 =>
q_cmpW (cmpF2 .lss) 3 (binC Try.prog .lss 3 (.tmp 11) (.const (.int .i64 (.ofNat 65))) (dec v14) (dec ⟨3, 65, r0, []⟩)) v14 ⟨3, 65, r0, []⟩ fun v18 =>
q_condW v18 (
q_share _ (fun  (h19 : HW) (c20 : Nat) =>
q_addW 3 9223372036854775807 (binC Try.prog .add 3 (.tmp 11) (.const (.int .i64 (.ofNat 1))) (dec v14) (dec ⟨3, 1, r0, []⟩)) v14 ⟨3, 1, r0, []⟩ fun v22 =>
f17 v22 h19 c20) fun f21 =>
q_genW (two2 Try.prog (dec v13) (dec v14) (Instr.index 98)) fun v23 =>
q_cmpW (cmpF2 .eql) 4 (binC Try.prog .eql 5 (.tmp 15) (.const (.int .u8 (.ofNat 0))) (dec v23) (dec ⟨4, 0, r0, []⟩)) v23 ⟨4, 0, r0, []⟩ fun v24 =>
q_condW v24 (
f21 h15 c16) (
q_subW 3 9223372036854775807 (binC Try.prog .sub 3 (.const (.int .i64 (.ofNat 65))) (.tmp 17) (dec ⟨3, 65, r0, []⟩) (dec v14)) ⟨3, 65, r0, []⟩ v14 fun v25 =>
q_genW (sliceC tys 98 (dec v4) none (some (dec v25)) none) fun v26 =>
q_lenW (lenC tys 36 (dec v26)) v26 fun v27 =>
@Nat.rec (fun _ => Fun 1) (fun _ _ _ => false) (fun _ f31 v28 h29 c30 =>
q_cmpW (cmpF2 .lss) 3 (binC Try.prog .lss 3 (.tmp 21) (.tmp 20) (dec v28) (dec v27)) v28 v27 fun v32 =>
q_condW v32 (
q_idxSW 1 v26 v28 fun v33 =>
q_loadSW h29 v33 fun v34 =>
q_addW 3 9223372036854775807 (binC Try.prog .add 3 (.tmp 26) (.tmp 27) (dec v14) (dec v28)) v14 v28 fun v35 =>
q_idxAW 1 65 v10 v35 fun v36 =>
q_loadSW h29 v36 fun v37 =>
call 66 [v23, v34] h29 c30 fun v38 _ _ => q_knownW v38 (
q_bitW Nat.xor 4 255 (binC Try.prog .xor 5 (.tmp 30) (.tmp 33) (dec v37) (dec v38)) v37 v38 fun v39 =>
q_idxAW 1 65 v10 v35 fun v40 =>
q_storeSW h29 v40 v39 fun h41 =>
q_addW 3 9223372036854775807 (binC Try.prog .add 3 (.tmp 21) (.const (.int .i64 (.ofNat 1))) (dec v28) (dec ⟨3, 1, r0, []⟩)) v28 ⟨3, 1, r0, []⟩ fun v42 =>
f31 v42 h41 c30)) (
f21 h29 c30)) fu ⟨3, 0, r0, []⟩ h15 c16)) (
q_loadAW 65 h15 v10 fun v43 =>
q_storeAW 65 h15 v7 v43 fun h44 =>
q_loadAW 65 h44 v7 fun v45 =>
q_killVW v1 h44 fun h46 =>
q_killVW v10 h46 fun h47 =>
K v45 h47 c16)) fu ⟨3, 0, r0, []⟩ h11 c12
theorem R53_eq (Q : PrimW) (fu : Nat) (call : CallW) : curryA 2 (fnK Q Try.prog tys stl fu call e53) = R53 Q.share Q.genW Q.addW Q.subW Q.bitW Q.cmpW Q.condW Q.idxSW Q.idxAW Q.lenW Q.knownW Q.killVW Q.loadSW Q.loadAW Q.storeSW Q.storeAW Q.allocW Q.boxW fu call := by kernel_rfl
noncomputable def n53 : List W → HW → Nat → KW → Bool := appF 2 (R53 (fun _ x f => f x) genW addW subW bitW cmpW condW idxSW idxAW lenW knownW killVW loadSW loadAW storeSW storeAW allocW boxW 1000000 d1.fn)
theorem n53_ok : FnGood Try.prog tys stl tab 53 n53 := node_ok d1_ok (by kernel_rfl) rfl g53 (R53_eq real _ _)
/- foghorn/field.product -/
noncomputable def R59 (q_share : (α : Type) → α → (α → Bool) → Bool) (q_addW : Nat → Nat → Option CV → W → W → (W → Bool) → Bool) (q_subW : Nat → Nat → Option CV → W → W → (W → Bool) → Bool) (q_bitW : (Nat → Nat → Nat) → Nat → Nat → Option CV → W → W → (W → Bool) → Bool) (q_cmpW : (Nat → Nat → Bool) → Nat → Option CV → W → W → (W → Bool) → Bool) (q_condW : W → Bool → Bool → Bool) (q_guardW : Bool → W → Bool → Bool → Bool) (q_pickW : W → W → W → (W → Bool) → Bool) (q_idxSW : Nat → W → W → (W → Bool) → Bool) (q_lenW : Option CV → W → (W → Bool) → Bool) (q_knownW : W → Bool → Bool) (q_loadSW : HW → W → (W → Bool) → Bool) (q_storeSW : HW → W → W → (HW → Bool) → Bool) (q_makeSW : Nat → Nat → Nat → Kind → List W → Bool → HW → Nat → W → W → KW → Bool) (fu : Nat) (call : CallW) (a0 : W) (a1 : W) (h0 : HW) (c0 : Nat) (K : KW) : Bool :=
call 71 [a0] h0 c0 fun v1 h2 c3 =>
call 71 [a1] h2 c3 fun v4 h5 c6 =>
q_lenW (lenC tys 36 (dec v1)) v1 fun v7 =>
q_cmpW (cmpF2 .eql) 3 (binC Try.prog .eql 3 (.tmp 15) (.const (.int .i64 (.ofNat 0))) (dec v7) (dec ⟨3, 0, r0, []⟩)) v7 ⟨3, 0, r0, []⟩ fun v8 =>
q_share _ (fun (v10 : W) (h11 : HW) (c12 : Nat) =>
q_share _ (fun (v14 : W) (h15 : HW) (c16 : Nat) =>
q_share _ (fun (v18 : W) (h19 : HW) (c20 : Nat) =>
q_pickW v8 ⟨8, 1, r0, []⟩ v18 fun v21 =>
q_condW v21 (
K ⟨12, 0, ⟨0, 0, 0, .nils⟩, []⟩ h19 c20) (
q_lenW (lenC tys 36 (dec v1)) v1 fun v22 =>
q_lenW (lenC tys 36 (dec v4)) v4 fun v23 =>
q_addW 3 9223372036854775807 (binC Try.prog .add 3 (.tmp 23) (.tmp 25) (dec v22) (dec v23)) v22 v23 fun v24 =>
q_subW 3 9223372036854775807 (binC Try.prog .sub 3 (.tmp 26) (.const (.int .i64 (.ofNat 1))) (dec v24) (dec ⟨3, 1, r0, []⟩)) v24 ⟨3, 1, r0, []⟩ fun v25 =>
q_makeSW 1 1 4 (.ints .u8) [⟨4, 0, r0, []⟩] true h19 c20 v25 v25 fun v26 h27 c28 =>
q_lenW (lenC tys 36 (dec v1)) v1 fun v29 =>
@Nat.rec (fun _ => Fun 1) (fun _ _ _ => false) (fun _ f33 v30 h31 c32 =>
q_cmpW (cmpF2 .lss) 3 (binC Try.prog .lss 3 (.tmp 31) (.tmp 30) (dec v30) (dec v29)) v30 v29 fun v34 =>
q_condW v34 (
q_idxSW 1 v1 v30 fun v35 =>
q_loadSW h31 v35 fun v36 =>
q_lenW (lenC tys 36 (dec v4)) v4 fun v37 =>
@Nat.rec (fun _ => Fun 1) (fun _ _ _ => false) (fun _ f41 v38 h39 c40 =>
q_cmpW (cmpF2 .lss) 3 (binC Try.prog .lss 3 (.tmp 38) (.tmp 37) (dec v38) (dec v37)) v38 v37 fun v42 =>
q_condW v42 (
q_idxSW 1 v4 v38 fun v43 =>
q_loadSW h39 v43 fun v44 =>
q_addW 3 9223372036854775807 (binC Try.prog .add 3 (.tmp 44) (.tmp 45) (dec v30) (dec v38)) v30 v38 fun v45 =>
q_idxSW 1 v26 v45 fun v46 =>
q_loadSW h39 v46 fun v47 =>
call 66 [v36, v44] h39 c40 fun v48 _ _ => q_knownW v48 (
q_bitW Nat.xor 4 255 (binC Try.prog .xor 5 (.tmp 48) (.tmp 51) (dec v47) (dec v48)) v47 v48 fun v49 =>
q_idxSW 1 v26 v45 fun v50 =>
q_storeSW h39 v50 v49 fun h51 =>
q_addW 3 9223372036854775807 (binC Try.prog .add 3 (.tmp 38) (.const (.int .i64 (.ofNat 1))) (dec v38) (dec ⟨3, 1, r0, []⟩)) v38 ⟨3, 1, r0, []⟩ fun v52 =>
f41 v52 h51 c40)) (
q_addW 3 9223372036854775807 (binC Try.prog .add 3 (.tmp 31) (.const (.int .i64 (.ofNat 1))) (dec v30) (dec ⟨3, 1, r0, []⟩)) v30 ⟨3, 1, r0, []⟩ fun v53 =>
f33 v53 h39 c40)) fu ⟨3, 0, r0, []⟩ h31 c32) (
K v26 h31 c32)) fu ⟨3, 0, r0, []⟩ h27 c28)) fun f17 =>
q_guardW false v8 (q_cmpW (cmpF2 .eql) 3 (binC Try.prog .eql 3 (.tmp 19) (.const (.int .i64 (.ofNat 0))) (dec v14) (dec ⟨3, 0, r0, []⟩)) v14 ⟨3, 0, r0, []⟩ fun v54 =>
f17 v54 h15 c16) (f17 wUnd h15 c16)) fun f13 =>
q_guardW false v8 (q_lenW (lenC tys 36 (dec v10)) v10 fun v55 =>
f13 v55 h11 c12) (f13 wUnd h11 c12)) fun f9 =>
q_guardW false v8 (f9 v4 h5 c6) (f9 wUnd h5 c6)
theorem R59_eq (Q : PrimW) (fu : Nat) (call : CallW) : curryA 2 (fnK Q Try.prog tys stl fu call e59) = R59 Q.share Q.addW Q.subW Q.bitW Q.cmpW Q.condW Q.guardW Q.pickW Q.idxSW Q.lenW Q.knownW Q.loadSW Q.storeSW Q.makeSW fu call := by kernel_rfl
noncomputable def n59 : List W → HW → Nat → KW → Bool := appF 2 (R59 (fun _ x f => f x) addW subW bitW cmpW condW guardW pickW idxSW lenW knownW loadSW storeSW makeSW 1000000 d1.fn)
theorem n59_ok : FnGood Try.prog tys stl tab 59 n59 := node_ok d1_ok (by kernel_rfl) rfl g59 (R59_eq real _ _)
/- (foghorn/mend.polynomial).at -/
noncomputable def R69 (q_subW : Nat → Nat → Option CV → W → W → (W → Bool) → Bool) (q_bitW : (Nat → Nat → Nat) → Nat → Nat → Option CV → W → W → (W → Bool) → Bool) (q_cmpW : (Nat → Nat → Bool) → Nat → Option CV → W → W → (W → Bool) → Bool) (q_condW : W → Bool → Bool → Bool) (q_idxAW : Nat → Nat → W → W → (W → Bool) → Bool) (q_knownW : W → Bool → Bool) (q_killVW : W → HW → (HW → Bool) → Bool) (q_loadSW : HW → W → (W → Bool) → Bool) (q_boxW : HW → Nat → W → KW → Bool) (fu : Nat) (call : CallW) (a0 : W) (a1 : W) (h0 : HW) (c0 : Nat) (K : KW) : Bool :=
q_boxW h0 c0 a0 fun v1 h2 c3 =>
@Nat.rec (fun _ => Fun 2) (fun _ _ _ _ => false) (fun _ f8 v4 v5 h6 c7 =>
q_cmpW (cmpF2 .geq) 3 (binC Try.prog .geq 3 (.tmp 7) (.const (.int .i64 (.ofNat 0))) (dec v5) (dec ⟨3, 0, r0, []⟩)) v5 ⟨3, 0, r0, []⟩ fun v9 =>
q_condW v9 (
call 66 [v4, a1] h6 c7 fun v10 _ _ => q_knownW v10 (
q_idxAW 1 65 v1 v5 fun v11 =>
q_loadSW h6 v11 fun v12 =>
q_bitW Nat.xor 4 255 (binC Try.prog .xor 5 (.tmp 13) (.tmp 16) (dec v10) (dec v12)) v10 v12 fun v13 =>
q_subW 3 9223372036854775807 (binC Try.prog .sub 3 (.tmp 9) (.const (.int .i64 (.ofNat 1))) (dec v5) (dec ⟨3, 1, r0, []⟩)) v5 ⟨3, 1, r0, []⟩ fun v14 =>
f8 v13 v14 h6 c7)) (
q_killVW v1 h6 fun h15 =>
K v4 h15 c7)) fu ⟨4, 0, r0, []⟩ ⟨3, 64, r0, []⟩ h2 c3
theorem R69_eq (Q : PrimW) (fu : Nat) (call : CallW) : curryA 2 (fnK Q Try.prog tys stl fu call e69) = R69 Q.subW Q.bitW Q.cmpW Q.condW Q.idxAW Q.knownW Q.killVW Q.loadSW Q.boxW fu call := by kernel_rfl
noncomputable def n69 : List W → HW → Nat → KW → Bool := appF 2 (R69 subW bitW cmpW condW idxAW knownW killVW loadSW boxW 1000000 d1.fn)
theorem n69_ok : FnGood Try.prog tys stl tab 69 n69 := node_ok d1_ok (by kernel_rfl) rfl g69 (R69_eq real _ _)
/- foghorn/field.power -/
noncomputable def R72 (q_share : (α : Type) → α → (α → Bool) → Bool) (q_bitW : (Nat → Nat → Nat) → Nat → Nat → Option CV → W → W → (W → Bool) → Bool) (q_cmpW : (Nat → Nat → Bool) → Nat → Option CV → W → W → (W → Bool) → Bool) (q_shrW : Nat → Nat → Option CV → W → W → (W → Bool) → Bool) (q_condW : W → Bool → Bool → Bool) (fu : Nat) (call : CallW) (a0 : W) (a1 : W) (h0 : HW) (c0 : Nat) (K : KW) : Bool :=
@Nat.rec (fun _ => Fun 3) (fun _ _ _ _ _ => false) (fun _ f6 v1 v2 v3 h4 c5 =>
q_cmpW (cmpF2 .gtr) 3 (binC Try.prog .gtr 3 (.tmp 6) (.const (.int .i64 (.ofNat 0))) (dec v2) (dec ⟨3, 0, r0, []⟩)) v2 ⟨3, 0, r0, []⟩ fun v7 =>
q_condW v7 (
q_share _ (fun (v8 : W) (h9 : HW) (c10 : Nat) =>
call 66 [v1, v1] h9 c10 fun v12 h13 c14 =>
q_shrW 3 64 (binC Try.prog .shr 3 (.tmp 8) (.const (.int .u64 (.ofNat 1))) (dec v2) (dec ⟨7, 1, r0, []⟩)) v2 ⟨7, 1, r0, []⟩ fun v15 =>
f6 v12 v15 v8 h13 c14) fun f11 =>
q_bitW Nat.land 3 9223372036854775807 (binC Try.prog .and 3 (.tmp 10) (.const (.int .i64 (.ofNat 1))) (dec v2) (dec ⟨3, 1, r0, []⟩)) v2 ⟨3, 1, r0, []⟩ fun v16 =>
q_cmpW (cmpF2 .neq) 3 (binC Try.prog .neq 3 (.tmp 11) (.const (.int .i64 (.ofNat 0))) (dec v16) (dec ⟨3, 0, r0, []⟩)) v16 ⟨3, 0, r0, []⟩ fun v17 =>
q_condW v17 (
call 66 [v3, v1] h4 c5 fun v18 h19 c20 =>
f11 v18 h19 c20) (
f11 v3 h4 c5)) (
K v3 h4 c5)) fu a0 a1 ⟨4, 1, r0, []⟩ h0 c0
theorem R72_eq (Q : PrimW) (fu : Nat) (call : CallW) : curryA 2 (fnK Q Try.prog tys stl fu call e72) = R72 Q.share Q.bitW Q.cmpW Q.shrW Q.condW fu call := by kernel_rfl
noncomputable def n72 : List W → HW → Nat → KW → Bool := appF 2 (R72 (fun _ x f => f x) bitW cmpW shrW condW 1000000 d1.fn)
theorem n72_ok : FnGood Try.prog tys stl tab 72 n72 := node_ok d1_ok (by kernel_rfl) rfl g72 (R72_eq real _ _)
noncomputable def d2 : Disp := (.node 61 n61 (.node 53 n53 (.node 39 n39 (.node 35 n35 .leaf .leaf) (.node 46 n46 .leaf .leaf)) (.node 59 n59 (.node 58 n58 .leaf .leaf) .leaf)) (.node 71 n71 (.node 66 n66 (.node 62 n62 .leaf .leaf) (.node 69 n69 .leaf .leaf)) (.node 73 n73 (.node 72 n72 .leaf .leaf) .leaf)))
theorem d2_ok : CallSim Try.prog tys stl tab d2.fn := Disp.sim ⟨n61_ok, ⟨n53_ok, ⟨n39_ok, ⟨n35_ok, True.intro, True.intro⟩, ⟨n46_ok, True.intro, True.intro⟩⟩, ⟨n59_ok, ⟨n58_ok, True.intro, True.intro⟩, True.intro⟩⟩, ⟨n71_ok, ⟨n66_ok, ⟨n62_ok, True.intro, True.intro⟩, ⟨n69_ok, True.intro, True.intro⟩⟩, ⟨n73_ok, ⟨n72_ok, True.intro, True.intro⟩, True.intro⟩⟩⟩
/- foghorn/mend.checked -/
noncomputable def R33 (q_genW : Option CV → (W → Bool) → Bool) (q_cmpW : (Nat → Nat → Bool) → Nat → Option CV → W → W → (W → Bool) → Bool) (q_condW : W → Bool → Bool → Bool) (q_tupW : W → (List W → Bool) → Bool) (q_nthW : Nat → List W → (W → Bool) → Bool) (q_loadAW : Nat → HW → W → (W → Bool) → Bool) (q_storeAW : Nat → HW → W → W → (HW → Bool) → Bool) (q_allocW : Trie W → Nat → Bool → HW → Nat → KW → Bool) (fu : Nat) (call : CallW) (a0 : W) (a1 : W) (a2 : W) (h0 : HW) (c0 : Nat) (K : KW) : Bool :=
q_allocW (allocT tys 74) 255 true h0 c0 fun v1 h2 c3 =>
q_genW (lenMC Try.prog tys ⟨[], 0, decH h2, 0⟩ 9 (dec a0)) fun v4 =>
call 46 [v4, a1] h2 c3 fun v5 h6 c7 =>
q_cmpW (cmpF2 .neq) 3 (binC Try.prog .neq 25 (.tmp 13) (.const (.int .i64 (.ofNat 0))) (dec v5) (dec ⟨3, 0, r0, []⟩)) v5 ⟨3, 0, r0, []⟩ fun v8 =>
q_condW v8 (
(fun (v9 : W) =>
q_storeAW 255 h6 v1 v9 fun h10 =>
q_loadAW 255 h10 v1 fun v11 =>
K ⟨13, 0, r0, [v11, v5]⟩ h10 c7) ⟨15, 0, r0, [⟨8, 0, r0, []⟩, ⟨8, 0, r0, []⟩, ⟨8, 0, r0, []⟩, ⟨8, 0, r0, []⟩, ⟨8, 0, r0, []⟩, ⟨8, 0, r0, []⟩, ⟨8, 0, r0, []⟩, ⟨8, 0, r0, []⟩, ⟨8, 0, r0, []⟩, ⟨8, 0, r0, []⟩, ⟨8, 0, r0, []⟩, ⟨8, 0, r0, []⟩, ⟨8, 0, r0, []⟩, ⟨8, 0, r0, []⟩, ⟨8, 0, r0, []⟩, ⟨8, 0, r0, []⟩, ⟨8, 0, r0, []⟩, ⟨8, 0, r0, []⟩, ⟨8, 0, r0, []⟩, ⟨8, 0, r0, []⟩, ⟨8, 0, r0, []⟩, ⟨8, 0, r0, []⟩, ⟨8, 0, r0, []⟩, ⟨8, 0, r0, []⟩, ⟨8, 0, r0, []⟩, ⟨8, 0, r0, []⟩, ⟨8, 0, r0, []⟩, ⟨8, 0, r0, []⟩, ⟨8, 0, r0, []⟩, ⟨8, 0, r0, []⟩, ⟨8, 0, r0, []⟩, ⟨8, 0, r0, []⟩, ⟨8, 0, r0, []⟩, ⟨8, 0, r0, []⟩, ⟨8, 0, r0, []⟩, ⟨8, 0, r0, []⟩, ⟨8, 0, r0, []⟩, ⟨8, 0, r0, []⟩, ⟨8, 0, r0, []⟩, ⟨8, 0, r0, []⟩, ⟨8, 0, r0, []⟩, ⟨8, 0, r0, []⟩, ⟨8, 0, r0, []⟩, ⟨8, 0, r0, []⟩, ⟨8, 0, r0, []⟩, ⟨8, 0, r0, []⟩, ⟨8, 0, r0, []⟩, ⟨8, 0, r0, []⟩, ⟨8, 0, r0, []⟩, ⟨8, 0, r0, []⟩, ⟨8, 0, r0, []⟩, ⟨8, 0, r0, []⟩, ⟨8, 0, r0, []⟩, ⟨8, 0, r0, []⟩, ⟨8, 0, r0, []⟩, ⟨8, 0, r0, []⟩, ⟨8, 0, r0, []⟩, ⟨8, 0, r0, []⟩, ⟨8, 0, r0, []⟩, ⟨8, 0, r0, []⟩, ⟨8, 0, r0, []⟩, ⟨8, 0, r0, []⟩, ⟨8, 0, r0, []⟩, ⟨8, 0, r0, []⟩, ⟨8, 0, r0, []⟩, ⟨8, 0, r0, []⟩, ⟨8, 0, r0, []⟩, ⟨8, 0, r0, []⟩, ⟨8, 0, r0, []⟩, ⟨8, 0, r0, []⟩, ⟨8, 0, r0, []⟩, ⟨8, 0, r0, []⟩, ⟨8, 0, r0, []⟩, ⟨8, 0, r0, []⟩, ⟨8, 0, r0, []⟩, ⟨8, 0, r0, []⟩, ⟨8, 0, r0, []⟩, ⟨8, 0, r0, []⟩, ⟨8, 0, r0, []⟩, ⟨8, 0, r0, []⟩, ⟨8, 0, r0, []⟩, ⟨8, 0, r0, []⟩, ⟨8, 0, r0, []⟩, ⟨8, 0, r0, []⟩, ⟨8, 0, r0, []⟩, ⟨8, 0, r0, []⟩, ⟨8, 0, r0, []⟩, ⟨8, 0, r0, []⟩, ⟨8, 0, r0, []⟩, ⟨8, 0, r0, []⟩, ⟨8, 0, r0, []⟩, ⟨8, 0, r0, []⟩, ⟨8, 0, r0, []⟩, ⟨8, 0, r0, []⟩, ⟨8, 0, r0, []⟩, ⟨8, 0, r0, []⟩, ⟨8, 0, r0, []⟩, ⟨8, 0, r0, []⟩, ⟨8, 0, r0, []⟩, ⟨8, 0, r0, []⟩, ⟨8, 0, r0, []⟩, ⟨8, 0, r0, []⟩, ⟨8, 0, r0, []⟩, ⟨8, 0, r0, []⟩, ⟨8, 0, r0, []⟩, ⟨8, 0, r0, []⟩, ⟨8, 0, r0, []⟩, ⟨8, 0, r0, []⟩, ⟨8, 0, r0, []⟩, ⟨8, 0, r0, []⟩, ⟨8, 0, r0, []⟩, ⟨8, 0, r0, []⟩, ⟨8, 0, r0, []⟩, ⟨8, 0, r0, []⟩, ⟨8, 0, r0, []⟩, ⟨8, 0, r0, []⟩, ⟨8, 0, r0, []⟩, ⟨8, 0, r0, []⟩, ⟨8, 0, r0, []⟩, ⟨8, 0, r0, []⟩, ⟨8, 0, r0, []⟩, ⟨8, 0, r0, []⟩, ⟨8, 0, r0, []⟩, ⟨8, 0, r0, []⟩, ⟨8, 0, r0, []⟩, ⟨8, 0, r0, []⟩, ⟨8, 0, r0, []⟩, ⟨8, 0, r0, []⟩, ⟨8, 0, r0, []⟩, ⟨8, 0, r0, []⟩, ⟨8, 0, r0, []⟩, ⟨8, 0, r0, []⟩, ⟨8, 0, r0, []⟩, ⟨8, 0, r0, []⟩, ⟨8, 0, r0, []⟩, ⟨8, 0, r0, []⟩, ⟨8, 0, r0, []⟩, ⟨8, 0, r0, []⟩, ⟨8, 0, r0, []⟩, ⟨8, 0, r0, []⟩, ⟨8, 0, r0, []⟩, ⟨8, 0, r0, []⟩, ⟨8, 0, r0, []⟩, ⟨8, 0, r0, []⟩, ⟨8, 0, r0, []⟩, ⟨8, 0, r0, []⟩, ⟨8, 0, r0, []⟩, ⟨8, 0, r0, []⟩, ⟨8, 0, r0, []⟩, ⟨8, 0, r0, []⟩, ⟨8, 0, r0, []⟩, ⟨8, 0, r0, []⟩, ⟨8, 0, r0, []⟩, ⟨8, 0, r0, []⟩, ⟨8, 0, r0, []⟩, ⟨8, 0, r0, []⟩, ⟨8, 0, r0, []⟩, ⟨8, 0, r0, []⟩, ⟨8, 0, r0, []⟩, ⟨8, 0, r0, []⟩, ⟨8, 0, r0, []⟩, ⟨8, 0, r0, []⟩, ⟨8, 0, r0, []⟩, ⟨8, 0, r0, []⟩, ⟨8, 0, r0, []⟩, ⟨8, 0, r0, []⟩, ⟨8, 0, r0, []⟩, ⟨8, 0, r0, []⟩, ⟨8, 0, r0, []⟩, ⟨8, 0, r0, []⟩, ⟨8, 0, r0, []⟩, ⟨8, 0, r0, []⟩, ⟨8, 0, r0, []⟩, ⟨8, 0, r0, []⟩, ⟨8, 0, r0, []⟩, ⟨8, 0, r0, []⟩, ⟨8, 0, r0, []⟩, ⟨8, 0, r0, []⟩, ⟨8, 0, r0, []⟩, ⟨8, 0, r0, []⟩, ⟨8, 0, r0, []⟩, ⟨8, 0, r0, []⟩, ⟨8, 0, r0, []⟩, ⟨8, 0, r0, []⟩, ⟨8, 0, r0, []⟩, ⟨8, 0, r0, []⟩, ⟨8, 0, r0, []⟩, ⟨8, 0, r0, []⟩, ⟨8, 0, r0, []⟩, ⟨8, 0, r0, []⟩, ⟨8, 0, r0, []⟩, ⟨8, 0, r0, []⟩, ⟨8, 0, r0, []⟩, ⟨8, 0, r0, []⟩, ⟨8, 0, r0, []⟩, ⟨8, 0, r0, []⟩, ⟨8, 0, r0, []⟩, ⟨8, 0, r0, []⟩, ⟨8, 0, r0, []⟩, ⟨8, 0, r0, []⟩, ⟨8, 0, r0, []⟩, ⟨8, 0, r0, []⟩, ⟨8, 0, r0, []⟩, ⟨8, 0, r0, []⟩, ⟨8, 0, r0, []⟩, ⟨8, 0, r0, []⟩, ⟨8, 0, r0, []⟩, ⟨8, 0, r0, []⟩, ⟨8, 0, r0, []⟩, ⟨8, 0, r0, []⟩, ⟨8, 0, r0, []⟩, ⟨8, 0, r0, []⟩, ⟨8, 0, r0, []⟩, ⟨8, 0, r0, []⟩, ⟨8, 0, r0, []⟩, ⟨8, 0, r0, []⟩, ⟨8, 0, r0, []⟩, ⟨8, 0, r0, []⟩, ⟨8, 0, r0, []⟩, ⟨8, 0, r0, []⟩, ⟨8, 0, r0, []⟩, ⟨8, 0, r0, []⟩, ⟨8, 0, r0, []⟩, ⟨8, 0, r0, []⟩, ⟨8, 0, r0, []⟩, ⟨8, 0, r0, []⟩, ⟨8, 0, r0, []⟩, ⟨8, 0, r0, []⟩, ⟨8, 0, r0, []⟩, ⟨8, 0, r0, []⟩, ⟨8, 0, r0, []⟩, ⟨8, 0, r0, []⟩, ⟨8, 0, r0, []⟩, ⟨8, 0, r0, []⟩, ⟨8, 0, r0, []⟩, ⟨8, 0, r0, []⟩, ⟨8, 0, r0, []⟩, ⟨8, 0, r0, []⟩, ⟨8, 0, r0, []⟩, ⟨8, 0, r0, []⟩, ⟨8, 0, r0, []⟩, ⟨8, 0, r0, []⟩, ⟨8, 0, r0, []⟩, ⟨8, 0, r0, []⟩, ⟨8, 0, r0, []⟩, ⟨8, 0, r0, []⟩, ⟨8, 0, r0, []⟩, ⟨8, 0, r0, []⟩, ⟨8, 0, r0, []⟩, ⟨8, 0, r0, []⟩, ⟨8, 0, r0, []⟩, ⟨8, 0, r0, []⟩, ⟨8, 0, r0, []⟩, ⟨8, 0, r0, []⟩, ⟨8, 0, r0, []⟩]⟩) (
q_genW (lenMC Try.prog tys ⟨[], 0, decH h6, 0⟩ 9 (dec a0)) fun v12 =>
call 39 [a2, v12] h6 c7 fun v13 h14 c15 =>
q_tupW v13 fun l16 => q_nthW 0 l16 fun v17 =>
q_tupW v13 fun l18 => q_nthW 1 l18 fun v19 =>
q_storeAW 255 h14 v1 v17 fun h20 =>
q_loadAW 255 h20 v1 fun v21 =>
K ⟨13, 0, r0, [v21, v19]⟩ h20 c15)
theorem R33_eq (Q : PrimW) (fu : Nat) (call : CallW) : curryA 3 (fnK Q Try.prog tys stl fu call e33) = R33 Q.genW Q.cmpW Q.condW Q.tupW Q.nthW Q.loadAW Q.storeAW Q.allocW fu call := by kernel_rfl
noncomputable def n33 : List W → HW → Nat → KW → Bool := appF 3 (R33 genW cmpW condW tupW nthW loadAW storeAW allocW 1000000 d2.fn)
theorem n33_ok : FnGood Try.prog tys stl tab 33 n33 := node_ok d2_ok (by kernel_rfl) rfl g33 (R33_eq real _ _)
/- foghorn/field.Product -/
noncomputable def R40 (q_condW : W → Bool → Bool → Bool) (q_buildSW : Nat → Nat → Kind → Nat → Bool → HW → Nat → Nat → List W → KW → Bool) (fu : Nat) (call : CallW) (a0 : W) (a1 : W) (h0 : HW) (c0 : Nat) (K : KW) : Bool :=
q_buildSW 1 9 .avs 2 true h0 c0 2 [a0, a1] fun v1 h2 c3 =>
call 58 [v1] h2 c3 fun v4 h5 c6 =>
q_condW v4 (
K ⟨13, 0, r0, [⟨12, 0, ⟨0, 0, 0, .nils⟩, []⟩, ⟨3, 1, r0, []⟩]⟩ h5 c6) (
call 59 [a0, a1] h5 c6 fun v7 h8 c9 =>
q_buildSW 1 9 .avs 1 true h8 c9 1 [v7] fun v10 h11 c12 =>
call 58 [v10] h11 c12 fun v13 h14 c15 =>
q_condW v13 (
K ⟨13, 0, r0, [⟨12, 0, ⟨0, 0, 0, .nils⟩, []⟩, ⟨3, 1, r0, []⟩]⟩ h14 c15) (
K ⟨13, 0, r0, [v7, ⟨3, 0, r0, []⟩]⟩ h14 c15))
theorem R40_eq (Q : PrimW) (fu : Nat) (call : CallW) : curryA 2 (fnK Q Try.prog tys stl fu call e40) = R40 Q.condW Q.buildSW fu call := by kernel_rfl
noncomputable def n40 : List W → HW → Nat → KW → Bool := appF 2 (R40 condW buildSW 1000000 d2.fn)
theorem n40_ok : FnGood Try.prog tys stl tab 40 n40 := node_ok d2_ok (by kernel_rfl) rfl g40 (R40_eq real _ _)
/- foghorn/field.Exp -/
noncomputable def R60 (fu : Nat) (call : CallW) (a0 : W) (h0 : HW) (c0 : Nat) (K : KW) : Bool :=
call 73 [a0] h0 c0 fun v1 h2 c3 =>
call 72 [⟨4, 2, r0, []⟩, v1] h2 c3 fun v4 h5 c6 =>
K v4 h5 c6
theorem R60_eq (Q : PrimW) (fu : Nat) (call : CallW) : curryA 1 (fnK Q Try.prog tys stl fu call e60) = R60 fu call := by kernel_rfl
noncomputable def n60 : List W → HW → Nat → KW → Bool := appF 1 (R60 1000000 d2.fn)
theorem n60_ok : FnGood Try.prog tys stl tab 60 n60 := node_ok d2_ok (by kernel_rfl) rfl g60 (R60_eq real _ _)
/- foghorn/field.Over -/
noncomputable def R68 (q_cmpW : (Nat → Nat → Bool) → Nat → Option CV → W → W → (W → Bool) → Bool) (q_condW : W → Bool → Bool → Bool) (fu : Nat) (call : CallW) (a0 : W) (a1 : W) (h0 : HW) (c0 : Nat) (K : KW) : Bool :=
q_cmpW (cmpF2 .eql) 4 (binC Try.prog .eql 5 (.tmp 6) (.const (.int .u8 (.ofNat 0))) (dec a1) (dec ⟨4, 0, r0, []⟩)) a1 ⟨4, 0, r0, []⟩ fun v1 =>
q_condW v1 (
K ⟨13, 0, r0, [⟨4, 0, r0, []⟩, ⟨3, 6, r0, []⟩]⟩ h0 c0) (
call 72 [a1, ⟨3, 254, r0, []⟩] h0 c0 fun v2 h3 c4 =>
call 66 [a0, v2] h3 c4 fun v5 h6 c7 =>
K ⟨13, 0, r0, [v5, ⟨3, 0, r0, []⟩]⟩ h6 c7)
theorem R68_eq (Q : PrimW) (fu : Nat) (call : CallW) : curryA 2 (fnK Q Try.prog tys stl fu call e68) = R68 Q.cmpW Q.condW fu call := by kernel_rfl
noncomputable def n68 : List W → HW → Nat → KW → Bool := appF 2 (R68 cmpW condW 1000000 d2.fn)
theorem n68_ok : FnGood Try.prog tys stl tab 68 n68 := node_ok d2_ok (by kernel_rfl) rfl g68 (R68_eq real _ _)
/- (foghorn/mend.polynomial).slopeAt -/
noncomputable def R70 (q_addW : Nat → Nat → Option CV → W → W → (W → Bool) → Bool) (q_subW : Nat → Nat → Option CV → W → W → (W → Bool) → Bool) (q_cmpW : (Nat → Nat → Bool) → Nat → Option CV → W → W → (W → Bool) → Bool) (q_condW : W → Bool → Bool → Bool) (q_idxAW : Nat → Nat → W → W → (W → Bool) → Bool) (q_killVW : W → HW → (HW → Bool) → Bool) (q_loadSW : HW → W → (W → Bool) → Bool) (q_loadAW : Nat → HW → W → (W → Bool) → Bool) (q_storeSW : HW → W → W → (HW → Bool) → Bool) (q_allocW : Trie W → Nat → Bool → HW → Nat → KW → Bool) (q_boxW : HW → Nat → W → KW → Bool) (fu : Nat) (call : CallW) (a0 : W) (a1 : W) (h0 : HW) (c0 : Nat) (K : KW) : Bool :=
q_boxW h0 c0 a0 fun v1 h2 c3 =>
q_allocW (allocT tys 98) 65 true h2 c3 fun v4 h5 c6 =>
@Nat.rec (fun _ => Fun 1) (fun _ _ _ => false) (fun _ f10 v7 h8 c9 =>
q_cmpW (cmpF2 .lss) 3 (binC Try.prog .lss 3 (.tmp 7) (.const (.int .i64 (.ofNat 65))) (dec v7) (dec ⟨3, 65, r0, []⟩)) v7 ⟨3, 65, r0, []⟩ fun v11 =>
q_condW v11 (
q_subW 3 9223372036854775807 (binC Try.prog .sub 3 (.tmp 11) (.const (.int .i64 (.ofNat 1))) (dec v7) (dec ⟨3, 1, r0, []⟩)) v7 ⟨3, 1, r0, []⟩ fun v12 =>
q_idxAW 1 65 v1 v7 fun v13 =>
q_loadSW h8 v13 fun v14 =>
q_idxAW 1 65 v4 v12 fun v15 =>
q_storeSW h8 v15 v14 fun h16 =>
q_addW 3 9223372036854775807 (binC Try.prog .add 3 (.tmp 9) (.const (.int .i64 (.ofNat 2))) (dec v7) (dec ⟨3, 2, r0, []⟩)) v7 ⟨3, 2, r0, []⟩ fun v17 =>
f10 v17 h16 c9) (
q_loadAW 65 h8 v4 fun v18 =>
call 69 [v18, a1] h8 c9 fun v19 h20 c21 =>
q_killVW v1 h20 fun h22 =>
q_killVW v4 h22 fun h23 =>
K v19 h23 c21)) fu ⟨3, 1, r0, []⟩ h5 c6
theorem R70_eq (Q : PrimW) (fu : Nat) (call : CallW) : curryA 2 (fnK Q Try.prog tys stl fu call e70) = R70 Q.addW Q.subW Q.cmpW Q.condW Q.idxAW Q.killVW Q.loadSW Q.loadAW Q.storeSW Q.allocW Q.boxW fu call := by kernel_rfl
noncomputable def n70 : List W → HW → Nat → KW → Bool := appF 2 (R70 addW subW cmpW condW idxAW killVW loadSW loadAW storeSW allocW boxW 1000000 d2.fn)
theorem n70_ok : FnGood Try.prog tys stl tab 70 n70 := node_ok d2_ok (by kernel_rfl) rfl g70 (R70_eq real _ _)
noncomputable def d3 : Disp := (.node 61 n61 (.node 46 n46 (.node 39 n39 (.node 35 n35 (.node 33 n33 .leaf .leaf) .leaf) (.node 40 n40 .leaf .leaf)) (.node 59 n59 (.node 58 n58 (.node 53 n53 .leaf .leaf) .leaf) (.node 60 n60 .leaf .leaf))) (.node 70 n70 (.node 68 n68 (.node 66 n66 (.node 62 n62 .leaf .leaf) .leaf) (.node 69 n69 .leaf .leaf)) (.node 72 n72 (.node 71 n71 .leaf .leaf) (.node 73 n73 .leaf .leaf))))
theorem d3_ok : CallSim Try.prog tys stl tab d3.fn := Disp.sim ⟨n61_ok, ⟨n46_ok, ⟨n39_ok, ⟨n35_ok, ⟨n33_ok, True.intro, True.intro⟩, True.intro⟩, ⟨n40_ok, True.intro, True.intro⟩⟩, ⟨n59_ok, ⟨n58_ok, ⟨n53_ok, True.intro, True.intro⟩, True.intro⟩, ⟨n60_ok, True.intro, True.intro⟩⟩⟩, ⟨n70_ok, ⟨n68_ok, ⟨n66_ok, ⟨n62_ok, True.intro, True.intro⟩, True.intro⟩, ⟨n69_ok, True.intro, True.intro⟩⟩, ⟨n72_ok, ⟨n71_ok, True.intro, True.intro⟩, ⟨n73_ok, True.intro, True.intro⟩⟩⟩⟩
/- foghorn/mend.atPlace -/
noncomputable def R41 (q_subW : Nat → Nat → Option CV → W → W → (W → Bool) → Bool) (fu : Nat) (call : CallW) (a0 : W) (a1 : W) (h0 : HW) (c0 : Nat) (K : KW) : Bool :=
q_subW 3 9223372036854775807 (binC Try.prog .sub 3 (.tmp 5) (.const (.int .i64 (.ofNat 1))) (dec a1) (dec ⟨3, 1, r0, []⟩)) a1 ⟨3, 1, r0, []⟩ fun v1 =>
q_subW 3 9223372036854775807 (binC Try.prog .sub 3 (.tmp 6) (.tmp 7) (dec v1) (dec a0)) v1 a0 fun v2 =>
call 60 [v2] h0 c0 fun v3 h4 c5 =>
K v3 h4 c5
theorem R41_eq (Q : PrimW) (fu : Nat) (call : CallW) : curryA 2 (fnK Q Try.prog tys stl fu call e41) = R41 Q.subW fu call := by kernel_rfl
noncomputable def n41 : List W → HW → Nat → KW → Bool := appF 2 (R41 subW 1000000 d3.fn)
theorem n41_ok : FnGood Try.prog tys stl tab 41 n41 := node_ok d3_ok (by kernel_rfl) rfl g41 (R41_eq real _ _)
/- foghorn/mend.checkedAll -/
noncomputable def R42 (q_share : (α : Type) → α → (α → Bool) → Bool) (q_addW : Nat → Nat → Option CV → W → W → (W → Bool) → Bool) (q_cmpW : (Nat → Nat → Bool) → Nat → Option CV → W → W → (W → Bool) → Bool) (q_condW : W → Bool → Bool → Bool) (q_guardW : Bool → W → Bool → Bool → Bool) (q_pickW : W → W → W → (W → Bool) → Bool) (q_idxSW : Nat → W → W → (W → Bool) → Bool) (q_lenW : Option CV → W → (W → Bool) → Bool) (q_tupW : W → (List W → Bool) → Bool) (q_nthW : Nat → List W → (W → Bool) → Bool) (q_loadSW : HW → W → (W → Bool) → Bool) (q_storeAW : Nat → HW → W → W → (HW → Bool) → Bool) (q_allocW : Trie W → Nat → Bool → HW → Nat → KW → Bool) (fu : Nat) (call : CallW) (a0 : W) (a1 : W) (a2 : W) (h0 : HW) (c0 : Nat) (K : KW) : Bool :=
call 46 [⟨3, 255, r0, []⟩, a1] h0 c0 fun v1 h2 c3 =>
q_cmpW (cmpF2 .neq) 3 (binC Try.prog .neq 25 (.tmp 14) (.const (.int .i64 (.ofNat 0))) (dec v1) (dec ⟨3, 0, r0, []⟩)) v1 ⟨3, 0, r0, []⟩ fun v4 =>
q_condW v4 (
K v1 h2 c3) (
q_lenW (lenC tys 40 (dec a0)) a0 fun v5 =>
q_lenW (lenC tys 41 (dec a2)) a2 fun v6 =>
q_cmpW (cmpF2 .neq) 3 (binC Try.prog .neq 3 (.tmp 18) (.tmp 20) (dec v5) (dec v6)) v5 v6 fun v7 =>
q_share _ (fun (v9 : W) (h10 : HW) (c11 : Nat) =>
q_share _ (fun (v13 : W) (h14 : HW) (c15 : Nat) =>
q_share _ (fun (v17 : W) (h18 : HW) (c19 : Nat) =>
q_pickW v7 ⟨8, 1, r0, []⟩ v17 fun v20 =>
q_condW v20 (
K ⟨3, 1, r0, []⟩ h18 c19) (
q_lenW (lenC tys 40 (dec a0)) a0 fun v21 =>
@Nat.rec (fun _ => Fun 1) (fun _ _ _ => false) (fun _ f25 v22 h23 c24 =>
q_cmpW (cmpF2 .lss) 3 (binC Try.prog .lss 3 (.tmp 29) (.tmp 28) (dec v22) (dec v21)) v22 v21 fun v26 =>
q_condW v26 (
q_idxSW 1 a0 v22 fun v27 =>
q_loadSW h23 v27 fun v28 =>
q_idxSW 1 a2 v22 fun v29 =>
q_loadSW h23 v29 fun v30 =>
call 33 [v28, a1, v30] h23 c24 fun v31 h32 c33 =>
q_tupW v31 fun l34 => q_nthW 0 l34 fun v35 =>
q_tupW v31 fun l36 => q_nthW 1 l36 fun v37 =>
q_allocW (allocT tys 74) 255 true h32 c33 fun v38 h39 c40 =>
q_storeAW 255 h39 v38 v35 fun h41 =>
q_cmpW (cmpF2 .neq) 3 (binC Try.prog .neq 25 (.tmp 44) (.const (.int .i64 (.ofNat 0))) (dec v37) (dec ⟨3, 0, r0, []⟩)) v37 ⟨3, 0, r0, []⟩ fun v42 =>
q_condW v42 (
K v37 h41 c40) (
q_addW 3 9223372036854775807 (binC Try.prog .add 3 (.tmp 29) (.const (.int .i64 (.ofNat 1))) (dec v22) (dec ⟨3, 1, r0, []⟩)) v22 ⟨3, 1, r0, []⟩ fun v43 =>
f25 v43 h41 c40)) (
K ⟨3, 0, r0, []⟩ h23 c24)) fu ⟨3, 0, r0, []⟩ h18 c19)) fun f16 =>
q_guardW false v7 (q_cmpW (cmpF2 .gtr) 3 (binC Try.prog .gtr 3 (.tmp 24) (.const (.int .i64 (.ofNat 32768))) (dec v13) (dec ⟨3, 32768, r0, []⟩)) v13 ⟨3, 32768, r0, []⟩ fun v44 =>
f16 v44 h14 c15) (f16 wUnd h14 c15)) fun f12 =>
q_guardW false v7 (q_lenW (lenC tys 40 (dec v9)) v9 fun v45 =>
f12 v45 h10 c11) (f12 wUnd h10 c11)) fun f8 =>
q_guardW false v7 (f8 a0 h2 c3) (f8 wUnd h2 c3))
theorem R42_eq (Q : PrimW) (fu : Nat) (call : CallW) : curryA 3 (fnK Q Try.prog tys stl fu call e42) = R42 Q.share Q.addW Q.cmpW Q.condW Q.guardW Q.pickW Q.idxSW Q.lenW Q.tupW Q.nthW Q.loadSW Q.storeAW Q.allocW fu call := by kernel_rfl
noncomputable def n42 : List W → HW → Nat → KW → Bool := appF 3 (R42 (fun _ x f => f x) addW cmpW condW guardW pickW idxSW lenW tupW nthW loadSW storeAW allocW 1000000 d3.fn)
theorem n42_ok : FnGood Try.prog tys stl tab 42 n42 := node_ok d3_ok (by kernel_rfl) rfl g42 (R42_eq real _ _)
/- foghorn/mend.syndromesOf -/
noncomputable def R54 (q_share : (α : Type) → α → (α → Bool) → Bool) (q_addW : Nat → Nat → Option CV → W → W → (W → Bool) → Bool) (q_bitW : (Nat → Nat → Nat) → Nat → Nat → Option CV → W → W → (W → Bool) → Bool) (q_cmpW : (Nat → Nat → Bool) → Nat → Option CV → W → W → (W → Bool) → Bool) (q_condW : W → Bool → Bool → Bool) (q_guardW : Bool → W → Bool → Bool → Bool) (q_pickW : W → W → W → (W → Bool) → Bool) (q_idxSW : Nat → W → W → (W → Bool) → Bool) (q_idxAW : Nat → Nat → W → W → (W → Bool) → Bool) (q_lenW : Option CV → W → (W → Bool) → Bool) (q_loadSW : HW → W → (W → Bool) → Bool) (q_loadAW : Nat → HW → W → (W → Bool) → Bool) (q_storeSW : HW → W → W → (HW → Bool) → Bool) (q_storeAW : Nat → HW → W → W → (HW → Bool) → Bool) (q_allocW : Trie W → Nat → Bool → HW → Nat → KW → Bool) (fu : Nat) (call : CallW) (a0 : W) (a1 : W) (h0 : HW) (c0 : Nat) (K : KW) : Bool :=
q_allocW (allocT tys 98) 65 true h0 c0 fun v1 h2 c3 =>
@Nat.rec (fun _ => Fun 2) (fun _ _ _ _ => false) (fun _ f8 v4 v5 h6 c7 =>
q_cmpW (cmpF2 .lss) 3 (binC Try.prog .lss 3 (.tmp 11) (.tmp 10) (dec v5) (dec a1)) v5 a1 fun v9 =>
q_condW v9 (
call 60 [v5] h6 c7 fun v10 h11 c12 =>
q_lenW (lenC tys 36 (dec a0)) a0 fun v13 =>
@Nat.rec (fun _ => Fun 1) (fun _ _ _ => false) (fun _ f17 v14 h15 c16 =>
q_cmpW (cmpF2 .lss) 3 (binC Try.prog .lss 3 (.tmp 18) (.tmp 17) (dec v14) (dec v13)) v14 v13 fun v18 =>
q_condW v18 (
q_idxSW 1 a0 v14 fun v19 =>
q_loadSW h15 v19 fun v20 =>
q_idxAW 1 65 v1 v5 fun v21 =>
q_loadSW h15 v21 fun v22 =>
call 66 [v22, v10] h15 c16 fun v23 h24 c25 =>
q_bitW Nat.xor 4 255 (binC Try.prog .xor 5 (.tmp 27) (.tmp 28) (dec v23) (dec v20)) v23 v20 fun v26 =>
q_idxAW 1 65 v1 v5 fun v27 =>
q_storeSW h24 v27 v26 fun h28 =>
q_addW 3 9223372036854775807 (binC Try.prog .add 3 (.tmp 18) (.const (.int .i64 (.ofNat 1))) (dec v14) (dec ⟨3, 1, r0, []⟩)) v14 ⟨3, 1, r0, []⟩ fun v29 =>
f17 v29 h28 c25) (
q_share _ (fun (v31 : W) (h32 : HW) (c33 : Nat) =>
q_share _ (fun (v35 : W) (h36 : HW) (c37 : Nat) =>
q_share _ (fun (v39 : W) (h40 : HW) (c41 : Nat) =>
q_share _ (fun (v43 : W) (h44 : HW) (c45 : Nat) =>
q_pickW v4 v43 ⟨8, 0, r0, []⟩ fun v46 =>
q_addW 3 9223372036854775807 (binC Try.prog .add 3 (.tmp 11) (.const (.int .i64 (.ofNat 1))) (dec v5) (dec ⟨3, 1, r0, []⟩)) v5 ⟨3, 1, r0, []⟩ fun v47 =>
f8 v46 v47 h44 c45) fun f42 =>
q_guardW true v4 (q_cmpW (cmpF2 .eql) 4 (binC Try.prog .eql 5 (.tmp 36) (.const (.int .u8 (.ofNat 0))) (dec v39) (dec ⟨4, 0, r0, []⟩)) v39 ⟨4, 0, r0, []⟩ fun v48 =>
f42 v48 h40 c41) (f42 wUnd h40 c41)) fun f38 =>
q_guardW true v4 (q_loadSW h36 v35 fun v49 =>
f38 v49 h36 c37) (f38 wUnd h36 c37)) fun f34 =>
q_guardW true v4 (q_idxAW 1 65 v1 v31 fun v50 =>
f34 v50 h32 c33) (f34 wUnd h32 c33)) fun f30 =>
q_guardW true v4 (f30 v5 h15 c16) (f30 wUnd h15 c16))) fu ⟨3, 0, r0, []⟩ h11 c12) (
q_loadAW 65 h6 v1 fun v51 =>
q_storeAW 65 h6 v1 v51 fun h52 =>
q_loadAW 65 h52 v1 fun v53 =>
K ⟨13, 0, r0, [v53, v4]⟩ h52 c7)) fu ⟨8, 1, r0, []⟩ ⟨3, 0, r0, []⟩ h2 c3
theorem R54_eq (Q : PrimW) (fu : Nat) (call : CallW) : curryA 2 (fnK Q Try.prog tys stl fu call e54) = R54 Q.share Q.addW Q.bitW Q.cmpW Q.condW Q.guardW Q.pickW Q.idxSW Q.idxAW Q.lenW Q.loadSW Q.loadAW Q.storeSW Q.storeAW Q.allocW fu call := by kernel_rfl
noncomputable def n54 : List W → HW → Nat → KW → Bool := appF 2 (R54 (fun _ x f => f x) addW bitW cmpW condW guardW pickW idxSW idxAW lenW loadSW loadAW storeSW storeAW allocW 1000000 d3.fn)
theorem n54_ok : FnGood Try.prog tys stl tab 54 n54 := node_ok d3_ok (by kernel_rfl) rfl g54 (R54_eq real _ _)
/- foghorn/mend.shortest -/
noncomputable def R55 (q_share : (α : Type) → α → (α → Bool) → Bool) (q_genW : Option CV → (W → Bool) → Bool) (q_addW : Nat → Nat → Option CV → W → W → (W → Bool) → Bool) (q_subW : Nat → Nat → Option CV → W → W → (W → Bool) → Bool) (q_mulW : Nat → Nat → Option CV → W → W → (W → Bool) → Bool) (q_bitW : (Nat → Nat → Nat) → Nat → Nat → Option CV → W → W → (W → Bool) → Bool) (q_cmpW : (Nat → Nat → Bool) → Nat → Option CV → W → W → (W → Bool) → Bool) (q_condW : W → Bool → Bool → Bool) (q_idxSW : Nat → W → W → (W → Bool) → Bool) (q_idxAW : Nat → Nat → W → W → (W → Bool) → Bool) (q_lenW : Option CV → W → (W → Bool) → Bool) (q_tupW : W → (List W → Bool) → Bool) (q_nthW : Nat → List W → (W → Bool) → Bool) (q_knownW : W → Bool → Bool) (q_loadSW : HW → W → (W → Bool) → Bool) (q_loadAW : Nat → HW → W → (W → Bool) → Bool) (q_storeSW : HW → W → W → (HW → Bool) → Bool) (q_storeAW : Nat → HW → W → W → (HW → Bool) → Bool) (q_allocW : Trie W → Nat → Bool → HW → Nat → KW → Bool) (q_cpySW : Nat → HW → Nat → W → W → KW → Bool) (fu : Nat) (call : CallW) (a0 : W) (h0 : HW) (c0 : Nat) (K : KW) : Bool :=
q_allocW (allocT tys 98) 65 true h0 c0 fun v1 h2 c3 =>
q_allocW (allocT tys 98) 65 true h2 c3 fun v4 h5 c6 =>
q_idxAW 1 65 v1 ⟨3, 0, r0, []⟩ fun v7 =>
q_storeSW h5 v7 ⟨4, 1, r0, []⟩ fun h8 =>
q_idxAW 1 65 v4 ⟨3, 0, r0, []⟩ fun v9 =>
q_storeSW h8 v9 ⟨4, 1, r0, []⟩ fun h10 =>
q_lenW (lenC tys 36 (dec a0)) a0 fun v11 =>
@Nat.rec (fun _ => Fun 2) (fun _ _ _ _ => false) (fun _ f16 v12 v13 h14 c15 =>
q_cmpW (cmpF2 .lss) 3 (binC Try.prog .lss 3 (.tmp 17) (.tmp 16) (dec v13) (dec v11)) v13 v11 fun v17 =>
q_condW v17 (
q_share _ (fun (v18 : W) (h19 : HW) (c20 : Nat) =>
q_addW 3 9223372036854775807 (binC Try.prog .add 3 (.tmp 17) (.const (.int .i64 (.ofNat 1))) (dec v13) (dec ⟨3, 1, r0, []⟩)) v13 ⟨3, 1, r0, []⟩ fun v22 =>
f16 v18 v22 h19 c20) fun f21 =>
q_genW (sliceC tys 98 (dec v4) (some (dec ⟨3, 1, r0, []⟩)) none none) fun v23 =>
q_genW (sliceC tys 98 (dec v4) none none none) fun v24 =>
q_cpySW 1 h14 c15 v23 v24 fun v25 h26 c27 =>
q_idxAW 1 65 v4 ⟨3, 0, r0, []⟩ fun v28 =>
q_storeSW h26 v28 ⟨4, 0, r0, []⟩ fun h29 =>
q_idxSW 1 a0 v13 fun v30 =>
q_loadSW h29 v30 fun v31 =>
@Nat.rec (fun _ => Fun 2) (fun _ _ _ _ => false) (fun _ f36 v32 v33 h34 c35 =>
q_cmpW (cmpF2 .leq) 3 (binC Try.prog .leq 3 (.tmp 28) (.tmp 29) (dec v33) (dec v12)) v33 v12 fun v37 =>
q_condW v37 (
q_idxAW 1 65 v1 v33 fun v38 =>
q_loadSW h34 v38 fun v39 =>
q_subW 3 9223372036854775807 (binC Try.prog .sub 3 (.tmp 38) (.tmp 39) (dec v13) (dec v33)) v13 v33 fun v40 =>
q_idxSW 1 a0 v40 fun v41 =>
q_loadSW h34 v41 fun v42 =>
call 66 [v39, v42] h34 c35 fun v43 _ _ => q_knownW v43 (
q_bitW Nat.xor 4 255 (binC Try.prog .xor 5 (.tmp 33) (.tmp 43) (dec v32) (dec v43)) v32 v43 fun v44 =>
q_addW 3 9223372036854775807 (binC Try.prog .add 3 (.tmp 31) (.const (.int .i64 (.ofNat 1))) (dec v33) (dec ⟨3, 1, r0, []⟩)) v33 ⟨3, 1, r0, []⟩ fun v45 =>
f36 v44 v45 h34 c35)) (
q_cmpW (cmpF2 .eql) 4 (binC Try.prog .eql 5 (.tmp 45) (.const (.int .u8 (.ofNat 0))) (dec v32) (dec ⟨4, 0, r0, []⟩)) v32 ⟨4, 0, r0, []⟩ fun v46 =>
q_condW v46 (
f21 v12 h34 c35) (
q_loadAW 65 h34 v1 fun v47 =>
q_allocW (allocT tys 98) 65 true h34 c35 fun v48 h49 c50 =>
q_storeAW 65 h49 v48 v47 fun h51 =>
q_loadAW 65 h51 v4 fun v52 =>
@Nat.rec (fun _ => Fun 1) (fun _ _ _ => false) (fun _ f56 v53 h54 c55 =>
q_cmpW (cmpF2 .lss) 3 (binC Try.prog .lss 3 (.tmp 49) (.const (.int .i64 (.ofNat 65))) (dec v53) (dec ⟨3, 65, r0, []⟩)) v53 ⟨3, 65, r0, []⟩ fun v57 =>
q_condW v57 (
q_genW (two2 Try.prog (dec v52) (dec v53) (Instr.index 98)) fun v58 =>
q_idxAW 1 65 v48 v53 fun v59 =>
q_loadSW h54 v59 fun v60 =>
call 66 [v32, v58] h54 c55 fun v61 _ _ => q_knownW v61 (
q_bitW Nat.xor 4 255 (binC Try.prog .xor 5 (.tmp 55) (.tmp 58) (dec v60) (dec v61)) v60 v61 fun v62 =>
q_idxAW 1 65 v48 v53 fun v63 =>
q_storeSW h54 v63 v62 fun h64 =>
q_addW 3 9223372036854775807 (binC Try.prog .add 3 (.tmp 49) (.const (.int .i64 (.ofNat 1))) (dec v53) (dec ⟨3, 1, r0, []⟩)) v53 ⟨3, 1, r0, []⟩ fun v65 =>
f56 v65 h64 c55)) (
q_share _ (fun (v66 : W) (h67 : HW) (c68 : Nat) =>
q_loadAW 65 h67 v48 fun v70 =>
q_storeAW 65 h67 v1 v70 fun h71 =>
f21 v66 h71 c68) fun f69 =>
q_mulW 3 9223372036854775807 (binC Try.prog .mul 3 (.const (.int .i64 (.ofNat 2))) (.tmp 62) (dec ⟨3, 2, r0, []⟩) (dec v12)) ⟨3, 2, r0, []⟩ v12 fun v72 =>
q_cmpW (cmpF2 .leq) 3 (binC Try.prog .leq 3 (.tmp 63) (.tmp 64) (dec v72) (dec v13)) v72 v13 fun v73 =>
q_condW v73 (
q_addW 3 9223372036854775807 (binC Try.prog .add 3 (.tmp 66) (.const (.int .i64 (.ofNat 1))) (dec v13) (dec ⟨3, 1, r0, []⟩)) v13 ⟨3, 1, r0, []⟩ fun v74 =>
q_subW 3 9223372036854775807 (binC Try.prog .sub 3 (.tmp 67) (.tmp 68) (dec v74) (dec v12)) v74 v12 fun v75 =>
q_loadAW 65 h54 v1 fun v76 =>
@Nat.rec (fun _ => Fun 1) (fun _ _ _ => false) (fun _ f80 v77 h78 c79 =>
q_cmpW (cmpF2 .lss) 3 (binC Try.prog .lss 3 (.tmp 71) (.const (.int .i64 (.ofNat 65))) (dec v77) (dec ⟨3, 65, r0, []⟩)) v77 ⟨3, 65, r0, []⟩ fun v81 =>
q_condW v81 (
q_genW (two2 Try.prog (dec v76) (dec v77) (Instr.index 98)) fun v82 =>
call 68 [v82, v32] h78 c79 fun v83 h84 c85 =>
q_tupW v83 fun l86 => q_nthW 0 l86 fun v87 =>
q_tupW v83 fun l88 => q_nthW 1 l88 fun v89 =>
q_idxAW 1 65 v4 v77 fun v90 =>
q_storeSW h84 v90 v87 fun h91 =>
q_addW 3 9223372036854775807 (binC Try.prog .add 3 (.tmp 71) (.const (.int .i64 (.ofNat 1))) (dec v77) (dec ⟨3, 1, r0, []⟩)) v77 ⟨3, 1, r0, []⟩ fun v92 =>
f80 v92 h91 c85) (
f69 v75 h78 c79)) fu ⟨3, 0, r0, []⟩ h54 c55) (
f69 v12 h54 c55))) fu ⟨3, 0, r0, []⟩ h51 c50))) fu v31 ⟨3, 1, r0, []⟩ h29 c27) (
q_loadAW 65 h14 v1 fun v93 =>
q_storeAW 65 h14 v1 v93 fun h94 =>
q_loadAW 65 h94 v1 fun v95 =>
K ⟨13, 0, r0, [v95, v12]⟩ h94 c15)) fu ⟨3, 0, r0, []⟩ ⟨3, 0, r0, []⟩ h10 c6
theorem R55_eq (Q : PrimW) (fu : Nat) (call : CallW) : curryA 1 (fnK Q Try.prog tys stl fu call e55) = R55 Q.share Q.genW Q.addW Q.subW Q.mulW Q.bitW Q.cmpW Q.condW Q.idxSW Q.idxAW Q.lenW Q.tupW Q.nthW Q.knownW Q.loadSW Q.loadAW Q.storeSW Q.storeAW Q.allocW Q.cpySW fu call := by kernel_rfl
noncomputable def n55 : List W → HW → Nat → KW → Bool := appF 1 (R55 (fun _ x f => f x) genW addW subW mulW bitW cmpW condW idxSW idxAW lenW tupW nthW knownW loadSW loadAW storeSW storeAW allocW cpySW 1000000 d3.fn)
theorem n55_ok : FnGood Try.prog tys stl tab 55 n55 := node_ok d3_ok (by kernel_rfl) rfl g55 (R55_eq real _ _)
noncomputable def d4 : Disp := (.node 59 n59 (.node 42 n42 (.node 39 n39 (.node 35 n35 (.node 33 n33 .leaf .leaf) .leaf) (.node 41 n41 (.node 40 n40 .leaf .leaf) .leaf)) (.node 54 n54 (.node 53 n53 (.node 46 n46 .leaf .leaf) .leaf) (.node 58 n58 (.node 55 n55 .leaf .leaf) .leaf))) (.node 69 n69 (.node 62 n62 (.node 61 n61 (.node 60 n60 .leaf .leaf) .leaf) (.node 68 n68 (.node 66 n66 .leaf .leaf) .leaf)) (.node 72 n72 (.node 71 n71 (.node 70 n70 .leaf .leaf) .leaf) (.node 73 n73 .leaf .leaf))))
theorem d4_ok : CallSim Try.prog tys stl tab d4.fn := Disp.sim ⟨n59_ok, ⟨n42_ok, ⟨n39_ok, ⟨n35_ok, ⟨n33_ok, True.intro, True.intro⟩, True.intro⟩, ⟨n41_ok, ⟨n40_ok, True.intro, True.intro⟩, True.intro⟩⟩, ⟨n54_ok, ⟨n53_ok, ⟨n46_ok, True.intro, True.intro⟩, True.intro⟩, ⟨n58_ok, ⟨n55_ok, True.intro, True.intro⟩, True.intro⟩⟩⟩, ⟨n69_ok, ⟨n62_ok, ⟨n61_ok, ⟨n60_ok, True.intro, True.intro⟩, True.intro⟩, ⟨n68_ok, ⟨n66_ok, True.intro, True.intro⟩, True.intro⟩⟩, ⟨n72_ok, ⟨n71_ok, ⟨n70_ok, True.intro, True.intro⟩, True.intro⟩, ⟨n73_ok, True.intro, True.intro⟩⟩⟩⟩
/- foghorn/mend.Locator -/
noncomputable def R17 (q_share : (α : Type) → α → (α → Bool) → Bool) (q_addW : Nat → Nat → Option CV → W → W → (W → Bool) → Bool) (q_cmpW : (Nat → Nat → Bool) → Nat → Option CV → W → W → (W → Bool) → Bool) (q_condW : W → Bool → Bool → Bool) (q_guardW : Bool → W → Bool → Bool → Bool) (q_pickW : W → W → W → (W → Bool) → Bool) (q_idxSW : Nat → W → W → (W → Bool) → Bool) (q_lenW : Option CV → W → (W → Bool) → Bool) (q_tupW : W → (List W → Bool) → Bool) (q_nthW : Nat → List W → (W → Bool) → Bool) (q_killVW : W → HW → (HW → Bool) → Bool) (q_loadSW : HW → W → (W → Bool) → Bool) (q_storeAW : Nat → HW → W → W → (HW → Bool) → Bool) (q_allocW : Trie W → Nat → Bool → HW → Nat → KW → Bool) (q_buildSW : Nat → Nat → Kind → Nat → Bool → HW → Nat → Nat → List W → KW → Bool) (fu : Nat) (call : CallW) (a0 : W) (a1 : W) (h0 : HW) (c0 : Nat) (K : KW) : Bool :=
q_cmpW (cmpF2 .lss) 3 (binC Try.prog .lss 3 (.tmp 13) (.const (.int .i64 (.ofNat 1))) (dec a1) (dec ⟨3, 1, r0, []⟩)) a1 ⟨3, 1, r0, []⟩ fun v1 =>
q_share _ (fun (v3 : W) (h4 : HW) (c5 : Nat) =>
q_share _ (fun (v7 : W) (h8 : HW) (c9 : Nat) =>
q_pickW v1 ⟨8, 1, r0, []⟩ v7 fun v10 =>
q_condW v10 (
q_killVW wUnd h8 fun h11 =>
K ⟨13, 0, r0, [⟨12, 0, ⟨0, 0, 0, .nils⟩, []⟩, ⟨3, 1, r0, []⟩]⟩ h11 c9) (
call 39 [a0, a1] h8 c9 fun v12 h13 c14 =>
q_tupW v12 fun l15 => q_nthW 0 l15 fun v16 =>
q_tupW v12 fun l17 => q_nthW 1 l17 fun v18 =>
q_allocW (allocT tys 74) 255 true h13 c14 fun v19 h20 c21 =>
q_storeAW 255 h20 v19 v16 fun h22 =>
q_cmpW (cmpF2 .neq) 3 (binC Try.prog .neq 25 (.tmp 25) (.const (.int .i64 (.ofNat 0))) (dec v18) (dec ⟨3, 0, r0, []⟩)) v18 ⟨3, 0, r0, []⟩ fun v23 =>
q_condW v23 (
q_killVW v19 h22 fun h24 =>
K ⟨13, 0, r0, [⟨12, 0, ⟨0, 0, 0, .nils⟩, []⟩, v18]⟩ h24 c21) (
q_buildSW 1 4 (.ints .u8) 1 true h22 c21 1 [⟨4, 1, r0, []⟩] fun v25 h26 c27 =>
q_lenW (lenC tys 22 (dec a0)) a0 fun v28 =>
@Nat.rec (fun _ => Fun 2) (fun _ _ _ _ => false) (fun _ f33 v29 v30 h31 c32 =>
q_cmpW (cmpF2 .lss) 3 (binC Try.prog .lss 3 (.tmp 31) (.tmp 30) (dec v30) (dec v28)) v30 v28 fun v34 =>
q_condW v34 (
q_idxSW 1 a0 v30 fun v35 =>
q_loadSW h31 v35 fun v36 =>
call 41 [v36, a1] h31 c32 fun v37 h38 c39 =>
q_buildSW 1 4 (.ints .u8) 2 true h38 c39 2 [⟨4, 1, r0, []⟩, v37] fun v40 h41 c42 =>
call 40 [v29, v40] h41 c42 fun v43 h44 c45 =>
q_tupW v43 fun l46 => q_nthW 0 l46 fun v47 =>
q_tupW v43 fun l48 => q_nthW 1 l48 fun v49 =>
q_cmpW (cmpF2 .neq) 3 (binC Try.prog .neq 25 (.tmp 44) (.const (.int .i64 (.ofNat 0))) (dec v49) (dec ⟨3, 0, r0, []⟩)) v49 ⟨3, 0, r0, []⟩ fun v50 =>
q_condW v50 (
q_killVW v19 h44 fun h51 =>
K ⟨13, 0, r0, [⟨12, 0, ⟨0, 0, 0, .nils⟩, []⟩, v49]⟩ h51 c45) (
q_addW 3 9223372036854775807 (binC Try.prog .add 3 (.tmp 31) (.const (.int .i64 (.ofNat 1))) (dec v30) (dec ⟨3, 1, r0, []⟩)) v30 ⟨3, 1, r0, []⟩ fun v52 =>
f33 v47 v52 h44 c45)) (
q_killVW v19 h31 fun h53 =>
K ⟨13, 0, r0, [v29, ⟨3, 0, r0, []⟩]⟩ h53 c32)) fu v25 ⟨3, 0, r0, []⟩ h26 c27))) fun f6 =>
q_guardW false v1 (q_cmpW (cmpF2 .gtr) 3 (binC Try.prog .gtr 3 (.tmp 16) (.const (.int .i64 (.ofNat 255))) (dec v3) (dec ⟨3, 255, r0, []⟩)) v3 ⟨3, 255, r0, []⟩ fun v54 =>
f6 v54 h4 c5) (f6 wUnd h4 c5)) fun f2 =>
q_guardW false v1 (f2 a1 h0 c0) (f2 wUnd h0 c0)
theorem R17_eq (Q : PrimW) (fu : Nat) (call : CallW) : curryA 2 (fnK Q Try.prog tys stl fu call e17) = R17 Q.share Q.addW Q.cmpW Q.condW Q.guardW Q.pickW Q.idxSW Q.lenW Q.tupW Q.nthW Q.killVW Q.loadSW Q.storeAW Q.allocW Q.buildSW fu call := by kernel_rfl
noncomputable def n17 : List W → HW → Nat → KW → Bool := appF 2 (R17 (fun _ x f => f x) addW cmpW condW guardW pickW idxSW lenW tupW nthW killVW loadSW storeAW allocW buildSW 1000000 d4.fn)
theorem n17_ok : FnGood Try.prog tys stl tab 17 n17 := node_ok d4_ok (by kernel_rfl) rfl g17 (R17_eq real _ _)
/- foghorn/mend.corrected -/
noncomputable def R56 (q_share : (α : Type) → α → (α → Bool) → Bool) (q_genW : Option CV → (W → Bool) → Bool) (q_addW : Nat → Nat → Option CV → W → W → (W → Bool) → Bool) (q_bitW : (Nat → Nat → Nat) → Nat → Nat → Option CV → W → W → (W → Bool) → Bool) (q_cmpW : (Nat → Nat → Bool) → Nat → Option CV → W → W → (W → Bool) → Bool) (q_condW : W → Bool → Bool → Bool) (q_idxSW : Nat → W → W → (W → Bool) → Bool) (q_lenW : Option CV → W → (W → Bool) → Bool) (q_tupW : W → (List W → Bool) → Bool) (q_nthW : Nat → List W → (W → Bool) → Bool) (q_knownW : W → Bool → Bool) (q_killVW : W → HW → (HW → Bool) → Bool) (q_loadSW : HW → W → (W → Bool) → Bool) (q_loadAW : Nat → HW → W → (W → Bool) → Bool) (q_storeSW : HW → W → W → (HW → Bool) → Bool) (q_storeAW : Nat → HW → W → W → (HW → Bool) → Bool) (q_allocW : Trie W → Nat → Bool → HW → Nat → KW → Bool) (q_boxW : HW → Nat → W → KW → Bool) (q_samQW : W → W → Bool → Bool) (q_clrW : (Nat → List W) → Nat → HW → Nat → W → KW → Bool) (fu : Nat) (call : CallW) (a0 : W) (a1 : W) (a2 : W) (a3 : W) (h0 : HW) (c0 : Nat) (K : KW) : Bool :=
q_boxW h0 c0 a2 fun v1 h2 c3 =>
q_boxW h2 c3 a3 fun v4 h5 c6 =>
q_loadAW 65 h5 v1 fun v7 =>
q_loadAW 65 h5 v4 fun v8 =>
call 53 [v7, v8] h5 c6 fun v9 h10 c11 =>
q_allocW (allocT tys 98) 65 true h10 c11 fun v12 h13 c14 =>
q_storeAW 65 h13 v12 v9 fun h15 =>
q_genW (sliceC tys 98 (dec v12) (some (dec a1)) none none) fun v16 =>
q_clrW (zsOf tys 36) 1 h15 c14 v16 fun v17 h18 c19 =>
q_lenW (lenC tys 36 (dec a0)) a0 fun v20 =>
@Nat.rec (fun _ => Fun 1) (fun _ _ _ => false) (fun _ f24 v21 h22 c23 =>
q_cmpW (cmpF2 .lss) 3 (binC Try.prog .lss 3 (.tmp 26) (.tmp 25) (dec v21) (dec v20)) v21 v20 fun v25 =>
q_condW v25 (
q_share _ (fun  (h26 : HW) (c27 : Nat) =>
q_addW 3 9223372036854775807 (binC Try.prog .add 3 (.tmp 26) (.const (.int .i64 (.ofNat 1))) (dec v21) (dec ⟨3, 1, r0, []⟩)) v21 ⟨3, 1, r0, []⟩ fun v29 =>
f24 v29 h26 c27) fun f28 =>
q_lenW (lenC tys 36 (dec a0)) a0 fun v30 =>
call 41 [v21, v30] h22 c23 fun v31 h32 c33 =>
call 68 [⟨4, 1, r0, []⟩, v31] h32 c33 fun v34 h35 c36 =>
q_tupW v34 fun l37 => q_nthW 0 l37 fun v38 =>
q_tupW v34 fun l39 => q_nthW 1 l39 fun v40 =>
q_loadAW 65 h35 v4 fun v41 =>
call 69 [v41, v38] h35 c36 fun v42 h43 c44 =>
q_cmpW (cmpF2 .neq) 4 (binC Try.prog .neq 5 (.tmp 40) (.const (.int .u8 (.ofNat 0))) (dec v42) (dec ⟨4, 0, r0, []⟩)) v42 ⟨4, 0, r0, []⟩ fun v45 =>
q_condW v45 (
f28 h43 c44) (
q_loadAW 65 h43 v12 fun v46 =>
q_loadAW 65 h43 v4 fun v47 =>
call 69 [v46, v38] h43 c44 fun v48 h49 c50 =>
q_loadAW 65 h49 v4 fun v51 =>
q_samQW v51 v47 (
call 66 [v31, v48] h49 c50 fun v52 _ _ => q_knownW v52 (
call 70 [v47, v38] h49 c50 fun v53 h54 c55 =>
call 68 [v52, v53] h54 c55 fun v56 _ _ => q_knownW v56 (
q_tupW v56 fun l57 => q_nthW 0 l57 fun v58 =>
q_tupW v56 fun l59 => q_nthW 1 l59 fun v60 =>
q_cmpW (cmpF2 .neq) 3 (binC Try.prog .neq 25 (.tmp 54) (.const (.int .i64 (.ofNat 0))) (dec v60) (dec ⟨3, 0, r0, []⟩)) v60 ⟨3, 0, r0, []⟩ fun v61 =>
q_condW v61 (
q_killVW v1 h54 fun h62 =>
q_killVW v4 h62 fun h63 =>
q_killVW wUnd h63 fun h64 =>
K ⟨13, 0, r0, [⟨12, 0, ⟨0, 0, 0, .str ⟨⟨[]⟩⟩⟩, []⟩, ⟨8, 0, r0, []⟩]⟩ h64 c55) (
q_idxSW 1 a0 v21 fun v65 =>
q_loadSW h54 v65 fun v66 =>
q_bitW Nat.xor 4 255 (binC Try.prog .xor 5 (.tmp 59) (.tmp 60) (dec v66) (dec v58)) v66 v58 fun v67 =>
q_idxSW 1 a0 v21 fun v68 =>
q_storeSW h54 v68 v67 fun h69 =>
f28 h69 c55)))))) (
call 54 [a0, a1] h22 c23 fun v70 h71 c72 =>
q_tupW v70 fun l73 => q_nthW 0 l73 fun v74 =>
q_tupW v70 fun l75 => q_nthW 1 l75 fun v76 =>
q_allocW (allocT tys 98) 65 true h71 c72 fun v77 h78 c79 =>
q_storeAW 65 h78 v77 v74 fun h80 =>
q_genW (convC Try.prog tys ⟨[], 0, decH h80, 0⟩ 36 9 (dec a0)) fun v81 =>
q_killVW v1 h80 fun h82 =>
q_killVW v4 h82 fun h83 =>
q_killVW v77 h83 fun h84 =>
K ⟨13, 0, r0, [v81, v76]⟩ h84 c79)) fu ⟨3, 0, r0, []⟩ h18 c19
theorem R56_eq (Q : PrimW) (fu : Nat) (call : CallW) : curryA 4 (fnK Q Try.prog tys stl fu call e56) = R56 Q.share Q.genW Q.addW Q.bitW Q.cmpW Q.condW Q.idxSW Q.lenW Q.tupW Q.nthW Q.knownW Q.killVW Q.loadSW Q.loadAW Q.storeSW Q.storeAW Q.allocW Q.boxW Q.samQW Q.clrW fu call := by kernel_rfl
noncomputable def n56 : List W → HW → Nat → KW → Bool := appF 4 (R56 (fun _ x f => f x) genW addW bitW cmpW condW idxSW lenW tupW nthW knownW killVW loadSW loadAW storeSW storeAW allocW boxW samQW clrW 1000000 d4.fn)
theorem n56_ok : FnGood Try.prog tys stl tab 56 n56 := node_ok d4_ok (by kernel_rfl) rfl g56 (R56_eq real _ _)
noncomputable def d5 : Disp := (.node 58 n58 (.node 42 n42 (.node 39 n39 (.node 33 n33 (.node 17 n17 .leaf .leaf) (.node 35 n35 .leaf .leaf)) (.node 41 n41 (.node 40 n40 .leaf .leaf) .leaf)) (.node 54 n54 (.node 53 n53 (.node 46 n46 .leaf .leaf) .leaf) (.node 56 n56 (.node 55 n55 .leaf .leaf) .leaf))) (.node 68 n68 (.node 61 n61 (.node 60 n60 (.node 59 n59 .leaf .leaf) .leaf) (.node 66 n66 (.node 62 n62 .leaf .leaf) .leaf)) (.node 71 n71 (.node 70 n70 (.node 69 n69 .leaf .leaf) .leaf) (.node 73 n73 (.node 72 n72 .leaf .leaf) .leaf))))
theorem d5_ok : CallSim Try.prog tys stl tab d5.fn := Disp.sim ⟨n58_ok, ⟨n42_ok, ⟨n39_ok, ⟨n33_ok, ⟨n17_ok, True.intro, True.intro⟩, ⟨n35_ok, True.intro, True.intro⟩⟩, ⟨n41_ok, ⟨n40_ok, True.intro, True.intro⟩, True.intro⟩⟩, ⟨n54_ok, ⟨n53_ok, ⟨n46_ok, True.intro, True.intro⟩, True.intro⟩, ⟨n56_ok, ⟨n55_ok, True.intro, True.intro⟩, True.intro⟩⟩⟩, ⟨n68_ok, ⟨n61_ok, ⟨n60_ok, ⟨n59_ok, True.intro, True.intro⟩, True.intro⟩, ⟨n66_ok, ⟨n62_ok, True.intro, True.intro⟩, True.intro⟩⟩, ⟨n71_ok, ⟨n70_ok, ⟨n69_ok, True.intro, True.intro⟩, True.intro⟩, ⟨n73_ok, ⟨n72_ok, True.intro, True.intro⟩, True.intro⟩⟩⟩⟩
/- foghorn/mend.sought -/
noncomputable def R34 (q_share : (α : Type) → α → (α → Bool) → Bool) (q_genW : Option CV → (W → Bool) → Bool) (q_addW : Nat → Nat → Option CV → W → W → (W → Bool) → Bool) (q_mulW : Nat → Nat → Option CV → W → W → (W → Bool) → Bool) (q_cmpW : (Nat → Nat → Bool) → Nat → Option CV → W → W → (W → Bool) → Bool) (q_condW : W → Bool → Bool → Bool) (q_idxSW : Nat → W → W → (W → Bool) → Bool) (q_idxAW : Nat → Nat → W → W → (W → Bool) → Bool) (q_lenW : Option CV → W → (W → Bool) → Bool) (q_tupW : W → (List W → Bool) → Bool) (q_nthW : Nat → List W → (W → Bool) → Bool) (q_knownW : W → Bool → Bool) (q_killVW : W → HW → (HW → Bool) → Bool) (q_loadSW : HW → W → (W → Bool) → Bool) (q_loadAW : Nat → HW → W → (W → Bool) → Bool) (q_storeSW : HW → W → W → (HW → Bool) → Bool) (q_storeAW : Nat → HW → W → W → (HW → Bool) → Bool) (q_allocW : Trie W → Nat → Bool → HW → Nat → KW → Bool) (q_boxW : HW → Nat → W → KW → Bool) (q_flatW : W → Bool → Bool) (q_samQW : W → W → Bool → Bool) (q_bytW : Bool → HW → Nat → W → KW → Bool) (fu : Nat) (call : CallW) (a0 : W) (a1 : W) (a2 : W) (h0 : HW) (c0 : Nat) (K : KW) : Bool :=
q_boxW h0 c0 a2 fun v1 h2 c3 =>
q_bytW (bytOk tys 9 36) h2 c3 a0 fun v4 h5 c6 =>
q_allocW (allocT tys 98) 65 true h5 c6 fun v7 h8 c9 =>
q_idxAW 1 65 v7 ⟨3, 0, r0, []⟩ fun v10 =>
q_storeSW h8 v10 ⟨4, 1, r0, []⟩ fun h11 =>
q_lenW (lenC tys 36 (dec v4)) v4 fun v12 =>
@Nat.rec (fun _ => Fun 2) (fun _ _ _ _ => false) (fun _ f17 v13 v14 h15 c16 =>
q_cmpW (cmpF2 .lss) 3 (binC Try.prog .lss 3 (.tmp 22) (.tmp 21) (dec v14) (dec v12)) v14 v12 fun v18 =>
q_condW v18 (
q_share _ (fun (v19 : W) (h20 : HW) (c21 : Nat) =>
q_addW 3 9223372036854775807 (binC Try.prog .add 3 (.tmp 22) (.const (.int .i64 (.ofNat 1))) (dec v14) (dec ⟨3, 1, r0, []⟩)) v14 ⟨3, 1, r0, []⟩ fun v23 =>
f17 v19 v23 h20 c21) fun f22 =>
q_idxAW 1 255 v1 v14 fun v24 =>
q_loadSW h15 v24 fun v25 =>
q_condW v25 (
q_idxSW 1 v4 v14 fun v26 =>
q_storeSW h15 v26 ⟨4, 0, r0, []⟩ fun h27 =>
q_loadAW 65 h27 v7 fun v28 =>
q_lenW (lenC tys 36 (dec v4)) v4 fun v29 =>
call 41 [v14, v29] h27 c16 fun v30 _ _ => q_knownW v30 (
q_flatW ⟨4, 1, r0, []⟩ (
q_flatW v30 (
(fun (v31 : W) =>
call 53 [v28, v31] h27 c16 fun v32 h33 c34 =>
q_storeAW 65 h33 v7 v32 fun h35 =>
q_addW 3 9223372036854775807 (binC Try.prog .add 3 (.tmp 38) (.const (.int .i64 (.ofNat 1))) (dec v13) (dec ⟨3, 1, r0, []⟩)) v13 ⟨3, 1, r0, []⟩ fun v36 =>
f22 v36 h35 c34) ⟨15, 0, r0, [⟨4, 1, r0, []⟩, v30, ⟨4, 0, r0, []⟩, ⟨4, 0, r0, []⟩, ⟨4, 0, r0, []⟩, ⟨4, 0, r0, []⟩, ⟨4, 0, r0, []⟩, ⟨4, 0, r0, []⟩, ⟨4, 0, r0, []⟩, ⟨4, 0, r0, []⟩, ⟨4, 0, r0, []⟩, ⟨4, 0, r0, []⟩, ⟨4, 0, r0, []⟩, ⟨4, 0, r0, []⟩, ⟨4, 0, r0, []⟩, ⟨4, 0, r0, []⟩, ⟨4, 0, r0, []⟩, ⟨4, 0, r0, []⟩, ⟨4, 0, r0, []⟩, ⟨4, 0, r0, []⟩, ⟨4, 0, r0, []⟩, ⟨4, 0, r0, []⟩, ⟨4, 0, r0, []⟩, ⟨4, 0, r0, []⟩, ⟨4, 0, r0, []⟩, ⟨4, 0, r0, []⟩, ⟨4, 0, r0, []⟩, ⟨4, 0, r0, []⟩, ⟨4, 0, r0, []⟩, ⟨4, 0, r0, []⟩, ⟨4, 0, r0, []⟩, ⟨4, 0, r0, []⟩, ⟨4, 0, r0, []⟩, ⟨4, 0, r0, []⟩, ⟨4, 0, r0, []⟩, ⟨4, 0, r0, []⟩, ⟨4, 0, r0, []⟩, ⟨4, 0, r0, []⟩, ⟨4, 0, r0, []⟩, ⟨4, 0, r0, []⟩, ⟨4, 0, r0, []⟩, ⟨4, 0, r0, []⟩, ⟨4, 0, r0, []⟩, ⟨4, 0, r0, []⟩, ⟨4, 0, r0, []⟩, ⟨4, 0, r0, []⟩, ⟨4, 0, r0, []⟩, ⟨4, 0, r0, []⟩, ⟨4, 0, r0, []⟩, ⟨4, 0, r0, []⟩, ⟨4, 0, r0, []⟩, ⟨4, 0, r0, []⟩, ⟨4, 0, r0, []⟩, ⟨4, 0, r0, []⟩, ⟨4, 0, r0, []⟩, ⟨4, 0, r0, []⟩, ⟨4, 0, r0, []⟩, ⟨4, 0, r0, []⟩, ⟨4, 0, r0, []⟩, ⟨4, 0, r0, []⟩, ⟨4, 0, r0, []⟩, ⟨4, 0, r0, []⟩, ⟨4, 0, r0, []⟩, ⟨4, 0, r0, []⟩, ⟨4, 0, r0, []⟩]⟩)))) (
f22 v13 h15 c16)) (
call 54 [v4, a1] h15 c16 fun v37 h38 c39 =>
q_tupW v37 fun l40 => q_nthW 0 l40 fun v41 =>
q_tupW v37 fun l42 => q_nthW 1 l42 fun v43 =>
q_allocW (allocT tys 98) 65 true h38 c39 fun v44 h45 c46 =>
q_storeAW 65 h45 v44 v41 fun h47 =>
q_condW v43 (
q_genW (convC Try.prog tys ⟨[], 0, decH h47, 0⟩ 36 9 (dec v4)) fun v48 =>
q_killVW v1 h47 fun h49 =>
q_killVW v7 h49 fun h50 =>
q_killVW v44 h50 fun h51 =>
q_killVW wUnd h51 fun h52 =>
K ⟨13, 0, r0, [v48, ⟨8, 1, r0, []⟩]⟩ h52 c46) (
q_loadAW 65 h47 v44 fun v53 =>
q_loadAW 65 h47 v7 fun v54 =>
call 53 [v53, v54] h47 c46 fun v55 h56 c57 =>
q_allocW (allocT tys 98) 65 true h56 c57 fun v58 h59 c60 =>
q_storeAW 65 h59 v58 v55 fun h61 =>
q_genW (sliceC tys 98 (dec v58) (some (dec v13)) (some (dec a1)) none) fun v62 =>
call 55 [v62] h61 c60 fun v63 h64 c65 =>
q_tupW v63 fun l66 => q_nthW 0 l66 fun v67 =>
q_tupW v63 fun l68 => q_nthW 1 l68 fun v69 =>
q_allocW (allocT tys 98) 65 true h64 c65 fun v70 h71 c72 =>
q_storeAW 65 h71 v70 v67 fun h73 =>
q_mulW 3 9223372036854775807 (binC Try.prog .mul 3 (.const (.int .i64 (.ofNat 2))) (.tmp 60) (dec ⟨3, 2, r0, []⟩) (dec v69)) ⟨3, 2, r0, []⟩ v69 fun v74 =>
q_addW 3 9223372036854775807 (binC Try.prog .add 3 (.tmp 61) (.tmp 62) (dec v74) (dec v13)) v74 v13 fun v75 =>
q_cmpW (cmpF2 .gtr) 3 (binC Try.prog .gtr 3 (.tmp 63) (.tmp 64) (dec v75) (dec a1)) v75 a1 fun v76 =>
q_condW v76 (
q_killVW v1 h73 fun h77 =>
q_killVW v7 h77 fun h78 =>
q_killVW v44 h78 fun h79 =>
q_killVW v70 h79 fun h80 =>
K ⟨13, 0, r0, [⟨12, 0, ⟨0, 0, 0, .str ⟨⟨[]⟩⟩⟩, []⟩, ⟨8, 0, r0, []⟩]⟩ h80 c72) (
q_loadAW 65 h73 v7 fun v81 =>
q_loadAW 65 h73 v70 fun v82 =>
q_loadAW 65 h73 v44 fun v83 =>
call 53 [v81, v82] h73 c72 fun v84 h85 c86 =>
q_loadAW 65 h85 v44 fun v87 =>
q_samQW v87 v83 (
call 56 [v4, a1, v83, v84] h85 c86 fun v88 h89 c90 =>
q_tupW v88 fun l91 => q_nthW 0 l91 fun v92 =>
q_tupW v88 fun l93 => q_nthW 1 l93 fun v94 =>
q_killVW v1 h89 fun h95 =>
q_killVW v7 h95 fun h96 =>
q_killVW v44 h96 fun h97 =>
q_killVW v70 h97 fun h98 =>
K ⟨13, 0, r0, [v92, v94]⟩ h98 c90))))) fu ⟨3, 0, r0, []⟩ ⟨3, 0, r0, []⟩ h11 c9
theorem R34_eq (Q : PrimW) (fu : Nat) (call : CallW) : curryA 3 (fnK Q Try.prog tys stl fu call e34) = R34 Q.share Q.genW Q.addW Q.mulW Q.cmpW Q.condW Q.idxSW Q.idxAW Q.lenW Q.tupW Q.nthW Q.knownW Q.killVW Q.loadSW Q.loadAW Q.storeSW Q.storeAW Q.allocW Q.boxW Q.flatW Q.samQW Q.bytW fu call := by kernel_rfl
noncomputable def n34 : List W → HW → Nat → KW → Bool := appF 3 (R34 (fun _ x f => f x) genW addW mulW cmpW condW idxSW idxAW lenW tupW nthW knownW killVW loadSW loadAW storeSW storeAW allocW boxW flatW samQW bytW 1000000 d5.fn)
theorem n34_ok : FnGood Try.prog tys stl tab 34 n34 := node_ok d5_ok (by kernel_rfl) rfl g34 (R34_eq real _ _)
noncomputable def d6 : Disp := (.node 56 n56 (.node 41 n41 (.node 35 n35 (.node 33 n33 (.node 17 n17 .leaf .leaf) (.node 34 n34 .leaf .leaf)) (.node 40 n40 (.node 39 n39 .leaf .leaf) .leaf)) (.node 53 n53 (.node 46 n46 (.node 42 n42 .leaf .leaf) .leaf) (.node 55 n55 (.node 54 n54 .leaf .leaf) .leaf))) (.node 68 n68 (.node 61 n61 (.node 59 n59 (.node 58 n58 .leaf .leaf) (.node 60 n60 .leaf .leaf)) (.node 66 n66 (.node 62 n62 .leaf .leaf) .leaf)) (.node 71 n71 (.node 70 n70 (.node 69 n69 .leaf .leaf) .leaf) (.node 73 n73 (.node 72 n72 .leaf .leaf) .leaf))))
theorem d6_ok : CallSim Try.prog tys stl tab d6.fn := Disp.sim ⟨n56_ok, ⟨n41_ok, ⟨n35_ok, ⟨n33_ok, ⟨n17_ok, True.intro, True.intro⟩, ⟨n34_ok, True.intro, True.intro⟩⟩, ⟨n40_ok, ⟨n39_ok, True.intro, True.intro⟩, True.intro⟩⟩, ⟨n53_ok, ⟨n46_ok, ⟨n42_ok, True.intro, True.intro⟩, True.intro⟩, ⟨n55_ok, ⟨n54_ok, True.intro, True.intro⟩, True.intro⟩⟩⟩, ⟨n68_ok, ⟨n61_ok, ⟨n59_ok, ⟨n58_ok, True.intro, True.intro⟩, ⟨n60_ok, True.intro, True.intro⟩⟩, ⟨n66_ok, ⟨n62_ok, True.intro, True.intro⟩, True.intro⟩⟩, ⟨n71_ok, ⟨n70_ok, ⟨n69_ok, True.intro, True.intro⟩, True.intro⟩, ⟨n73_ok, ⟨n72_ok, True.intro, True.intro⟩, True.intro⟩⟩⟩⟩
/- foghorn/mend.Mend -/
noncomputable def R10 (q_share : (α : Type) → α → (α → Bool) → Bool) (q_genW : Option CV → (W → Bool) → Bool) (q_addW : Nat → Nat → Option CV → W → W → (W → Bool) → Bool) (q_cmpW : (Nat → Nat → Bool) → Nat → Option CV → W → W → (W → Bool) → Bool) (q_notW : Option CV → W → (W → Bool) → Bool) (q_condW : W → Bool → Bool → Bool) (q_guardW : Bool → W → Bool → Bool → Bool) (q_pickW : W → W → W → (W → Bool) → Bool) (q_fadW : Nat → W → (W → Bool) → Bool) (q_idxAW : Nat → Nat → W → W → (W → Bool) → Bool) (q_lenW : Option CV → W → (W → Bool) → Bool) (q_tupW : W → (List W → Bool) → Bool) (q_nthW : Nat → List W → (W → Bool) → Bool) (q_killVW : W → HW → (HW → Bool) → Bool) (q_loadSW : HW → W → (W → Bool) → Bool) (q_loadAW : Nat → HW → W → (W → Bool) → Bool) (q_storeSW : HW → W → W → (HW → Bool) → Bool) (q_storeAW : Nat → HW → W → W → (HW → Bool) → Bool) (q_allocW : Trie W → Nat → Bool → HW → Nat → KW → Bool) (q_buildSW : Nat → Nat → Kind → Nat → Bool → HW → Nat → Nat → List W → KW → Bool) (q_appSW : Nat → Nat → (Kind → Bool) → Bool → HW → Nat → W → W → Bool → KW → Bool) (q_flatW : W → Bool → Bool) (fu : Nat) (call : CallW) (a0 : W) (a1 : W) (a2 : W) (h0 : HW) (c0 : Nat) (K : KW) : Bool :=
q_allocW (allocT tys 28) 3 true h0 c0 fun v1 h2 c3 =>
call 33 [a0, a1, a2] h2 c3 fun v4 h5 c6 =>
q_tupW v4 fun l7 => q_nthW 0 l7 fun v8 =>
q_tupW v4 fun l9 => q_nthW 1 l9 fun v10 =>
q_allocW (allocT tys 74) 255 true h5 c6 fun v11 h12 c13 =>
q_storeAW 255 h12 v11 v8 fun h14 =>
q_cmpW (cmpF2 .neq) 3 (binC Try.prog .neq 25 (.tmp 21) (.const (.int .i64 (.ofNat 0))) (dec v10) (dec ⟨3, 0, r0, []⟩)) v10 ⟨3, 0, r0, []⟩ fun v15 =>
q_condW v15 (
(fun (v16 : W) =>
q_storeAW 3 h14 v1 v16 fun h17 =>
q_loadAW 3 h17 v1 fun v18 =>
q_killVW v11 h17 fun h19 =>
q_killVW wUnd h19 fun h20 =>
K ⟨13, 0, r0, [v18, v10]⟩ h20 c13) ⟨15, 0, r0, [⟨12, 0, ⟨0, 0, 0, .str ⟨⟨[]⟩⟩⟩, []⟩, ⟨12, 0, ⟨0, 0, 0, .nils⟩, []⟩, ⟨12, 0, ⟨0, 0, 0, .nils⟩, []⟩]⟩) (
q_lenW (lenC tys 22 (dec a2)) a2 fun v21 =>
q_cmpW (cmpF2 .gtr) 3 (binC Try.prog .gtr 3 (.tmp 26) (.tmp 27) (dec v21) (dec a1)) v21 a1 fun v22 =>
q_condW v22 (
(fun (v23 : W) =>
q_storeAW 3 h14 v1 v23 fun h24 =>
q_loadAW 3 h24 v1 fun v25 =>
q_killVW v11 h24 fun h26 =>
q_killVW wUnd h26 fun h27 =>
K ⟨13, 0, r0, [v25, ⟨3, 9, r0, []⟩]⟩ h27 c13) ⟨15, 0, r0, [⟨12, 0, ⟨0, 0, 0, .str ⟨⟨[]⟩⟩⟩, []⟩, ⟨12, 0, ⟨0, 0, 0, .nils⟩, []⟩, ⟨12, 0, ⟨0, 0, 0, .nils⟩, []⟩]⟩) (
q_loadAW 255 h14 v11 fun v28 =>
call 34 [a0, a1, v28] h14 c13 fun v29 h30 c31 =>
q_tupW v29 fun l32 => q_nthW 0 l32 fun v33 =>
q_tupW v29 fun l34 => q_nthW 1 l34 fun v35 =>
q_notW (two Try.prog (dec v35) (Op.unary .not)) v35 fun v36 =>
q_share _ (fun (v38 : W) (h39 : HW) (c40 : Nat) =>
q_share _ (fun (v42 : W) (h43 : HW) (c44 : Nat) =>
q_share _ (fun (v46 : W) (h47 : HW) (c48 : Nat) =>
q_share _ (fun (v50 : W) (h51 : HW) (c52 : Nat) =>
q_share _ (fun (v54 : W) (h55 : HW) (c56 : Nat) =>
q_share _ (fun (v58 : W) (h59 : HW) (c60 : Nat) =>
q_pickW v36 ⟨8, 1, r0, []⟩ v58 fun v61 =>
q_condW v61 (
(fun (v62 : W) =>
q_storeAW 3 h59 v1 v62 fun h63 =>
q_loadAW 3 h63 v1 fun v64 =>
q_killVW v11 h63 fun h65 =>
q_killVW wUnd h65 fun h66 =>
K ⟨13, 0, r0, [v64, ⟨3, 9, r0, []⟩]⟩ h66 c60) ⟨15, 0, r0, [⟨12, 0, ⟨0, 0, 0, .str ⟨⟨[]⟩⟩⟩, []⟩, ⟨12, 0, ⟨0, 0, 0, .nils⟩, []⟩, ⟨12, 0, ⟨0, 0, 0, .nils⟩, []⟩]⟩) (
q_flatW v33 (
(fun (v67 : W) =>
q_allocW (allocT tys 28) 3 true h59 c60 fun v68 h69 c70 =>
q_storeAW 3 h69 v68 v67 fun h71 =>
q_genW (lenMC Try.prog tys ⟨[], 0, decH h71, 0⟩ 9 (dec a0)) fun v72 =>
@Nat.rec (fun _ => Fun 1) (fun _ _ _ => false) (fun _ f76 v73 h74 c75 =>
q_cmpW (cmpF2 .lss) 3 (binC Try.prog .lss 3 (.tmp 52) (.tmp 51) (dec v73) (dec v72)) v73 v72 fun v77 =>
q_condW v77 (
q_share _ (fun  (h78 : HW) (c79 : Nat) =>
q_addW 3 9223372036854775807 (binC Try.prog .add 3 (.tmp 52) (.const (.int .i64 (.ofNat 1))) (dec v73) (dec ⟨3, 1, r0, []⟩)) v73 ⟨3, 1, r0, []⟩ fun v81 =>
f76 v81 h78 c79) fun f80 =>
q_idxAW 1 255 v11 v73 fun v82 =>
q_loadSW h74 v82 fun v83 =>
q_condW v83 (
q_fadW 2 v68 fun v84 =>
q_loadSW h74 v84 fun v85 =>
q_buildSW 1 3 (.ints .i64) 1 true h74 c75 1 [v73] fun v86 h87 c88 =>
q_appSW 8 1 (appKindOk (elemJ tys 22)) false h87 c88 v85 v86 false fun v89 h90 c91 =>
q_fadW 2 v68 fun v92 =>
q_storeSW h90 v92 v89 fun h93 =>
q_killVW v86 h93 fun h94 =>
f80 h94 c91) (
q_genW (two2 Try.prog (dec a0) (dec v73) (Instr.index 9)) fun v95 =>
q_genW (two2 Try.prog (dec v33) (dec v73) (Instr.index 9)) fun v96 =>
q_cmpW (cmpF2 .neq) 4 (binC Try.prog .neq 5 (.tmp 66) (.tmp 69) (dec v95) (dec v96)) v95 v96 fun v97 =>
q_condW v97 (
q_fadW 1 v68 fun v98 =>
q_loadSW h74 v98 fun v99 =>
q_buildSW 1 3 (.ints .i64) 1 true h74 c75 1 [v73] fun v100 h101 c102 =>
q_appSW 8 1 (appKindOk (elemJ tys 22)) false h101 c102 v99 v100 false fun v103 h104 c105 =>
q_fadW 1 v68 fun v106 =>
q_storeSW h104 v106 v103 fun h107 =>
q_killVW v100 h107 fun h108 =>
f80 h108 c105) (
f80 h74 c75))) (
q_loadAW 3 h74 v68 fun v109 =>
q_storeAW 3 h74 v1 v109 fun h110 =>
q_loadAW 3 h110 v1 fun v111 =>
q_killVW v11 h110 fun h112 =>
q_killVW v68 h112 fun h113 =>
K ⟨13, 0, r0, [v111, ⟨3, 0, r0, []⟩]⟩ h113 c75)) fu ⟨3, 0, r0, []⟩ h71 c70) ⟨15, 0, r0, [v33, ⟨12, 0, ⟨0, 0, 0, .nils⟩, []⟩, ⟨12, 0, ⟨0, 0, 0, .nils⟩, []⟩]⟩))) fun f57 =>
q_guardW false v36 (q_notW (two Try.prog (dec v54) (Op.unary .not)) v54 fun v114 =>
f57 v114 h55 c56) (f57 wUnd h55 c56)) fun f53 =>
q_guardW false v36 (call 35 [v38, v42, v46, v50] h51 c52 fun v115 h116 c117 =>
f53 v115 h116 c117) (f53 wUnd h51 c52)) fun f49 =>
q_guardW false v36 (q_loadAW 255 h47 v11 fun v118 =>
f49 v118 h47 c48) (f49 wUnd h47 c48)) fun f45 =>
q_guardW false v36 (f45 a1 h43 c44) (f45 wUnd h43 c44)) fun f41 =>
q_guardW false v36 (f41 v33 h39 c40) (f41 wUnd h39 c40)) fun f37 =>
q_guardW false v36 (f37 a0 h30 c31) (f37 wUnd h30 c31)))
theorem R10_eq (Q : PrimW) (fu : Nat) (call : CallW) : curryA 3 (fnK Q Try.prog tys stl fu call e10) = R10 Q.share Q.genW Q.addW Q.cmpW Q.notW Q.condW Q.guardW Q.pickW Q.fadW Q.idxAW Q.lenW Q.tupW Q.nthW Q.killVW Q.loadSW Q.loadAW Q.storeSW Q.storeAW Q.allocW Q.buildSW Q.appSW Q.flatW fu call := by kernel_rfl
noncomputable def n10 : List W → HW → Nat → KW → Bool := appF 3 (R10 (fun _ x f => f x) genW addW cmpW notW condW guardW pickW fadW idxAW lenW tupW nthW killVW loadSW loadAW storeSW storeAW allocW buildSW appSW flatW 1000000 d6.fn)
theorem n10_ok : FnGood Try.prog tys stl tab 10 n10 := node_ok d6_ok (by kernel_rfl) rfl g10 (R10_eq real _ _)
noncomputable def d7 : Disp := (.node 56 n56 (.node 40 n40 (.node 34 n34 (.node 17 n17 (.node 10 n10 .leaf .leaf) (.node 33 n33 .leaf .leaf)) (.node 39 n39 (.node 35 n35 .leaf .leaf) .leaf)) (.node 53 n53 (.node 42 n42 (.node 41 n41 .leaf .leaf) (.node 46 n46 .leaf .leaf)) (.node 55 n55 (.node 54 n54 .leaf .leaf) .leaf))) (.node 68 n68 (.node 61 n61 (.node 59 n59 (.node 58 n58 .leaf .leaf) (.node 60 n60 .leaf .leaf)) (.node 66 n66 (.node 62 n62 .leaf .leaf) .leaf)) (.node 71 n71 (.node 70 n70 (.node 69 n69 .leaf .leaf) .leaf) (.node 73 n73 (.node 72 n72 .leaf .leaf) .leaf))))
theorem d7_ok : CallSim Try.prog tys stl tab d7.fn := Disp.sim ⟨n56_ok, ⟨n40_ok, ⟨n34_ok, ⟨n17_ok, ⟨n10_ok, True.intro, True.intro⟩, ⟨n33_ok, True.intro, True.intro⟩⟩, ⟨n39_ok, ⟨n35_ok, True.intro, True.intro⟩, True.intro⟩⟩, ⟨n53_ok, ⟨n42_ok, ⟨n41_ok, True.intro, True.intro⟩, ⟨n46_ok, True.intro, True.intro⟩⟩, ⟨n55_ok, ⟨n54_ok, True.intro, True.intro⟩, True.intro⟩⟩⟩, ⟨n68_ok, ⟨n61_ok, ⟨n59_ok, ⟨n58_ok, True.intro, True.intro⟩, ⟨n60_ok, True.intro, True.intro⟩⟩, ⟨n66_ok, ⟨n62_ok, True.intro, True.intro⟩, True.intro⟩⟩, ⟨n71_ok, ⟨n70_ok, ⟨n69_ok, True.intro, True.intro⟩, True.intro⟩, ⟨n73_ok, ⟨n72_ok, True.intro, True.intro⟩, True.intro⟩⟩⟩⟩
/- foghorn/mend.Message -/
noncomputable def R21 (q_genW : Option CV → (W → Bool) → Bool) (q_addW : Nat → Nat → Option CV → W → W → (W → Bool) → Bool) (q_subW : Nat → Nat → Option CV → W → W → (W → Bool) → Bool) (q_cmpW : (Nat → Nat → Bool) → Nat → Option CV → W → W → (W → Bool) → Bool) (q_condW : W → Bool → Bool → Bool) (q_fadW : Nat → W → (W → Bool) → Bool) (q_idxSW : Nat → W → W → (W → Bool) → Bool) (q_lenW : Option CV → W → (W → Bool) → Bool) (q_tupW : W → (List W → Bool) → Bool) (q_nthW : Nat → List W → (W → Bool) → Bool) (q_loadSW : HW → W → (W → Bool) → Bool) (q_storeAW : Nat → HW → W → W → (HW → Bool) → Bool) (q_makeSW : Nat → Nat → Nat → Kind → List W → Bool → HW → Nat → W → W → KW → Bool) (q_allocW : Trie W → Nat → Bool → HW → Nat → KW → Bool) (q_appTW : Nat → (Kind → Bool) → HW → Nat → W → W → KW → Bool) (fu : Nat) (call : CallW) (a0 : W) (a1 : W) (a2 : W) (h0 : HW) (c0 : Nat) (K : KW) : Bool :=
call 42 [a0, a1, a2] h0 c0 fun v1 h2 c3 =>
q_cmpW (cmpF2 .neq) 3 (binC Try.prog .neq 25 (.tmp 21) (.const (.int .i64 (.ofNat 0))) (dec v1) (dec ⟨3, 0, r0, []⟩)) v1 ⟨3, 0, r0, []⟩ fun v4 =>
q_condW v4 (
K ⟨13, 0, r0, [⟨12, 0, ⟨0, 0, 0, .str ⟨⟨[]⟩⟩⟩, []⟩, v1]⟩ h2 c3) (
q_lenW (lenC tys 40 (dec a0)) a0 fun v5 =>
@Nat.rec (fun _ => Fun 2) (fun _ _ _ _ => false) (fun _ f10 v6 v7 h8 c9 =>
q_cmpW (cmpF2 .lss) 3 (binC Try.prog .lss 3 (.tmp 26) (.tmp 25) (dec v7) (dec v5)) v7 v5 fun v11 =>
q_condW v11 (
q_idxSW 1 a0 v7 fun v12 =>
q_loadSW h8 v12 fun v13 =>
q_genW (lenMC Try.prog tys ⟨[], 0, decH h8, 0⟩ 9 (dec v13)) fun v14 =>
q_subW 3 9223372036854775807 (binC Try.prog .sub 3 (.tmp 32) (.tmp 33) (dec v14) (dec a1)) v14 a1 fun v15 =>
q_addW 3 9223372036854775807 (binC Try.prog .add 3 (.tmp 30) (.tmp 34) (dec v6) (dec v15)) v6 v15 fun v16 =>
q_addW 3 9223372036854775807 (binC Try.prog .add 3 (.tmp 26) (.const (.int .i64 (.ofNat 1))) (dec v7) (dec ⟨3, 1, r0, []⟩)) v7 ⟨3, 1, r0, []⟩ fun v17 =>
f10 v16 v17 h8 c9) (
q_cmpW (cmpF2 .gtr) 3 (binC Try.prog .gtr 3 (.tmp 37) (.const (.int .i64 (.ofNat 32768))) (dec v6) (dec ⟨3, 32768, r0, []⟩)) v6 ⟨3, 32768, r0, []⟩ fun v18 =>
q_condW v18 (
K ⟨13, 0, r0, [⟨12, 0, ⟨0, 0, 0, .str ⟨⟨[]⟩⟩⟩, []⟩, ⟨3, 1, r0, []⟩]⟩ h8 c9) (
q_makeSW 1 1 4 (.ints .u8) [⟨4, 0, r0, []⟩] true h8 c9 ⟨3, 0, r0, []⟩ v6 fun v19 h20 c21 =>
q_lenW (lenC tys 40 (dec a0)) a0 fun v22 =>
@Nat.rec (fun _ => Fun 2) (fun _ _ _ _ => false) (fun _ f27 v23 v24 h25 c26 =>
q_cmpW (cmpF2 .lss) 3 (binC Try.prog .lss 3 (.tmp 43) (.tmp 42) (dec v24) (dec v22)) v24 v22 fun v28 =>
q_condW v28 (
q_idxSW 1 a0 v24 fun v29 =>
q_loadSW h25 v29 fun v30 =>
q_idxSW 1 a2 v24 fun v31 =>
q_loadSW h25 v31 fun v32 =>
call 10 [v30, a1, v32] h25 c26 fun v33 h34 c35 =>
q_tupW v33 fun l36 => q_nthW 0 l36 fun v37 =>
q_tupW v33 fun l38 => q_nthW 1 l38 fun v39 =>
q_allocW (allocT tys 28) 3 true h34 c35 fun v40 h41 c42 =>
q_storeAW 3 h41 v40 v37 fun h43 =>
q_cmpW (cmpF2 .neq) 3 (binC Try.prog .neq 25 (.tmp 58) (.const (.int .i64 (.ofNat 0))) (dec v39) (dec ⟨3, 0, r0, []⟩)) v39 ⟨3, 0, r0, []⟩ fun v44 =>
q_condW v44 (
K ⟨13, 0, r0, [⟨12, 0, ⟨0, 0, 0, .str ⟨⟨[]⟩⟩⟩, []⟩, v39]⟩ h43 c42) (
q_fadW 0 v40 fun v45 =>
q_loadSW h43 v45 fun v46 =>
q_genW (lenMC Try.prog tys ⟨[], 0, decH h43, 0⟩ 9 (dec v30)) fun v47 =>
q_subW 3 9223372036854775807 (binC Try.prog .sub 3 (.tmp 65) (.tmp 66) (dec v47) (dec a1)) v47 a1 fun v48 =>
q_genW (sliceC tys 9 (dec v46) none (some (dec v48)) none) fun v49 =>
q_appTW 1 (appKindOk (elemJ tys 36)) h43 c42 v23 v49 fun v50 h51 c52 =>
q_addW 3 9223372036854775807 (binC Try.prog .add 3 (.tmp 43) (.const (.int .i64 (.ofNat 1))) (dec v24) (dec ⟨3, 1, r0, []⟩)) v24 ⟨3, 1, r0, []⟩ fun v53 =>
f27 v50 v53 h51 c52)) (
q_genW (convC Try.prog tys ⟨[], 0, decH h25, 0⟩ 36 9 (dec v23)) fun v54 =>
K ⟨13, 0, r0, [v54, ⟨3, 0, r0, []⟩]⟩ h25 c26)) fu v19 ⟨3, 0, r0, []⟩ h20 c21))) fu ⟨3, 0, r0, []⟩ ⟨3, 0, r0, []⟩ h2 c3)
theorem R21_eq (Q : PrimW) (fu : Nat) (call : CallW) : curryA 3 (fnK Q Try.prog tys stl fu call e21) = R21 Q.genW Q.addW Q.subW Q.cmpW Q.condW Q.fadW Q.idxSW Q.lenW Q.tupW Q.nthW Q.loadSW Q.storeAW Q.makeSW Q.allocW Q.appTW fu call := by kernel_rfl
noncomputable def n21 : List W → HW → Nat → KW → Bool := appF 3 (R21 genW addW subW cmpW condW fadW idxSW lenW tupW nthW loadSW storeAW makeSW allocW appTW 1000000 d7.fn)
theorem n21_ok : FnGood Try.prog tys stl tab 21 n21 := node_ok d7_ok (by kernel_rfl) rfl g21 (R21_eq real _ _)
noncomputable def d8 : Disp := (.node 55 n55 (.node 39 n39 (.node 33 n33 (.node 17 n17 (.node 10 n10 .leaf .leaf) (.node 21 n21 .leaf .leaf)) (.node 35 n35 (.node 34 n34 .leaf .leaf) .leaf)) (.node 46 n46 (.node 41 n41 (.node 40 n40 .leaf .leaf) (.node 42 n42 .leaf .leaf)) (.node 54 n54 (.node 53 n53 .leaf .leaf) .leaf))) (.node 66 n66 (.node 60 n60 (.node 58 n58 (.node 56 n56 .leaf .leaf) (.node 59 n59 .leaf .leaf)) (.node 62 n62 (.node 61 n61 .leaf .leaf) .leaf)) (.node 71 n71 (.node 69 n69 (.node 68 n68 .leaf .leaf) (.node 70 n70 .leaf .leaf)) (.node 73 n73 (.node 72 n72 .leaf .leaf) .leaf))))
theorem d8_ok : CallSim Try.prog tys stl tab d8.fn := Disp.sim ⟨n55_ok, ⟨n39_ok, ⟨n33_ok, ⟨n17_ok, ⟨n10_ok, True.intro, True.intro⟩, ⟨n21_ok, True.intro, True.intro⟩⟩, ⟨n35_ok, ⟨n34_ok, True.intro, True.intro⟩, True.intro⟩⟩, ⟨n46_ok, ⟨n41_ok, ⟨n40_ok, True.intro, True.intro⟩, ⟨n42_ok, True.intro, True.intro⟩⟩, ⟨n54_ok, ⟨n53_ok, True.intro, True.intro⟩, True.intro⟩⟩⟩, ⟨n66_ok, ⟨n60_ok, ⟨n58_ok, ⟨n56_ok, True.intro, True.intro⟩, ⟨n59_ok, True.intro, True.intro⟩⟩, ⟨n62_ok, ⟨n61_ok, True.intro, True.intro⟩, True.intro⟩⟩, ⟨n71_ok, ⟨n69_ok, ⟨n68_ok, True.intro, True.intro⟩, ⟨n70_ok, True.intro, True.intro⟩⟩, ⟨n73_ok, ⟨n72_ok, True.intro, True.intro⟩, True.intro⟩⟩⟩⟩
/- foghorn/foghornlaw20.MendNames -/
noncomputable def R5 (q_share : (α : Type) → α → (α → Bool) → Bool) (q_genW : Option CV → (W → Bool) → Bool) (q_cmpW : (Nat → Nat → Bool) → Nat → Option CV → W → W → (W → Bool) → Bool) (q_condW : W → Bool → Bool → Bool) (q_guardW : Bool → W → Bool → Bool → Bool) (q_pickW : W → W → W → (W → Bool) → Bool) (q_fadW : Nat → W → (W → Bool) → Bool) (q_idxSW : Nat → W → W → (W → Bool) → Bool) (q_lenW : Option CV → W → (W → Bool) → Bool) (q_tupW : W → (List W → Bool) → Bool) (q_nthW : Nat → List W → (W → Bool) → Bool) (q_killVW : W → HW → (HW → Bool) → Bool) (q_loadSW : HW → W → (W → Bool) → Bool) (q_storeAW : Nat → HW → W → W → (HW → Bool) → Bool) (q_makeSW : Nat → Nat → Nat → Kind → List W → Bool → HW → Nat → W → W → KW → Bool) (q_allocW : Trie W → Nat → Bool → HW → Nat → KW → Bool) (q_buildSW : Nat → Nat → Kind → Nat → Bool → HW → Nat → Nat → List W → KW → Bool) (q_appSW : Nat → Nat → (Kind → Bool) → Bool → HW → Nat → W → W → Bool → KW → Bool) (q_samQW : W → W → Bool → Bool) (fu : Nat) (call : CallW) (h0 : HW) (c0 : Nat) (K : KW) : Bool :=
call 10 [⟨12, 0, ⟨0, 0, 0, .str ⟨⟨[1, 7, 2]⟩⟩⟩, []⟩, ⟨3, 2, r0, []⟩, ⟨12, 0, ⟨0, 0, 0, .nils⟩, []⟩] h0 c0 fun v1 h2 c3 =>
q_tupW v1 fun l4 => q_nthW 0 l4 fun v5 =>
q_tupW v1 fun l6 => q_nthW 1 l6 fun v7 =>
q_allocW (allocT tys 28) 3 true h2 c3 fun v8 h9 c10 =>
q_storeAW 3 h9 v8 v5 fun h11 =>
call 10 [⟨12, 0, ⟨0, 0, 0, .str ⟨⟨[1, 7, 7]⟩⟩⟩, []⟩, ⟨3, 2, r0, []⟩, ⟨12, 0, ⟨0, 0, 0, .nils⟩, []⟩] h11 c10 fun v12 h13 c14 =>
q_tupW v12 fun l15 => q_nthW 0 l15 fun v16 =>
q_tupW v12 fun l17 => q_nthW 1 l17 fun v18 =>
q_allocW (allocT tys 28) 3 true h13 c14 fun v19 h20 c21 =>
q_storeAW 3 h20 v19 v16 fun h22 =>
q_buildSW 1 3 (.ints .i64) 3 true h22 c21 3 [⟨3, 0, r0, []⟩, ⟨3, 1, r0, []⟩, ⟨3, 2, r0, []⟩] fun v23 h24 c25 =>
call 10 [⟨12, 0, ⟨0, 0, 0, .str ⟨⟨[1, 3, 2]⟩⟩⟩, []⟩, ⟨3, 2, r0, []⟩, v23] h24 c25 fun v26 h27 c28 =>
q_tupW v26 fun l29 => q_nthW 0 l29 fun v30 =>
q_tupW v26 fun l31 => q_nthW 1 l31 fun v32 =>
q_allocW (allocT tys 28) 3 true h27 c28 fun v33 h34 c35 =>
q_storeAW 3 h34 v33 v30 fun h36 =>
q_buildSW 1 3 (.ints .i64) 2 true h36 c35 2 [⟨3, 1, r0, []⟩, ⟨3, 1, r0, []⟩] fun v37 h38 c39 =>
call 10 [⟨12, 0, ⟨0, 0, 0, .str ⟨⟨[1, 3, 2]⟩⟩⟩, []⟩, ⟨3, 2, r0, []⟩, v37] h38 c39 fun v40 h41 c42 =>
q_tupW v40 fun l43 => q_nthW 0 l43 fun v44 =>
q_tupW v40 fun l45 => q_nthW 1 l45 fun v46 =>
q_allocW (allocT tys 28) 3 true h41 c42 fun v47 h48 c49 =>
q_storeAW 3 h48 v47 v44 fun h50 =>
call 10 [⟨12, 0, ⟨0, 0, 0, .str ⟨⟨[1, 3, 2]⟩⟩⟩, []⟩, ⟨3, 3, r0, []⟩, ⟨12, 0, ⟨0, 0, 0, .nils⟩, []⟩] h50 c49 fun v51 h52 c53 =>
q_tupW v51 fun l54 => q_nthW 0 l54 fun v55 =>
q_tupW v51 fun l56 => q_nthW 1 l56 fun v57 =>
q_allocW (allocT tys 28) 3 true h52 c53 fun v58 h59 c60 =>
q_storeAW 3 h59 v58 v55 fun h61 =>
call 21 [⟨12, 0, ⟨0, 0, 0, .nils⟩, []⟩, ⟨3, 2, r0, []⟩, ⟨12, 0, ⟨0, 0, 0, .nils⟩, []⟩] h61 c60 fun v62 h63 c64 =>
q_tupW v62 fun l65 => q_nthW 0 l65 fun v66 =>
q_tupW v62 fun l67 => q_nthW 1 l67 fun v68 =>
call 21 [⟨12, 0, ⟨0, 0, 0, .nils⟩, []⟩, ⟨3, 0, r0, []⟩, ⟨12, 0, ⟨0, 0, 0, .nils⟩, []⟩] h63 c64 fun v69 h70 c71 =>
q_tupW v69 fun l72 => q_nthW 0 l72 fun v73 =>
q_tupW v69 fun l74 => q_nthW 1 l74 fun v75 =>
call 17 [⟨12, 0, ⟨0, 0, 0, .nils⟩, []⟩, ⟨3, 256, r0, []⟩] h70 c71 fun v76 h77 c78 =>
q_tupW v76 fun l79 => q_nthW 0 l79 fun v80 =>
q_tupW v76 fun l81 => q_nthW 1 l81 fun v82 =>
@Nat.rec (fun _ => Fun 1) (fun _ _ _ => false) (fun _ f86 v83 h84 c85 =>
q_lenW (lenC tys 40 (dec v83)) v83 fun v87 =>
q_cmpW (cmpF2 .lss) 3 (binC Try.prog .lss 3 (.tmp 57) (.const (.int .i64 (.ofNat 130))) (dec v87) (dec ⟨3, 130, r0, []⟩)) v87 ⟨3, 130, r0, []⟩ fun v88 =>
q_condW v88 (
q_makeSW 1 1 4 (.ints .u8) [⟨4, 0, r0, []⟩] true h84 c85 ⟨3, 255, r0, []⟩ ⟨3, 255, r0, []⟩ fun v89 h90 c91 =>
q_genW (convC Try.prog tys ⟨[], 0, decH h90, 0⟩ 36 9 (dec v89)) fun v92 =>
q_buildSW 1 99 .strs 1 true h90 c91 1 [v92] fun v93 h94 c95 =>
q_appSW 16 1 (appKindOk (elemJ tys 40)) false h94 c95 v83 v93 false fun v96 h97 c98 =>
q_killVW v93 h97 fun h99 =>
f86 v96 h99 c98) (
q_genW (sliceC tys 40 (dec v83) none (some (dec ⟨3, 129, r0, []⟩)) none) fun v100 =>
q_makeSW 24 1 9 .avs [⟨12, 0, ⟨0, 0, 0, .nils⟩, []⟩] true h84 c85 ⟨3, 129, r0, []⟩ ⟨3, 129, r0, []⟩ fun v101 h102 c103 =>
q_genW (sliceC tys 40 (dec v83) none (some (dec ⟨3, 129, r0, []⟩)) none) fun v104 =>
q_samQW v104 v100 (
call 21 [v100, ⟨3, 2, r0, []⟩, v101] h102 c103 fun v105 h106 c107 =>
q_tupW v105 fun l108 => q_nthW 0 l108 fun v109 =>
q_tupW v105 fun l110 => q_nthW 1 l110 fun v111 =>
q_makeSW 24 1 9 .avs [⟨12, 0, ⟨0, 0, 0, .nils⟩, []⟩] true h106 c107 ⟨3, 130, r0, []⟩ ⟨3, 130, r0, []⟩ fun v112 h113 c114 =>
call 21 [v83, ⟨3, 2, r0, []⟩, v112] h113 c114 fun v115 h116 c117 =>
q_tupW v115 fun l118 => q_nthW 0 l118 fun v119 =>
q_tupW v115 fun l120 => q_nthW 1 l120 fun v121 =>
q_genW (lenMC Try.prog tys ⟨[], 0, decH h116, 0⟩ 9 (dec v109)) fun v122 =>
q_cmpW (cmpF2 .neq) 3 (binC Try.prog .neq 3 (.tmp 78) (.const (.int .i64 (.ofNat 32637))) (dec v122) (dec ⟨3, 32637, r0, []⟩)) v122 ⟨3, 32637, r0, []⟩ fun v123 =>
q_share _ (fun (v125 : W) (h126 : HW) (c127 : Nat) =>
q_share _ (fun (v129 : W) (h130 : HW) (c131 : Nat) =>
q_pickW v123 ⟨8, 1, r0, []⟩ v129 fun v132 =>
q_share _ (fun (v134 : W) (h135 : HW) (c136 : Nat) =>
q_share _ (fun (v138 : W) (h139 : HW) (c140 : Nat) =>
q_pickW v132 ⟨8, 1, r0, []⟩ v138 fun v141 =>
q_condW v141 (
q_killVW v8 h139 fun h142 =>
q_killVW v19 h142 fun h143 =>
q_killVW v33 h143 fun h144 =>
q_killVW v47 h144 fun h145 =>
q_killVW v58 h145 fun h146 =>
K ⟨8, 0, r0, []⟩ h146 c140) (
q_fadW 0 v8 fun v147 =>
q_loadSW h139 v147 fun v148 =>
q_genW (binC Try.prog .eql 9 (.tmp 89) (.const (.string ⟨⟨[1, 3, 2]⟩⟩)) (dec v148) (dec ⟨12, 0, ⟨0, 0, 0, .str ⟨⟨[1, 3, 2]⟩⟩⟩, []⟩)) fun v149 =>
q_share _ (fun (v151 : W) (h152 : HW) (c153 : Nat) =>
q_share _ (fun (v155 : W) (h156 : HW) (c157 : Nat) =>
q_share _ (fun (v159 : W) (h160 : HW) (c161 : Nat) =>
q_share _ (fun (v163 : W) (h164 : HW) (c165 : Nat) =>
q_pickW v149 v163 ⟨8, 0, r0, []⟩ fun v166 =>
q_share _ (fun (v168 : W) (h169 : HW) (c170 : Nat) =>
q_share _ (fun (v172 : W) (h173 : HW) (c174 : Nat) =>
q_share _ (fun (v176 : W) (h177 : HW) (c178 : Nat) =>
q_share _ (fun (v180 : W) (h181 : HW) (c182 : Nat) =>
q_share _ (fun (v184 : W) (h185 : HW) (c186 : Nat) =>
q_pickW v166 v184 ⟨8, 0, r0, []⟩ fun v187 =>
q_share _ (fun (v189 : W) (h190 : HW) (c191 : Nat) =>
q_share _ (fun (v193 : W) (h194 : HW) (c195 : Nat) =>
q_pickW v187 v193 ⟨8, 0, r0, []⟩ fun v196 =>
q_share _ (fun (v198 : W) (h199 : HW) (c200 : Nat) =>
q_share _ (fun (v202 : W) (h203 : HW) (c204 : Nat) =>
q_pickW v196 v202 ⟨8, 0, r0, []⟩ fun v205 =>
q_share _ (fun (v207 : W) (h208 : HW) (c209 : Nat) =>
q_share _ (fun (v211 : W) (h212 : HW) (c213 : Nat) =>
q_pickW v205 v211 ⟨8, 0, r0, []⟩ fun v214 =>
q_share _ (fun (v216 : W) (h217 : HW) (c218 : Nat) =>
q_share _ (fun (v220 : W) (h221 : HW) (c222 : Nat) =>
q_pickW v214 v220 ⟨8, 0, r0, []⟩ fun v223 =>
q_share _ (fun (v225 : W) (h226 : HW) (c227 : Nat) =>
q_share _ (fun (v229 : W) (h230 : HW) (c231 : Nat) =>
q_pickW v223 v229 ⟨8, 0, r0, []⟩ fun v232 =>
q_share _ (fun (v234 : W) (h235 : HW) (c236 : Nat) =>
q_share _ (fun (v238 : W) (h239 : HW) (c240 : Nat) =>
q_pickW v232 v238 ⟨8, 0, r0, []⟩ fun v241 =>
q_share _ (fun (v243 : W) (h244 : HW) (c245 : Nat) =>
q_share _ (fun (v247 : W) (h248 : HW) (c249 : Nat) =>
q_pickW v241 v247 ⟨8, 0, r0, []⟩ fun v250 =>
q_share _ (fun (v252 : W) (h253 : HW) (c254 : Nat) =>
q_share _ (fun (v256 : W) (h257 : HW) (c258 : Nat) =>
q_pickW v250 v256 ⟨8, 0, r0, []⟩ fun v259 =>
q_share _ (fun (v261 : W) (h262 : HW) (c263 : Nat) =>
q_share _ (fun (v265 : W) (h266 : HW) (c267 : Nat) =>
q_pickW v259 v265 ⟨8, 0, r0, []⟩ fun v268 =>
q_pickW v268 ⟨8, 1, r0, []⟩ ⟨8, 0, r0, []⟩ fun v269 =>
q_killVW v8 h266 fun h270 =>
q_killVW v19 h270 fun h271 =>
q_killVW v33 h271 fun h272 =>
q_killVW v47 h272 fun h273 =>
q_killVW v58 h273 fun h274 =>
K v269 h274 c267) fun f264 =>
q_guardW true v259 (q_cmpW (cmpF2 .eql) 3 (binC Try.prog .eql 25 (.tmp 137) (.const (.int .i64 (.ofNat 1))) (dec v261) (dec ⟨3, 1, r0, []⟩)) v261 ⟨3, 1, r0, []⟩ fun v275 =>
f264 v275 h262 c263) (f264 wUnd h262 c263)) fun f260 =>
q_guardW true v259 (f260 v82 h257 c258) (f260 wUnd h257 c258)) fun f255 =>
q_guardW true v250 (q_cmpW (cmpF2 .eql) 3 (binC Try.prog .eql 25 (.tmp 133) (.const (.int .i64 (.ofNat 1))) (dec v252) (dec ⟨3, 1, r0, []⟩)) v252 ⟨3, 1, r0, []⟩ fun v276 =>
f255 v276 h253 c254) (f255 wUnd h253 c254)) fun f251 =>
q_guardW true v250 (f251 v75 h248 c249) (f251 wUnd h248 c249)) fun f246 =>
q_guardW true v241 (q_cmpW (cmpF2 .eql) 3 (binC Try.prog .eql 25 (.tmp 129) (.const (.int .i64 (.ofNat 0))) (dec v243) (dec ⟨3, 0, r0, []⟩)) v243 ⟨3, 0, r0, []⟩ fun v277 =>
f246 v277 h244 c245) (f246 wUnd h244 c245)) fun f242 =>
q_guardW true v241 (f242 v68 h239 c240) (f242 wUnd h239 c240)) fun f237 =>
q_guardW true v232 (q_genW (binC Try.prog .eql 9 (.tmp 125) (.const (.string ⟨⟨[]⟩⟩)) (dec v234) (dec ⟨12, 0, ⟨0, 0, 0, .str ⟨⟨[]⟩⟩⟩, []⟩)) fun v278 =>
f237 v278 h235 c236) (f237 wUnd h235 c236)) fun f233 =>
q_guardW true v232 (f233 v66 h230 c231) (f233 wUnd h230 c231)) fun f228 =>
q_guardW true v223 (q_cmpW (cmpF2 .eql) 3 (binC Try.prog .eql 25 (.tmp 121) (.const (.int .i64 (.ofNat 1))) (dec v225) (dec ⟨3, 1, r0, []⟩)) v225 ⟨3, 1, r0, []⟩ fun v279 =>
f228 v279 h226 c227) (f228 wUnd h226 c227)) fun f224 =>
q_guardW true v223 (f224 v57 h221 c222) (f224 wUnd h221 c222)) fun f219 =>
q_guardW true v214 (q_cmpW (cmpF2 .eql) 3 (binC Try.prog .eql 25 (.tmp 117) (.const (.int .i64 (.ofNat 1))) (dec v216) (dec ⟨3, 1, r0, []⟩)) v216 ⟨3, 1, r0, []⟩ fun v280 =>
f219 v280 h217 c218) (f219 wUnd h217 c218)) fun f215 =>
q_guardW true v214 (f215 v46 h212 c213) (f215 wUnd h212 c213)) fun f210 =>
q_guardW true v205 (q_cmpW (cmpF2 .eql) 3 (binC Try.prog .eql 25 (.tmp 113) (.const (.int .i64 (.ofNat 9))) (dec v207) (dec ⟨3, 9, r0, []⟩)) v207 ⟨3, 9, r0, []⟩ fun v281 =>
f210 v281 h208 c209) (f210 wUnd h208 c209)) fun f206 =>
q_guardW true v205 (f206 v32 h203 c204) (f206 wUnd h203 c204)) fun f201 =>
q_guardW true v196 (q_cmpW (cmpF2 .eql) 3 (binC Try.prog .eql 25 (.tmp 109) (.const (.int .i64 (.ofNat 9))) (dec v198) (dec ⟨3, 9, r0, []⟩)) v198 ⟨3, 9, r0, []⟩ fun v282 =>
f201 v282 h199 c200) (f201 wUnd h199 c200)) fun f197 =>
q_guardW true v196 (f197 v18 h194 c195) (f197 wUnd h194 c195)) fun f192 =>
q_guardW true v187 (q_cmpW (cmpF2 .eql) 3 (binC Try.prog .eql 25 (.tmp 105) (.const (.int .i64 (.ofNat 0))) (dec v189) (dec ⟨3, 0, r0, []⟩)) v189 ⟨3, 0, r0, []⟩ fun v283 =>
f192 v283 h190 c191) (f192 wUnd h190 c191)) fun f188 =>
q_guardW true v187 (f188 v7 h185 c186) (f188 wUnd h185 c186)) fun f183 =>
q_guardW true v166 (q_cmpW (cmpF2 .eql) 3 (binC Try.prog .eql 3 (.tmp 101) (.const (.int .i64 (.ofNat 1))) (dec v180) (dec ⟨3, 1, r0, []⟩)) v180 ⟨3, 1, r0, []⟩ fun v284 =>
f183 v284 h181 c182) (f183 wUnd h181 c182)) fun f179 =>
q_guardW true v166 (q_loadSW h177 v176 fun v285 =>
f179 v285 h177 c178) (f179 wUnd h177 c178)) fun f175 =>
q_guardW true v166 (q_idxSW 1 v172 ⟨3, 0, r0, []⟩ fun v286 =>
f175 v286 h173 c174) (f175 wUnd h173 c174)) fun f171 =>
q_guardW true v166 (q_loadSW h169 v168 fun v287 =>
f171 v287 h169 c170) (f171 wUnd h169 c170)) fun f167 =>
q_guardW true v166 (q_fadW 1 v8 fun v288 =>
f167 v288 h164 c165) (f167 wUnd h164 c165)) fun f162 =>
q_guardW true v149 (q_cmpW (cmpF2 .eql) 3 (binC Try.prog .eql 3 (.tmp 94) (.const (.int .i64 (.ofNat 1))) (dec v159) (dec ⟨3, 1, r0, []⟩)) v159 ⟨3, 1, r0, []⟩ fun v289 =>
f162 v289 h160 c161) (f162 wUnd h160 c161)) fun f158 =>
q_guardW true v149 (q_lenW (lenC tys 22 (dec v155)) v155 fun v290 =>
f158 v290 h156 c157) (f158 wUnd h156 c157)) fun f154 =>
q_guardW true v149 (q_loadSW h152 v151 fun v291 =>
f154 v291 h152 c153) (f154 wUnd h152 c153)) fun f150 =>
q_guardW true v149 (q_fadW 1 v8 fun v292 =>
f150 v292 h139 c140) (f150 wUnd h139 c140))) fun f137 =>
q_guardW false v132 (q_cmpW (cmpF2 .neq) 3 (binC Try.prog .neq 25 (.tmp 85) (.const (.int .i64 (.ofNat 1))) (dec v134) (dec ⟨3, 1, r0, []⟩)) v134 ⟨3, 1, r0, []⟩ fun v293 =>
f137 v293 h135 c136) (f137 wUnd h135 c136)) fun f133 =>
q_guardW false v132 (f133 v121 h130 c131) (f133 wUnd h130 c131)) fun f128 =>
q_guardW false v123 (q_cmpW (cmpF2 .neq) 3 (binC Try.prog .neq 25 (.tmp 81) (.const (.int .i64 (.ofNat 0))) (dec v125) (dec ⟨3, 0, r0, []⟩)) v125 ⟨3, 0, r0, []⟩ fun v294 =>
f128 v294 h126 c127) (f128 wUnd h126 c127)) fun f124 =>
q_guardW false v123 (f124 v111 h116 c117) (f124 wUnd h116 c117)))) fu ⟨12, 0, ⟨0, 0, 0, .nils⟩, []⟩ h77 c78
theorem R5_eq (Q : PrimW) (fu : Nat) (call : CallW) : curryA 0 (fnK Q Try.prog tys stl fu call e5) = R5 Q.share Q.genW Q.cmpW Q.condW Q.guardW Q.pickW Q.fadW Q.idxSW Q.lenW Q.tupW Q.nthW Q.killVW Q.loadSW Q.storeAW Q.makeSW Q.allocW Q.buildSW Q.appSW Q.samQW fu call := by kernel_rfl
noncomputable def n5 : List W → HW → Nat → KW → Bool := appF 0 (R5 (fun _ x f => f x) genW cmpW condW guardW pickW fadW idxSW lenW tupW nthW killVW loadSW storeAW makeSW allocW buildSW appSW samQW 1000000 d8.fn)
theorem n5_ok : FnGood Try.prog tys stl tab 5 n5 := node_ok d8_ok (by kernel_rfl) rfl g5 (R5_eq real _ _)
noncomputable def d9 : Disp := (.node 55 n55 (.node 39 n39 (.node 21 n21 (.node 10 n10 (.node 5 n5 .leaf .leaf) (.node 17 n17 .leaf .leaf)) (.node 34 n34 (.node 33 n33 .leaf .leaf) (.node 35 n35 .leaf .leaf))) (.node 46 n46 (.node 41 n41 (.node 40 n40 .leaf .leaf) (.node 42 n42 .leaf .leaf)) (.node 54 n54 (.node 53 n53 .leaf .leaf) .leaf))) (.node 66 n66 (.node 60 n60 (.node 58 n58 (.node 56 n56 .leaf .leaf) (.node 59 n59 .leaf .leaf)) (.node 62 n62 (.node 61 n61 .leaf .leaf) .leaf)) (.node 71 n71 (.node 69 n69 (.node 68 n68 .leaf .leaf) (.node 70 n70 .leaf .leaf)) (.node 73 n73 (.node 72 n72 .leaf .leaf) .leaf))))
theorem d9_ok : CallSim Try.prog tys stl tab d9.fn := Disp.sim ⟨n55_ok, ⟨n39_ok, ⟨n21_ok, ⟨n10_ok, ⟨n5_ok, True.intro, True.intro⟩, ⟨n17_ok, True.intro, True.intro⟩⟩, ⟨n34_ok, ⟨n33_ok, True.intro, True.intro⟩, ⟨n35_ok, True.intro, True.intro⟩⟩⟩, ⟨n46_ok, ⟨n41_ok, ⟨n40_ok, True.intro, True.intro⟩, ⟨n42_ok, True.intro, True.intro⟩⟩, ⟨n54_ok, ⟨n53_ok, True.intro, True.intro⟩, True.intro⟩⟩⟩, ⟨n66_ok, ⟨n60_ok, ⟨n58_ok, ⟨n56_ok, True.intro, True.intro⟩, ⟨n59_ok, True.intro, True.intro⟩⟩, ⟨n62_ok, ⟨n61_ok, True.intro, True.intro⟩, True.intro⟩⟩, ⟨n71_ok, ⟨n69_ok, ⟨n68_ok, True.intro, True.intro⟩, ⟨n70_ok, True.intro, True.intro⟩⟩, ⟨n73_ok, ⟨n72_ok, True.intro, True.intro⟩, True.intro⟩⟩⟩⟩
noncomputable abbrev dT : Disp := d9
theorem dT_ok : CallSim Try.prog tys stl tab dT.fn := d9_ok

set_option maxHeartbeats 0 in
theorem run5 : lawK dT.fn 5 = true := by kernel_rfl
namespace mendNames
open Go.ChangeShapes Go.WideShapes Go.ChangeAt Go.RowKit
theorem own : ownKnob Try.prog.godebug = none := by kernel_rfl
theorem laid : laidOutB Try.prog = true := by kernel_rfl
theorem lifted (os : Os) (started : os.Started) (H : Type) (enc : TypeId × Value → H) :
    ReturnsInHanded {} Try.checked os 5 .any (Rows.mendNamesSpec.pre6 enc Try.prog Try.f5 Rows.mendNamesRow.domain false) (Rows.mendNamesSpec.post enc Try.prog Try.f5 false true false false) := by
  refine returnsInHanded_of_change (C := Try.checked) own started (by kernel_rfl) Try.func5
    (ChangeSpec.witness6 (enc := enc) (C := Try.checked) false ⟨#[], #[], []⟩ 8 (by kernel_rfl) (by kernel_rfl) (by kernel_rfl) (by kernel_rfl)) ?_
  intro W base args ds gs before hval0 hW hcnd _
  have hW' := hW
  obtain ⟨p, q, hA0, hV, rfl, hfz, hnd⟩ := hW
  have hA : DataW.TrodAll enc Try.prog W 0 (fun _ => true) true Try.f5.params.toList args.toList ds p := hA0
  rw [Try.params5] at hA
  obtain ⟨hargs, rfl, rfl⟩ := trodAll_nil hA
  obtain rfl : args = #[] := by cases args; simp_all
  obtain ⟨rfl, rfl⟩ := trodVars_none hV
  clear hA0 hval0
  refine (lawK_true tok mixed fok dT_ok (by kernel_rfl : tab 5 = some e5) rfl run5 W).mono fun e W' ⟨he, hg⟩ => ?_
  subst he
  exact ⟨_, rfl, law_done laid rfl rfl Try.underlying4 (by kernel_rfl) hW' rfl hg⟩

theorem over : Rows.mendNamesRow.holds Try.pinned (OpenSpec.ofChange Rows.mendNamesSpec) :=
  OpenClaim.holds_of_wide 5 Try.f5 rfl rfl rfl rfl rfl rfl rfl ⟨rfl, rfl, rfl, rfl, rfl⟩ rfl rfl rfl rfl rfl (by kernel_rfl) Try.func5 (by kernel_rfl)
    (of_decide_eq_true (by kernel_rfl)) (by unfold Func.isWrapper; first | (rw [if_pos (by decide +kernel)]; kernel_rfl) | (rw [if_neg (by decide +kernel)]; exact ⟨rfl, rfl⟩))
    (fun os started H enc _ => lifted os started H enc)

theorem proved : Rows.MendNamesSaid := over
end mendNames
end Go.Proofs.Ytfhlehdpfifnlaa
