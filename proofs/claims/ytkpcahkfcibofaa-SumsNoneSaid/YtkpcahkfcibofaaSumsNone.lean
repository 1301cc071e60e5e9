/-
  foghornlaw24.SumsNone returns true, whatever the memory it begins in. No condition.
-/
import Derived.Test.YtkpcahkfcibofaaRows
import Derived.Test.YtkpcahkfcibofaaGx
import Derived.WalkKit
import Derived.ProofKit
import Derived.OpenShut
set_option linter.unusedVariables false
set_option maxRecDepth 1000000
namespace Go.Proofs.Ytkpcahkfcibofaa
open Go Go.Fw
def tys : List (Nat × TyI) := [
  (1, ⟨.func, 1, 8, .nilFunc⟩),
  (2, ⟨.int .i64, 1, 8, .int .i64 0⟩),
  (3, ⟨.int .i64, 1, 8, .int .i64 0⟩),
  (4, ⟨.bool, 1, 1, .bool false⟩),
  (5, ⟨.int .u8, 1, 1, .int .u8 0⟩),
  (9, ⟨.str, 1, 16, .string (ByteArray.mk #[])⟩),
  (12, ⟨.int .u64, 1, 8, .int .u64 0⟩),
  (21, ⟨.int .i32, 1, 4, .int .i32 0⟩),
  (22, ⟨.int .u16, 1, 2, .int .u16 0⟩),
  (23, ⟨.int .i64, 1, 8, .int .i64 0⟩),
  (25, ⟨.func, 1, 8, .nilFunc⟩),
  (26, ⟨.slice 4, 1, 24, .slice none 0 0⟩),
  (27, ⟨.int .u32, 1, 4, .int .u32 0⟩),
  (29, ⟨.func, 1, 8, .nilFunc⟩),
  (31, ⟨.func, 1, 8, .nilFunc⟩),
  (32, ⟨.func, 1, 8, .nilFunc⟩),
  (33, ⟨.func, 1, 8, .nilFunc⟩),
  (35, ⟨.func, 1, 8, .nilFunc⟩),
  (37, ⟨.func, 1, 8, .nilFunc⟩),
  (38, ⟨.func, 1, 8, .nilFunc⟩),
  (39, ⟨.func, 1, 8, .nilFunc⟩),
  (40, ⟨.func, 1, 8, .nilFunc⟩),
  (41, ⟨.func, 1, 8, .nilFunc⟩),
  (42, ⟨.func, 1, 8, .nilFunc⟩),
  (43, ⟨.func, 1, 8, .nilFunc⟩),
  (44, ⟨.func, 1, 8, .nilFunc⟩),
  (45, ⟨.func, 1, 8, .nilFunc⟩),
  (46, ⟨.func, 1, 8, .nilFunc⟩),
  (47, ⟨.func, 1, 8, .nilFunc⟩),
  (48, ⟨.func, 1, 8, .nilFunc⟩),
  (49, ⟨.int .u64, 1, 8, .int .u64 0⟩),
  (50, ⟨.slice 5, 1, 24, .slice none 0 0⟩),
  (51, ⟨.func, 1, 8, .nilFunc⟩),
  (52, ⟨.func, 1, 8, .nilFunc⟩),
  (53, ⟨.func, 1, 8, .nilFunc⟩),
  (54, ⟨.func, 1, 8, .nilFunc⟩),
  (55, ⟨.func, 1, 8, .nilFunc⟩),
  (56, ⟨.func, 1, 8, .nilFunc⟩),
  (57, ⟨.func, 1, 8, .nilFunc⟩),
  (58, ⟨.func, 1, 8, .nilFunc⟩),
  (59, ⟨.func, 1, 8, .nilFunc⟩),
  (60, ⟨.func, 1, 8, .nilFunc⟩),
  (61, ⟨.func, 1, 8, .nilFunc⟩),
  (62, ⟨.slice 26, 1, 24, .slice none 0 0⟩),
  (63, ⟨.func, 1, 8, .nilFunc⟩),
  (64, ⟨.func, 1, 8, .nilFunc⟩),
  (70, ⟨.func, 1, 8, .nilFunc⟩),
  (73, ⟨.func, 1, 8, .nilFunc⟩),
  (74, ⟨.ptr 5, 1, 8, .pointer none⟩)]


theorem tok : TOk Try.prog tys := tok_of ⟨⟨by kernel_rfl, by kernel_rfl⟩, ⟨by kernel_rfl, by kernel_rfl⟩, ⟨by kernel_rfl, by kernel_rfl⟩, ⟨by kernel_rfl, by kernel_rfl⟩, ⟨by kernel_rfl, by kernel_rfl⟩, ⟨by kernel_rfl, by kernel_rfl⟩, ⟨by kernel_rfl, by kernel_rfl⟩, ⟨by kernel_rfl, by kernel_rfl⟩, ⟨by kernel_rfl, by kernel_rfl⟩, ⟨by kernel_rfl, by kernel_rfl⟩, ⟨by kernel_rfl, by kernel_rfl⟩, ⟨by kernel_rfl, by kernel_rfl⟩, ⟨by kernel_rfl, by kernel_rfl⟩, ⟨by kernel_rfl, by kernel_rfl⟩, ⟨by kernel_rfl, by kernel_rfl⟩, ⟨by kernel_rfl, by kernel_rfl⟩, ⟨by kernel_rfl, by kernel_rfl⟩, ⟨by kernel_rfl, by kernel_rfl⟩, ⟨by kernel_rfl, by kernel_rfl⟩, ⟨by kernel_rfl, by kernel_rfl⟩, ⟨by kernel_rfl, by kernel_rfl⟩, ⟨by kernel_rfl, by kernel_rfl⟩, ⟨by kernel_rfl, by kernel_rfl⟩, ⟨by kernel_rfl, by kernel_rfl⟩, ⟨by kernel_rfl, by kernel_rfl⟩, ⟨by kernel_rfl, by kernel_rfl⟩, ⟨by kernel_rfl, by kernel_rfl⟩, ⟨by kernel_rfl, by kernel_rfl⟩, ⟨by kernel_rfl, by kernel_rfl⟩, ⟨by kernel_rfl, by kernel_rfl⟩, ⟨by kernel_rfl, by kernel_rfl⟩, ⟨by kernel_rfl, by kernel_rfl⟩, ⟨by kernel_rfl, by kernel_rfl⟩, ⟨by kernel_rfl, by kernel_rfl⟩, ⟨by kernel_rfl, by kernel_rfl⟩, ⟨by kernel_rfl, by kernel_rfl⟩, ⟨by kernel_rfl, by kernel_rfl⟩, ⟨by kernel_rfl, by kernel_rfl⟩, ⟨by kernel_rfl, by kernel_rfl⟩, ⟨by kernel_rfl, by kernel_rfl⟩, ⟨by kernel_rfl, by kernel_rfl⟩, ⟨by kernel_rfl, by kernel_rfl⟩, ⟨by kernel_rfl, by kernel_rfl⟩, ⟨by kernel_rfl, by kernel_rfl⟩, ⟨by kernel_rfl, by kernel_rfl⟩, ⟨by kernel_rfl, by kernel_rfl⟩, ⟨by kernel_rfl, by kernel_rfl⟩, ⟨by kernel_rfl, by kernel_rfl⟩, ⟨by kernel_rfl, by kernel_rfl⟩, True.intro⟩
theorem mixed : Try.prog.follows .mixedOrders = true := by kernel_rfl
def inL : List Nat → Nat → Bool
  | [], _ => false
  | a :: r, n => match Nat.beq a n with | true => true | false => inL r n
def stl : Nat → Bool := inL [4, 5, 8, 9, 16, 19, 20, 22, 27, 28, 30, 31, 35, 36]
/- 3: foghorn/foghornlaw24.SumsNone -/
def p3 : Nat → Option PlanC := fun _ => none
def wl3 : Nat → List Nat := fun _ => []
def wj3 : Nat → Option (List Nat) := fun _ => none
def kr3 : Nat → List Nat := fun _ => []
noncomputable def e3 : Ent := entOf Try.f3 ⟨p3, wl3, wj3, kr3, []⟩
theorem g3 : EntOk Try.prog tys stl 3 e3 := .inr ⟨rfl, Try.func3, by kernel_rfl, by kernel_rfl, by kernel_rfl, by kernel_rfl, by kernel_rfl, rfl⟩
/- 4: foghorn/sums.Sum16 -/
def p4 : Nat → Option PlanC := fun _ => none
def wl4 : Nat → List Nat := fun _ => []
def wj4 : Nat → Option (List Nat) := fun _ => none
def kr4 : Nat → List Nat := fun _ => []
noncomputable def e4 : Ent := entOf Try.f4 ⟨p4, wl4, wj4, kr4, []⟩
theorem g4 : EntOk Try.prog tys stl 4 e4 := .inr ⟨rfl, Try.func4, by kernel_rfl, by kernel_rfl, by kernel_rfl, by kernel_rfl, by kernel_rfl, rfl⟩
/- 5: foghorn/sums.Sum32 -/
def p5 : Nat → Option PlanC := fun _ => none
def wl5 : Nat → List Nat := fun _ => []
def wj5 : Nat → Option (List Nat) := fun _ => none
def kr5 : Nat → List Nat := fun _ => []
noncomputable def e5 : Ent := entOf Try.f5 ⟨p5, wl5, wj5, kr5, []⟩
theorem g5 : EntOk Try.prog tys stl 5 e5 := .inr ⟨rfl, Try.func5, by kernel_rfl, by kernel_rfl, by kernel_rfl, by kernel_rfl, by kernel_rfl, rfl⟩
/- 6: foghorn/sums.Row16 -/
def p6 : Nat → Option PlanC := fun _ => none
def wl6 : Nat → List Nat := fun _ => []
def wj6 : Nat → Option (List Nat) := fun _ => none
def kr6 : Nat → List Nat := fun _ => []
noncomputable def e6 : Ent := entOf Try.f6 ⟨p6, wl6, wj6, kr6, []⟩
theorem g6 : EntOk Try.prog tys stl 6 e6 := .inr ⟨rfl, Try.func6, by kernel_rfl, by kernel_rfl, by kernel_rfl, by kernel_rfl, by kernel_rfl, rfl⟩
/- 7: foghorn/sums.Row32 -/
def p7 : Nat → Option PlanC := fun _ => none
def wl7 : Nat → List Nat := fun _ => []
def wj7 : Nat → Option (List Nat) := fun _ => none
def kr7 : Nat → List Nat := fun _ => []
noncomputable def e7 : Ent := entOf Try.f7 ⟨p7, wl7, wj7, kr7, []⟩
theorem g7 : EntOk Try.prog tys stl 7 e7 := .inr ⟨rfl, Try.func7, by kernel_rfl, by kernel_rfl, by kernel_rfl, by kernel_rfl, by kernel_rfl, rfl⟩
/- 8: foghorn/sums.On32 -/
def p8 : Nat → Option PlanC := fun _ => none
def wl8 : Nat → List Nat := fun _ => []
def wj8 : Nat → Option (List Nat) := fun _ => none
def kr8 : Nat → List Nat := fun _ => []
noncomputable def e8 : Ent := entOf Try.f8 ⟨p8, wl8, wj8, kr8, []⟩
theorem g8 : EntOk Try.prog tys stl 8 e8 := .inr ⟨rfl, Try.func8, by kernel_rfl, by kernel_rfl, by kernel_rfl, by kernel_rfl, by kernel_rfl, rfl⟩
/- 9: foghorn/sums.Joined32 -/
def p9 : Nat → Option PlanC := fun _ => none
def wl9 : Nat → List Nat := fun
  | 4 => [0, 15]
  | _ => []
def wj9 : Nat → Option (List Nat) := fun _ => none
def kr9 : Nat → List Nat := fun _ => []
noncomputable def e9 : Ent := entOf Try.f9 ⟨p9, wl9, wj9, kr9, []⟩
theorem g9 : EntOk Try.prog tys stl 9 e9 := .inr ⟨rfl, Try.func9, by kernel_rfl, by kernel_rfl, by kernel_rfl, by kernel_rfl, by kernel_rfl, rfl⟩
/- 10: foghorn/sums.Burst -/
def p10 : Nat → Option PlanC := fun _ => none
def wl10 : Nat → List Nat := fun
  | 9 => [8, 27]
  | _ => []
def wj10 : Nat → Option (List Nat) := fun
  | 13 => some [8]
  | _ => none
def kr10 : Nat → List Nat := fun _ => []
noncomputable def e10 : Ent := entOf Try.f10 ⟨p10, wl10, wj10, kr10, []⟩
theorem g10 : EntOk Try.prog tys stl 10 e10 := .inr ⟨rfl, Try.func10, by kernel_rfl, by kernel_rfl, by kernel_rfl, by kernel_rfl, by kernel_rfl, rfl⟩
/- 11: foghorn/sums.Opened -/
def p11 : Nat → Option PlanC := fun _ => none
def wl11 : Nat → List Nat := fun _ => []
def wj11 : Nat → Option (List Nat) := fun _ => none
def kr11 : Nat → List Nat := fun _ => []
noncomputable def e11 : Ent := entOf Try.f11 ⟨p11, wl11, wj11, kr11, []⟩
theorem g11 : EntOk Try.prog tys stl 11 e11 := .inr ⟨rfl, Try.func11, by kernel_rfl, by kernel_rfl, by kernel_rfl, by kernel_rfl, by kernel_rfl, rfl⟩
/- 12: foghorn/sums.Sealed -/
def p12 : Nat → Option PlanC := fun _ => none
def wl12 : Nat → List Nat := fun _ => []
def wj12 : Nat → Option (List Nat) := fun _ => none
def kr12 : Nat → List Nat := fun _ => []
noncomputable def e12 : Ent := entOf Try.f12 ⟨p12, wl12, wj12, kr12, []⟩
theorem g12 : EntOk Try.prog tys stl 12 e12 := .inr ⟨rfl, Try.func12, by kernel_rfl, by kernel_rfl, by kernel_rfl, by kernel_rfl, by kernel_rfl, rfl⟩
/- 13: foghorn/sums.Fits16 -/
def p13 : Nat → Option PlanC := fun _ => none
def wl13 : Nat → List Nat := fun _ => []
def wj13 : Nat → Option (List Nat) := fun _ => none
def kr13 : Nat → List Nat := fun _ => []
noncomputable def e13 : Ent := entOf Try.f13 ⟨p13, wl13, wj13, kr13, []⟩
theorem g13 : EntOk Try.prog tys stl 13 e13 := .inr ⟨rfl, Try.func13, by kernel_rfl, by kernel_rfl, by kernel_rfl, by kernel_rfl, by kernel_rfl, rfl⟩
/- 14: foghorn/sums.Fits32 -/
def p14 : Nat → Option PlanC := fun _ => none
def wl14 : Nat → List Nat := fun _ => []
def wj14 : Nat → Option (List Nat) := fun _ => none
def kr14 : Nat → List Nat := fun _ => []
noncomputable def e14 : Ent := entOf Try.f14 ⟨p14, wl14, wj14, kr14, []⟩
theorem g14 : EntOk Try.prog tys stl 14 e14 := .inr ⟨rfl, Try.func14, by kernel_rfl, by kernel_rfl, by kernel_rfl, by kernel_rfl, by kernel_rfl, rfl⟩
/- 15: foghorn/foghornlaw24.awake -/
def p15 : Nat → Option PlanC := fun _ => none
def wl15 : Nat → List Nat := fun _ => []
def wj15 : Nat → Option (List Nat) := fun _ => none
def kr15 : Nat → List Nat := fun _ => []
noncomputable def e15 : Ent := entOf Try.f15 ⟨p15, wl15, wj15, kr15, []⟩
theorem g15 : EntOk Try.prog tys stl 15 e15 := .inr ⟨rfl, Try.func15, by kernel_rfl, by kernel_rfl, by kernel_rfl, by kernel_rfl, by kernel_rfl, rfl⟩
/- 16: foghorn/sums.On16 -/
def p16 : Nat → Option PlanC := fun _ => none
def wl16 : Nat → List Nat := fun _ => []
def wj16 : Nat → Option (List Nat) := fun _ => none
def kr16 : Nat → List Nat := fun _ => []
noncomputable def e16 : Ent := entOf Try.f16 ⟨p16, wl16, wj16, kr16, []⟩
theorem g16 : EntOk Try.prog tys stl 16 e16 := .inr ⟨rfl, Try.func16, by kernel_rfl, by kernel_rfl, by kernel_rfl, by kernel_rfl, by kernel_rfl, rfl⟩
/- 17: foghorn/sums.row[uint16] -/
def p17 : Nat → Option PlanC := fun _ => none
def wl17 : Nat → List Nat := fun
  | 8 => [28]
  | _ => []
def wj17 : Nat → Option (List Nat) := fun _ => none
def kr17 : Nat → List Nat := fun _ => []
noncomputable def e17 : Ent := entOf Try.f17 ⟨p17, wl17, wj17, kr17, []⟩
theorem g17 : EntOk Try.prog tys stl 17 e17 := .inr ⟨rfl, Try.func17, by kernel_rfl, by kernel_rfl, by kernel_rfl, by kernel_rfl, by kernel_rfl, rfl⟩
/- 18: foghorn/sums.row[uint32] -/
def p18 : Nat → Option PlanC := fun _ => none
def wl18 : Nat → List Nat := fun
  | 8 => [28]
  | _ => []
def wj18 : Nat → Option (List Nat) := fun _ => none
def kr18 : Nat → List Nat := fun _ => []
noncomputable def e18 : Ent := entOf Try.f18 ⟨p18, wl18, wj18, kr18, []⟩
theorem g18 : EntOk Try.prog tys stl 18 e18 := .inr ⟨rfl, Try.func18, by kernel_rfl, by kernel_rfl, by kernel_rfl, by kernel_rfl, by kernel_rfl, rfl⟩
/- 19: foghorn/sums.on[uint32] -/
def p19 : Nat → Option PlanC := fun _ => none
def wl19 : Nat → List Nat := fun
  | 2 => [0, 11]
  | _ => []
def wj19 : Nat → Option (List Nat) := fun _ => none
def kr19 : Nat → List Nat := fun _ => []
noncomputable def e19 : Ent := entOf Try.f19 ⟨p19, wl19, wj19, kr19, []⟩
theorem g19 : EntOk Try.prog tys stl 19 e19 := .inr ⟨rfl, Try.func19, by kernel_rfl, by kernel_rfl, by kernel_rfl, by kernel_rfl, by kernel_rfl, rfl⟩
/- 20: foghorn/sums.next[uint32] -/
def p20 : Nat → Option PlanC := fun _ => none
def wl20 : Nat → List Nat := fun _ => []
def wj20 : Nat → Option (List Nat) := fun
  | 5 => some [0]
  | _ => none
def kr20 : Nat → List Nat := fun _ => []
noncomputable def e20 : Ent := entOf Try.f20 ⟨p20, wl20, wj20, kr20, []⟩
theorem g20 : EntOk Try.prog tys stl 20 e20 := .inr ⟨rfl, Try.func20, by kernel_rfl, by kernel_rfl, by kernel_rfl, by kernel_rfl, by kernel_rfl, rfl⟩
/- 21: foghorn/bits.Xor -/
def p21 : Nat → Option PlanC := fun _ => none
def wl21 : Nat → List Nat := fun
  | 5 => [23]
  | _ => []
def wj21 : Nat → Option (List Nat) := fun _ => none
def kr21 : Nat → List Nat := fun _ => []
noncomputable def e21 : Ent := entOf Try.f21 ⟨p21, wl21, wj21, kr21, []⟩
theorem g21 : EntOk Try.prog tys stl 21 e21 := .inr ⟨rfl, Try.func21, by kernel_rfl, by kernel_rfl, by kernel_rfl, by kernel_rfl, by kernel_rfl, rfl⟩
/- 22: slices.Index[[]bool,bool] -/
def p22 : Nat → Option PlanC := fun _ => none
def wl22 : Nat → List Nat := fun
  | 2 => [8]
  | _ => []
def wj22 : Nat → Option (List Nat) := fun _ => none
def kr22 : Nat → List Nat := fun _ => []
noncomputable def e22 : Ent := entOf Try.f22 ⟨p22, wl22, wj22, kr22, []⟩
theorem g22 : EntOk Try.prog tys stl 22 e22 := .inr ⟨rfl, Try.func22, by kernel_rfl, by kernel_rfl, by kernel_rfl, by kernel_rfl, by kernel_rfl, rfl⟩
/- 23: foghorn/sums.Bytes32 -/
def p23 : Nat → Option PlanC := fun _ => none
def wl23 : Nat → List Nat := fun _ => []
def wj23 : Nat → Option (List Nat) := fun _ => none
def kr23 : Nat → List Nat := fun _ => []
noncomputable def e23 : Ent := entOf Try.f23 ⟨p23, wl23, wj23, kr23, []⟩
theorem g23 : EntOk Try.prog tys stl 23 e23 := .inr ⟨rfl, Try.func23, by kernel_rfl, by kernel_rfl, by kernel_rfl, by kernel_rfl, by kernel_rfl, rfl⟩
/- 24: foghorn/sums.fits[uint16] -/
def p24 : Nat → Option PlanC := fun _ => none
def wl24 : Nat → List Nat := fun _ => []
def wj24 : Nat → Option (List Nat) := fun _ => none
def kr24 : Nat → List Nat := fun _ => []
noncomputable def e24 : Ent := entOf Try.f24 ⟨p24, wl24, wj24, kr24, []⟩
theorem g24 : EntOk Try.prog tys stl 24 e24 := .inr ⟨rfl, Try.func24, by kernel_rfl, by kernel_rfl, by kernel_rfl, by kernel_rfl, by kernel_rfl, rfl⟩
/- 25: foghorn/sums.fits[uint32] -/
def p25 : Nat → Option PlanC := fun _ => none
def wl25 : Nat → List Nat := fun _ => []
def wj25 : Nat → Option (List Nat) := fun _ => none
def kr25 : Nat → List Nat := fun _ => []
noncomputable def e25 : Ent := entOf Try.f25 ⟨p25, wl25, wj25, kr25, []⟩
theorem g25 : EntOk Try.prog tys stl 25 e25 := .inr ⟨rfl, Try.func25, by kernel_rfl, by kernel_rfl, by kernel_rfl, by kernel_rfl, by kernel_rfl, rfl⟩
/- 26: foghorn/sums.Bytes16 -/
def p26 : Nat → Option PlanC := fun _ => none
def wl26 : Nat → List Nat := fun _ => []
def wj26 : Nat → Option (List Nat) := fun _ => none
def kr26 : Nat → List Nat := fun _ => []
noncomputable def e26 : Ent := entOf Try.f26 ⟨p26, wl26, wj26, kr26, []⟩
theorem g26 : EntOk Try.prog tys stl 26 e26 := .inr ⟨rfl, Try.func26, by kernel_rfl, by kernel_rfl, by kernel_rfl, by kernel_rfl, by kernel_rfl, rfl⟩
/- 27: foghorn/sums.on[uint16] -/
def p27 : Nat → Option PlanC := fun _ => none
def wl27 : Nat → List Nat := fun
  | 2 => [0, 11]
  | _ => []
def wj27 : Nat → Option (List Nat) := fun _ => none
def kr27 : Nat → List Nat := fun _ => []
noncomputable def e27 : Ent := entOf Try.f27 ⟨p27, wl27, wj27, kr27, []⟩
theorem g27 : EntOk Try.prog tys stl 27 e27 := .inr ⟨rfl, Try.func27, by kernel_rfl, by kernel_rfl, by kernel_rfl, by kernel_rfl, by kernel_rfl, rfl⟩
/- 28: foghorn/sums.wide[uint16] -/
def p28 : Nat → Option PlanC := fun _ => none
def wl28 : Nat → List Nat := fun _ => []
def wj28 : Nat → Option (List Nat) := fun _ => none
def kr28 : Nat → List Nat := fun _ => []
noncomputable def e28 : Ent := entOf Try.f28 ⟨p28, wl28, wj28, kr28, []⟩
theorem g28 : EntOk Try.prog tys stl 28 e28 := .inr ⟨rfl, Try.func28, by kernel_rfl, by kernel_rfl, by kernel_rfl, by kernel_rfl, by kernel_rfl, rfl⟩
/- 29: slices.Concat[[]bool,bool] -/
def p29 : Nat → Option PlanC := fun _ => none
def wl29 : Nat → List Nat := fun
  | 3 => [3, 11]
  | 11 => [6, 27]
  | _ => []
def wj29 : Nat → Option (List Nat) := fun
  | 8 => some [3]
  | _ => none
def kr29 : Nat → List Nat := fun _ => []
noncomputable def e29 : Ent := entOf Try.f29 ⟨p29, wl29, wj29, kr29, []⟩
theorem g29 : EntOk Try.prog tys stl 29 e29 := .inr ⟨rfl, Try.func29, by kernel_rfl, by kernel_rfl, by kernel_rfl, by kernel_rfl, by kernel_rfl, rfl⟩
/- 30: foghorn/sums.wide[uint32] -/
def p30 : Nat → Option PlanC := fun _ => none
def wl30 : Nat → List Nat := fun _ => []
def wj30 : Nat → Option (List Nat) := fun _ => none
def kr30 : Nat → List Nat := fun _ => []
noncomputable def e30 : Ent := entOf Try.f30 ⟨p30, wl30, wj30, kr30, []⟩
theorem g30 : EntOk Try.prog tys stl 30 e30 := .inr ⟨rfl, Try.func30, by kernel_rfl, by kernel_rfl, by kernel_rfl, by kernel_rfl, by kernel_rfl, rfl⟩
/- 31: foghorn/bits.isRow -/
def p31 : Nat → Option PlanC := fun _ => none
def wl31 : Nat → List Nat := fun _ => []
def wj31 : Nat → Option (List Nat) := fun _ => none
def kr31 : Nat → List Nat := fun _ => []
noncomputable def e31 : Ent := entOf Try.f31 ⟨p31, wl31, wj31, kr31, []⟩
theorem g31 : EntOk Try.prog tys stl 31 e31 := .inr ⟨rfl, Try.func31, by kernel_rfl, by kernel_rfl, by kernel_rfl, by kernel_rfl, by kernel_rfl, rfl⟩
/- 32: foghorn/sums.ofBytes[uint32] -/
def p32 : Nat → Option PlanC := fun _ => none
def wl32 : Nat → List Nat := fun
  | 3 => [5, 12]
  | 6 => [5, 8]
  | _ => []
def wj32 : Nat → Option (List Nat) := fun _ => none
def kr32 : Nat → List Nat := fun _ => []
noncomputable def e32 : Ent := entOf Try.f32 ⟨p32, wl32, wj32, kr32, []⟩
theorem g32 : EntOk Try.prog tys stl 32 e32 := .inr ⟨rfl, Try.func32, by kernel_rfl, by kernel_rfl, by kernel_rfl, by kernel_rfl, by kernel_rfl, rfl⟩
/- 33: slices.Equal[[]bool,bool] -/
def p33 : Nat → Option PlanC := fun _ => none
def wl33 : Nat → List Nat := fun
  | 4 => [13]
  | _ => []
def wj33 : Nat → Option (List Nat) := fun _ => none
def kr33 : Nat → List Nat := fun _ => []
noncomputable def e33 : Ent := entOf Try.f33 ⟨p33, wl33, wj33, kr33, []⟩
theorem g33 : EntOk Try.prog tys stl 33 e33 := .inr ⟨rfl, Try.func33, by kernel_rfl, by kernel_rfl, by kernel_rfl, by kernel_rfl, by kernel_rfl, rfl⟩
/- 34: foghorn/sums.ofBytes[uint16] -/
def p34 : Nat → Option PlanC := fun _ => none
def wl34 : Nat → List Nat := fun
  | 3 => [5, 12]
  | 6 => [5, 8]
  | _ => []
def wj34 : Nat → Option (List Nat) := fun _ => none
def kr34 : Nat → List Nat := fun _ => []
noncomputable def e34 : Ent := entOf Try.f34 ⟨p34, wl34, wj34, kr34, []⟩
theorem g34 : EntOk Try.prog tys stl 34 e34 := .inr ⟨rfl, Try.func34, by kernel_rfl, by kernel_rfl, by kernel_rfl, by kernel_rfl, by kernel_rfl, rfl⟩
/- 35: foghorn/sums.next[uint16] -/
def p35 : Nat → Option PlanC := fun _ => none
def wl35 : Nat → List Nat := fun _ => []
def wj35 : Nat → Option (List Nat) := fun
  | 5 => some [0]
  | _ => none
def kr35 : Nat → List Nat := fun _ => []
noncomputable def e35 : Ent := entOf Try.f35 ⟨p35, wl35, wj35, kr35, []⟩
theorem g35 : EntOk Try.prog tys stl 35 e35 := .inr ⟨rfl, Try.func35, by kernel_rfl, by kernel_rfl, by kernel_rfl, by kernel_rfl, by kernel_rfl, rfl⟩
/- 36: math/bits.Len32 -/
def p36 : Nat → Option PlanC := fun _ => none
def wl36 : Nat → List Nat := fun _ => []
def wj36 : Nat → Option (List Nat) := fun
  | 4 => some [0, 2]
  | 7 => some [0, 2]
  | _ => none
def kr36 : Nat → List Nat := fun _ => []
noncomputable def e36 : Ent := entOf Try.f36 ⟨p36, wl36, wj36, kr36, []⟩
theorem g36 : EntOk Try.prog tys stl 36 e36 := .inr ⟨rfl, Try.func36, by kernel_rfl, by kernel_rfl, by kernel_rfl, by kernel_rfl, by kernel_rfl, rfl⟩
/- 37: slices.Grow[[]bool,bool] -/
def p37 : Nat → Option PlanC := fun _ => none
def wl37 : Nat → List Nat := fun _ => []
def wj37 : Nat → Option (List Nat) := fun
  | 3 => some []
  | 6 => some [0]
  | _ => none
def kr37 : Nat → List Nat := fun _ => []
noncomputable def e37 : Ent := entOf Try.f37 ⟨p37, wl37, wj37, kr37, []⟩
theorem g37 : EntOk Try.prog tys stl 37 e37 := .inr ⟨rfl, Try.func37, by kernel_rfl, by kernel_rfl, by kernel_rfl, by kernel_rfl, by kernel_rfl, rfl⟩
noncomputable def ents : List (Nat × Ent) := [(3, e3), (4, e4), (5, e5), (6, e6), (7, e7), (8, e8), (9, e9), (10, e10), (11, e11), (12, e12), (13, e13), (14, e14), (15, e15), (16, e16), (17, e17), (18, e18), (19, e19), (20, e20), (21, e21), (22, e22), (23, e23), (24, e24), (25, e25), (26, e26), (27, e27), (28, e28), (29, e29), (30, e30), (31, e31), (32, e32), (33, e33), (34, e34), (35, e35), (36, e36), (37, e37)]
theorem goods : EntsOk Try.prog tys stl ents := ⟨g3, g4, g5, g6, g7, g8, g9, g10, g11, g12, g13, g14, g15, g16, g17, g18, g19, g20, g21, g22, g23, g24, g25, g26, g27, g28, g29, g30, g31, g32, g33, g34, g35, g36, g37, True.intro⟩
noncomputable def tab : Nat → Option Ent := (tabOf ents).get
theorem fok : FOk Try.prog tys stl tab := fok_of goods
noncomputable def d0 : Disp := .leaf
theorem d0_ok : CallSim Try.prog tys stl tab d0.fn := Disp.sim True.intro
/- slices.Index[[]bool,bool] -/
noncomputable def R22 (q_genW : Option CV → (W → Bool) → Bool) (q_addW : Nat → Nat → Option CV → W → W → (W → Bool) → Bool) (q_cmpW : (Nat → Nat → Bool) → Nat → Option CV → W → W → (W → Bool) → Bool) (q_condW : W → Bool → Bool → Bool) (q_idxSW : Nat → W → W → (W → Bool) → Bool) (q_lenW : Option CV → W → (W → Bool) → Bool) (q_loadSW : HW → W → (W → Bool) → Bool) (fu : Nat) (call : CallW) (a0 : W) (a1 : W) (h0 : HW) (c0 : Nat) (K : KW) : Bool :=
q_lenW (lenC tys 26 (dec a0)) a0 fun v1 =>
@Nat.rec (fun _ => Fun 1) (fun _ _ _ => false) (fun _ f5 v2 h3 c4 =>
q_cmpW (cmpF2 .lss) 3 (binC Try.prog .lss 3 (.tmp 8) (.tmp 7) (dec v2) (dec v1)) v2 v1 fun v6 =>
q_condW v6 (
q_idxSW 1 a0 v2 fun v7 =>
q_loadSW h3 v7 fun v8 =>
q_genW (binC Try.prog .eql 4 (.tmp 11) (.tmp 15) (dec a1) (dec v8)) fun v9 =>
q_condW v9 (
K v2 h3 c4) (
q_addW 3 9223372036854775807 (binC Try.prog .add 3 (.tmp 8) (.const (.int .i64 (.ofNat 1))) (dec v2) (dec ⟨3, 1, r0, []⟩)) v2 ⟨3, 1, r0, []⟩ fun v10 =>
f5 v10 h3 c4)) (
K ⟨12, 0, ⟨0, 0, 0, .int .i64 (.negSucc 0)⟩, []⟩ h3 c4)) fu ⟨3, 0, r0, []⟩ h0 c0
theorem R22_eq (Q : PrimW) (fu : Nat) (call : CallW) : curryA 2 (fnK Q Try.prog tys stl fu call e22) = R22 Q.genW Q.addW Q.cmpW Q.condW Q.idxSW Q.lenW Q.loadSW fu call := by kernel_rfl
noncomputable def n22 : List W → HW → Nat → KW → Bool := appF 2 (R22 genW addW cmpW condW idxSW lenW loadSW 1000000 d0.fn)
theorem n22_ok : FnGood Try.prog tys stl tab 22 n22 := node_ok d0_ok (by kernel_rfl) rfl g22 (R22_eq real _ _)
/- foghorn/bits.isRow -/
noncomputable def R31 (q_cmpW : (Nat → Nat → Bool) → Nat → Option CV → W → W → (W → Bool) → Bool) (q_lenW : Option CV → W → (W → Bool) → Bool) (fu : Nat) (call : CallW) (a0 : W) (h0 : HW) (c0 : Nat) (K : KW) : Bool :=
q_lenW (lenC tys 26 (dec a0)) a0 fun v1 =>
q_cmpW (cmpF2 .leq) 3 (binC Try.prog .leq 3 (.tmp 4) (.const (.int .i64 (.ofNat 32768))) (dec v1) (dec ⟨3, 32768, r0, []⟩)) v1 ⟨3, 32768, r0, []⟩ fun v2 =>
K v2 h0 c0
theorem R31_eq (Q : PrimW) (fu : Nat) (call : CallW) : curryA 1 (fnK Q Try.prog tys stl fu call e31) = R31 Q.cmpW Q.lenW fu call := by kernel_rfl
noncomputable def n31 : List W → HW → Nat → KW → Bool := appF 1 (R31 cmpW lenW 1000000 d0.fn)
theorem n31_ok : FnGood Try.prog tys stl tab 31 n31 := node_ok d0_ok (by kernel_rfl) rfl g31 (R31_eq real _ _)
/- slices.Equal[[]bool,bool] -/
noncomputable def R33 (q_genW : Option CV → (W → Bool) → Bool) (q_addW : Nat → Nat → Option CV → W → W → (W → Bool) → Bool) (q_cmpW : (Nat → Nat → Bool) → Nat → Option CV → W → W → (W → Bool) → Bool) (q_condW : W → Bool → Bool → Bool) (q_idxSW : Nat → W → W → (W → Bool) → Bool) (q_lenW : Option CV → W → (W → Bool) → Bool) (q_loadSW : HW → W → (W → Bool) → Bool) (fu : Nat) (call : CallW) (a0 : W) (a1 : W) (h0 : HW) (c0 : Nat) (K : KW) : Bool :=
q_lenW (lenC tys 26 (dec a0)) a0 fun v1 =>
q_lenW (lenC tys 26 (dec a1)) a1 fun v2 =>
q_cmpW (cmpF2 .neq) 3 (binC Try.prog .neq 3 (.tmp 7) (.tmp 9) (dec v1) (dec v2)) v1 v2 fun v3 =>
q_condW v3 (
K ⟨8, 0, r0, []⟩ h0 c0) (
q_lenW (lenC tys 26 (dec a0)) a0 fun v4 =>
@Nat.rec (fun _ => Fun 1) (fun _ _ _ => false) (fun _ f8 v5 h6 c7 =>
q_cmpW (cmpF2 .lss) 3 (binC Try.prog .lss 3 (.tmp 13) (.tmp 12) (dec v5) (dec v4)) v5 v4 fun v9 =>
q_condW v9 (
q_idxSW 1 a0 v5 fun v10 =>
q_loadSW h6 v10 fun v11 =>
q_idxSW 1 a1 v5 fun v12 =>
q_loadSW h6 v12 fun v13 =>
q_genW (binC Try.prog .neq 4 (.tmp 19) (.tmp 23) (dec v11) (dec v13)) fun v14 =>
q_condW v14 (
K ⟨8, 0, r0, []⟩ h6 c7) (
q_addW 3 9223372036854775807 (binC Try.prog .add 3 (.tmp 13) (.const (.int .i64 (.ofNat 1))) (dec v5) (dec ⟨3, 1, r0, []⟩)) v5 ⟨3, 1, r0, []⟩ fun v15 =>
f8 v15 h6 c7)) (
K ⟨8, 1, r0, []⟩ h6 c7)) fu ⟨3, 0, r0, []⟩ h0 c0)
theorem R33_eq (Q : PrimW) (fu : Nat) (call : CallW) : curryA 2 (fnK Q Try.prog tys stl fu call e33) = R33 Q.genW Q.addW Q.cmpW Q.condW Q.idxSW Q.lenW Q.loadSW fu call := by kernel_rfl
noncomputable def n33 : List W → HW → Nat → KW → Bool := appF 2 (R33 genW addW cmpW condW idxSW lenW loadSW 1000000 d0.fn)
theorem n33_ok : FnGood Try.prog tys stl tab 33 n33 := node_ok d0_ok (by kernel_rfl) rfl g33 (R33_eq real _ _)
/- math/bits.Len32 -/
noncomputable def R36 (q_share : (α : Type) → α → (α → Bool) → Bool) (q_genW : Option CV → (W → Bool) → Bool) (q_addW : Nat → Nat → Option CV → W → W → (W → Bool) → Bool) (q_cmpW : (Nat → Nat → Bool) → Nat → Option CV → W → W → (W → Bool) → Bool) (q_shrW : Nat → Nat → Option CV → W → W → (W → Bool) → Bool) (q_icvW : Nat → Nat → Option CV → W → (W → Bool) → Bool) (q_condW : W → Bool → Bool → Bool) (fu : Nat) (call : CallW) (a0 : W) (h0 : HW) (c0 : Nat) (K : KW) : Bool :=
q_share _ (fun (v1 : W) (v2 : W) (h3 : HW) (c4 : Nat) =>
q_share _ (fun (v6 : W) (v7 : W) (h8 : HW) (c9 : Nat) =>
q_icvW 4 255 (convC Try.prog tys ⟨[], 0, decH h8, 0⟩ 27 5 (dec v6)) v6 fun v11 =>
q_genW (two2 Try.prog (dec ⟨12, 0, ⟨0, 0, 0, .str ⟨⟨[0, 1, 2, 2, 3, 3, 3, 3, 4, 4, 4, 4, 4, 4, 4, 4, 5, 5, 5, 5, 5, 5, 5, 5, 5, 5, 5, 5, 5, 5, 5, 5, 6, 6, 6, 6, 6, 6, 6, 6, 6, 6, 6, 6, 6, 6, 6, 6, 6, 6, 6, 6, 6, 6, 6, 6, 6, 6, 6, 6, 6, 6, 6, 6, 7, 7, 7, 7, 7, 7, 7, 7, 7, 7, 7, 7, 7, 7, 7, 7, 7, 7, 7, 7, 7, 7, 7, 7, 7, 7, 7, 7, 7, 7, 7, 7, 7, 7, 7, 7, 7, 7, 7, 7, 7, 7, 7, 7, 7, 7, 7, 7, 7, 7, 7, 7, 7, 7, 7, 7, 7, 7, 7, 7, 7, 7, 7, 7, 8, 8, 8, 8, 8, 8, 8, 8, 8, 8, 8, 8, 8, 8, 8, 8, 8, 8, 8, 8, 8, 8, 8, 8, 8, 8, 8, 8, 8, 8, 8, 8, 8, 8, 8, 8, 8, 8, 8, 8, 8, 8, 8, 8, 8, 8, 8, 8, 8, 8, 8, 8, 8, 8, 8, 8, 8, 8, 8, 8, 8, 8, 8, 8, 8, 8, 8, 8, 8, 8, 8, 8, 8, 8, 8, 8, 8, 8, 8, 8, 8, 8, 8, 8, 8, 8, 8, 8, 8, 8, 8, 8, 8, 8, 8, 8, 8, 8, 8, 8, 8, 8, 8, 8, 8, 8, 8, 8, 8, 8, 8, 8, 8, 8, 8, 8, 8, 8, 8, 8, 8, 8, 8, 8, 8, 8, 8, 8]⟩⟩⟩, []⟩) (dec v11) (Instr.index 9)) fun v12 =>
q_icvW 3 9223372036854775807 (convC Try.prog tys ⟨[], 0, decH h8, 0⟩ 5 3 (dec v12)) v12 fun v13 =>
q_addW 3 9223372036854775807 (binC Try.prog .add 3 (.tmp 13) (.tmp 17) (dec v7) (dec v13)) v7 v13 fun v14 =>
K v14 h8 c9) fun f10 =>
q_cmpW (cmpF2 .geq) 6 (binC Try.prog .geq 27 (.tmp 7) (.const (.int .u32 (.ofNat 256))) (dec v1) (dec ⟨6, 256, r0, []⟩)) v1 ⟨6, 256, r0, []⟩ fun v15 =>
q_condW v15 (
q_shrW 6 32 (binC Try.prog .shr 27 (.tmp 9) (.const (.int .u64 (.ofNat 8))) (dec v1) (dec ⟨7, 8, r0, []⟩)) v1 ⟨7, 8, r0, []⟩ fun v16 =>
q_addW 3 9223372036854775807 (binC Try.prog .add 3 (.tmp 11) (.const (.int .i64 (.ofNat 8))) (dec v2) (dec ⟨3, 8, r0, []⟩)) v2 ⟨3, 8, r0, []⟩ fun v17 =>
f10 v16 v17 h3 c4) (
f10 v1 v2 h3 c4)) fun f5 =>
q_cmpW (cmpF2 .geq) 6 (binC Try.prog .geq 27 (.tmp 3) (.const (.int .u32 (.ofNat 65536))) (dec a0) (dec ⟨6, 65536, r0, []⟩)) a0 ⟨6, 65536, r0, []⟩ fun v18 =>
q_condW v18 (
q_shrW 6 32 (binC Try.prog .shr 27 (.tmp 5) (.const (.int .u64 (.ofNat 16))) (dec a0) (dec ⟨7, 16, r0, []⟩)) a0 ⟨7, 16, r0, []⟩ fun v19 =>
f5 v19 ⟨3, 16, r0, []⟩ h0 c0) (
f5 a0 ⟨3, 0, r0, []⟩ h0 c0)
theorem R36_eq (Q : PrimW) (fu : Nat) (call : CallW) : curryA 1 (fnK Q Try.prog tys stl fu call e36) = R36 Q.share Q.genW Q.addW Q.cmpW Q.shrW Q.icvW Q.condW fu call := by kernel_rfl
noncomputable def n36 : List W → HW → Nat → KW → Bool := appF 1 (R36 (fun _ x f => f x) genW addW cmpW shrW icvW condW 1000000 d0.fn)
theorem n36_ok : FnGood Try.prog tys stl tab 36 n36 := node_ok d0_ok (by kernel_rfl) rfl g36 (R36_eq real _ _)
/- slices.Grow[[]bool,bool] -/
noncomputable def R37 (q_share : (α : Type) → α → (α → Bool) → Bool) (q_genW : Option CV → (W → Bool) → Bool) (q_subW : Nat → Nat → Option CV → W → W → (W → Bool) → Bool) (q_cmpW : (Nat → Nat → Bool) → Nat → Option CV → W → W → (W → Bool) → Bool) (q_condW : W → Bool → Bool → Bool) (q_lenW : Option CV → W → (W → Bool) → Bool) (q_appZW : Nat → Nat → (Kind → Bool) → Nat → Kind → List W → (Nat → Bool) → HW → Nat → W → W → KW → Bool) (fu : Nat) (call : CallW) (a0 : W) (a1 : W) (h0 : HW) (c0 : Nat) (K : KW) : Bool :=
q_share _ (fun  (h1 : HW) (c2 : Nat) =>
q_share _ (fun (v4 : W) (h5 : HW) (c6 : Nat) =>
K v4 h5 c6) fun f7 =>
q_genW (capC tys 26 (dec a0)) fun v8 =>
q_lenW (lenC tys 26 (dec a0)) a0 fun v9 =>
q_subW 3 9223372036854775807 (binC Try.prog .sub 3 (.tmp 10) (.tmp 12) (dec v8) (dec v9)) v8 v9 fun v10 =>
q_subW 3 9223372036854775807 (binC Try.prog .sub 3 (.tmp 8) (.tmp 13) (dec a1) (dec v10)) a1 v10 fun v11 =>
q_cmpW (cmpF2 .gtr) 3 (binC Try.prog .gtr 3 (.tmp 15) (.const (.int .i64 (.ofNat 0))) (dec v11) (dec ⟨3, 0, r0, []⟩)) v11 ⟨3, 0, r0, []⟩ fun v12 =>
q_condW v12 (
q_genW (capC tys 26 (dec a0)) fun v13 =>
q_genW (sliceM tys ⟨[], 0, decH h1, 0⟩ 26 (dec a0) none (some (dec v13)) none) fun v14 =>
q_appZW 1 1 (appKindOk (elemJ tys 26)) 8 .bools [⟨8, 0, r0, []⟩] (zeroOk (elemJ tys 26)) h1 c2 v14 v11 fun v15 h16 c17 =>
q_lenW (lenC tys 26 (dec a0)) a0 fun v18 =>
q_genW (sliceM tys ⟨[], 0, decH h16, 0⟩ 26 (dec v15) none (some (dec v18)) none) fun v19 =>
f7 v19 h16 c17) (
f7 a0 h1 c2)) fun f3 =>
q_cmpW (cmpF2 .lss) 3 (binC Try.prog .lss 3 (.tmp 5) (.const (.int .i64 (.ofNat 0))) (dec a1) (dec ⟨3, 0, r0, []⟩)) a1 ⟨3, 0, r0, []⟩ fun v20 =>
q_condW v20 (
false) (
f3 h0 c0)
theorem R37_eq (Q : PrimW) (fu : Nat) (call : CallW) : curryA 2 (fnK Q Try.prog tys stl fu call e37) = R37 Q.share Q.genW Q.subW Q.cmpW Q.condW Q.lenW Q.appZW fu call := by kernel_rfl
noncomputable def n37 : List W → HW → Nat → KW → Bool := appF 2 (R37 (fun _ x f => f x) genW subW cmpW condW lenW appZW 1000000 d0.fn)
theorem n37_ok : FnGood Try.prog tys stl tab 37 n37 := node_ok d0_ok (by kernel_rfl) rfl g37 (R37_eq real _ _)
noncomputable def d1 : Disp := (.node 33 n33 (.node 31 n31 (.node 22 n22 .leaf .leaf) .leaf) (.node 37 n37 (.node 36 n36 .leaf .leaf) .leaf))
theorem d1_ok : CallSim Try.prog tys stl tab d1.fn := Disp.sim ⟨n33_ok, ⟨n31_ok, ⟨n22_ok, True.intro, True.intro⟩, True.intro⟩, ⟨n37_ok, ⟨n36_ok, True.intro, True.intro⟩, True.intro⟩⟩
/- foghorn/bits.Xor -/
noncomputable def R21 (q_share : (α : Type) → α → (α → Bool) → Bool) (q_genW : Option CV → (W → Bool) → Bool) (q_addW : Nat → Nat → Option CV → W → W → (W → Bool) → Bool) (q_cmpW : (Nat → Nat → Bool) → Nat → Option CV → W → W → (W → Bool) → Bool) (q_notW : Option CV → W → (W → Bool) → Bool) (q_condW : W → Bool → Bool → Bool) (q_guardW : Bool → W → Bool → Bool → Bool) (q_pickW : W → W → W → (W → Bool) → Bool) (q_idxSW : Nat → W → W → (W → Bool) → Bool) (q_lenW : Option CV → W → (W → Bool) → Bool) (q_loadSW : HW → W → (W → Bool) → Bool) (q_storeSW : HW → W → W → (HW → Bool) → Bool) (q_makeSW : Nat → Nat → Nat → Kind → List W → Bool → HW → Nat → W → W → KW → Bool) (fu : Nat) (call : CallW) (a0 : W) (a1 : W) (h0 : HW) (c0 : Nat) (K : KW) : Bool :=
call 31 [a0] h0 c0 fun v1 h2 c3 =>
q_notW (two Try.prog (dec v1) (Op.unary .not)) v1 fun v4 =>
q_share _ (fun (v6 : W) (h7 : HW) (c8 : Nat) =>
q_share _ (fun (v10 : W) (h11 : HW) (c12 : Nat) =>
q_share _ (fun (v14 : W) (h15 : HW) (c16 : Nat) =>
q_share _ (fun (v18 : W) (h19 : HW) (c20 : Nat) =>
q_share _ (fun (v22 : W) (h23 : HW) (c24 : Nat) =>
q_pickW v4 ⟨8, 1, r0, []⟩ v22 fun v25 =>
q_condW v25 (
K ⟨13, 0, r0, [⟨12, 0, ⟨0, 0, 0, .nils⟩, []⟩, ⟨3, 1, r0, []⟩]⟩ h23 c24) (
q_lenW (lenC tys 26 (dec a0)) a0 fun v26 =>
q_makeSW 1 1 8 .bools [⟨8, 0, r0, []⟩] true h23 c24 v26 v26 fun v27 h28 c29 =>
q_lenW (lenC tys 26 (dec v27)) v27 fun v30 =>
@Nat.rec (fun _ => Fun 1) (fun _ _ _ => false) (fun _ f34 v31 h32 c33 =>
q_cmpW (cmpF2 .lss) 3 (binC Try.prog .lss 3 (.tmp 23) (.tmp 22) (dec v31) (dec v30)) v31 v30 fun v35 =>
q_condW v35 (
q_idxSW 1 a0 v31 fun v36 =>
q_loadSW h32 v36 fun v37 =>
q_idxSW 1 a1 v31 fun v38 =>
q_loadSW h32 v38 fun v39 =>
q_genW (binC Try.prog .neq 4 (.tmp 31) (.tmp 35) (dec v37) (dec v39)) fun v40 =>
q_idxSW 1 v27 v31 fun v41 =>
q_storeSW h32 v41 v40 fun h42 =>
q_addW 3 9223372036854775807 (binC Try.prog .add 3 (.tmp 23) (.const (.int .i64 (.ofNat 1))) (dec v31) (dec ⟨3, 1, r0, []⟩)) v31 ⟨3, 1, r0, []⟩ fun v43 =>
f34 v43 h42 c33) (
K ⟨13, 0, r0, [v27, ⟨3, 0, r0, []⟩]⟩ h32 c33)) fu ⟨3, 0, r0, []⟩ h28 c29)) fun f21 =>
q_guardW false v4 (q_cmpW (cmpF2 .neq) 3 (binC Try.prog .neq 3 (.tmp 13) (.tmp 15) (dec v10) (dec v18)) v10 v18 fun v44 =>
f21 v44 h19 c20) (f21 wUnd h19 c20)) fun f17 =>
q_guardW false v4 (q_lenW (lenC tys 26 (dec v14)) v14 fun v45 =>
f17 v45 h15 c16) (f17 wUnd h15 c16)) fun f13 =>
q_guardW false v4 (f13 a1 h11 c12) (f13 wUnd h11 c12)) fun f9 =>
q_guardW false v4 (q_lenW (lenC tys 26 (dec v6)) v6 fun v46 =>
f9 v46 h7 c8) (f9 wUnd h7 c8)) fun f5 =>
q_guardW false v4 (f5 a0 h2 c3) (f5 wUnd h2 c3)
theorem R21_eq (Q : PrimW) (fu : Nat) (call : CallW) : curryA 2 (fnK Q Try.prog tys stl fu call e21) = R21 Q.share Q.genW Q.addW Q.cmpW Q.notW Q.condW Q.guardW Q.pickW Q.idxSW Q.lenW Q.loadSW Q.storeSW Q.makeSW fu call := by kernel_rfl
noncomputable def n21 : List W → HW → Nat → KW → Bool := appF 2 (R21 (fun _ x f => f x) genW addW cmpW notW condW guardW pickW idxSW lenW loadSW storeSW makeSW 1000000 d1.fn)
theorem n21_ok : FnGood Try.prog tys stl tab 21 n21 := node_ok d1_ok (by kernel_rfl) rfl g21 (R21_eq real _ _)
/- foghorn/sums.wide[uint16] -/
noncomputable def R28 (q_genW : Option CV → (W → Bool) → Bool) (q_icvW : Nat → Nat → Option CV → W → (W → Bool) → Bool) (fu : Nat) (call : CallW) (a0 : W) (h0 : HW) (c0 : Nat) (K : KW) : Bool :=
q_icvW 5 65535 (convC Try.prog tys ⟨[], 0, decH h0, 0⟩ 3 22 (dec ⟨3, 0, r0, []⟩)) ⟨3, 0, r0, []⟩ fun v1 =>
q_genW (two Try.prog (dec v1) (Op.unary .xor)) fun v2 =>
q_icvW 6 4294967295 (convC Try.prog tys ⟨[], 0, decH h0, 0⟩ 22 27 (dec v2)) v2 fun v3 =>
call 36 [v3] h0 c0 fun v4 h5 c6 =>
K v4 h5 c6
theorem R28_eq (Q : PrimW) (fu : Nat) (call : CallW) : curryA 1 (fnK Q Try.prog tys stl fu call e28) = R28 Q.genW Q.icvW fu call := by kernel_rfl
noncomputable def n28 : List W → HW → Nat → KW → Bool := appF 1 (R28 genW icvW 1000000 d1.fn)
theorem n28_ok : FnGood Try.prog tys stl tab 28 n28 := node_ok d1_ok (by kernel_rfl) rfl g28 (R28_eq real _ _)
/- slices.Concat[[]bool,bool] -/
noncomputable def R29 (q_share : (α : Type) → α → (α → Bool) → Bool) (q_addW : Nat → Nat → Option CV → W → W → (W → Bool) → Bool) (q_cmpW : (Nat → Nat → Bool) → Nat → Option CV → W → W → (W → Bool) → Bool) (q_condW : W → Bool → Bool → Bool) (q_idxSW : Nat → W → W → (W → Bool) → Bool) (q_lenW : Option CV → W → (W → Bool) → Bool) (q_loadSW : HW → W → (W → Bool) → Bool) (q_appSW : Nat → Nat → (Kind → Bool) → Bool → HW → Nat → W → W → Bool → KW → Bool) (fu : Nat) (call : CallW) (a0 : W) (h0 : HW) (c0 : Nat) (K : KW) : Bool :=
q_lenW (lenC tys 62 (dec a0)) a0 fun v1 =>
@Nat.rec (fun _ => Fun 2) (fun _ _ _ _ => false) (fun _ f6 v2 v3 h4 c5 =>
q_cmpW (cmpF2 .lss) 3 (binC Try.prog .lss 3 (.tmp 11) (.tmp 10) (dec v3) (dec v1)) v3 v1 fun v7 =>
q_condW v7 (
q_share _ (fun (v8 : W) (h9 : HW) (c10 : Nat) =>
q_addW 3 9223372036854775807 (binC Try.prog .add 3 (.tmp 11) (.const (.int .i64 (.ofNat 1))) (dec v3) (dec ⟨3, 1, r0, []⟩)) v3 ⟨3, 1, r0, []⟩ fun v12 =>
f6 v8 v12 h9 c10) fun f11 =>
q_idxSW 1 a0 v3 fun v13 =>
q_loadSW h4 v13 fun v14 =>
q_lenW (lenC tys 26 (dec v14)) v14 fun v15 =>
q_addW 3 9223372036854775807 (binC Try.prog .add 3 (.tmp 15) (.tmp 17) (dec v2) (dec v15)) v2 v15 fun v16 =>
q_cmpW (cmpF2 .lss) 3 (binC Try.prog .lss 3 (.tmp 19) (.const (.int .i64 (.ofNat 0))) (dec v16) (dec ⟨3, 0, r0, []⟩)) v16 ⟨3, 0, r0, []⟩ fun v17 =>
q_condW v17 (
false) (
f11 v16 h4 c5)) (
call 37 [⟨12, 0, ⟨0, 0, 0, .nils⟩, []⟩, v2] h4 c5 fun v18 h19 c20 =>
q_lenW (lenC tys 62 (dec a0)) a0 fun v21 =>
@Nat.rec (fun _ => Fun 2) (fun _ _ _ _ => false) (fun _ f26 v22 v23 h24 c25 =>
q_cmpW (cmpF2 .lss) 3 (binC Try.prog .lss 3 (.tmp 27) (.tmp 26) (dec v23) (dec v21)) v23 v21 fun v27 =>
q_condW v27 (
q_idxSW 1 a0 v23 fun v28 =>
q_loadSW h24 v28 fun v29 =>
q_appSW 1 1 (appKindOk (elemJ tys 26)) false h24 c25 v22 v29 false fun v30 h31 c32 =>
q_addW 3 9223372036854775807 (binC Try.prog .add 3 (.tmp 27) (.const (.int .i64 (.ofNat 1))) (dec v23) (dec ⟨3, 1, r0, []⟩)) v23 ⟨3, 1, r0, []⟩ fun v33 =>
f26 v30 v33 h31 c32) (
K v22 h24 c25)) fu v18 ⟨3, 0, r0, []⟩ h19 c20)) fu ⟨3, 0, r0, []⟩ ⟨3, 0, r0, []⟩ h0 c0
theorem R29_eq (Q : PrimW) (fu : Nat) (call : CallW) : curryA 1 (fnK Q Try.prog tys stl fu call e29) = R29 Q.share Q.addW Q.cmpW Q.condW Q.idxSW Q.lenW Q.loadSW Q.appSW fu call := by kernel_rfl
noncomputable def n29 : List W → HW → Nat → KW → Bool := appF 1 (R29 (fun _ x f => f x) addW cmpW condW idxSW lenW loadSW appSW 1000000 d1.fn)
theorem n29_ok : FnGood Try.prog tys stl tab 29 n29 := node_ok d1_ok (by kernel_rfl) rfl g29 (R29_eq real _ _)
/- foghorn/sums.wide[uint32] -/
noncomputable def R30 (q_genW : Option CV → (W → Bool) → Bool) (q_icvW : Nat → Nat → Option CV → W → (W → Bool) → Bool) (fu : Nat) (call : CallW) (a0 : W) (h0 : HW) (c0 : Nat) (K : KW) : Bool :=
q_icvW 6 4294967295 (convC Try.prog tys ⟨[], 0, decH h0, 0⟩ 3 27 (dec ⟨3, 0, r0, []⟩)) ⟨3, 0, r0, []⟩ fun v1 =>
q_genW (two Try.prog (dec v1) (Op.unary .xor)) fun v2 =>
call 36 [v2] h0 c0 fun v3 h4 c5 =>
K v3 h4 c5
theorem R30_eq (Q : PrimW) (fu : Nat) (call : CallW) : curryA 1 (fnK Q Try.prog tys stl fu call e30) = R30 Q.genW Q.icvW fu call := by kernel_rfl
noncomputable def n30 : List W → HW → Nat → KW → Bool := appF 1 (R30 genW icvW 1000000 d1.fn)
theorem n30_ok : FnGood Try.prog tys stl tab 30 n30 := node_ok d1_ok (by kernel_rfl) rfl g30 (R30_eq real _ _)
noncomputable def d2 : Disp := (.node 30 n30 (.node 28 n28 (.node 22 n22 (.node 21 n21 .leaf .leaf) .leaf) (.node 29 n29 .leaf .leaf)) (.node 36 n36 (.node 33 n33 (.node 31 n31 .leaf .leaf) .leaf) (.node 37 n37 .leaf .leaf)))
theorem d2_ok : CallSim Try.prog tys stl tab d2.fn := Disp.sim ⟨n30_ok, ⟨n28_ok, ⟨n22_ok, ⟨n21_ok, True.intro, True.intro⟩, True.intro⟩, ⟨n29_ok, True.intro, True.intro⟩⟩, ⟨n36_ok, ⟨n33_ok, ⟨n31_ok, True.intro, True.intro⟩, True.intro⟩, ⟨n37_ok, True.intro, True.intro⟩⟩⟩
/- foghorn/sums.Burst -/
noncomputable def R10 (q_share : (α : Type) → α → (α → Bool) → Bool) (q_addW : Nat → Nat → Option CV → W → W → (W → Bool) → Bool) (q_subW : Nat → Nat → Option CV → W → W → (W → Bool) → Bool) (q_cmpW : (Nat → Nat → Bool) → Nat → Option CV → W → W → (W → Bool) → Bool) (q_condW : W → Bool → Bool → Bool) (q_idxSW : Nat → W → W → (W → Bool) → Bool) (q_lenW : Option CV → W → (W → Bool) → Bool) (q_tupW : W → (List W → Bool) → Bool) (q_nthW : Nat → List W → (W → Bool) → Bool) (q_loadSW : HW → W → (W → Bool) → Bool) (fu : Nat) (call : CallW) (a0 : W) (a1 : W) (h0 : HW) (c0 : Nat) (K : KW) : Bool :=
call 21 [a0, a1] h0 c0 fun v1 h2 c3 =>
q_tupW v1 fun l4 => q_nthW 0 l4 fun v5 =>
q_tupW v1 fun l6 => q_nthW 1 l6 fun v7 =>
q_cmpW (cmpF2 .neq) 3 (binC Try.prog .neq 23 (.tmp 17) (.const (.int .i64 (.ofNat 0))) (dec v7) (dec ⟨3, 0, r0, []⟩)) v7 ⟨3, 0, r0, []⟩ fun v8 =>
q_condW v8 (
K ⟨13, 0, r0, [⟨3, 0, r0, []⟩, ⟨3, 0, r0, []⟩, v7]⟩ h2 c3) (
call 22 [v5, ⟨8, 1, r0, []⟩] h2 c3 fun v9 h10 c11 =>
q_cmpW (cmpF2 .lss) 3 (binC Try.prog .lss 3 (.tmp 22) (.const (.int .i64 (.ofNat 0))) (dec v9) (dec ⟨3, 0, r0, []⟩)) v9 ⟨3, 0, r0, []⟩ fun v12 =>
q_condW v12 (
K ⟨13, 0, r0, [⟨3, 0, r0, []⟩, ⟨3, 0, r0, []⟩, ⟨3, 6, r0, []⟩]⟩ h10 c11) (
q_lenW (lenC tys 26 (dec v5)) v5 fun v13 =>
@Nat.rec (fun _ => Fun 2) (fun _ _ _ _ => false) (fun _ f18 v14 v15 h16 c17 =>
q_cmpW (cmpF2 .lss) 3 (binC Try.prog .lss 3 (.tmp 27) (.tmp 26) (dec v15) (dec v13)) v15 v13 fun v19 =>
q_condW v19 (
q_share _ (fun (v20 : W) (h21 : HW) (c22 : Nat) =>
q_addW 3 9223372036854775807 (binC Try.prog .add 3 (.tmp 27) (.const (.int .i64 (.ofNat 1))) (dec v15) (dec ⟨3, 1, r0, []⟩)) v15 ⟨3, 1, r0, []⟩ fun v24 =>
f18 v20 v24 h21 c22) fun f23 =>
q_idxSW 1 v5 v15 fun v25 =>
q_loadSW h16 v25 fun v26 =>
q_condW v26 (
f23 v15 h16 c17) (
f23 v14 h16 c17)) (
q_subW 3 9223372036854775807 (binC Try.prog .sub 3 (.tmp 36) (.tmp 37) (dec v14) (dec v9)) v14 v9 fun v27 =>
q_addW 3 9223372036854775807 (binC Try.prog .add 3 (.tmp 38) (.const (.int .i64 (.ofNat 1))) (dec v27) (dec ⟨3, 1, r0, []⟩)) v27 ⟨3, 1, r0, []⟩ fun v28 =>
K ⟨13, 0, r0, [v9, v28, ⟨3, 0, r0, []⟩]⟩ h16 c17)) fu v9 ⟨3, 0, r0, []⟩ h10 c11))
theorem R10_eq (Q : PrimW) (fu : Nat) (call : CallW) : curryA 2 (fnK Q Try.prog tys stl fu call e10) = R10 Q.share Q.addW Q.subW Q.cmpW Q.condW Q.idxSW Q.lenW Q.tupW Q.nthW Q.loadSW fu call := by kernel_rfl
noncomputable def n10 : List W → HW → Nat → KW → Bool := appF 2 (R10 (fun _ x f => f x) addW subW cmpW condW idxSW lenW tupW nthW loadSW 1000000 d2.fn)
theorem n10_ok : FnGood Try.prog tys stl tab 10 n10 := node_ok d2_ok (by kernel_rfl) rfl g10 (R10_eq real _ _)
/- foghorn/sums.next[uint32] -/
noncomputable def R20 (q_share : (α : Type) → α → (α → Bool) → Bool) (q_genW : Option CV → (W → Bool) → Bool) (q_subW : Nat → Nat → Option CV → W → W → (W → Bool) → Bool) (q_bitW : (Nat → Nat → Nat) → Nat → Nat → Option CV → W → W → (W → Bool) → Bool) (q_cmpW : (Nat → Nat → Bool) → Nat → Option CV → W → W → (W → Bool) → Bool) (q_shlW : Nat → Nat → Nat → Option CV → W → W → (W → Bool) → Bool) (q_shrW : Nat → Nat → Option CV → W → W → (W → Bool) → Bool) (q_condW : W → Bool → Bool → Bool) (fu : Nat) (call : CallW) (a0 : W) (a1 : W) (a2 : W) (h0 : HW) (c0 : Nat) (K : KW) : Bool :=
call 30 [a0] h0 c0 fun v1 h2 c3 =>
q_subW 3 9223372036854775807 (binC Try.prog .sub 3 (.tmp 10) (.const (.int .i64 (.ofNat 1))) (dec v1) (dec ⟨3, 1, r0, []⟩)) v1 ⟨3, 1, r0, []⟩ fun v4 =>
q_shrW 6 32 (binC Try.prog .shr 27 (.tmp 8) (.tmp 11) (dec a0) (dec v4)) a0 v4 fun v5 =>
q_cmpW (cmpF2 .neq) 6 (binC Try.prog .neq 27 (.tmp 12) (.const (.int .u32 (.ofNat 0))) (dec v5) (dec ⟨6, 0, r0, []⟩)) v5 ⟨6, 0, r0, []⟩ fun v6 =>
q_shlW 6 4294967295 32 (binC Try.prog .shl 27 (.tmp 14) (.const (.int .u64 (.ofNat 1))) (dec a0) (dec ⟨7, 1, r0, []⟩)) a0 ⟨7, 1, r0, []⟩ fun v7 =>
q_share _ (fun (v8 : W) (h9 : HW) (c10 : Nat) =>
K v8 h9 c10) fun f11 =>
q_genW (binC Try.prog .neq 4 (.tmp 16) (.tmp 17) (dec v6) (dec a2)) fun v12 =>
q_condW v12 (
q_bitW Nat.xor 6 4294967295 (binC Try.prog .xor 27 (.tmp 19) (.tmp 20) (dec v7) (dec a1)) v7 a1 fun v13 =>
f11 v13 h2 c3) (
f11 v7 h2 c3)
theorem R20_eq (Q : PrimW) (fu : Nat) (call : CallW) : curryA 3 (fnK Q Try.prog tys stl fu call e20) = R20 Q.share Q.genW Q.subW Q.bitW Q.cmpW Q.shlW Q.shrW Q.condW fu call := by kernel_rfl
noncomputable def n20 : List W → HW → Nat → KW → Bool := appF 3 (R20 (fun _ x f => f x) genW subW bitW cmpW shlW shrW condW 1000000 d2.fn)
theorem n20_ok : FnGood Try.prog tys stl tab 20 n20 := node_ok d2_ok (by kernel_rfl) rfl g20 (R20_eq real _ _)
/- foghorn/sums.next[uint16] -/
noncomputable def R35 (q_share : (α : Type) → α → (α → Bool) → Bool) (q_genW : Option CV → (W → Bool) → Bool) (q_subW : Nat → Nat → Option CV → W → W → (W → Bool) → Bool) (q_bitW : (Nat → Nat → Nat) → Nat → Nat → Option CV → W → W → (W → Bool) → Bool) (q_cmpW : (Nat → Nat → Bool) → Nat → Option CV → W → W → (W → Bool) → Bool) (q_shlW : Nat → Nat → Nat → Option CV → W → W → (W → Bool) → Bool) (q_shrW : Nat → Nat → Option CV → W → W → (W → Bool) → Bool) (q_condW : W → Bool → Bool → Bool) (fu : Nat) (call : CallW) (a0 : W) (a1 : W) (a2 : W) (h0 : HW) (c0 : Nat) (K : KW) : Bool :=
call 28 [a0] h0 c0 fun v1 h2 c3 =>
q_subW 3 9223372036854775807 (binC Try.prog .sub 3 (.tmp 10) (.const (.int .i64 (.ofNat 1))) (dec v1) (dec ⟨3, 1, r0, []⟩)) v1 ⟨3, 1, r0, []⟩ fun v4 =>
q_shrW 5 16 (binC Try.prog .shr 22 (.tmp 8) (.tmp 11) (dec a0) (dec v4)) a0 v4 fun v5 =>
q_cmpW (cmpF2 .neq) 5 (binC Try.prog .neq 22 (.tmp 12) (.const (.int .u16 (.ofNat 0))) (dec v5) (dec ⟨5, 0, r0, []⟩)) v5 ⟨5, 0, r0, []⟩ fun v6 =>
q_shlW 5 65535 16 (binC Try.prog .shl 22 (.tmp 14) (.const (.int .u64 (.ofNat 1))) (dec a0) (dec ⟨7, 1, r0, []⟩)) a0 ⟨7, 1, r0, []⟩ fun v7 =>
q_share _ (fun (v8 : W) (h9 : HW) (c10 : Nat) =>
K v8 h9 c10) fun f11 =>
q_genW (binC Try.prog .neq 4 (.tmp 16) (.tmp 17) (dec v6) (dec a2)) fun v12 =>
q_condW v12 (
q_bitW Nat.xor 5 65535 (binC Try.prog .xor 22 (.tmp 19) (.tmp 20) (dec v7) (dec a1)) v7 a1 fun v13 =>
f11 v13 h2 c3) (
f11 v7 h2 c3)
theorem R35_eq (Q : PrimW) (fu : Nat) (call : CallW) : curryA 3 (fnK Q Try.prog tys stl fu call e35) = R35 Q.share Q.genW Q.subW Q.bitW Q.cmpW Q.shlW Q.shrW Q.condW fu call := by kernel_rfl
noncomputable def n35 : List W → HW → Nat → KW → Bool := appF 3 (R35 (fun _ x f => f x) genW subW bitW cmpW shlW shrW condW 1000000 d2.fn)
theorem n35_ok : FnGood Try.prog tys stl tab 35 n35 := node_ok d2_ok (by kernel_rfl) rfl g35 (R35_eq real _ _)
noncomputable def d3 : Disp := (.node 30 n30 (.node 22 n22 (.node 20 n20 (.node 10 n10 .leaf .leaf) (.node 21 n21 .leaf .leaf)) (.node 29 n29 (.node 28 n28 .leaf .leaf) .leaf)) (.node 35 n35 (.node 33 n33 (.node 31 n31 .leaf .leaf) .leaf) (.node 37 n37 (.node 36 n36 .leaf .leaf) .leaf)))
theorem d3_ok : CallSim Try.prog tys stl tab d3.fn := Disp.sim ⟨n30_ok, ⟨n22_ok, ⟨n20_ok, ⟨n10_ok, True.intro, True.intro⟩, ⟨n21_ok, True.intro, True.intro⟩⟩, ⟨n29_ok, ⟨n28_ok, True.intro, True.intro⟩, True.intro⟩⟩, ⟨n35_ok, ⟨n33_ok, ⟨n31_ok, True.intro, True.intro⟩, True.intro⟩, ⟨n37_ok, ⟨n36_ok, True.intro, True.intro⟩, True.intro⟩⟩⟩
/- foghorn/sums.Joined32 -/
noncomputable def R9 (q_share : (α : Type) → α → (α → Bool) → Bool) (q_addW : Nat → Nat → Option CV → W → W → (W → Bool) → Bool) (q_bitW : (Nat → Nat → Nat) → Nat → Nat → Option CV → W → W → (W → Bool) → Bool) (q_cmpW : (Nat → Nat → Bool) → Nat → Option CV → W → W → (W → Bool) → Bool) (q_condW : W → Bool → Bool → Bool) (q_guardW : Bool → W → Bool → Bool → Bool) (q_pickW : W → W → W → (W → Bool) → Bool) (fu : Nat) (call : CallW) (a0 : W) (a1 : W) (a2 : W) (h0 : HW) (c0 : Nat) (K : KW) : Bool :=
q_cmpW (cmpF2 .lss) 3 (binC Try.prog .lss 3 (.tmp 8) (.const (.int .i64 (.ofNat 0))) (dec a2) (dec ⟨3, 0, r0, []⟩)) a2 ⟨3, 0, r0, []⟩ fun v1 =>
q_share _ (fun (v3 : W) (h4 : HW) (c5 : Nat) =>
q_share _ (fun (v7 : W) (h8 : HW) (c9 : Nat) =>
q_pickW v1 ⟨8, 1, r0, []⟩ v7 fun v10 =>
q_condW v10 (
K ⟨13, 0, r0, [⟨6, 0, r0, []⟩, ⟨3, 1, r0, []⟩]⟩ h8 c9) (
@Nat.rec (fun _ => Fun 2) (fun _ _ _ _ => false) (fun _ f15 v11 v12 h13 c14 =>
q_cmpW (cmpF2 .lss) 3 (binC Try.prog .lss 3 (.tmp 15) (.tmp 14) (dec v12) (dec a2)) v12 a2 fun v16 =>
q_condW v16 (
call 20 [v11, ⟨6, 79764919, r0, []⟩, ⟨8, 0, r0, []⟩] h13 c14 fun v17 h18 c19 =>
q_addW 3 9223372036854775807 (binC Try.prog .add 3 (.tmp 15) (.const (.int .i64 (.ofNat 1))) (dec v12) (dec ⟨3, 1, r0, []⟩)) v12 ⟨3, 1, r0, []⟩ fun v20 =>
f15 v17 v20 h18 c19) (
q_bitW Nat.xor 6 4294967295 (binC Try.prog .xor 27 (.tmp 20) (.tmp 21) (dec v11) (dec a1)) v11 a1 fun v21 =>
K ⟨13, 0, r0, [v21, ⟨3, 0, r0, []⟩]⟩ h13 c14)) fu a0 ⟨3, 0, r0, []⟩ h8 c9)) fun f6 =>
q_guardW false v1 (q_cmpW (cmpF2 .gtr) 3 (binC Try.prog .gtr 3 (.tmp 11) (.const (.int .i64 (.ofNat 32768))) (dec v3) (dec ⟨3, 32768, r0, []⟩)) v3 ⟨3, 32768, r0, []⟩ fun v22 =>
f6 v22 h4 c5) (f6 wUnd h4 c5)) fun f2 =>
q_guardW false v1 (f2 a2 h0 c0) (f2 wUnd h0 c0)
theorem R9_eq (Q : PrimW) (fu : Nat) (call : CallW) : curryA 3 (fnK Q Try.prog tys stl fu call e9) = R9 Q.share Q.addW Q.bitW Q.cmpW Q.condW Q.guardW Q.pickW fu call := by kernel_rfl
noncomputable def n9 : List W → HW → Nat → KW → Bool := appF 3 (R9 (fun _ x f => f x) addW bitW cmpW condW guardW pickW 1000000 d3.fn)
theorem n9_ok : FnGood Try.prog tys stl tab 9 n9 := node_ok d3_ok (by kernel_rfl) rfl g9 (R9_eq real _ _)
/- foghorn/sums.on[uint32] -/
noncomputable def R19 (q_addW : Nat → Nat → Option CV → W → W → (W → Bool) → Bool) (q_cmpW : (Nat → Nat → Bool) → Nat → Option CV → W → W → (W → Bool) → Bool) (q_condW : W → Bool → Bool → Bool) (q_idxSW : Nat → W → W → (W → Bool) → Bool) (q_lenW : Option CV → W → (W → Bool) → Bool) (q_loadSW : HW → W → (W → Bool) → Bool) (fu : Nat) (call : CallW) (a0 : W) (a1 : W) (a2 : W) (h0 : HW) (c0 : Nat) (K : KW) : Bool :=
q_lenW (lenC tys 26 (dec a2)) a2 fun v1 =>
@Nat.rec (fun _ => Fun 2) (fun _ _ _ _ => false) (fun _ f6 v2 v3 h4 c5 =>
q_cmpW (cmpF2 .lss) 3 (binC Try.prog .lss 3 (.tmp 11) (.tmp 10) (dec v3) (dec v1)) v3 v1 fun v7 =>
q_condW v7 (
q_idxSW 1 a2 v3 fun v8 =>
q_loadSW h4 v8 fun v9 =>
call 20 [v2, a1, v9] h4 c5 fun v10 h11 c12 =>
q_addW 3 9223372036854775807 (binC Try.prog .add 3 (.tmp 11) (.const (.int .i64 (.ofNat 1))) (dec v3) (dec ⟨3, 1, r0, []⟩)) v3 ⟨3, 1, r0, []⟩ fun v13 =>
f6 v10 v13 h11 c12) (
K v2 h4 c5)) fu a0 ⟨3, 0, r0, []⟩ h0 c0
theorem R19_eq (Q : PrimW) (fu : Nat) (call : CallW) : curryA 3 (fnK Q Try.prog tys stl fu call e19) = R19 Q.addW Q.cmpW Q.condW Q.idxSW Q.lenW Q.loadSW fu call := by kernel_rfl
noncomputable def n19 : List W → HW → Nat → KW → Bool := appF 3 (R19 addW cmpW condW idxSW lenW loadSW 1000000 d3.fn)
theorem n19_ok : FnGood Try.prog tys stl tab 19 n19 := node_ok d3_ok (by kernel_rfl) rfl g19 (R19_eq real _ _)
/- foghorn/sums.on[uint16] -/
noncomputable def R27 (q_addW : Nat → Nat → Option CV → W → W → (W → Bool) → Bool) (q_cmpW : (Nat → Nat → Bool) → Nat → Option CV → W → W → (W → Bool) → Bool) (q_condW : W → Bool → Bool → Bool) (q_idxSW : Nat → W → W → (W → Bool) → Bool) (q_lenW : Option CV → W → (W → Bool) → Bool) (q_loadSW : HW → W → (W → Bool) → Bool) (fu : Nat) (call : CallW) (a0 : W) (a1 : W) (a2 : W) (h0 : HW) (c0 : Nat) (K : KW) : Bool :=
q_lenW (lenC tys 26 (dec a2)) a2 fun v1 =>
@Nat.rec (fun _ => Fun 2) (fun _ _ _ _ => false) (fun _ f6 v2 v3 h4 c5 =>
q_cmpW (cmpF2 .lss) 3 (binC Try.prog .lss 3 (.tmp 11) (.tmp 10) (dec v3) (dec v1)) v3 v1 fun v7 =>
q_condW v7 (
q_idxSW 1 a2 v3 fun v8 =>
q_loadSW h4 v8 fun v9 =>
call 35 [v2, a1, v9] h4 c5 fun v10 h11 c12 =>
q_addW 3 9223372036854775807 (binC Try.prog .add 3 (.tmp 11) (.const (.int .i64 (.ofNat 1))) (dec v3) (dec ⟨3, 1, r0, []⟩)) v3 ⟨3, 1, r0, []⟩ fun v13 =>
f6 v10 v13 h11 c12) (
K v2 h4 c5)) fu a0 ⟨3, 0, r0, []⟩ h0 c0
theorem R27_eq (Q : PrimW) (fu : Nat) (call : CallW) : curryA 3 (fnK Q Try.prog tys stl fu call e27) = R27 Q.addW Q.cmpW Q.condW Q.idxSW Q.lenW Q.loadSW fu call := by kernel_rfl
noncomputable def n27 : List W → HW → Nat → KW → Bool := appF 3 (R27 addW cmpW condW idxSW lenW loadSW 1000000 d3.fn)
theorem n27_ok : FnGood Try.prog tys stl tab 27 n27 := node_ok d3_ok (by kernel_rfl) rfl g27 (R27_eq real _ _)
/- foghorn/sums.ofBytes[uint32] -/
noncomputable def R32 (q_addW : Nat → Nat → Option CV → W → W → (W → Bool) → Bool) (q_subW : Nat → Nat → Option CV → W → W → (W → Bool) → Bool) (q_bitW : (Nat → Nat → Nat) → Nat → Nat → Option CV → W → W → (W → Bool) → Bool) (q_cmpW : (Nat → Nat → Bool) → Nat → Option CV → W → W → (W → Bool) → Bool) (q_shrW : Nat → Nat → Option CV → W → W → (W → Bool) → Bool) (q_condW : W → Bool → Bool → Bool) (q_idxSW : Nat → W → W → (W → Bool) → Bool) (q_lenW : Option CV → W → (W → Bool) → Bool) (q_loadSW : HW → W → (W → Bool) → Bool) (q_bytW : Bool → HW → Nat → W → KW → Bool) (fu : Nat) (call : CallW) (a0 : W) (a1 : W) (h0 : HW) (c0 : Nat) (K : KW) : Bool :=
q_bytW (bytOk tys 9 50) h0 c0 a1 fun v1 h2 c3 =>
q_lenW (lenC tys 50 (dec v1)) v1 fun v4 =>
@Nat.rec (fun _ => Fun 2) (fun _ _ _ _ => false) (fun _ f9 v5 v6 h7 c8 =>
q_cmpW (cmpF2 .lss) 3 (binC Try.prog .lss 3 (.tmp 12) (.tmp 11) (dec v6) (dec v4)) v6 v4 fun v10 =>
q_condW v10 (
q_idxSW 1 v1 v6 fun v11 =>
q_loadSW h7 v11 fun v12 =>
@Nat.rec (fun _ => Fun 2) (fun _ _ _ _ => false) (fun _ f17 v13 v14 h15 c16 =>
q_cmpW (cmpF2 .geq) 3 (binC Try.prog .geq 3 (.tmp 16) (.const (.int .i64 (.ofNat 0))) (dec v14) (dec ⟨3, 0, r0, []⟩)) v14 ⟨3, 0, r0, []⟩ fun v18 =>
q_condW v18 (
q_shrW 4 8 (binC Try.prog .shr 5 (.tmp 22) (.tmp 23) (dec v12) (dec v14)) v12 v14 fun v19 =>
q_bitW Nat.land 4 255 (binC Try.prog .and 5 (.tmp 24) (.const (.int .u8 (.ofNat 1))) (dec v19) (dec ⟨4, 1, r0, []⟩)) v19 ⟨4, 1, r0, []⟩ fun v20 =>
q_cmpW (cmpF2 .neq) 4 (binC Try.prog .neq 5 (.tmp 25) (.const (.int .u8 (.ofNat 0))) (dec v20) (dec ⟨4, 0, r0, []⟩)) v20 ⟨4, 0, r0, []⟩ fun v21 =>
call 20 [v13, a0, v21] h15 c16 fun v22 h23 c24 =>
q_subW 3 9223372036854775807 (binC Try.prog .sub 3 (.tmp 18) (.const (.int .i64 (.ofNat 1))) (dec v14) (dec ⟨3, 1, r0, []⟩)) v14 ⟨3, 1, r0, []⟩ fun v25 =>
f17 v22 v25 h23 c24) (
q_addW 3 9223372036854775807 (binC Try.prog .add 3 (.tmp 12) (.const (.int .i64 (.ofNat 1))) (dec v6) (dec ⟨3, 1, r0, []⟩)) v6 ⟨3, 1, r0, []⟩ fun v26 =>
f9 v13 v26 h15 c16)) fu v5 ⟨3, 7, r0, []⟩ h7 c8) (
K v5 h7 c8)) fu ⟨6, 0, r0, []⟩ ⟨3, 0, r0, []⟩ h2 c3
theorem R32_eq (Q : PrimW) (fu : Nat) (call : CallW) : curryA 2 (fnK Q Try.prog tys stl fu call e32) = R32 Q.addW Q.subW Q.bitW Q.cmpW Q.shrW Q.condW Q.idxSW Q.lenW Q.loadSW Q.bytW fu call := by kernel_rfl
noncomputable def n32 : List W → HW → Nat → KW → Bool := appF 2 (R32 addW subW bitW cmpW shrW condW idxSW lenW loadSW bytW 1000000 d3.fn)
theorem n32_ok : FnGood Try.prog tys stl tab 32 n32 := node_ok d3_ok (by kernel_rfl) rfl g32 (R32_eq real _ _)
/- foghorn/sums.ofBytes[uint16] -/
noncomputable def R34 (q_addW : Nat → Nat → Option CV → W → W → (W → Bool) → Bool) (q_subW : Nat → Nat → Option CV → W → W → (W → Bool) → Bool) (q_bitW : (Nat → Nat → Nat) → Nat → Nat → Option CV → W → W → (W → Bool) → Bool) (q_cmpW : (Nat → Nat → Bool) → Nat → Option CV → W → W → (W → Bool) → Bool) (q_shrW : Nat → Nat → Option CV → W → W → (W → Bool) → Bool) (q_condW : W → Bool → Bool → Bool) (q_idxSW : Nat → W → W → (W → Bool) → Bool) (q_lenW : Option CV → W → (W → Bool) → Bool) (q_loadSW : HW → W → (W → Bool) → Bool) (q_bytW : Bool → HW → Nat → W → KW → Bool) (fu : Nat) (call : CallW) (a0 : W) (a1 : W) (h0 : HW) (c0 : Nat) (K : KW) : Bool :=
q_bytW (bytOk tys 9 50) h0 c0 a1 fun v1 h2 c3 =>
q_lenW (lenC tys 50 (dec v1)) v1 fun v4 =>
@Nat.rec (fun _ => Fun 2) (fun _ _ _ _ => false) (fun _ f9 v5 v6 h7 c8 =>
q_cmpW (cmpF2 .lss) 3 (binC Try.prog .lss 3 (.tmp 12) (.tmp 11) (dec v6) (dec v4)) v6 v4 fun v10 =>
q_condW v10 (
q_idxSW 1 v1 v6 fun v11 =>
q_loadSW h7 v11 fun v12 =>
@Nat.rec (fun _ => Fun 2) (fun _ _ _ _ => false) (fun _ f17 v13 v14 h15 c16 =>
q_cmpW (cmpF2 .geq) 3 (binC Try.prog .geq 3 (.tmp 16) (.const (.int .i64 (.ofNat 0))) (dec v14) (dec ⟨3, 0, r0, []⟩)) v14 ⟨3, 0, r0, []⟩ fun v18 =>
q_condW v18 (
q_shrW 4 8 (binC Try.prog .shr 5 (.tmp 22) (.tmp 23) (dec v12) (dec v14)) v12 v14 fun v19 =>
q_bitW Nat.land 4 255 (binC Try.prog .and 5 (.tmp 24) (.const (.int .u8 (.ofNat 1))) (dec v19) (dec ⟨4, 1, r0, []⟩)) v19 ⟨4, 1, r0, []⟩ fun v20 =>
q_cmpW (cmpF2 .neq) 4 (binC Try.prog .neq 5 (.tmp 25) (.const (.int .u8 (.ofNat 0))) (dec v20) (dec ⟨4, 0, r0, []⟩)) v20 ⟨4, 0, r0, []⟩ fun v21 =>
call 35 [v13, a0, v21] h15 c16 fun v22 h23 c24 =>
q_subW 3 9223372036854775807 (binC Try.prog .sub 3 (.tmp 18) (.const (.int .i64 (.ofNat 1))) (dec v14) (dec ⟨3, 1, r0, []⟩)) v14 ⟨3, 1, r0, []⟩ fun v25 =>
f17 v22 v25 h23 c24) (
q_addW 3 9223372036854775807 (binC Try.prog .add 3 (.tmp 12) (.const (.int .i64 (.ofNat 1))) (dec v6) (dec ⟨3, 1, r0, []⟩)) v6 ⟨3, 1, r0, []⟩ fun v26 =>
f9 v13 v26 h15 c16)) fu v5 ⟨3, 7, r0, []⟩ h7 c8) (
K v5 h7 c8)) fu ⟨5, 0, r0, []⟩ ⟨3, 0, r0, []⟩ h2 c3
theorem R34_eq (Q : PrimW) (fu : Nat) (call : CallW) : curryA 2 (fnK Q Try.prog tys stl fu call e34) = R34 Q.addW Q.subW Q.bitW Q.cmpW Q.shrW Q.condW Q.idxSW Q.lenW Q.loadSW Q.bytW fu call := by kernel_rfl
noncomputable def n34 : List W → HW → Nat → KW → Bool := appF 2 (R34 addW subW bitW cmpW shrW condW idxSW lenW loadSW bytW 1000000 d3.fn)
theorem n34_ok : FnGood Try.prog tys stl tab 34 n34 := node_ok d3_ok (by kernel_rfl) rfl g34 (R34_eq real _ _)
noncomputable def d4 : Disp := (.node 29 n29 (.node 21 n21 (.node 19 n19 (.node 10 n10 (.node 9 n9 .leaf .leaf) .leaf) (.node 20 n20 .leaf .leaf)) (.node 27 n27 (.node 22 n22 .leaf .leaf) (.node 28 n28 .leaf .leaf))) (.node 34 n34 (.node 32 n32 (.node 31 n31 (.node 30 n30 .leaf .leaf) .leaf) (.node 33 n33 .leaf .leaf)) (.node 36 n36 (.node 35 n35 .leaf .leaf) (.node 37 n37 .leaf .leaf))))
theorem d4_ok : CallSim Try.prog tys stl tab d4.fn := Disp.sim ⟨n29_ok, ⟨n21_ok, ⟨n19_ok, ⟨n10_ok, ⟨n9_ok, True.intro, True.intro⟩, True.intro⟩, ⟨n20_ok, True.intro, True.intro⟩⟩, ⟨n27_ok, ⟨n22_ok, True.intro, True.intro⟩, ⟨n28_ok, True.intro, True.intro⟩⟩⟩, ⟨n34_ok, ⟨n32_ok, ⟨n31_ok, ⟨n30_ok, True.intro, True.intro⟩, True.intro⟩, ⟨n33_ok, True.intro, True.intro⟩⟩, ⟨n36_ok, ⟨n35_ok, True.intro, True.intro⟩, ⟨n37_ok, True.intro, True.intro⟩⟩⟩⟩
/- foghorn/sums.On32 -/
noncomputable def R8 (q_cmpW : (Nat → Nat → Bool) → Nat → Option CV → W → W → (W → Bool) → Bool) (q_condW : W → Bool → Bool → Bool) (q_lenW : Option CV → W → (W → Bool) → Bool) (fu : Nat) (call : CallW) (a0 : W) (a1 : W) (h0 : HW) (c0 : Nat) (K : KW) : Bool :=
q_lenW (lenC tys 26 (dec a1)) a1 fun v1 =>
q_cmpW (cmpF2 .gtr) 3 (binC Try.prog .gtr 3 (.tmp 7) (.const (.int .i64 (.ofNat 32768))) (dec v1) (dec ⟨3, 32768, r0, []⟩)) v1 ⟨3, 32768, r0, []⟩ fun v2 =>
q_condW v2 (
K ⟨13, 0, r0, [⟨6, 0, r0, []⟩, ⟨3, 1, r0, []⟩]⟩ h0 c0) (
call 19 [a0, ⟨6, 79764919, r0, []⟩, a1] h0 c0 fun v3 h4 c5 =>
K ⟨13, 0, r0, [v3, ⟨3, 0, r0, []⟩]⟩ h4 c5)
theorem R8_eq (Q : PrimW) (fu : Nat) (call : CallW) : curryA 2 (fnK Q Try.prog tys stl fu call e8) = R8 Q.cmpW Q.condW Q.lenW fu call := by kernel_rfl
noncomputable def n8 : List W → HW → Nat → KW → Bool := appF 2 (R8 cmpW condW lenW 1000000 d4.fn)
theorem n8_ok : FnGood Try.prog tys stl tab 8 n8 := node_ok d4_ok (by kernel_rfl) rfl g8 (R8_eq real _ _)
/- foghorn/sums.On16 -/
noncomputable def R16 (q_cmpW : (Nat → Nat → Bool) → Nat → Option CV → W → W → (W → Bool) → Bool) (q_condW : W → Bool → Bool → Bool) (q_lenW : Option CV → W → (W → Bool) → Bool) (fu : Nat) (call : CallW) (a0 : W) (a1 : W) (h0 : HW) (c0 : Nat) (K : KW) : Bool :=
q_lenW (lenC tys 26 (dec a1)) a1 fun v1 =>
q_cmpW (cmpF2 .gtr) 3 (binC Try.prog .gtr 3 (.tmp 7) (.const (.int .i64 (.ofNat 32768))) (dec v1) (dec ⟨3, 32768, r0, []⟩)) v1 ⟨3, 32768, r0, []⟩ fun v2 =>
q_condW v2 (
K ⟨13, 0, r0, [⟨5, 0, r0, []⟩, ⟨3, 1, r0, []⟩]⟩ h0 c0) (
call 27 [a0, ⟨5, 4129, r0, []⟩, a1] h0 c0 fun v3 h4 c5 =>
K ⟨13, 0, r0, [v3, ⟨3, 0, r0, []⟩]⟩ h4 c5)
theorem R16_eq (Q : PrimW) (fu : Nat) (call : CallW) : curryA 2 (fnK Q Try.prog tys stl fu call e16) = R16 Q.cmpW Q.condW Q.lenW fu call := by kernel_rfl
noncomputable def n16 : List W → HW → Nat → KW → Bool := appF 2 (R16 cmpW condW lenW 1000000 d4.fn)
theorem n16_ok : FnGood Try.prog tys stl tab 16 n16 := node_ok d4_ok (by kernel_rfl) rfl g16 (R16_eq real _ _)
/- foghorn/sums.row[uint16] -/
noncomputable def R17 (q_addW : Nat → Nat → Option CV → W → W → (W → Bool) → Bool) (q_subW : Nat → Nat → Option CV → W → W → (W → Bool) → Bool) (q_bitW : (Nat → Nat → Nat) → Nat → Nat → Option CV → W → W → (W → Bool) → Bool) (q_cmpW : (Nat → Nat → Bool) → Nat → Option CV → W → W → (W → Bool) → Bool) (q_shrW : Nat → Nat → Option CV → W → W → (W → Bool) → Bool) (q_condW : W → Bool → Bool → Bool) (q_idxSW : Nat → W → W → (W → Bool) → Bool) (q_lenW : Option CV → W → (W → Bool) → Bool) (q_storeSW : HW → W → W → (HW → Bool) → Bool) (q_makeSW : Nat → Nat → Nat → Kind → List W → Bool → HW → Nat → W → W → KW → Bool) (q_buildSW : Nat → Nat → Kind → Nat → Bool → HW → Nat → Nat → List W → KW → Bool) (fu : Nat) (call : CallW) (a0 : W) (a1 : W) (h0 : HW) (c0 : Nat) (K : KW) : Bool :=
call 28 [⟨5, 0, r0, []⟩] h0 c0 fun v1 h2 c3 =>
q_lenW (lenC tys 26 (dec a1)) a1 fun v4 =>
q_subW 3 9223372036854775807 (binC Try.prog .sub 3 (.const (.int .i64 (.ofNat 32768))) (.tmp 15) (dec ⟨3, 32768, r0, []⟩) (dec v1)) ⟨3, 32768, r0, []⟩ v1 fun v5 =>
q_cmpW (cmpF2 .gtr) 3 (binC Try.prog .gtr 3 (.tmp 14) (.tmp 16) (dec v4) (dec v5)) v4 v5 fun v6 =>
q_condW v6 (
K ⟨13, 0, r0, [⟨12, 0, ⟨0, 0, 0, .nils⟩, []⟩, ⟨3, 1, r0, []⟩]⟩ h2 c3) (
q_makeSW 1 1 8 .bools [⟨8, 0, r0, []⟩] true h2 c3 v1 v1 fun v7 h8 c9 =>
q_buildSW 1 9 .avs 2 true h8 c9 2 [a1, v7] fun v10 h11 c12 =>
call 29 [v10] h11 c12 fun v13 h14 c15 =>
call 27 [⟨5, 0, r0, []⟩, a0, a1] h14 c15 fun v16 h17 c18 =>
@Nat.rec (fun _ => Fun 1) (fun _ _ _ => false) (fun _ f22 v19 h20 c21 =>
q_cmpW (cmpF2 .lss) 3 (binC Try.prog .lss 3 (.tmp 28) (.tmp 27) (dec v19) (dec v1)) v19 v1 fun v23 =>
q_condW v23 (
q_lenW (lenC tys 26 (dec a1)) a1 fun v24 =>
q_addW 3 9223372036854775807 (binC Try.prog .add 3 (.tmp 33) (.tmp 34) (dec v24) (dec v19)) v24 v19 fun v25 =>
q_subW 3 9223372036854775807 (binC Try.prog .sub 3 (.tmp 37) (.const (.int .i64 (.ofNat 1))) (dec v1) (dec ⟨3, 1, r0, []⟩)) v1 ⟨3, 1, r0, []⟩ fun v26 =>
q_subW 3 9223372036854775807 (binC Try.prog .sub 3 (.tmp 38) (.tmp 39) (dec v26) (dec v19)) v26 v19 fun v27 =>
q_shrW 5 16 (binC Try.prog .shr 22 (.tmp 36) (.tmp 40) (dec v16) (dec v27)) v16 v27 fun v28 =>
q_bitW Nat.land 5 65535 (binC Try.prog .and 22 (.tmp 41) (.const (.int .u16 (.ofNat 1))) (dec v28) (dec ⟨5, 1, r0, []⟩)) v28 ⟨5, 1, r0, []⟩ fun v29 =>
q_cmpW (cmpF2 .neq) 5 (binC Try.prog .neq 22 (.tmp 42) (.const (.int .u16 (.ofNat 0))) (dec v29) (dec ⟨5, 0, r0, []⟩)) v29 ⟨5, 0, r0, []⟩ fun v30 =>
q_idxSW 1 v13 v25 fun v31 =>
q_storeSW h20 v31 v30 fun h32 =>
q_addW 3 9223372036854775807 (binC Try.prog .add 3 (.tmp 28) (.const (.int .i64 (.ofNat 1))) (dec v19) (dec ⟨3, 1, r0, []⟩)) v19 ⟨3, 1, r0, []⟩ fun v33 =>
f22 v33 h32 c21) (
K ⟨13, 0, r0, [v13, ⟨3, 0, r0, []⟩]⟩ h20 c21)) fu ⟨3, 0, r0, []⟩ h17 c18)
theorem R17_eq (Q : PrimW) (fu : Nat) (call : CallW) : curryA 2 (fnK Q Try.prog tys stl fu call e17) = R17 Q.addW Q.subW Q.bitW Q.cmpW Q.shrW Q.condW Q.idxSW Q.lenW Q.storeSW Q.makeSW Q.buildSW fu call := by kernel_rfl
noncomputable def n17 : List W → HW → Nat → KW → Bool := appF 2 (R17 addW subW bitW cmpW shrW condW idxSW lenW storeSW makeSW buildSW 1000000 d4.fn)
theorem n17_ok : FnGood Try.prog tys stl tab 17 n17 := node_ok d4_ok (by kernel_rfl) rfl g17 (R17_eq real _ _)
/- foghorn/sums.row[uint32] -/
noncomputable def R18 (q_addW : Nat → Nat → Option CV → W → W → (W → Bool) → Bool) (q_subW : Nat → Nat → Option CV → W → W → (W → Bool) → Bool) (q_bitW : (Nat → Nat → Nat) → Nat → Nat → Option CV → W → W → (W → Bool) → Bool) (q_cmpW : (Nat → Nat → Bool) → Nat → Option CV → W → W → (W → Bool) → Bool) (q_shrW : Nat → Nat → Option CV → W → W → (W → Bool) → Bool) (q_condW : W → Bool → Bool → Bool) (q_idxSW : Nat → W → W → (W → Bool) → Bool) (q_lenW : Option CV → W → (W → Bool) → Bool) (q_storeSW : HW → W → W → (HW → Bool) → Bool) (q_makeSW : Nat → Nat → Nat → Kind → List W → Bool → HW → Nat → W → W → KW → Bool) (q_buildSW : Nat → Nat → Kind → Nat → Bool → HW → Nat → Nat → List W → KW → Bool) (fu : Nat) (call : CallW) (a0 : W) (a1 : W) (h0 : HW) (c0 : Nat) (K : KW) : Bool :=
call 30 [⟨6, 0, r0, []⟩] h0 c0 fun v1 h2 c3 =>
q_lenW (lenC tys 26 (dec a1)) a1 fun v4 =>
q_subW 3 9223372036854775807 (binC Try.prog .sub 3 (.const (.int .i64 (.ofNat 32768))) (.tmp 15) (dec ⟨3, 32768, r0, []⟩) (dec v1)) ⟨3, 32768, r0, []⟩ v1 fun v5 =>
q_cmpW (cmpF2 .gtr) 3 (binC Try.prog .gtr 3 (.tmp 14) (.tmp 16) (dec v4) (dec v5)) v4 v5 fun v6 =>
q_condW v6 (
K ⟨13, 0, r0, [⟨12, 0, ⟨0, 0, 0, .nils⟩, []⟩, ⟨3, 1, r0, []⟩]⟩ h2 c3) (
q_makeSW 1 1 8 .bools [⟨8, 0, r0, []⟩] true h2 c3 v1 v1 fun v7 h8 c9 =>
q_buildSW 1 9 .avs 2 true h8 c9 2 [a1, v7] fun v10 h11 c12 =>
call 29 [v10] h11 c12 fun v13 h14 c15 =>
call 19 [⟨6, 0, r0, []⟩, a0, a1] h14 c15 fun v16 h17 c18 =>
@Nat.rec (fun _ => Fun 1) (fun _ _ _ => false) (fun _ f22 v19 h20 c21 =>
q_cmpW (cmpF2 .lss) 3 (binC Try.prog .lss 3 (.tmp 28) (.tmp 27) (dec v19) (dec v1)) v19 v1 fun v23 =>
q_condW v23 (
q_lenW (lenC tys 26 (dec a1)) a1 fun v24 =>
q_addW 3 9223372036854775807 (binC Try.prog .add 3 (.tmp 33) (.tmp 34) (dec v24) (dec v19)) v24 v19 fun v25 =>
q_subW 3 9223372036854775807 (binC Try.prog .sub 3 (.tmp 37) (.const (.int .i64 (.ofNat 1))) (dec v1) (dec ⟨3, 1, r0, []⟩)) v1 ⟨3, 1, r0, []⟩ fun v26 =>
q_subW 3 9223372036854775807 (binC Try.prog .sub 3 (.tmp 38) (.tmp 39) (dec v26) (dec v19)) v26 v19 fun v27 =>
q_shrW 6 32 (binC Try.prog .shr 27 (.tmp 36) (.tmp 40) (dec v16) (dec v27)) v16 v27 fun v28 =>
q_bitW Nat.land 6 4294967295 (binC Try.prog .and 27 (.tmp 41) (.const (.int .u32 (.ofNat 1))) (dec v28) (dec ⟨6, 1, r0, []⟩)) v28 ⟨6, 1, r0, []⟩ fun v29 =>
q_cmpW (cmpF2 .neq) 6 (binC Try.prog .neq 27 (.tmp 42) (.const (.int .u32 (.ofNat 0))) (dec v29) (dec ⟨6, 0, r0, []⟩)) v29 ⟨6, 0, r0, []⟩ fun v30 =>
q_idxSW 1 v13 v25 fun v31 =>
q_storeSW h20 v31 v30 fun h32 =>
q_addW 3 9223372036854775807 (binC Try.prog .add 3 (.tmp 28) (.const (.int .i64 (.ofNat 1))) (dec v19) (dec ⟨3, 1, r0, []⟩)) v19 ⟨3, 1, r0, []⟩ fun v33 =>
f22 v33 h32 c21) (
K ⟨13, 0, r0, [v13, ⟨3, 0, r0, []⟩]⟩ h20 c21)) fu ⟨3, 0, r0, []⟩ h17 c18)
theorem R18_eq (Q : PrimW) (fu : Nat) (call : CallW) : curryA 2 (fnK Q Try.prog tys stl fu call e18) = R18 Q.addW Q.subW Q.bitW Q.cmpW Q.shrW Q.condW Q.idxSW Q.lenW Q.storeSW Q.makeSW Q.buildSW fu call := by kernel_rfl
noncomputable def n18 : List W → HW → Nat → KW → Bool := appF 2 (R18 addW subW bitW cmpW shrW condW idxSW lenW storeSW makeSW buildSW 1000000 d4.fn)
theorem n18_ok : FnGood Try.prog tys stl tab 18 n18 := node_ok d4_ok (by kernel_rfl) rfl g18 (R18_eq real _ _)
/- foghorn/sums.Bytes32 -/
noncomputable def R23 (fu : Nat) (call : CallW) (a0 : W) (h0 : HW) (c0 : Nat) (K : KW) : Bool :=
call 32 [⟨6, 79764919, r0, []⟩, a0] h0 c0 fun v1 h2 c3 =>
K v1 h2 c3
theorem R23_eq (Q : PrimW) (fu : Nat) (call : CallW) : curryA 1 (fnK Q Try.prog tys stl fu call e23) = R23 fu call := by kernel_rfl
noncomputable def n23 : List W → HW → Nat → KW → Bool := appF 1 (R23 1000000 d4.fn)
theorem n23_ok : FnGood Try.prog tys stl tab 23 n23 := node_ok d4_ok (by kernel_rfl) rfl g23 (R23_eq real _ _)
/- foghorn/sums.Bytes16 -/
noncomputable def R26 (fu : Nat) (call : CallW) (a0 : W) (h0 : HW) (c0 : Nat) (K : KW) : Bool :=
call 34 [⟨5, 4129, r0, []⟩, a0] h0 c0 fun v1 h2 c3 =>
K v1 h2 c3
theorem R26_eq (Q : PrimW) (fu : Nat) (call : CallW) : curryA 1 (fnK Q Try.prog tys stl fu call e26) = R26 fu call := by kernel_rfl
noncomputable def n26 : List W → HW → Nat → KW → Bool := appF 1 (R26 1000000 d4.fn)
theorem n26_ok : FnGood Try.prog tys stl tab 26 n26 := node_ok d4_ok (by kernel_rfl) rfl g26 (R26_eq real _ _)
noncomputable def d5 : Disp := (.node 26 n26 (.node 18 n18 (.node 10 n10 (.node 9 n9 (.node 8 n8 .leaf .leaf) .leaf) (.node 17 n17 (.node 16 n16 .leaf .leaf) .leaf)) (.node 21 n21 (.node 20 n20 (.node 19 n19 .leaf .leaf) .leaf) (.node 23 n23 (.node 22 n22 .leaf .leaf) .leaf))) (.node 32 n32 (.node 29 n29 (.node 28 n28 (.node 27 n27 .leaf .leaf) .leaf) (.node 31 n31 (.node 30 n30 .leaf .leaf) .leaf)) (.node 35 n35 (.node 34 n34 (.node 33 n33 .leaf .leaf) .leaf) (.node 37 n37 (.node 36 n36 .leaf .leaf) .leaf))))
theorem d5_ok : CallSim Try.prog tys stl tab d5.fn := Disp.sim ⟨n26_ok, ⟨n18_ok, ⟨n10_ok, ⟨n9_ok, ⟨n8_ok, True.intro, True.intro⟩, True.intro⟩, ⟨n17_ok, ⟨n16_ok, True.intro, True.intro⟩, True.intro⟩⟩, ⟨n21_ok, ⟨n20_ok, ⟨n19_ok, True.intro, True.intro⟩, True.intro⟩, ⟨n23_ok, ⟨n22_ok, True.intro, True.intro⟩, True.intro⟩⟩⟩, ⟨n32_ok, ⟨n29_ok, ⟨n28_ok, ⟨n27_ok, True.intro, True.intro⟩, True.intro⟩, ⟨n31_ok, ⟨n30_ok, True.intro, True.intro⟩, True.intro⟩⟩, ⟨n35_ok, ⟨n34_ok, ⟨n33_ok, True.intro, True.intro⟩, True.intro⟩, ⟨n37_ok, ⟨n36_ok, True.intro, True.intro⟩, True.intro⟩⟩⟩⟩
/- foghorn/sums.Sum16 -/
noncomputable def R4 (q_tupW : W → (List W → Bool) → Bool) (q_nthW : Nat → List W → (W → Bool) → Bool) (fu : Nat) (call : CallW) (a0 : W) (h0 : HW) (c0 : Nat) (K : KW) : Bool :=
call 16 [⟨5, 0, r0, []⟩, a0] h0 c0 fun v1 h2 c3 =>
q_tupW v1 fun l4 => q_nthW 0 l4 fun v5 =>
q_tupW v1 fun l6 => q_nthW 1 l6 fun v7 =>
K ⟨13, 0, r0, [v5, v7]⟩ h2 c3
theorem R4_eq (Q : PrimW) (fu : Nat) (call : CallW) : curryA 1 (fnK Q Try.prog tys stl fu call e4) = R4 Q.tupW Q.nthW fu call := by kernel_rfl
noncomputable def n4 : List W → HW → Nat → KW → Bool := appF 1 (R4 tupW nthW 1000000 d5.fn)
theorem n4_ok : FnGood Try.prog tys stl tab 4 n4 := node_ok d5_ok (by kernel_rfl) rfl g4 (R4_eq real _ _)
/- foghorn/sums.Sum32 -/
noncomputable def R5 (q_tupW : W → (List W → Bool) → Bool) (q_nthW : Nat → List W → (W → Bool) → Bool) (fu : Nat) (call : CallW) (a0 : W) (h0 : HW) (c0 : Nat) (K : KW) : Bool :=
call 8 [⟨6, 0, r0, []⟩, a0] h0 c0 fun v1 h2 c3 =>
q_tupW v1 fun l4 => q_nthW 0 l4 fun v5 =>
q_tupW v1 fun l6 => q_nthW 1 l6 fun v7 =>
K ⟨13, 0, r0, [v5, v7]⟩ h2 c3
theorem R5_eq (Q : PrimW) (fu : Nat) (call : CallW) : curryA 1 (fnK Q Try.prog tys stl fu call e5) = R5 Q.tupW Q.nthW fu call := by kernel_rfl
noncomputable def n5 : List W → HW → Nat → KW → Bool := appF 1 (R5 tupW nthW 1000000 d5.fn)
theorem n5_ok : FnGood Try.prog tys stl tab 5 n5 := node_ok d5_ok (by kernel_rfl) rfl g5 (R5_eq real _ _)
/- foghorn/sums.Row16 -/
noncomputable def R6 (q_tupW : W → (List W → Bool) → Bool) (q_nthW : Nat → List W → (W → Bool) → Bool) (fu : Nat) (call : CallW) (a0 : W) (h0 : HW) (c0 : Nat) (K : KW) : Bool :=
call 17 [⟨5, 4129, r0, []⟩, a0] h0 c0 fun v1 h2 c3 =>
q_tupW v1 fun l4 => q_nthW 0 l4 fun v5 =>
q_tupW v1 fun l6 => q_nthW 1 l6 fun v7 =>
K ⟨13, 0, r0, [v5, v7]⟩ h2 c3
theorem R6_eq (Q : PrimW) (fu : Nat) (call : CallW) : curryA 1 (fnK Q Try.prog tys stl fu call e6) = R6 Q.tupW Q.nthW fu call := by kernel_rfl
noncomputable def n6 : List W → HW → Nat → KW → Bool := appF 1 (R6 tupW nthW 1000000 d5.fn)
theorem n6_ok : FnGood Try.prog tys stl tab 6 n6 := node_ok d5_ok (by kernel_rfl) rfl g6 (R6_eq real _ _)
/- foghorn/sums.Row32 -/
noncomputable def R7 (q_tupW : W → (List W → Bool) → Bool) (q_nthW : Nat → List W → (W → Bool) → Bool) (fu : Nat) (call : CallW) (a0 : W) (h0 : HW) (c0 : Nat) (K : KW) : Bool :=
call 18 [⟨6, 79764919, r0, []⟩, a0] h0 c0 fun v1 h2 c3 =>
q_tupW v1 fun l4 => q_nthW 0 l4 fun v5 =>
q_tupW v1 fun l6 => q_nthW 1 l6 fun v7 =>
K ⟨13, 0, r0, [v5, v7]⟩ h2 c3
theorem R7_eq (Q : PrimW) (fu : Nat) (call : CallW) : curryA 1 (fnK Q Try.prog tys stl fu call e7) = R7 Q.tupW Q.nthW fu call := by kernel_rfl
noncomputable def n7 : List W → HW → Nat → KW → Bool := appF 1 (R7 tupW nthW 1000000 d5.fn)
theorem n7_ok : FnGood Try.prog tys stl tab 7 n7 := node_ok d5_ok (by kernel_rfl) rfl g7 (R7_eq real _ _)
/- foghorn/sums.Sealed -/
noncomputable def R12 (q_genW : Option CV → (W → Bool) → Bool) (q_shrW : Nat → Nat → Option CV → W → W → (W → Bool) → Bool) (q_icvW : Nat → Nat → Option CV → W → (W → Bool) → Bool) (q_buildSW : Nat → Nat → Kind → Nat → Bool → HW → Nat → Nat → List W → KW → Bool) (fu : Nat) (call : CallW) (a0 : W) (h0 : HW) (c0 : Nat) (K : KW) : Bool :=
call 23 [a0] h0 c0 fun v1 h2 c3 =>
q_shrW 6 32 (binC Try.prog .shr 27 (.tmp 7) (.const (.int .u64 (.ofNat 24))) (dec v1) (dec ⟨7, 24, r0, []⟩)) v1 ⟨7, 24, r0, []⟩ fun v4 =>
q_icvW 4 255 (convC Try.prog tys ⟨[], 0, decH h2, 0⟩ 27 5 (dec v4)) v4 fun v5 =>
q_shrW 6 32 (binC Try.prog .shr 27 (.tmp 10) (.const (.int .u64 (.ofNat 16))) (dec v1) (dec ⟨7, 16, r0, []⟩)) v1 ⟨7, 16, r0, []⟩ fun v6 =>
q_icvW 4 255 (convC Try.prog tys ⟨[], 0, decH h2, 0⟩ 27 5 (dec v6)) v6 fun v7 =>
q_shrW 6 32 (binC Try.prog .shr 27 (.tmp 13) (.const (.int .u64 (.ofNat 8))) (dec v1) (dec ⟨7, 8, r0, []⟩)) v1 ⟨7, 8, r0, []⟩ fun v8 =>
q_icvW 4 255 (convC Try.prog tys ⟨[], 0, decH h2, 0⟩ 27 5 (dec v8)) v8 fun v9 =>
q_icvW 4 255 (convC Try.prog tys ⟨[], 0, decH h2, 0⟩ 27 5 (dec v1)) v1 fun v10 =>
q_buildSW 1 4 (.ints .u8) 4 true h2 c3 4 [v5, v7, v9, v10] fun v11 h12 c13 =>
q_genW (convC Try.prog tys ⟨[], 0, decH h12, 0⟩ 50 9 (dec v11)) fun v14 =>
q_genW (binC Try.prog .add 9 (.tmp 6) (.tmp 19) (dec a0) (dec v14)) fun v15 =>
K v15 h12 c13
theorem R12_eq (Q : PrimW) (fu : Nat) (call : CallW) : curryA 1 (fnK Q Try.prog tys stl fu call e12) = R12 Q.genW Q.shrW Q.icvW Q.buildSW fu call := by kernel_rfl
noncomputable def n12 : List W → HW → Nat → KW → Bool := appF 1 (R12 genW shrW icvW buildSW 1000000 d5.fn)
theorem n12_ok : FnGood Try.prog tys stl tab 12 n12 := node_ok d5_ok (by kernel_rfl) rfl g12 (R12_eq real _ _)
/- foghorn/sums.fits[uint16] -/
noncomputable def R24 (q_share : (α : Type) → α → (α → Bool) → Bool) (q_genW : Option CV → (W → Bool) → Bool) (q_subW : Nat → Nat → Option CV → W → W → (W → Bool) → Bool) (q_cmpW : (Nat → Nat → Bool) → Nat → Option CV → W → W → (W → Bool) → Bool) (q_condW : W → Bool → Bool → Bool) (q_guardW : Bool → W → Bool → Bool → Bool) (q_pickW : W → W → W → (W → Bool) → Bool) (q_lenW : Option CV → W → (W → Bool) → Bool) (q_tupW : W → (List W → Bool) → Bool) (q_nthW : Nat → List W → (W → Bool) → Bool) (fu : Nat) (call : CallW) (a0 : W) (a1 : W) (h0 : HW) (c0 : Nat) (K : KW) : Bool :=
q_lenW (lenC tys 26 (dec a1)) a1 fun v1 =>
call 28 [⟨5, 0, r0, []⟩] h0 c0 fun v2 h3 c4 =>
q_subW 3 9223372036854775807 (binC Try.prog .sub 3 (.tmp 10) (.tmp 12) (dec v1) (dec v2)) v1 v2 fun v5 =>
q_cmpW (cmpF2 .lss) 3 (binC Try.prog .lss 3 (.tmp 14) (.const (.int .i64 (.ofNat 0))) (dec v5) (dec ⟨3, 0, r0, []⟩)) v5 ⟨3, 0, r0, []⟩ fun v6 =>
q_share _ (fun (v8 : W) (h9 : HW) (c10 : Nat) =>
q_share _ (fun (v12 : W) (h13 : HW) (c14 : Nat) =>
q_share _ (fun (v16 : W) (h17 : HW) (c18 : Nat) =>
q_pickW v6 ⟨8, 1, r0, []⟩ v16 fun v19 =>
q_condW v19 (
K ⟨8, 0, r0, []⟩ h17 c18) (
q_genW (sliceM tys ⟨[], 0, decH h17, 0⟩ 26 (dec a1) none (some (dec v5)) none) fun v20 =>
call 17 [a0, v20] h17 c18 fun v21 h22 c23 =>
q_tupW v21 fun l24 => q_nthW 0 l24 fun v25 =>
q_tupW v21 fun l26 => q_nthW 1 l26 fun v27 =>
call 33 [v25, a1] h22 c23 fun v28 h29 c30 =>
K v28 h29 c30)) fun f15 =>
q_guardW false v6 (q_cmpW (cmpF2 .gtr) 3 (binC Try.prog .gtr 3 (.tmp 18) (.const (.int .i64 (.ofNat 32768))) (dec v12) (dec ⟨3, 32768, r0, []⟩)) v12 ⟨3, 32768, r0, []⟩ fun v31 =>
f15 v31 h13 c14) (f15 wUnd h13 c14)) fun f11 =>
q_guardW false v6 (q_lenW (lenC tys 26 (dec v8)) v8 fun v32 =>
f11 v32 h9 c10) (f11 wUnd h9 c10)) fun f7 =>
q_guardW false v6 (f7 a1 h3 c4) (f7 wUnd h3 c4)
theorem R24_eq (Q : PrimW) (fu : Nat) (call : CallW) : curryA 2 (fnK Q Try.prog tys stl fu call e24) = R24 Q.share Q.genW Q.subW Q.cmpW Q.condW Q.guardW Q.pickW Q.lenW Q.tupW Q.nthW fu call := by kernel_rfl
noncomputable def n24 : List W → HW → Nat → KW → Bool := appF 2 (R24 (fun _ x f => f x) genW subW cmpW condW guardW pickW lenW tupW nthW 1000000 d5.fn)
theorem n24_ok : FnGood Try.prog tys stl tab 24 n24 := node_ok d5_ok (by kernel_rfl) rfl g24 (R24_eq real _ _)
/- foghorn/sums.fits[uint32] -/
noncomputable def R25 (q_share : (α : Type) → α → (α → Bool) → Bool) (q_genW : Option CV → (W → Bool) → Bool) (q_subW : Nat → Nat → Option CV → W → W → (W → Bool) → Bool) (q_cmpW : (Nat → Nat → Bool) → Nat → Option CV → W → W → (W → Bool) → Bool) (q_condW : W → Bool → Bool → Bool) (q_guardW : Bool → W → Bool → Bool → Bool) (q_pickW : W → W → W → (W → Bool) → Bool) (q_lenW : Option CV → W → (W → Bool) → Bool) (q_tupW : W → (List W → Bool) → Bool) (q_nthW : Nat → List W → (W → Bool) → Bool) (fu : Nat) (call : CallW) (a0 : W) (a1 : W) (h0 : HW) (c0 : Nat) (K : KW) : Bool :=
q_lenW (lenC tys 26 (dec a1)) a1 fun v1 =>
call 30 [⟨6, 0, r0, []⟩] h0 c0 fun v2 h3 c4 =>
q_subW 3 9223372036854775807 (binC Try.prog .sub 3 (.tmp 10) (.tmp 12) (dec v1) (dec v2)) v1 v2 fun v5 =>
q_cmpW (cmpF2 .lss) 3 (binC Try.prog .lss 3 (.tmp 14) (.const (.int .i64 (.ofNat 0))) (dec v5) (dec ⟨3, 0, r0, []⟩)) v5 ⟨3, 0, r0, []⟩ fun v6 =>
q_share _ (fun (v8 : W) (h9 : HW) (c10 : Nat) =>
q_share _ (fun (v12 : W) (h13 : HW) (c14 : Nat) =>
q_share _ (fun (v16 : W) (h17 : HW) (c18 : Nat) =>
q_pickW v6 ⟨8, 1, r0, []⟩ v16 fun v19 =>
q_condW v19 (
K ⟨8, 0, r0, []⟩ h17 c18) (
q_genW (sliceM tys ⟨[], 0, decH h17, 0⟩ 26 (dec a1) none (some (dec v5)) none) fun v20 =>
call 18 [a0, v20] h17 c18 fun v21 h22 c23 =>
q_tupW v21 fun l24 => q_nthW 0 l24 fun v25 =>
q_tupW v21 fun l26 => q_nthW 1 l26 fun v27 =>
call 33 [v25, a1] h22 c23 fun v28 h29 c30 =>
K v28 h29 c30)) fun f15 =>
q_guardW false v6 (q_cmpW (cmpF2 .gtr) 3 (binC Try.prog .gtr 3 (.tmp 18) (.const (.int .i64 (.ofNat 32768))) (dec v12) (dec ⟨3, 32768, r0, []⟩)) v12 ⟨3, 32768, r0, []⟩ fun v31 =>
f15 v31 h13 c14) (f15 wUnd h13 c14)) fun f11 =>
q_guardW false v6 (q_lenW (lenC tys 26 (dec v8)) v8 fun v32 =>
f11 v32 h9 c10) (f11 wUnd h9 c10)) fun f7 =>
q_guardW false v6 (f7 a1 h3 c4) (f7 wUnd h3 c4)
theorem R25_eq (Q : PrimW) (fu : Nat) (call : CallW) : curryA 2 (fnK Q Try.prog tys stl fu call e25) = R25 Q.share Q.genW Q.subW Q.cmpW Q.condW Q.guardW Q.pickW Q.lenW Q.tupW Q.nthW fu call := by kernel_rfl
noncomputable def n25 : List W → HW → Nat → KW → Bool := appF 2 (R25 (fun _ x f => f x) genW subW cmpW condW guardW pickW lenW tupW nthW 1000000 d5.fn)
theorem n25_ok : FnGood Try.prog tys stl tab 25 n25 := node_ok d5_ok (by kernel_rfl) rfl g25 (R25_eq real _ _)
noncomputable def d6 : Disp := (.node 23 n23 (.node 12 n12 (.node 7 n7 (.node 5 n5 (.node 4 n4 .leaf .leaf) (.node 6 n6 .leaf .leaf)) (.node 9 n9 (.node 8 n8 .leaf .leaf) (.node 10 n10 .leaf .leaf))) (.node 19 n19 (.node 17 n17 (.node 16 n16 .leaf .leaf) (.node 18 n18 .leaf .leaf)) (.node 21 n21 (.node 20 n20 .leaf .leaf) (.node 22 n22 .leaf .leaf)))) (.node 31 n31 (.node 27 n27 (.node 25 n25 (.node 24 n24 .leaf .leaf) (.node 26 n26 .leaf .leaf)) (.node 29 n29 (.node 28 n28 .leaf .leaf) (.node 30 n30 .leaf .leaf))) (.node 35 n35 (.node 33 n33 (.node 32 n32 .leaf .leaf) (.node 34 n34 .leaf .leaf)) (.node 37 n37 (.node 36 n36 .leaf .leaf) .leaf))))
theorem d6_ok : CallSim Try.prog tys stl tab d6.fn := Disp.sim ⟨n23_ok, ⟨n12_ok, ⟨n7_ok, ⟨n5_ok, ⟨n4_ok, True.intro, True.intro⟩, ⟨n6_ok, True.intro, True.intro⟩⟩, ⟨n9_ok, ⟨n8_ok, True.intro, True.intro⟩, ⟨n10_ok, True.intro, True.intro⟩⟩⟩, ⟨n19_ok, ⟨n17_ok, ⟨n16_ok, True.intro, True.intro⟩, ⟨n18_ok, True.intro, True.intro⟩⟩, ⟨n21_ok, ⟨n20_ok, True.intro, True.intro⟩, ⟨n22_ok, True.intro, True.intro⟩⟩⟩⟩, ⟨n31_ok, ⟨n27_ok, ⟨n25_ok, ⟨n24_ok, True.intro, True.intro⟩, ⟨n26_ok, True.intro, True.intro⟩⟩, ⟨n29_ok, ⟨n28_ok, True.intro, True.intro⟩, ⟨n30_ok, True.intro, True.intro⟩⟩⟩, ⟨n35_ok, ⟨n33_ok, ⟨n32_ok, True.intro, True.intro⟩, ⟨n34_ok, True.intro, True.intro⟩⟩, ⟨n37_ok, ⟨n36_ok, True.intro, True.intro⟩, True.intro⟩⟩⟩⟩
/- foghorn/sums.Opened -/
noncomputable def R11 (q_genW : Option CV → (W → Bool) → Bool) (q_subW : Nat → Nat → Option CV → W → W → (W → Bool) → Bool) (q_cmpW : (Nat → Nat → Bool) → Nat → Option CV → W → W → (W → Bool) → Bool) (q_condW : W → Bool → Bool → Bool) (fu : Nat) (call : CallW) (a0 : W) (h0 : HW) (c0 : Nat) (K : KW) : Bool :=
q_genW (lenMC Try.prog tys ⟨[], 0, decH h0, 0⟩ 9 (dec a0)) fun v1 =>
q_cmpW (cmpF2 .lss) 3 (binC Try.prog .lss 3 (.tmp 6) (.const (.int .i64 (.ofNat 4))) (dec v1) (dec ⟨3, 4, r0, []⟩)) v1 ⟨3, 4, r0, []⟩ fun v2 =>
q_condW v2 (
K ⟨13, 0, r0, [⟨12, 0, ⟨0, 0, 0, .str ⟨⟨[]⟩⟩⟩, []⟩, ⟨8, 0, r0, []⟩]⟩ h0 c0) (
q_genW (lenMC Try.prog tys ⟨[], 0, decH h0, 0⟩ 9 (dec a0)) fun v3 =>
q_subW 3 9223372036854775807 (binC Try.prog .sub 3 (.tmp 10) (.const (.int .i64 (.ofNat 4))) (dec v3) (dec ⟨3, 4, r0, []⟩)) v3 ⟨3, 4, r0, []⟩ fun v4 =>
q_genW (sliceM tys ⟨[], 0, decH h0, 0⟩ 9 (dec a0) none (some (dec v4)) none) fun v5 =>
call 12 [v5] h0 c0 fun v6 h7 c8 =>
q_genW (binC Try.prog .neq 9 (.tmp 14) (.tmp 15) (dec v6) (dec a0)) fun v9 =>
q_condW v9 (
K ⟨13, 0, r0, [⟨12, 0, ⟨0, 0, 0, .str ⟨⟨[]⟩⟩⟩, []⟩, ⟨8, 0, r0, []⟩]⟩ h7 c8) (
K ⟨13, 0, r0, [v5, ⟨8, 1, r0, []⟩]⟩ h7 c8))
theorem R11_eq (Q : PrimW) (fu : Nat) (call : CallW) : curryA 1 (fnK Q Try.prog tys stl fu call e11) = R11 Q.genW Q.subW Q.cmpW Q.condW fu call := by kernel_rfl
noncomputable def n11 : List W → HW → Nat → KW → Bool := appF 1 (R11 genW subW cmpW condW 1000000 d6.fn)
theorem n11_ok : FnGood Try.prog tys stl tab 11 n11 := node_ok d6_ok (by kernel_rfl) rfl g11 (R11_eq real _ _)
/- foghorn/sums.Fits16 -/
noncomputable def R13 (fu : Nat) (call : CallW) (a0 : W) (h0 : HW) (c0 : Nat) (K : KW) : Bool :=
call 24 [⟨5, 4129, r0, []⟩, a0] h0 c0 fun v1 h2 c3 =>
K v1 h2 c3
theorem R13_eq (Q : PrimW) (fu : Nat) (call : CallW) : curryA 1 (fnK Q Try.prog tys stl fu call e13) = R13 fu call := by kernel_rfl
noncomputable def n13 : List W → HW → Nat → KW → Bool := appF 1 (R13 1000000 d6.fn)
theorem n13_ok : FnGood Try.prog tys stl tab 13 n13 := node_ok d6_ok (by kernel_rfl) rfl g13 (R13_eq real _ _)
/- foghorn/sums.Fits32 -/
noncomputable def R14 (fu : Nat) (call : CallW) (a0 : W) (h0 : HW) (c0 : Nat) (K : KW) : Bool :=
call 25 [⟨6, 79764919, r0, []⟩, a0] h0 c0 fun v1 h2 c3 =>
K v1 h2 c3
theorem R14_eq (Q : PrimW) (fu : Nat) (call : CallW) : curryA 1 (fnK Q Try.prog tys stl fu call e14) = R14 fu call := by kernel_rfl
noncomputable def n14 : List W → HW → Nat → KW → Bool := appF 1 (R14 1000000 d6.fn)
theorem n14_ok : FnGood Try.prog tys stl tab 14 n14 := node_ok d6_ok (by kernel_rfl) rfl g14 (R14_eq real _ _)
/- foghorn/foghornlaw24.awake -/
noncomputable def R15 (q_share : (α : Type) → α → (α → Bool) → Bool) (q_cmpW : (Nat → Nat → Bool) → Nat → Option CV → W → W → (W → Bool) → Bool) (q_guardW : Bool → W → Bool → Bool → Bool) (q_pickW : W → W → W → (W → Bool) → Bool) (q_tupW : W → (List W → Bool) → Bool) (q_nthW : Nat → List W → (W → Bool) → Bool) (q_buildSW : Nat → Nat → Kind → Nat → Bool → HW → Nat → Nat → List W → KW → Bool) (fu : Nat) (call : CallW) (h0 : HW) (c0 : Nat) (K : KW) : Bool :=
q_buildSW 1 8 .bools 1 true h0 c0 1 [⟨8, 1, r0, []⟩] fun v1 h2 c3 =>
call 4 [v1] h2 c3 fun v4 h5 c6 =>
q_tupW v4 fun l7 => q_nthW 0 l7 fun v8 =>
q_tupW v4 fun l9 => q_nthW 1 l9 fun v10 =>
q_cmpW (cmpF2 .eql) 5 (binC Try.prog .eql 22 (.tmp 8) (.const (.int .u16 (.ofNat 4129))) (dec v8) (dec ⟨5, 4129, r0, []⟩)) v8 ⟨5, 4129, r0, []⟩ fun v11 =>
q_share _ (fun (v13 : W) (h14 : HW) (c15 : Nat) =>
q_share _ (fun (v17 : W) (h18 : HW) (c19 : Nat) =>
q_pickW v11 v17 ⟨8, 0, r0, []⟩ fun v20 =>
q_share _ (fun (v22 : W) (h23 : HW) (c24 : Nat) =>
q_share _ (fun (v26 : W) (h27 : HW) (c28 : Nat) =>
q_pickW v20 v26 ⟨8, 0, r0, []⟩ fun v29 =>
q_share _ (fun (v31 : W) (h32 : HW) (c33 : Nat) =>
q_share _ (fun (v35 : W) (h36 : HW) (c37 : Nat) =>
q_pickW v29 v35 ⟨8, 0, r0, []⟩ fun v38 =>
K v38 h36 c37) fun f34 =>
q_guardW true v29 (q_cmpW (cmpF2 .eql) 6 (binC Try.prog .eql 27 (.tmp 19) (.const (.int .u32 (.ofNat 2309065087))) (dec v31) (dec ⟨6, 2309065087, r0, []⟩)) v31 ⟨6, 2309065087, r0, []⟩ fun v39 =>
f34 v39 h32 c33) (f34 wUnd h32 c33)) fun f30 =>
q_guardW true v29 (call 23 [⟨12, 0, ⟨0, 0, 0, .str ⟨⟨[49, 50, 51, 52, 53, 54, 55, 56, 57]⟩⟩⟩, []⟩] h27 c28 fun v40 h41 c42 =>
f30 v40 h41 c42) (f30 wUnd h27 c28)) fun f25 =>
q_guardW true v20 (q_cmpW (cmpF2 .eql) 5 (binC Try.prog .eql 22 (.tmp 15) (.const (.int .u16 (.ofNat 12739))) (dec v22) (dec ⟨5, 12739, r0, []⟩)) v22 ⟨5, 12739, r0, []⟩ fun v43 =>
f25 v43 h23 c24) (f25 wUnd h23 c24)) fun f21 =>
q_guardW true v20 (call 26 [⟨12, 0, ⟨0, 0, 0, .str ⟨⟨[49, 50, 51, 52, 53, 54, 55, 56, 57]⟩⟩⟩, []⟩] h18 c19 fun v44 h45 c46 =>
f21 v44 h45 c46) (f21 wUnd h18 c19)) fun f16 =>
q_guardW true v11 (q_cmpW (cmpF2 .eql) 3 (binC Try.prog .eql 23 (.tmp 11) (.const (.int .i64 (.ofNat 0))) (dec v13) (dec ⟨3, 0, r0, []⟩)) v13 ⟨3, 0, r0, []⟩ fun v47 =>
f16 v47 h14 c15) (f16 wUnd h14 c15)) fun f12 =>
q_guardW true v11 (f12 v10 h5 c6) (f12 wUnd h5 c6)
theorem R15_eq (Q : PrimW) (fu : Nat) (call : CallW) : curryA 0 (fnK Q Try.prog tys stl fu call e15) = R15 Q.share Q.cmpW Q.guardW Q.pickW Q.tupW Q.nthW Q.buildSW fu call := by kernel_rfl
noncomputable def n15 : List W → HW → Nat → KW → Bool := appF 0 (R15 (fun _ x f => f x) cmpW guardW pickW tupW nthW buildSW 1000000 d6.fn)
theorem n15_ok : FnGood Try.prog tys stl tab 15 n15 := node_ok d6_ok (by kernel_rfl) rfl g15 (R15_eq real _ _)
noncomputable def d7 : Disp := (.node 21 n21 (.node 12 n12 (.node 8 n8 (.node 6 n6 (.node 5 n5 (.node 4 n4 .leaf .leaf) .leaf) (.node 7 n7 .leaf .leaf)) (.node 10 n10 (.node 9 n9 .leaf .leaf) (.node 11 n11 .leaf .leaf))) (.node 17 n17 (.node 15 n15 (.node 14 n14 (.node 13 n13 .leaf .leaf) .leaf) (.node 16 n16 .leaf .leaf)) (.node 19 n19 (.node 18 n18 .leaf .leaf) (.node 20 n20 .leaf .leaf)))) (.node 30 n30 (.node 26 n26 (.node 24 n24 (.node 23 n23 (.node 22 n22 .leaf .leaf) .leaf) (.node 25 n25 .leaf .leaf)) (.node 28 n28 (.node 27 n27 .leaf .leaf) (.node 29 n29 .leaf .leaf))) (.node 34 n34 (.node 32 n32 (.node 31 n31 .leaf .leaf) (.node 33 n33 .leaf .leaf)) (.node 36 n36 (.node 35 n35 .leaf .leaf) (.node 37 n37 .leaf .leaf)))))
theorem d7_ok : CallSim Try.prog tys stl tab d7.fn := Disp.sim ⟨n21_ok, ⟨n12_ok, ⟨n8_ok, ⟨n6_ok, ⟨n5_ok, ⟨n4_ok, True.intro, True.intro⟩, True.intro⟩, ⟨n7_ok, True.intro, True.intro⟩⟩, ⟨n10_ok, ⟨n9_ok, True.intro, True.intro⟩, ⟨n11_ok, True.intro, True.intro⟩⟩⟩, ⟨n17_ok, ⟨n15_ok, ⟨n14_ok, ⟨n13_ok, True.intro, True.intro⟩, True.intro⟩, ⟨n16_ok, True.intro, True.intro⟩⟩, ⟨n19_ok, ⟨n18_ok, True.intro, True.intro⟩, ⟨n20_ok, True.intro, True.intro⟩⟩⟩⟩, ⟨n30_ok, ⟨n26_ok, ⟨n24_ok, ⟨n23_ok, ⟨n22_ok, True.intro, True.intro⟩, True.intro⟩, ⟨n25_ok, True.intro, True.intro⟩⟩, ⟨n28_ok, ⟨n27_ok, True.intro, True.intro⟩, ⟨n29_ok, True.intro, True.intro⟩⟩⟩, ⟨n34_ok, ⟨n32_ok, ⟨n31_ok, True.intro, True.intro⟩, ⟨n33_ok, True.intro, True.intro⟩⟩, ⟨n36_ok, ⟨n35_ok, True.intro, True.intro⟩, ⟨n37_ok, True.intro, True.intro⟩⟩⟩⟩⟩
/- foghorn/foghornlaw24.SumsNone -/
noncomputable def R3 (q_share : (α : Type) → α → (α → Bool) → Bool) (q_genW : Option CV → (W → Bool) → Bool) (q_cmpW : (Nat → Nat → Bool) → Nat → Option CV → W → W → (W → Bool) → Bool) (q_notW : Option CV → W → (W → Bool) → Bool) (q_guardW : Bool → W → Bool → Bool → Bool) (q_pickW : W → W → W → (W → Bool) → Bool) (q_lenW : Option CV → W → (W → Bool) → Bool) (q_tupW : W → (List W → Bool) → Bool) (q_nthW : Nat → List W → (W → Bool) → Bool) (q_makeSW : Nat → Nat → Nat → Kind → List W → Bool → HW → Nat → W → W → KW → Bool) (fu : Nat) (call : CallW) (h0 : HW) (c0 : Nat) (K : KW) : Bool :=
call 4 [⟨12, 0, ⟨0, 0, 0, .nils⟩, []⟩] h0 c0 fun v1 h2 c3 =>
q_tupW v1 fun l4 => q_nthW 0 l4 fun v5 =>
q_tupW v1 fun l6 => q_nthW 1 l6 fun v7 =>
q_makeSW 1 1 8 .bools [⟨8, 0, r0, []⟩] true h2 c3 ⟨3, 32769, r0, []⟩ ⟨3, 32769, r0, []⟩ fun v8 h9 c10 =>
call 4 [v8] h9 c10 fun v11 h12 c13 =>
q_tupW v11 fun l14 => q_nthW 0 l14 fun v15 =>
q_tupW v11 fun l16 => q_nthW 1 l16 fun v17 =>
q_makeSW 1 1 8 .bools [⟨8, 0, r0, []⟩] true h12 c13 ⟨3, 32768, r0, []⟩ ⟨3, 32768, r0, []⟩ fun v18 h19 c20 =>
call 5 [v18] h19 c20 fun v21 h22 c23 =>
q_tupW v21 fun l24 => q_nthW 0 l24 fun v25 =>
q_tupW v21 fun l26 => q_nthW 1 l26 fun v27 =>
q_makeSW 1 1 8 .bools [⟨8, 0, r0, []⟩] true h22 c23 ⟨3, 32753, r0, []⟩ ⟨3, 32753, r0, []⟩ fun v28 h29 c30 =>
call 6 [v28] h29 c30 fun v31 h32 c33 =>
q_tupW v31 fun l34 => q_nthW 0 l34 fun v35 =>
q_tupW v31 fun l36 => q_nthW 1 l36 fun v37 =>
q_makeSW 1 1 8 .bools [⟨8, 0, r0, []⟩] true h32 c33 ⟨3, 32752, r0, []⟩ ⟨3, 32752, r0, []⟩ fun v38 h39 c40 =>
call 6 [v38] h39 c40 fun v41 h42 c43 =>
q_tupW v41 fun l44 => q_nthW 0 l44 fun v45 =>
q_tupW v41 fun l46 => q_nthW 1 l46 fun v47 =>
q_makeSW 1 1 8 .bools [⟨8, 0, r0, []⟩] true h42 c43 ⟨3, 32737, r0, []⟩ ⟨3, 32737, r0, []⟩ fun v48 h49 c50 =>
call 7 [v48] h49 c50 fun v51 h52 c53 =>
q_tupW v51 fun l54 => q_nthW 0 l54 fun v55 =>
q_tupW v51 fun l56 => q_nthW 1 l56 fun v57 =>
q_makeSW 1 1 8 .bools [⟨8, 0, r0, []⟩] true h52 c53 ⟨3, 32769, r0, []⟩ ⟨3, 32769, r0, []⟩ fun v58 h59 c60 =>
call 8 [⟨6, 7, r0, []⟩, v58] h59 c60 fun v61 h62 c63 =>
q_tupW v61 fun l64 => q_nthW 0 l64 fun v65 =>
q_tupW v61 fun l66 => q_nthW 1 l66 fun v67 =>
call 8 [⟨6, 7, r0, []⟩, ⟨12, 0, ⟨0, 0, 0, .nils⟩, []⟩] h62 c63 fun v68 h69 c70 =>
q_tupW v68 fun l71 => q_nthW 0 l71 fun v72 =>
q_tupW v68 fun l73 => q_nthW 1 l73 fun v74 =>
call 9 [⟨6, 1, r0, []⟩, ⟨6, 2, r0, []⟩, ⟨12, 0, ⟨0, 0, 0, .int .i64 (.negSucc 0)⟩, []⟩] h69 c70 fun v75 h76 c77 =>
q_tupW v75 fun l78 => q_nthW 0 l78 fun v79 =>
q_tupW v75 fun l80 => q_nthW 1 l80 fun v81 =>
call 9 [⟨6, 1, r0, []⟩, ⟨6, 2, r0, []⟩, ⟨3, 0, r0, []⟩] h76 c77 fun v82 h83 c84 =>
q_tupW v82 fun l85 => q_nthW 0 l85 fun v86 =>
q_tupW v82 fun l87 => q_nthW 1 l87 fun v88 =>
call 9 [⟨6, 1, r0, []⟩, ⟨6, 2, r0, []⟩, ⟨3, 32769, r0, []⟩] h83 c84 fun v89 h90 c91 =>
q_tupW v89 fun l92 => q_nthW 0 l92 fun v93 =>
q_tupW v89 fun l94 => q_nthW 1 l94 fun v95 =>
call 10 [⟨12, 0, ⟨0, 0, 0, .nils⟩, []⟩, ⟨12, 0, ⟨0, 0, 0, .nils⟩, []⟩] h90 c91 fun v96 h97 c98 =>
q_tupW v96 fun l99 => q_nthW 0 l99 fun v100 =>
q_tupW v96 fun l101 => q_nthW 1 l101 fun v102 =>
q_tupW v96 fun l103 => q_nthW 2 l103 fun v104 =>
q_makeSW 1 1 8 .bools [⟨8, 0, r0, []⟩] true h97 c98 ⟨3, 1, r0, []⟩ ⟨3, 1, r0, []⟩ fun v105 h106 c107 =>
call 10 [⟨12, 0, ⟨0, 0, 0, .nils⟩, []⟩, v105] h106 c107 fun v108 h109 c110 =>
q_tupW v108 fun l111 => q_nthW 0 l111 fun v112 =>
q_tupW v108 fun l113 => q_nthW 1 l113 fun v114 =>
q_tupW v108 fun l115 => q_nthW 2 l115 fun v116 =>
call 11 [⟨12, 0, ⟨0, 0, 0, .str ⟨⟨[]⟩⟩⟩, []⟩] h109 c110 fun v117 h118 c119 =>
q_tupW v117 fun l120 => q_nthW 0 l120 fun v121 =>
q_tupW v117 fun l122 => q_nthW 1 l122 fun v123 =>
call 12 [⟨12, 0, ⟨0, 0, 0, .str ⟨⟨[]⟩⟩⟩, []⟩] h118 c119 fun v124 h125 c126 =>
call 11 [v124] h125 c126 fun v127 h128 c129 =>
q_tupW v127 fun l130 => q_nthW 0 l130 fun v131 =>
q_tupW v127 fun l132 => q_nthW 1 l132 fun v133 =>
q_cmpW (cmpF2 .eql) 5 (binC Try.prog .eql 22 (.tmp 103) (.const (.int .u16 (.ofNat 0))) (dec v5) (dec ⟨5, 0, r0, []⟩)) v5 ⟨5, 0, r0, []⟩ fun v134 =>
q_share _ (fun (v136 : W) (h137 : HW) (c138 : Nat) =>
q_share _ (fun (v140 : W) (h141 : HW) (c142 : Nat) =>
q_pickW v134 v140 ⟨8, 0, r0, []⟩ fun v143 =>
q_share _ (fun (v145 : W) (h146 : HW) (c147 : Nat) =>
q_share _ (fun (v149 : W) (h150 : HW) (c151 : Nat) =>
q_pickW v143 v149 ⟨8, 0, r0, []⟩ fun v152 =>
q_share _ (fun (v154 : W) (h155 : HW) (c156 : Nat) =>
q_share _ (fun (v158 : W) (h159 : HW) (c160 : Nat) =>
q_pickW v152 v158 ⟨8, 0, r0, []⟩ fun v161 =>
q_share _ (fun (v163 : W) (h164 : HW) (c165 : Nat) =>
q_share _ (fun (v167 : W) (h168 : HW) (c169 : Nat) =>
q_pickW v161 v167 ⟨8, 0, r0, []⟩ fun v170 =>
q_share _ (fun (v172 : W) (h173 : HW) (c174 : Nat) =>
q_share _ (fun (v176 : W) (h177 : HW) (c178 : Nat) =>
q_pickW v170 v176 ⟨8, 0, r0, []⟩ fun v179 =>
q_share _ (fun (v181 : W) (h182 : HW) (c183 : Nat) =>
q_share _ (fun (v185 : W) (h186 : HW) (c187 : Nat) =>
q_share _ (fun (v189 : W) (h190 : HW) (c191 : Nat) =>
q_pickW v179 v189 ⟨8, 0, r0, []⟩ fun v192 =>
q_share _ (fun (v194 : W) (h195 : HW) (c196 : Nat) =>
q_share _ (fun (v198 : W) (h199 : HW) (c200 : Nat) =>
q_pickW v192 v198 ⟨8, 0, r0, []⟩ fun v201 =>
q_share _ (fun (v203 : W) (h204 : HW) (c205 : Nat) =>
q_share _ (fun (v207 : W) (h208 : HW) (c209 : Nat) =>
q_pickW v201 v207 ⟨8, 0, r0, []⟩ fun v210 =>
q_share _ (fun (v212 : W) (h213 : HW) (c214 : Nat) =>
q_share _ (fun (v216 : W) (h217 : HW) (c218 : Nat) =>
q_pickW v210 v216 ⟨8, 0, r0, []⟩ fun v219 =>
q_share _ (fun (v221 : W) (h222 : HW) (c223 : Nat) =>
q_share _ (fun (v225 : W) (h226 : HW) (c227 : Nat) =>
q_pickW v219 v225 ⟨8, 0, r0, []⟩ fun v228 =>
q_share _ (fun (v230 : W) (h231 : HW) (c232 : Nat) =>
q_share _ (fun (v234 : W) (h235 : HW) (c236 : Nat) =>
q_pickW v228 v234 ⟨8, 0, r0, []⟩ fun v237 =>
q_share _ (fun (v239 : W) (h240 : HW) (c241 : Nat) =>
q_share _ (fun (v243 : W) (h244 : HW) (c245 : Nat) =>
q_pickW v237 v243 ⟨8, 0, r0, []⟩ fun v246 =>
q_share _ (fun (v248 : W) (h249 : HW) (c250 : Nat) =>
q_share _ (fun (v252 : W) (h253 : HW) (c254 : Nat) =>
q_pickW v246 v252 ⟨8, 0, r0, []⟩ fun v255 =>
q_share _ (fun (v257 : W) (h258 : HW) (c259 : Nat) =>
q_share _ (fun (v261 : W) (h262 : HW) (c263 : Nat) =>
q_pickW v255 v261 ⟨8, 0, r0, []⟩ fun v264 =>
q_share _ (fun (v266 : W) (h267 : HW) (c268 : Nat) =>
q_share _ (fun (v270 : W) (h271 : HW) (c272 : Nat) =>
q_pickW v264 v270 ⟨8, 0, r0, []⟩ fun v273 =>
q_share _ (fun (v275 : W) (h276 : HW) (c277 : Nat) =>
q_share _ (fun (v279 : W) (h280 : HW) (c281 : Nat) =>
q_pickW v273 v279 ⟨8, 0, r0, []⟩ fun v282 =>
q_share _ (fun (v284 : W) (h285 : HW) (c286 : Nat) =>
q_share _ (fun (v288 : W) (h289 : HW) (c290 : Nat) =>
q_pickW v282 v288 ⟨8, 0, r0, []⟩ fun v291 =>
q_share _ (fun (v293 : W) (h294 : HW) (c295 : Nat) =>
q_share _ (fun (v297 : W) (h298 : HW) (c299 : Nat) =>
q_pickW v291 v297 ⟨8, 0, r0, []⟩ fun v300 =>
q_share _ (fun (v302 : W) (h303 : HW) (c304 : Nat) =>
q_share _ (fun (v306 : W) (h307 : HW) (c308 : Nat) =>
q_pickW v300 v306 ⟨8, 0, r0, []⟩ fun v309 =>
q_share _ (fun (v311 : W) (h312 : HW) (c313 : Nat) =>
q_share _ (fun (v315 : W) (h316 : HW) (c317 : Nat) =>
q_pickW v309 v315 ⟨8, 0, r0, []⟩ fun v318 =>
q_share _ (fun (v320 : W) (h321 : HW) (c322 : Nat) =>
q_pickW v318 v320 ⟨8, 0, r0, []⟩ fun v323 =>
q_share _ (fun (v325 : W) (h326 : HW) (c327 : Nat) =>
q_share _ (fun (v329 : W) (h330 : HW) (c331 : Nat) =>
q_share _ (fun (v333 : W) (h334 : HW) (c335 : Nat) =>
q_pickW v323 v333 ⟨8, 0, r0, []⟩ fun v336 =>
q_share _ (fun (v338 : W) (h339 : HW) (c340 : Nat) =>
q_share _ (fun (v342 : W) (h343 : HW) (c344 : Nat) =>
q_pickW v336 v342 ⟨8, 0, r0, []⟩ fun v345 =>
q_share _ (fun (v347 : W) (h348 : HW) (c349 : Nat) =>
q_share _ (fun (v351 : W) (h352 : HW) (c353 : Nat) =>
q_share _ (fun (v355 : W) (h356 : HW) (c357 : Nat) =>
q_pickW v345 v355 ⟨8, 0, r0, []⟩ fun v358 =>
q_share _ (fun (v360 : W) (h361 : HW) (c362 : Nat) =>
q_share _ (fun (v364 : W) (h365 : HW) (c366 : Nat) =>
q_pickW v358 v364 ⟨8, 0, r0, []⟩ fun v367 =>
q_pickW v367 ⟨8, 1, r0, []⟩ ⟨8, 0, r0, []⟩ fun v368 =>
q_pickW v368 ⟨8, 1, r0, []⟩ ⟨8, 0, r0, []⟩ fun v369 =>
q_share _ (fun (v371 : W) (h372 : HW) (c373 : Nat) =>
q_pickW v369 v371 ⟨8, 0, r0, []⟩ fun v374 =>
K v374 h372 c373) fun f370 =>
q_guardW true v369 (call 15 [] h365 c366 fun v375 h376 c377 =>
f370 v375 h376 c377) (f370 wUnd h365 c366)) fun f363 =>
q_guardW true v358 (q_notW (two Try.prog (dec v360) (Op.unary .not)) v360 fun v378 =>
f363 v378 h361 c362) (f363 wUnd h361 c362)) fun f359 =>
q_guardW true v358 (call 14 [⟨12, 0, ⟨0, 0, 0, .nils⟩, []⟩] h356 c357 fun v379 h380 c381 =>
f359 v379 h380 c381) (f359 wUnd h356 c357)) fun f354 =>
q_guardW true v345 (q_notW (two Try.prog (dec v351) (Op.unary .not)) v351 fun v382 =>
f354 v382 h352 c353) (f354 wUnd h352 c353)) fun f350 =>
q_guardW true v345 (call 14 [v347] h348 c349 fun v383 h384 c385 =>
f350 v383 h384 c385) (f350 wUnd h348 c349)) fun f346 =>
q_guardW true v345 (q_makeSW 1 1 8 .bools [⟨8, 0, r0, []⟩] true h343 c344 ⟨3, 32769, r0, []⟩ ⟨3, 32769, r0, []⟩ fun v386 h387 c388 =>
f346 v386 h387 c388) (f346 wUnd h343 c344)) fun f341 =>
q_guardW true v336 (call 13 [v338] h339 c340 fun v389 h390 c391 =>
f341 v389 h390 c391) (f341 wUnd h339 c340)) fun f337 =>
q_guardW true v336 (q_makeSW 1 1 8 .bools [⟨8, 0, r0, []⟩] true h334 c335 ⟨3, 16, r0, []⟩ ⟨3, 16, r0, []⟩ fun v392 h393 c394 =>
f337 v392 h393 c394) (f337 wUnd h334 c335)) fun f332 =>
q_guardW true v323 (q_notW (two Try.prog (dec v329) (Op.unary .not)) v329 fun v395 =>
f332 v395 h330 c331) (f332 wUnd h330 c331)) fun f328 =>
q_guardW true v323 (call 13 [v325] h326 c327 fun v396 h397 c398 =>
f328 v396 h397 c398) (f328 wUnd h326 c327)) fun f324 =>
q_guardW true v323 (q_makeSW 1 1 8 .bools [⟨8, 0, r0, []⟩] true h321 c322 ⟨3, 15, r0, []⟩ ⟨3, 15, r0, []⟩ fun v399 h400 c401 =>
f324 v399 h400 c401) (f324 wUnd h321 c322)) fun f319 =>
q_guardW true v318 (f319 v133 h316 c317) (f319 wUnd h316 c317)) fun f314 =>
q_guardW true v309 (q_genW (binC Try.prog .eql 9 (.tmp 183) (.const (.string ⟨⟨[]⟩⟩)) (dec v311) (dec ⟨12, 0, ⟨0, 0, 0, .str ⟨⟨[]⟩⟩⟩, []⟩)) fun v402 =>
f314 v402 h312 c313) (f314 wUnd h312 c313)) fun f310 =>
q_guardW true v309 (f310 v131 h307 c308) (f310 wUnd h307 c308)) fun f305 =>
q_guardW true v300 (q_notW (two Try.prog (dec v302) (Op.unary .not)) v302 fun v403 =>
f305 v403 h303 c304) (f305 wUnd h303 c304)) fun f301 =>
q_guardW true v300 (f301 v123 h298 c299) (f301 wUnd h298 c299)) fun f296 =>
q_guardW true v291 (q_genW (binC Try.prog .eql 9 (.tmp 175) (.const (.string ⟨⟨[]⟩⟩)) (dec v293) (dec ⟨12, 0, ⟨0, 0, 0, .str ⟨⟨[]⟩⟩⟩, []⟩)) fun v404 =>
f296 v404 h294 c295) (f296 wUnd h294 c295)) fun f292 =>
q_guardW true v291 (f292 v121 h289 c290) (f292 wUnd h289 c290)) fun f287 =>
q_guardW true v282 (q_cmpW (cmpF2 .eql) 3 (binC Try.prog .eql 23 (.tmp 171) (.const (.int .i64 (.ofNat 1))) (dec v284) (dec ⟨3, 1, r0, []⟩)) v284 ⟨3, 1, r0, []⟩ fun v405 =>
f287 v405 h285 c286) (f287 wUnd h285 c286)) fun f283 =>
q_guardW true v282 (f283 v116 h280 c281) (f283 wUnd h280 c281)) fun f278 =>
q_guardW true v273 (q_cmpW (cmpF2 .eql) 3 (binC Try.prog .eql 23 (.tmp 167) (.const (.int .i64 (.ofNat 6))) (dec v275) (dec ⟨3, 6, r0, []⟩)) v275 ⟨3, 6, r0, []⟩ fun v406 =>
f278 v406 h276 c277) (f278 wUnd h276 c277)) fun f274 =>
q_guardW true v273 (f274 v104 h271 c272) (f274 wUnd h271 c272)) fun f269 =>
q_guardW true v264 (q_cmpW (cmpF2 .eql) 3 (binC Try.prog .eql 23 (.tmp 163) (.const (.int .i64 (.ofNat 1))) (dec v266) (dec ⟨3, 1, r0, []⟩)) v266 ⟨3, 1, r0, []⟩ fun v407 =>
f269 v407 h267 c268) (f269 wUnd h267 c268)) fun f265 =>
q_guardW true v264 (f265 v95 h262 c263) (f265 wUnd h262 c263)) fun f260 =>
q_guardW true v255 (q_cmpW (cmpF2 .eql) 3 (binC Try.prog .eql 23 (.tmp 159) (.const (.int .i64 (.ofNat 0))) (dec v257) (dec ⟨3, 0, r0, []⟩)) v257 ⟨3, 0, r0, []⟩ fun v408 =>
f260 v408 h258 c259) (f260 wUnd h258 c259)) fun f256 =>
q_guardW true v255 (f256 v88 h253 c254) (f256 wUnd h253 c254)) fun f251 =>
q_guardW true v246 (q_cmpW (cmpF2 .eql) 6 (binC Try.prog .eql 27 (.tmp 155) (.const (.int .u32 (.ofNat 3))) (dec v248) (dec ⟨6, 3, r0, []⟩)) v248 ⟨6, 3, r0, []⟩ fun v409 =>
f251 v409 h249 c250) (f251 wUnd h249 c250)) fun f247 =>
q_guardW true v246 (f247 v86 h244 c245) (f247 wUnd h244 c245)) fun f242 =>
q_guardW true v237 (q_cmpW (cmpF2 .eql) 3 (binC Try.prog .eql 23 (.tmp 151) (.const (.int .i64 (.ofNat 1))) (dec v239) (dec ⟨3, 1, r0, []⟩)) v239 ⟨3, 1, r0, []⟩ fun v410 =>
f242 v410 h240 c241) (f242 wUnd h240 c241)) fun f238 =>
q_guardW true v237 (f238 v81 h235 c236) (f238 wUnd h235 c236)) fun f233 =>
q_guardW true v228 (q_cmpW (cmpF2 .eql) 3 (binC Try.prog .eql 23 (.tmp 147) (.const (.int .i64 (.ofNat 0))) (dec v230) (dec ⟨3, 0, r0, []⟩)) v230 ⟨3, 0, r0, []⟩ fun v411 =>
f233 v411 h231 c232) (f233 wUnd h231 c232)) fun f229 =>
q_guardW true v228 (f229 v74 h226 c227) (f229 wUnd h226 c227)) fun f224 =>
q_guardW true v219 (q_cmpW (cmpF2 .eql) 6 (binC Try.prog .eql 27 (.tmp 143) (.const (.int .u32 (.ofNat 7))) (dec v221) (dec ⟨6, 7, r0, []⟩)) v221 ⟨6, 7, r0, []⟩ fun v412 =>
f224 v412 h222 c223) (f224 wUnd h222 c223)) fun f220 =>
q_guardW true v219 (f220 v72 h217 c218) (f220 wUnd h217 c218)) fun f215 =>
q_guardW true v210 (q_cmpW (cmpF2 .eql) 3 (binC Try.prog .eql 23 (.tmp 139) (.const (.int .i64 (.ofNat 1))) (dec v212) (dec ⟨3, 1, r0, []⟩)) v212 ⟨3, 1, r0, []⟩ fun v413 =>
f215 v413 h213 c214) (f215 wUnd h213 c214)) fun f211 =>
q_guardW true v210 (f211 v67 h208 c209) (f211 wUnd h208 c209)) fun f206 =>
q_guardW true v201 (q_cmpW (cmpF2 .eql) 3 (binC Try.prog .eql 23 (.tmp 135) (.const (.int .i64 (.ofNat 1))) (dec v203) (dec ⟨3, 1, r0, []⟩)) v203 ⟨3, 1, r0, []⟩ fun v414 =>
f206 v414 h204 c205) (f206 wUnd h204 c205)) fun f202 =>
q_guardW true v201 (f202 v57 h199 c200) (f202 wUnd h199 c200)) fun f197 =>
q_guardW true v192 (q_cmpW (cmpF2 .eql) 3 (binC Try.prog .eql 23 (.tmp 131) (.const (.int .i64 (.ofNat 0))) (dec v194) (dec ⟨3, 0, r0, []⟩)) v194 ⟨3, 0, r0, []⟩ fun v415 =>
f197 v415 h195 c196) (f197 wUnd h195 c196)) fun f193 =>
q_guardW true v192 (f193 v47 h190 c191) (f193 wUnd h190 c191)) fun f188 =>
q_guardW true v179 (q_cmpW (cmpF2 .eql) 3 (binC Try.prog .eql 3 (.tmp 127) (.const (.int .i64 (.ofNat 32768))) (dec v185) (dec ⟨3, 32768, r0, []⟩)) v185 ⟨3, 32768, r0, []⟩ fun v416 =>
f188 v416 h186 c187) (f188 wUnd h186 c187)) fun f184 =>
q_guardW true v179 (q_lenW (lenC tys 26 (dec v181)) v181 fun v417 =>
f184 v417 h182 c183) (f184 wUnd h182 c183)) fun f180 =>
q_guardW true v179 (f180 v45 h177 c178) (f180 wUnd h177 c178)) fun f175 =>
q_guardW true v170 (q_cmpW (cmpF2 .eql) 3 (binC Try.prog .eql 23 (.tmp 122) (.const (.int .i64 (.ofNat 1))) (dec v172) (dec ⟨3, 1, r0, []⟩)) v172 ⟨3, 1, r0, []⟩ fun v418 =>
f175 v418 h173 c174) (f175 wUnd h173 c174)) fun f171 =>
q_guardW true v170 (f171 v37 h168 c169) (f171 wUnd h168 c169)) fun f166 =>
q_guardW true v161 (q_cmpW (cmpF2 .eql) 3 (binC Try.prog .eql 23 (.tmp 118) (.const (.int .i64 (.ofNat 0))) (dec v163) (dec ⟨3, 0, r0, []⟩)) v163 ⟨3, 0, r0, []⟩ fun v419 =>
f166 v419 h164 c165) (f166 wUnd h164 c165)) fun f162 =>
q_guardW true v161 (f162 v27 h159 c160) (f162 wUnd h159 c160)) fun f157 =>
q_guardW true v152 (q_cmpW (cmpF2 .eql) 6 (binC Try.prog .eql 27 (.tmp 114) (.const (.int .u32 (.ofNat 0))) (dec v154) (dec ⟨6, 0, r0, []⟩)) v154 ⟨6, 0, r0, []⟩ fun v420 =>
f157 v420 h155 c156) (f157 wUnd h155 c156)) fun f153 =>
q_guardW true v152 (f153 v25 h150 c151) (f153 wUnd h150 c151)) fun f148 =>
q_guardW true v143 (q_cmpW (cmpF2 .eql) 3 (binC Try.prog .eql 23 (.tmp 110) (.const (.int .i64 (.ofNat 1))) (dec v145) (dec ⟨3, 1, r0, []⟩)) v145 ⟨3, 1, r0, []⟩ fun v421 =>
f148 v421 h146 c147) (f148 wUnd h146 c147)) fun f144 =>
q_guardW true v143 (f144 v17 h141 c142) (f144 wUnd h141 c142)) fun f139 =>
q_guardW true v134 (q_cmpW (cmpF2 .eql) 3 (binC Try.prog .eql 23 (.tmp 106) (.const (.int .i64 (.ofNat 0))) (dec v136) (dec ⟨3, 0, r0, []⟩)) v136 ⟨3, 0, r0, []⟩ fun v422 =>
f139 v422 h137 c138) (f139 wUnd h137 c138)) fun f135 =>
q_guardW true v134 (f135 v7 h128 c129) (f135 wUnd h128 c129)
theorem R3_eq (Q : PrimW) (fu : Nat) (call : CallW) : curryA 0 (fnK Q Try.prog tys stl fu call e3) = R3 Q.share Q.genW Q.cmpW Q.notW Q.guardW Q.pickW Q.lenW Q.tupW Q.nthW Q.makeSW fu call := by kernel_rfl
noncomputable def n3 : List W → HW → Nat → KW → Bool := appF 0 (R3 (fun _ x f => f x) genW cmpW notW guardW pickW lenW tupW nthW makeSW 1000000 d7.fn)
theorem n3_ok : FnGood Try.prog tys stl tab 3 n3 := node_ok d7_ok (by kernel_rfl) rfl g3 (R3_eq real _ _)
noncomputable def d8 : Disp := (.node 20 n20 (.node 11 n11 (.node 7 n7 (.node 5 n5 (.node 4 n4 (.node 3 n3 .leaf .leaf) .leaf) (.node 6 n6 .leaf .leaf)) (.node 9 n9 (.node 8 n8 .leaf .leaf) (.node 10 n10 .leaf .leaf))) (.node 16 n16 (.node 14 n14 (.node 13 n13 (.node 12 n12 .leaf .leaf) .leaf) (.node 15 n15 .leaf .leaf)) (.node 18 n18 (.node 17 n17 .leaf .leaf) (.node 19 n19 .leaf .leaf)))) (.node 29 n29 (.node 25 n25 (.node 23 n23 (.node 22 n22 (.node 21 n21 .leaf .leaf) .leaf) (.node 24 n24 .leaf .leaf)) (.node 27 n27 (.node 26 n26 .leaf .leaf) (.node 28 n28 .leaf .leaf))) (.node 34 n34 (.node 32 n32 (.node 31 n31 (.node 30 n30 .leaf .leaf) .leaf) (.node 33 n33 .leaf .leaf)) (.node 36 n36 (.node 35 n35 .leaf .leaf) (.node 37 n37 .leaf .leaf)))))
theorem d8_ok : CallSim Try.prog tys stl tab d8.fn := Disp.sim ⟨n20_ok, ⟨n11_ok, ⟨n7_ok, ⟨n5_ok, ⟨n4_ok, ⟨n3_ok, True.intro, True.intro⟩, True.intro⟩, ⟨n6_ok, True.intro, True.intro⟩⟩, ⟨n9_ok, ⟨n8_ok, True.intro, True.intro⟩, ⟨n10_ok, True.intro, True.intro⟩⟩⟩, ⟨n16_ok, ⟨n14_ok, ⟨n13_ok, ⟨n12_ok, True.intro, True.intro⟩, True.intro⟩, ⟨n15_ok, True.intro, True.intro⟩⟩, ⟨n18_ok, ⟨n17_ok, True.intro, True.intro⟩, ⟨n19_ok, True.intro, True.intro⟩⟩⟩⟩, ⟨n29_ok, ⟨n25_ok, ⟨n23_ok, ⟨n22_ok, ⟨n21_ok, True.intro, True.intro⟩, True.intro⟩, ⟨n24_ok, True.intro, True.intro⟩⟩, ⟨n27_ok, ⟨n26_ok, True.intro, True.intro⟩, ⟨n28_ok, True.intro, True.intro⟩⟩⟩, ⟨n34_ok, ⟨n32_ok, ⟨n31_ok, ⟨n30_ok, True.intro, True.intro⟩, True.intro⟩, ⟨n33_ok, True.intro, True.intro⟩⟩, ⟨n36_ok, ⟨n35_ok, True.intro, True.intro⟩, ⟨n37_ok, True.intro, True.intro⟩⟩⟩⟩⟩
noncomputable abbrev dT : Disp := d8
theorem dT_ok : CallSim Try.prog tys stl tab dT.fn := d8_ok

set_option maxHeartbeats 0 in
theorem run3 : lawK dT.fn 3 = true := by kernel_rfl
namespace sumsNone
open Go.ChangeShapes Go.WideShapes Go.ChangeAt Go.RowKit
theorem own : ownKnob Try.prog.godebug = none := by kernel_rfl
theorem laid : laidOutB Try.prog = true := by kernel_rfl
theorem lifted (os : Os) (started : os.Started) (H : Type) (enc : TypeId × Value → H) :
    ReturnsInHanded {} Try.checked os 3 .any (Rows.sumsNoneSpec.pre6 enc Try.prog Try.f3 Rows.sumsNoneRow.domain false) (Rows.sumsNoneSpec.post enc Try.prog Try.f3 false true false false) := by
  refine returnsInHanded_of_change (C := Try.checked) own started (by kernel_rfl) Try.func3
    (ChangeSpec.witness6 (enc := enc) (C := Try.checked) false ⟨#[], #[], []⟩ 8 (by kernel_rfl) (by kernel_rfl) (by kernel_rfl) (by kernel_rfl)) ?_
  intro W base args ds gs before hval0 hW hcnd _
  have hW' := hW
  obtain ⟨p, q, hA0, hV, rfl, hfz, hnd⟩ := hW
  have hA : DataW.TrodAll enc Try.prog W 0 (fun _ => true) true Try.f3.params.toList args.toList ds p := hA0
  rw [Try.params3] at hA
  obtain ⟨hargs, rfl, rfl⟩ := trodAll_nil hA
  obtain rfl : args = #[] := by cases args; simp_all
  obtain ⟨rfl, rfl⟩ := trodVars_none hV
  clear hA0 hval0
  refine (lawK_true tok mixed fok dT_ok (by kernel_rfl : tab 3 = some e3) rfl run3 W).mono fun e W' ⟨he, hg⟩ => ?_
  subst he
  exact ⟨_, rfl, law_done laid rfl rfl Try.underlying4 (by kernel_rfl) hW' rfl hg⟩

theorem over : Rows.sumsNoneRow.holds Try.pinned (OpenSpec.ofChange Rows.sumsNoneSpec) :=
  OpenClaim.holds_of_wide 3 Try.f3 rfl rfl rfl rfl rfl rfl rfl ⟨rfl, rfl, rfl, rfl, rfl⟩ rfl rfl rfl rfl rfl (by kernel_rfl) Try.func3 (by kernel_rfl)
    (of_decide_eq_true (by kernel_rfl)) (by unfold Func.isWrapper; first | (rw [if_pos (by decide +kernel)]; kernel_rfl) | (rw [if_neg (by decide +kernel)]; exact ⟨rfl, rfl⟩))
    (fun os started H enc _ => lifted os started H enc)

theorem proved : Rows.SumsNoneSaid := over
end sumsNone
end Go.Proofs.Ytkpcahkfcibofaa
