/-
  The functions that the run goes through, as tables, and the run of a function without arguments. No condition.
-/
import Derived.Test.YtpigffkajclkbaaRows
import Derived.Test.YtpigffkajclkbaaGx
set_option linter.unusedVariables false
set_option maxRecDepth 1000000
namespace Go.Proofs.Ytpigffkajclkbaa
open Go Go.Fw
def tys : List (Nat × TyI) := [
  (1, ⟨.func, 1, 8, .nilFunc⟩),
  (2, ⟨.int .i64, 1, 8, .int .i64 0⟩),
  (3, ⟨.int .i64, 1, 8, .int .i64 0⟩),
  (4, ⟨.bool, 1, 1, .bool false⟩),
  (5, ⟨.int .u8, 1, 1, .int .u8 0⟩),
  (9, ⟨.str, 1, 16, .string (ByteArray.mk #[])⟩),
  (12, ⟨.int .u64, 1, 8, .int .u64 0⟩),
  (21, ⟨.int .i32, 1, 4, .int .i32 0⟩),
  (22, ⟨.slice 9, 1, 24, .slice none 0 0⟩),
  (23, ⟨.func, 1, 8, .nilFunc⟩),
  (24, ⟨.int .i64, 1, 8, .int .i64 0⟩),
  (26, ⟨.func, 1, 8, .nilFunc⟩),
  (28, ⟨.func, 1, 8, .nilFunc⟩),
  (29, ⟨.func, 1, 8, .nilFunc⟩),
  (31, ⟨.func, 1, 8, .nilFunc⟩),
  (33, ⟨.func, 1, 8, .nilFunc⟩),
  (34, ⟨.func, 1, 8, .nilFunc⟩),
  (35, ⟨.slice 3, 1, 24, .slice none 0 0⟩),
  (37, ⟨.func, 1, 8, .nilFunc⟩),
  (38, ⟨.slice 35, 1, 24, .slice none 0 0⟩),
  (40, ⟨.func, 1, 8, .nilFunc⟩),
  (41, ⟨.func, 1, 8, .nilFunc⟩),
  (42, ⟨.func, 1, 8, .nilFunc⟩),
  (43, ⟨.func, 1, 8, .nilFunc⟩),
  (44, ⟨.func, 1, 8, .nilFunc⟩),
  (45, ⟨.slice 53, 1, 24, .slice none 0 0⟩),
  (46, ⟨.ptr 76, 1, 8, .pointer none⟩),
  (48, ⟨.func, 1, 8, .nilFunc⟩),
  (49, ⟨.ptr 71, 1, 8, .pointer none⟩),
  (51, ⟨.func, 1, 8, .nilFunc⟩),
  (52, ⟨.struct [(0, 3), (1, 3), (2, 5), (3, 9)], 4, 40, .agg #[.int .i64 0, .int .i64 0, .int .u8 0, .string (ByteArray.mk #[])]⟩),
  (53, ⟨.struct [(0, 3), (1, 3), (2, 5), (3, 9)], 4, 40, .agg #[.int .i64 0, .int .i64 0, .int .u8 0, .string (ByteArray.mk #[])]⟩),
  (55, ⟨.func, 1, 8, .nilFunc⟩),
  (56, ⟨.func, 1, 8, .nilFunc⟩),
  (57, ⟨.func, 1, 8, .nilFunc⟩),
  (58, ⟨.func, 1, 8, .nilFunc⟩),
  (59, ⟨.func, 1, 8, .nilFunc⟩),
  (60, ⟨.slice 5, 1, 24, .slice none 0 0⟩),
  (61, ⟨.func, 1, 8, .nilFunc⟩),
  (62, ⟨.func, 1, 8, .nilFunc⟩),
  (63, ⟨.func, 1, 8, .nilFunc⟩),
  (65, ⟨.func, 1, 8, .nilFunc⟩),
  (66, ⟨.slice 4, 1, 24, .slice none 0 0⟩),
  (67, ⟨.func, 1, 8, .nilFunc⟩),
  (68, ⟨.func, 1, 8, .nilFunc⟩),
  (69, ⟨.slice 60, 1, 24, .slice none 0 0⟩),
  (70, ⟨.struct [(0, 69), (1, 3), (2, 3)], 3, 40, .agg #[.slice none 0 0, .int .i64 0, .int .i64 0]⟩),
  (71, ⟨.struct [(0, 69), (1, 3), (2, 3)], 3, 40, .agg #[.slice none 0 0, .int .i64 0, .int .i64 0]⟩),
  (72, ⟨.struct [(0, 60), (1, 3)], 2, 32, .agg #[.slice none 0 0, .int .i64 0]⟩),
  (73, ⟨.struct [(0, 60), (1, 3)], 2, 32, .agg #[.slice none 0 0, .int .i64 0]⟩),
  (74, ⟨.array 64 73, 128, 2048, .agg #[.slice none 0 0, .int .i64 0, .slice none 0 0, .int .i64 0, .slice none 0 0, .int .i64 0, .slice none 0 0, .int .i64 0, .slice none 0 0, .int .i64 0, .slice none 0 0, .int .i64 0, .slice none 0 0, .int .i64 0, .slice none 0 0, .int .i64 0, .slice none 0 0, .int .i64 0, .slice none 0 0, .int .i64 0, .slice none 0 0, .int .i64 0, .slice none 0 0, .int .i64 0, .slice none 0 0, .int .i64 0, .slice none 0 0, .int .i64 0, .slice none 0 0, .int .i64 0, .slice none 0 0, .int .i64 0, .slice none 0 0, .int .i64 0, .slice none 0 0, .int .i64 0, .slice none 0 0, .int .i64 0, .slice none 0 0, .int .i64 0, .slice none 0 0, .int .i64 0, .slice none 0 0, .int .i64 0, .slice none 0 0, .int .i64 0, .slice none 0 0, .int .i64 0, .slice none 0 0, .int .i64 0, .slice none 0 0, .int .i64 0, .slice none 0 0, .int .i64 0, .slice none 0 0, .int .i64 0, .slice none 0 0, .int .i64 0, .slice none 0 0, .int .i64 0, .slice none 0 0, .int .i64 0, .slice none 0 0, .int .i64 0, .slice none 0 0, .int .i64 0, .slice none 0 0, .int .i64 0, .slice none 0 0, .int .i64 0, .slice none 0 0, .int .i64 0, .slice none 0 0, .int .i64 0, .slice none 0 0, .int .i64 0, .slice none 0 0, .int .i64 0, .slice none 0 0, .int .i64 0, .slice none 0 0, .int .i64 0, .slice none 0 0, .int .i64 0, .slice none 0 0, .int .i64 0, .slice none 0 0, .int .i64 0, .slice none 0 0, .int .i64 0, .slice none 0 0, .int .i64 0, .slice none 0 0, .int .i64 0, .slice none 0 0, .int .i64 0, .slice none 0 0, .int .i64 0, .slice none 0 0, .int .i64 0, .slice none 0 0, .int .i64 0, .slice none 0 0, .int .i64 0, .slice none 0 0, .int .i64 0, .slice none 0 0, .int .i64 0, .slice none 0 0, .int .i64 0, .slice none 0 0, .int .i64 0, .slice none 0 0, .int .i64 0, .slice none 0 0, .int .i64 0, .slice none 0 0, .int .i64 0, .slice none 0 0, .int .i64 0, .slice none 0 0, .int .i64 0, .slice none 0 0, .int .i64 0, .slice none 0 0, .int .i64 0, .slice none 0 0, .int .i64 0]⟩),
  (75, ⟨.struct [(0, 74), (128, 3), (129, 3), (130, 3)], 131, 2072, .agg #[.slice none 0 0, .int .i64 0, .slice none 0 0, .int .i64 0, .slice none 0 0, .int .i64 0, .slice none 0 0, .int .i64 0, .slice none 0 0, .int .i64 0, .slice none 0 0, .int .i64 0, .slice none 0 0, .int .i64 0, .slice none 0 0, .int .i64 0, .slice none 0 0, .int .i64 0, .slice none 0 0, .int .i64 0, .slice none 0 0, .int .i64 0, .slice none 0 0, .int .i64 0, .slice none 0 0, .int .i64 0, .slice none 0 0, .int .i64 0, .slice none 0 0, .int .i64 0, .slice none 0 0, .int .i64 0, .slice none 0 0, .int .i64 0, .slice none 0 0, .int .i64 0, .slice none 0 0, .int .i64 0, .slice none 0 0, .int .i64 0, .slice none 0 0, .int .i64 0, .slice none 0 0, .int .i64 0, .slice none 0 0, .int .i64 0, .slice none 0 0, .int .i64 0, .slice none 0 0, .int .i64 0, .slice none 0 0, .int .i64 0, .slice none 0 0, .int .i64 0, .slice none 0 0, .int .i64 0, .slice none 0 0, .int .i64 0, .slice none 0 0, .int .i64 0, .slice none 0 0, .int .i64 0, .slice none 0 0, .int .i64 0, .slice none 0 0, .int .i64 0, .slice none 0 0, .int .i64 0, .slice none 0 0, .int .i64 0, .slice none 0 0, .int .i64 0, .slice none 0 0, .int .i64 0, .slice none 0 0, .int .i64 0, .slice none 0 0, .int .i64 0, .slice none 0 0, .int .i64 0, .slice none 0 0, .int .i64 0, .slice none 0 0, .int .i64 0, .slice none 0 0, .int .i64 0, .slice none 0 0, .int .i64 0, .slice none 0 0, .int .i64 0, .slice none 0 0, .int .i64 0, .slice none 0 0, .int .i64 0, .slice none 0 0, .int .i64 0, .slice none 0 0, .int .i64 0, .slice none 0 0, .int .i64 0, .slice none 0 0, .int .i64 0, .slice none 0 0, .int .i64 0, .slice none 0 0, .int .i64 0, .slice none 0 0, .int .i64 0, .slice none 0 0, .int .i64 0, .slice none 0 0, .int .i64 0, .slice none 0 0, .int .i64 0, .slice none 0 0, .int .i64 0, .slice none 0 0, .int .i64 0, .slice none 0 0, .int .i64 0, .slice none 0 0, .int .i64 0, .slice none 0 0, .int .i64 0, .slice none 0 0, .int .i64 0, .slice none 0 0, .int .i64 0, .int .i64 0, .int .i64 0, .int .i64 0]⟩),
  (76, ⟨.struct [(0, 74), (128, 3), (129, 3), (130, 3)], 131, 2072, .agg #[.slice none 0 0, .int .i64 0, .slice none 0 0, .int .i64 0, .slice none 0 0, .int .i64 0, .slice none 0 0, .int .i64 0, .slice none 0 0, .int .i64 0, .slice none 0 0, .int .i64 0, .slice none 0 0, .int .i64 0, .slice none 0 0, .int .i64 0, .slice none 0 0, .int .i64 0, .slice none 0 0, .int .i64 0, .slice none 0 0, .int .i64 0, .slice none 0 0, .int .i64 0, .slice none 0 0, .int .i64 0, .slice none 0 0, .int .i64 0, .slice none 0 0, .int .i64 0, .slice none 0 0, .int .i64 0, .slice none 0 0, .int .i64 0, .slice none 0 0, .int .i64 0, .slice none 0 0, .int .i64 0, .slice none 0 0, .int .i64 0, .slice none 0 0, .int .i64 0, .slice none 0 0, .int .i64 0, .slice none 0 0, .int .i64 0, .slice none 0 0, .int .i64 0, .slice none 0 0, .int .i64 0, .slice none 0 0, .int .i64 0, .slice none 0 0, .int .i64 0, .slice none 0 0, .int .i64 0, .slice none 0 0, .int .i64 0, .slice none 0 0, .int .i64 0, .slice none 0 0, .int .i64 0, .slice none 0 0, .int .i64 0, .slice none 0 0, .int .i64 0, .slice none 0 0, .int .i64 0, .slice none 0 0, .int .i64 0, .slice none 0 0, .int .i64 0, .slice none 0 0, .int .i64 0, .slice none 0 0, .int .i64 0, .slice none 0 0, .int .i64 0, .slice none 0 0, .int .i64 0, .slice none 0 0, .int .i64 0, .slice none 0 0, .int .i64 0, .slice none 0 0, .int .i64 0, .slice none 0 0, .int .i64 0, .slice none 0 0, .int .i64 0, .slice none 0 0, .int .i64 0, .slice none 0 0, .int .i64 0, .slice none 0 0, .int .i64 0, .slice none 0 0, .int .i64 0, .slice none 0 0, .int .i64 0, .slice none 0 0, .int .i64 0, .slice none 0 0, .int .i64 0, .slice none 0 0, .int .i64 0, .slice none 0 0, .int .i64 0, .slice none 0 0, .int .i64 0, .slice none 0 0, .int .i64 0, .slice none 0 0, .int .i64 0, .slice none 0 0, .int .i64 0, .slice none 0 0, .int .i64 0, .slice none 0 0, .int .i64 0, .slice none 0 0, .int .i64 0, .slice none 0 0, .int .i64 0, .slice none 0 0, .int .i64 0, .slice none 0 0, .int .i64 0, .int .i64 0, .int .i64 0, .int .i64 0]⟩),
  (77, ⟨.ptr 73, 1, 8, .pointer none⟩),
  (78, ⟨.func, 1, 8, .nilFunc⟩),
  (84, ⟨.int .u32, 1, 4, .int .u32 0⟩),
  (87, ⟨.func, 1, 8, .nilFunc⟩),
  (88, ⟨.ptr 5, 1, 8, .pointer none⟩)]


theorem tok : TOk Try.prog tys := tok_of ⟨⟨by kernel_rfl, by kernel_rfl⟩, ⟨by kernel_rfl, by kernel_rfl⟩, ⟨by kernel_rfl, by kernel_rfl⟩, ⟨by kernel_rfl, by kernel_rfl⟩, ⟨by kernel_rfl, by kernel_rfl⟩, ⟨by kernel_rfl, by kernel_rfl⟩, ⟨by kernel_rfl, by kernel_rfl⟩, ⟨by kernel_rfl, by kernel_rfl⟩, ⟨by kernel_rfl, by kernel_rfl⟩, ⟨by kernel_rfl, by kernel_rfl⟩, ⟨by kernel_rfl, by kernel_rfl⟩, ⟨by kernel_rfl, by kernel_rfl⟩, ⟨by kernel_rfl, by kernel_rfl⟩, ⟨by kernel_rfl, by kernel_rfl⟩, ⟨by kernel_rfl, by kernel_rfl⟩, ⟨by kernel_rfl, by kernel_rfl⟩, ⟨by kernel_rfl, by kernel_rfl⟩, ⟨by kernel_rfl, by kernel_rfl⟩, ⟨by kernel_rfl, by kernel_rfl⟩, ⟨by kernel_rfl, by kernel_rfl⟩, ⟨by kernel_rfl, by kernel_rfl⟩, ⟨by kernel_rfl, by kernel_rfl⟩, ⟨by kernel_rfl, by kernel_rfl⟩, ⟨by kernel_rfl, by kernel_rfl⟩, ⟨by kernel_rfl, by kernel_rfl⟩, ⟨by kernel_rfl, by kernel_rfl⟩, ⟨by kernel_rfl, by kernel_rfl⟩, ⟨by kernel_rfl, by kernel_rfl⟩, ⟨by kernel_rfl, by kernel_rfl⟩, ⟨by kernel_rfl, by kernel_rfl⟩, ⟨by kernel_rfl, by kernel_rfl⟩, ⟨by kernel_rfl, by kernel_rfl⟩, ⟨by kernel_rfl, by kernel_rfl⟩, ⟨by kernel_rfl, by kernel_rfl⟩, ⟨by kernel_rfl, by kernel_rfl⟩, ⟨by kernel_rfl, by kernel_rfl⟩, ⟨by kernel_rfl, by kernel_rfl⟩, ⟨by kernel_rfl, by kernel_rfl⟩, ⟨by kernel_rfl, by kernel_rfl⟩, ⟨by kernel_rfl, by kernel_rfl⟩, ⟨by kernel_rfl, by kernel_rfl⟩, ⟨by kernel_rfl, by kernel_rfl⟩, ⟨by kernel_rfl, by kernel_rfl⟩, ⟨by kernel_rfl, by kernel_rfl⟩, ⟨by kernel_rfl, by kernel_rfl⟩, ⟨by kernel_rfl, by kernel_rfl⟩, ⟨by kernel_rfl, by kernel_rfl⟩, ⟨by kernel_rfl, by kernel_rfl⟩, ⟨by kernel_rfl, by kernel_rfl⟩, ⟨by kernel_rfl, by kernel_rfl⟩, ⟨by kernel_rfl, by kernel_rfl⟩, ⟨by kernel_rfl, by kernel_rfl⟩, ⟨by kernel_rfl, by kernel_rfl⟩, ⟨by kernel_rfl, by kernel_rfl⟩, ⟨by kernel_rfl, by kernel_rfl⟩, ⟨by kernel_rfl, by kernel_rfl⟩, ⟨by kernel_rfl, by kernel_rfl⟩, ⟨by kernel_rfl, by kernel_rfl⟩, True.intro⟩
theorem mixed : Try.prog.follows .mixedOrders = true := by kernel_rfl
def inL : List Nat → Nat → Bool
  | [], _ => false
  | a :: r, n => match Nat.beq a n with | true => true | false => inL r n
def stl : Nat → Bool := inL [32, 36]
/- 10: foghorn/foghornlaw17.awake -/
def p10 : Nat → Option PlanC := fun _ => none
def wl10 : Nat → List Nat := fun _ => []
def wj10 : Nat → Option (List Nat) := fun _ => none
def kr10 : Nat → List Nat := fun _ => []
noncomputable def e10 : Ent := entOf Try.f10 ⟨p10, wl10, wj10, kr10, []⟩
theorem g10 : EntOk Try.prog tys stl 10 e10 := .inr ⟨rfl, Try.func10, by kernel_rfl, by kernel_rfl, by kernel_rfl, by kernel_rfl, by kernel_rfl, rfl⟩
/- 11: foghorn/weave.In -/
def p11 : Nat → Option PlanC := fun _ => none
def wl11 : Nat → List Nat := fun
  | 6 => [37]
  | 14 => [59]
  | _ => []
def wj11 : Nat → Option (List Nat) := fun _ => none
def kr11 : Nat → List Nat := fun _ => []
noncomputable def e11 : Ent := entOf Try.f11 ⟨p11, wl11, wj11, kr11, []⟩
theorem g11 : EntOk Try.prog tys stl 11 e11 := .inr ⟨rfl, Try.func11, by kernel_rfl, by kernel_rfl, by kernel_rfl, by kernel_rfl, by kernel_rfl, rfl⟩
/- 23: foghorn/weave.New -/
def p23 : Nat → Option PlanC := fun _ => none
def wl23 : Nat → List Nat := fun _ => []
def wj23 : Nat → Option (List Nat) := fun _ => none
def kr23 : Nat → List Nat := fun _ => []
noncomputable def e23 : Ent := entOf Try.f23 ⟨p23, wl23, wj23, kr23, []⟩
theorem g23 : EntOk Try.prog tys stl 23 e23 := .inr ⟨rfl, Try.func23, by kernel_rfl, by kernel_rfl, by kernel_rfl, by kernel_rfl, by kernel_rfl, rfl⟩
/- 26: (*foghorn/weave.Loom).Push -/
def p26 : Nat → Option PlanC := fun _ => none
def wl26 : Nat → List Nat := fun _ => []
def wj26 : Nat → Option (List Nat) := fun
  | 7 => some []
  | _ => none
def kr26 : Nat → List Nat := fun _ => []
noncomputable def e26 : Ent := entOf Try.f26 ⟨p26, wl26, wj26, kr26, []⟩
theorem g26 : EntOk Try.prog tys stl 26 e26 := .inr ⟨rfl, Try.func26, by kernel_rfl, by kernel_rfl, by kernel_rfl, by kernel_rfl, by kernel_rfl, rfl⟩
/- 28: (*foghorn/weave.Loom).Run -/
def p28 : Nat → Option PlanC := fun _ => none
def wl28 : Nat → List Nat := fun
  | 7 => [18]
  | _ => []
def wj28 : Nat → Option (List Nat) := fun _ => none
def kr28 : Nat → List Nat := fun _ => []
noncomputable def e28 : Ent := entOf Try.f28 ⟨p28, wl28, wj28, kr28, []⟩
theorem g28 : EntOk Try.prog tys stl 28 e28 := .inr ⟨rfl, Try.func28, by kernel_rfl, by kernel_rfl, by kernel_rfl, by kernel_rfl, by kernel_rfl, rfl⟩
/- 32: foghorn/weave.isWeave -/
def p32 : Nat → Option PlanC := fun _ => none
def wl32 : Nat → List Nat := fun _ => []
def wj32 : Nat → Option (List Nat) := fun _ => none
def kr32 : Nat → List Nat := fun _ => []
noncomputable def e32 : Ent := entOf Try.f32 ⟨p32, wl32, wj32, kr32, []⟩
theorem g32 : EntOk Try.prog tys stl 32 e32 := .inr ⟨rfl, Try.func32, by kernel_rfl, by kernel_rfl, by kernel_rfl, by kernel_rfl, by kernel_rfl, rfl⟩
/- 35: foghorn/weave.made -/
def p35 : Nat → Option PlanC := fun
  | 7 => some (.op 2 false (.op 3 false (.op 0 true (.op 1 true (.op 5 true (.op 8 true (.op 9 true (.op 4 false (.op 6 false (.op 7 false (.op 10 false (.op 11 false (.op 12 false (.done))))))))))))))
  | _ => none
def wl35 : Nat → List Nat := fun
  | 5 => [29]
  | _ => []
def wj35 : Nat → Option (List Nat) := fun _ => none
def kr35 : Nat → List Nat := fun _ => []
noncomputable def e35 : Ent := entOf Try.f35 ⟨p35, wl35, wj35, kr35, []⟩
theorem g35 : EntOk Try.prog tys stl 35 e35 := .inr ⟨rfl, Try.func35, by kernel_rfl, by kernel_rfl, by kernel_rfl, by kernel_rfl, by kernel_rfl, rfl⟩
/- 36: foghorn/weave.New$1 -/
def p36 : Nat → Option PlanC := fun _ => none
def wl36 : Nat → List Nat := fun _ => []
def wj36 : Nat → Option (List Nat) := fun _ => none
def kr36 : Nat → List Nat := fun _ => []
noncomputable def e36 : Ent := entOf Try.f36 ⟨p36, wl36, wj36, kr36, []⟩
theorem g36 : EntOk Try.prog tys stl 36 e36 := .inr ⟨rfl, Try.func36, by kernel_rfl, by kernel_rfl, by kernel_rfl, by kernel_rfl, by kernel_rfl, rfl⟩
/- 38: (*foghorn/weave.ring).push -/
def p38 : Nat → Option PlanC := fun _ => none
def wl38 : Nat → List Nat := fun _ => []
def wj38 : Nat → Option (List Nat) := fun _ => none
def kr38 : Nat → List Nat := fun _ => []
noncomputable def e38 : Ent := entOf Try.f38 ⟨p38, wl38, wj38, kr38, []⟩
theorem g38 : EntOk Try.prog tys stl 38 e38 := .inr ⟨rfl, Try.func38, by kernel_rfl, by kernel_rfl, by kernel_rfl, by kernel_rfl, by kernel_rfl, rfl⟩
noncomputable def ents : List (Nat × Ent) := [(10, e10), (11, e11), (23, e23), (26, e26), (28, e28), (32, e32), (35, e35), (36, e36), (38, e38)]
theorem goods : EntsOk Try.prog tys stl ents := ⟨g10, g11, g23, g26, g28, g32, g35, g36, g38, True.intro⟩
noncomputable def tab : Nat → Option Ent := (tabOf ents).get
theorem fok : FOk Try.prog tys stl tab := fok_of goods
noncomputable def d0 : Disp := .leaf
theorem d0_ok : CallSim Try.prog tys stl tab d0.fn := Disp.sim True.intro
/- foghorn/foghornlaw17.awake -/
noncomputable def R10 (q_share : (α : Type) → α → (α → Bool) → Bool) (q_genW : Option CV → (W → Bool) → Bool) (q_cmpW : (Nat → Nat → Bool) → Nat → Option CV → W → W → (W → Bool) → Bool) (q_condW : W → Bool → Bool → Bool) (q_guardW : Bool → W → Bool → Bool → Bool) (q_pickW : W → W → W → (W → Bool) → Bool) (q_tupW : W → (List W → Bool) → Bool) (q_nthW : Nat → List W → (W → Bool) → Bool) (q_buildSW : Nat → Nat → Kind → Nat → Bool → HW → Nat → Nat → List W → KW → Bool) (fu : Nat) (call : CallW) (h0 : HW) (c0 : Nat) (K : KW) : Bool :=
q_buildSW 1 99 .strs 2 true h0 c0 2 [⟨12, 0, ⟨0, 0, 0, .str ⟨⟨[97, 98, 99]⟩⟩⟩, []⟩, ⟨12, 0, ⟨0, 0, 0, .str ⟨⟨[100, 101, 102]⟩⟩⟩, []⟩] fun v1 h2 c3 =>
call 11 [v1] h2 c3 fun v4 h5 c6 =>
q_tupW v4 fun l7 => q_nthW 0 l7 fun v8 =>
q_tupW v4 fun l9 => q_nthW 1 l9 fun v10 =>
call 23 [⟨3, 2, r0, []⟩, ⟨3, 1, r0, []⟩] h5 c6 fun v11 h12 c13 =>
q_tupW v11 fun l14 => q_nthW 0 l14 fun v15 =>
q_tupW v11 fun l16 => q_nthW 1 l16 fun v17 =>
q_cmpW (cmpF2 .neq) 3 (binC Try.prog .neq 24 (.tmp 16) (.const (.int .i64 (.ofNat 0))) (dec v10) (dec ⟨3, 0, r0, []⟩)) v10 ⟨3, 0, r0, []⟩ fun v18 =>
q_share _ (fun (v20 : W) (h21 : HW) (c22 : Nat) =>
q_share _ (fun (v24 : W) (h25 : HW) (c26 : Nat) =>
q_pickW v18 ⟨8, 1, r0, []⟩ v24 fun v27 =>
q_share _ (fun (v29 : W) (h30 : HW) (c31 : Nat) =>
q_share _ (fun (v33 : W) (h34 : HW) (c35 : Nat) =>
q_pickW v27 ⟨8, 1, r0, []⟩ v33 fun v36 =>
q_condW v36 (
K ⟨8, 0, r0, []⟩ h34 c35) (
call 28 [v15, ⟨12, 0, ⟨0, 0, 0, .str ⟨⟨[97, 98, 99, 100]⟩⟩⟩, []⟩] h34 c35 fun v37 h38 c39 =>
q_tupW v37 fun l40 => q_nthW 0 l40 fun v41 =>
q_tupW v37 fun l42 => q_nthW 1 l42 fun v43 =>
q_cmpW (cmpF2 .eql) 3 (binC Try.prog .eql 24 (.tmp 31) (.const (.int .i64 (.ofNat 0))) (dec v43) (dec ⟨3, 0, r0, []⟩)) v43 ⟨3, 0, r0, []⟩ fun v44 =>
q_share _ (fun (v46 : W) (h47 : HW) (c48 : Nat) =>
q_share _ (fun (v50 : W) (h51 : HW) (c52 : Nat) =>
q_pickW v44 v50 ⟨8, 0, r0, []⟩ fun v53 =>
K v53 h51 c52) fun f49 =>
q_guardW true v44 (q_genW (binC Try.prog .eql 9 (.tmp 34) (.const (.string ⟨⟨[97, 0, 99, 98]⟩⟩)) (dec v46) (dec ⟨12, 0, ⟨0, 0, 0, .str ⟨⟨[97, 0, 99, 98]⟩⟩⟩, []⟩)) fun v54 =>
f49 v54 h47 c48) (f49 wUnd h47 c48)) fun f45 =>
q_guardW true v44 (f45 v41 h38 c39) (f45 wUnd h38 c39))) fun f32 =>
q_guardW false v27 (q_genW (binC Try.prog .neq 9 (.tmp 23) (.const (.string ⟨⟨[97, 100, 98, 101, 99, 102]⟩⟩)) (dec v29) (dec ⟨12, 0, ⟨0, 0, 0, .str ⟨⟨[97, 100, 98, 101, 99, 102]⟩⟩⟩, []⟩)) fun v55 =>
f32 v55 h30 c31) (f32 wUnd h30 c31)) fun f28 =>
q_guardW false v27 (f28 v8 h25 c26) (f28 wUnd h25 c26)) fun f23 =>
q_guardW false v18 (q_cmpW (cmpF2 .neq) 3 (binC Try.prog .neq 24 (.tmp 19) (.const (.int .i64 (.ofNat 0))) (dec v20) (dec ⟨3, 0, r0, []⟩)) v20 ⟨3, 0, r0, []⟩ fun v56 =>
f23 v56 h21 c22) (f23 wUnd h21 c22)) fun f19 =>
q_guardW false v18 (f19 v17 h12 c13) (f19 wUnd h12 c13)
theorem R10_eq (Q : PrimW) (fu : Nat) (call : CallW) : curryA 0 (fnK Q Try.prog tys stl fu call e10) = R10 Q.share Q.genW Q.cmpW Q.condW Q.guardW Q.pickW Q.tupW Q.nthW Q.buildSW fu call := by kernel_rfl
noncomputable def n10 (call : CallW) : List W → HW → Nat → KW → Bool := appF 0 (R10 (fun _ x f => f x) genW cmpW condW guardW pickW tupW nthW buildSW 1000000 call)
theorem n10_ok {call : CallW} (h : CallSim Try.prog tys stl tab call) : FnGood Try.prog tys stl tab 10 (n10 call) := node_ok h (by kernel_rfl) rfl g10 (R10_eq real _ _)
/- foghorn/weave.In -/
noncomputable def R11 (q_share : (α : Type) → α → (α → Bool) → Bool) (q_genW : Option CV → (W → Bool) → Bool) (q_addW : Nat → Nat → Option CV → W → W → (W → Bool) → Bool) (q_mulW : Nat → Nat → Option CV → W → W → (W → Bool) → Bool) (q_quoW : Nat → Nat → Option CV → W → W → (W → Bool) → Bool) (q_remW : Nat → Nat → Option CV → W → W → (W → Bool) → Bool) (q_cmpW : (Nat → Nat → Bool) → Nat → Option CV → W → W → (W → Bool) → Bool) (q_notW : Option CV → W → (W → Bool) → Bool) (q_condW : W → Bool → Bool → Bool) (q_guardW : Bool → W → Bool → Bool → Bool) (q_pickW : W → W → W → (W → Bool) → Bool) (q_idxSW : Nat → W → W → (W → Bool) → Bool) (q_lenW : Option CV → W → (W → Bool) → Bool) (q_loadSW : HW → W → (W → Bool) → Bool) (q_storeSW : HW → W → W → (HW → Bool) → Bool) (q_makeSW : Nat → Nat → Nat → Kind → List W → Bool → HW → Nat → W → W → KW → Bool) (q_cpTW : Nat → HW → Nat → W → W → KW → Bool) (fu : Nat) (call : CallW) (a0 : W) (h0 : HW) (c0 : Nat) (K : KW) : Bool :=
q_lenW (lenC tys 22 (dec a0)) a0 fun v1 =>
q_cmpW (cmpF2 .eql) 3 (binC Try.prog .eql 3 (.tmp 13) (.const (.int .i64 (.ofNat 0))) (dec v1) (dec ⟨3, 0, r0, []⟩)) v1 ⟨3, 0, r0, []⟩ fun v2 =>
q_share _ (fun (v4 : W) (h5 : HW) (c6 : Nat) =>
q_share _ (fun (v8 : W) (h9 : HW) (c10 : Nat) =>
q_share _ (fun (v12 : W) (h13 : HW) (c14 : Nat) =>
q_share _ (fun (v16 : W) (h17 : HW) (c18 : Nat) =>
q_share _ (fun (v20 : W) (h21 : HW) (c22 : Nat) =>
q_share _ (fun (v24 : W) (h25 : HW) (c26 : Nat) =>
q_share _ (fun (v28 : W) (h29 : HW) (c30 : Nat) =>
q_share _ (fun (v32 : W) (h33 : HW) (c34 : Nat) =>
q_pickW v2 ⟨8, 1, r0, []⟩ v32 fun v35 =>
q_condW v35 (
K ⟨13, 0, r0, [⟨12, 0, ⟨0, 0, 0, .str ⟨⟨[]⟩⟩⟩, []⟩, ⟨3, 1, r0, []⟩]⟩ h33 c34) (
q_lenW (lenC tys 22 (dec a0)) a0 fun v36 =>
q_idxSW 1 a0 ⟨3, 0, r0, []⟩ fun v37 =>
q_loadSW h33 v37 fun v38 =>
q_genW (lenMC Try.prog tys ⟨[], 0, decH h33, 0⟩ 9 (dec v38)) fun v39 =>
q_mulW 3 9223372036854775807 (binC Try.prog .mul 3 (.tmp 31) (.tmp 32) (dec v36) (dec v39)) v36 v39 fun v40 =>
q_makeSW 1 1 4 (.ints .u8) [⟨4, 0, r0, []⟩] true h33 c34 v40 v40 fun v41 h42 c43 =>
q_lenW (lenC tys 22 (dec a0)) a0 fun v44 =>
@Nat.rec (fun _ => Fun 1) (fun _ _ _ => false) (fun _ f48 v45 h46 c47 =>
q_cmpW (cmpF2 .lss) 3 (binC Try.prog .lss 3 (.tmp 37) (.tmp 36) (dec v45) (dec v44)) v45 v44 fun v49 =>
q_condW v49 (
q_idxSW 1 a0 v45 fun v50 =>
q_loadSW h46 v50 fun v51 =>
q_genW (lenMC Try.prog tys ⟨[], 0, decH h46, 0⟩ 9 (dec v51)) fun v52 =>
q_cmpW (cmpF2 .neq) 3 (binC Try.prog .neq 3 (.tmp 43) (.tmp 44) (dec v52) (dec v39)) v52 v39 fun v53 =>
q_condW v53 (
K ⟨13, 0, r0, [⟨12, 0, ⟨0, 0, 0, .str ⟨⟨[]⟩⟩⟩, []⟩, ⟨3, 1, r0, []⟩]⟩ h46 c47) (
q_mulW 3 9223372036854775807 (binC Try.prog .mul 3 (.tmp 47) (.tmp 48) (dec v45) (dec v39)) v45 v39 fun v54 =>
q_genW (sliceM tys ⟨[], 0, decH h46, 0⟩ 60 (dec v41) (some (dec v54)) none none) fun v55 =>
q_cpTW 1 h46 c47 v55 v51 fun v56 h57 c58 =>
q_addW 3 9223372036854775807 (binC Try.prog .add 3 (.tmp 37) (.const (.int .i64 (.ofNat 1))) (dec v45) (dec ⟨3, 1, r0, []⟩)) v45 ⟨3, 1, r0, []⟩ fun v59 =>
f48 v59 h57 c58)) (
q_lenW (lenC tys 60 (dec v41)) v41 fun v60 =>
q_makeSW 1 1 4 (.ints .u8) [⟨4, 0, r0, []⟩] true h46 c47 v60 v60 fun v61 h62 c63 =>
q_lenW (lenC tys 60 (dec v41)) v41 fun v64 =>
@Nat.rec (fun _ => Fun 1) (fun _ _ _ => false) (fun _ f68 v65 h66 c67 =>
q_cmpW (cmpF2 .lss) 3 (binC Try.prog .lss 3 (.tmp 59) (.tmp 58) (dec v65) (dec v64)) v65 v64 fun v69 =>
q_condW v69 (
q_idxSW 1 v41 v65 fun v70 =>
q_loadSW h66 v70 fun v71 =>
q_remW 3 9223372036854775807 (binC Try.prog .rem 3 (.tmp 65) (.tmp 66) (dec v65) (dec v39)) v65 v39 fun v72 =>
q_mulW 3 9223372036854775807 (binC Try.prog .mul 3 (.tmp 67) (.tmp 68) (dec v72) (dec v36)) v72 v36 fun v73 =>
q_quoW 3 9223372036854775807 (binC Try.prog .quo 3 (.tmp 70) (.tmp 71) (dec v65) (dec v39)) v65 v39 fun v74 =>
q_addW 3 9223372036854775807 (binC Try.prog .add 3 (.tmp 69) (.tmp 72) (dec v73) (dec v74)) v73 v74 fun v75 =>
q_idxSW 1 v61 v75 fun v76 =>
q_storeSW h66 v76 v71 fun h77 =>
q_addW 3 9223372036854775807 (binC Try.prog .add 3 (.tmp 59) (.const (.int .i64 (.ofNat 1))) (dec v65) (dec ⟨3, 1, r0, []⟩)) v65 ⟨3, 1, r0, []⟩ fun v78 =>
f68 v78 h77 c67) (
q_genW (convC Try.prog tys ⟨[], 0, decH h66, 0⟩ 60 9 (dec v61)) fun v79 =>
K ⟨13, 0, r0, [v79, ⟨3, 0, r0, []⟩]⟩ h66 c67)) fu ⟨3, 0, r0, []⟩ h62 c63)) fu ⟨3, 0, r0, []⟩ h42 c43)) fun f31 =>
q_guardW false v2 (q_notW (two Try.prog (dec v28) (Op.unary .not)) v28 fun v80 =>
f31 v80 h29 c30) (f31 wUnd h29 c30)) fun f27 =>
q_guardW false v2 (call 32 [v8, v24] h25 c26 fun v81 h82 c83 =>
f27 v81 h82 c83) (f27 wUnd h25 c26)) fun f23 =>
q_guardW false v2 (q_genW (lenMC Try.prog tys ⟨[], 0, decH h21, 0⟩ 9 (dec v20)) fun v84 =>
f23 v84 h21 c22) (f23 wUnd h21 c22)) fun f19 =>
q_guardW false v2 (q_loadSW h17 v16 fun v85 =>
f19 v85 h17 c18) (f19 wUnd h17 c18)) fun f15 =>
q_guardW false v2 (q_idxSW 1 v12 ⟨3, 0, r0, []⟩ fun v86 =>
f15 v86 h13 c14) (f15 wUnd h13 c14)) fun f11 =>
q_guardW false v2 (f11 a0 h9 c10) (f11 wUnd h9 c10)) fun f7 =>
q_guardW false v2 (q_lenW (lenC tys 22 (dec v4)) v4 fun v87 =>
f7 v87 h5 c6) (f7 wUnd h5 c6)) fun f3 =>
q_guardW false v2 (f3 a0 h0 c0) (f3 wUnd h0 c0)
theorem R11_eq (Q : PrimW) (fu : Nat) (call : CallW) : curryA 1 (fnK Q Try.prog tys stl fu call e11) = R11 Q.share Q.genW Q.addW Q.mulW Q.quoW Q.remW Q.cmpW Q.notW Q.condW Q.guardW Q.pickW Q.idxSW Q.lenW Q.loadSW Q.storeSW Q.makeSW Q.cpTW fu call := by kernel_rfl
noncomputable def n11 (call : CallW) : List W → HW → Nat → KW → Bool := appF 1 (R11 (fun _ x f => f x) genW addW mulW quoW remW cmpW notW condW guardW pickW idxSW lenW loadSW storeSW makeSW cpTW 1000000 call)
theorem n11_ok {call : CallW} (h : CallSim Try.prog tys stl tab call) : FnGood Try.prog tys stl tab 11 (n11 call) := node_ok h (by kernel_rfl) rfl g11 (R11_eq real _ _)
/- foghorn/weave.New -/
noncomputable def R23 (q_tupW : W → (List W → Bool) → Bool) (q_nthW : Nat → List W → (W → Bool) → Bool) (fu : Nat) (call : CallW) (a0 : W) (a1 : W) (h0 : HW) (c0 : Nat) (K : KW) : Bool :=
call 35 [a0, a1, ⟨14, 36, r0, []⟩] h0 c0 fun v1 h2 c3 =>
q_tupW v1 fun l4 => q_nthW 0 l4 fun v5 =>
q_tupW v1 fun l6 => q_nthW 1 l6 fun v7 =>
K ⟨13, 0, r0, [v5, v7]⟩ h2 c3
theorem R23_eq (Q : PrimW) (fu : Nat) (call : CallW) : curryA 2 (fnK Q Try.prog tys stl fu call e23) = R23 Q.tupW Q.nthW fu call := by kernel_rfl
noncomputable def n23 (call : CallW) : List W → HW → Nat → KW → Bool := appF 2 (R23 tupW nthW 1000000 call)
theorem n23_ok {call : CallW} (h : CallSim Try.prog tys stl tab call) : FnGood Try.prog tys stl tab 23 (n23 call) := node_ok h (by kernel_rfl) rfl g23 (R23_eq real _ _)
/- (*foghorn/weave.Loom).Push -/
noncomputable def R26 (q_share : (α : Type) → α → (α → Bool) → Bool) (q_genW : Option CV → (W → Bool) → Bool) (q_addW : Nat → Nat → Option CV → W → W → (W → Bool) → Bool) (q_cmpW : (Nat → Nat → Bool) → Nat → Option CV → W → W → (W → Bool) → Bool) (q_condW : W → Bool → Bool → Bool) (q_nilcW : W → (W → Bool) → Bool) (q_fadW : Nat → W → (W → Bool) → Bool) (q_idxAW : Nat → Nat → W → W → (W → Bool) → Bool) (q_loadSW : HW → W → (W → Bool) → Bool) (q_storeSW : HW → W → W → (HW → Bool) → Bool) (fu : Nat) (call : CallW) (a0 : W) (a1 : W) (h0 : HW) (c0 : Nat) (K : KW) : Bool :=
q_genW (binC Try.prog .eql 46 (.tmp 7) (.const (.pointer none)) (dec a0) (dec ⟨12, 0, ⟨0, 0, 0, .nilp⟩, []⟩)) fun v1 =>
q_condW v1 (
K ⟨13, 0, r0, [⟨4, 0, r0, []⟩, ⟨3, 2, r0, []⟩]⟩ h0 c0) (
q_nilcW a0 fun v2 =>
q_fadW 130 v2 fun v3 =>
q_loadSW h0 v3 fun v4 =>
q_nilcW a0 fun v5 =>
q_fadW 0 v5 fun v6 =>
q_idxAW 2 64 v6 v4 fun v7 =>
call 38 [v7, a1] h0 c0 fun v8 h9 c10 =>
q_nilcW a0 fun v11 =>
q_fadW 130 v11 fun v12 =>
q_loadSW h9 v12 fun v13 =>
q_addW 3 9223372036854775807 (binC Try.prog .add 3 (.tmp 22) (.const (.int .i64 (.ofNat 1))) (dec v13) (dec ⟨3, 1, r0, []⟩)) v13 ⟨3, 1, r0, []⟩ fun v14 =>
q_nilcW a0 fun v15 =>
q_fadW 130 v15 fun v16 =>
q_storeSW h9 v16 v14 fun h17 =>
q_share _ (fun  (h18 : HW) (c19 : Nat) =>
K ⟨13, 0, r0, [v8, ⟨3, 0, r0, []⟩]⟩ h18 c19) fun f20 =>
q_nilcW a0 fun v21 =>
q_fadW 130 v21 fun v22 =>
q_loadSW h17 v22 fun v23 =>
q_nilcW a0 fun v24 =>
q_fadW 128 v24 fun v25 =>
q_loadSW h17 v25 fun v26 =>
q_cmpW (cmpF2 .geq) 3 (binC Try.prog .geq 3 (.tmp 29) (.tmp 33) (dec v23) (dec v26)) v23 v26 fun v27 =>
q_condW v27 (
q_nilcW a0 fun v28 =>
q_fadW 130 v28 fun v29 =>
q_storeSW h17 v29 ⟨3, 0, r0, []⟩ fun h30 =>
f20 h30 c10) (
f20 h17 c10))
theorem R26_eq (Q : PrimW) (fu : Nat) (call : CallW) : curryA 2 (fnK Q Try.prog tys stl fu call e26) = R26 Q.share Q.genW Q.addW Q.cmpW Q.condW Q.nilcW Q.fadW Q.idxAW Q.loadSW Q.storeSW fu call := by kernel_rfl
noncomputable def n26 (call : CallW) : List W → HW → Nat → KW → Bool := appF 2 (R26 (fun _ x f => f x) genW addW cmpW condW nilcW fadW idxAW loadSW storeSW 1000000 call)
theorem n26_ok {call : CallW} (h : CallSim Try.prog tys stl tab call) : FnGood Try.prog tys stl tab 26 (n26 call) := node_ok h (by kernel_rfl) rfl g26 (R26_eq real _ _)
/- (*foghorn/weave.Loom).Run -/
noncomputable def R28 (q_genW : Option CV → (W → Bool) → Bool) (q_addW : Nat → Nat → Option CV → W → W → (W → Bool) → Bool) (q_cmpW : (Nat → Nat → Bool) → Nat → Option CV → W → W → (W → Bool) → Bool) (q_condW : W → Bool → Bool → Bool) (q_idxSW : Nat → W → W → (W → Bool) → Bool) (q_lenW : Option CV → W → (W → Bool) → Bool) (q_tupW : W → (List W → Bool) → Bool) (q_nthW : Nat → List W → (W → Bool) → Bool) (q_storeSW : HW → W → W → (HW → Bool) → Bool) (q_makeSW : Nat → Nat → Nat → Kind → List W → Bool → HW → Nat → W → W → KW → Bool) (fu : Nat) (call : CallW) (a0 : W) (a1 : W) (h0 : HW) (c0 : Nat) (K : KW) : Bool :=
q_genW (binC Try.prog .eql 46 (.tmp 8) (.const (.pointer none)) (dec a0) (dec ⟨12, 0, ⟨0, 0, 0, .nilp⟩, []⟩)) fun v1 =>
q_condW v1 (
K ⟨13, 0, r0, [⟨12, 0, ⟨0, 0, 0, .str ⟨⟨[]⟩⟩⟩, []⟩, ⟨3, 2, r0, []⟩]⟩ h0 c0) (
q_genW (lenMC Try.prog tys ⟨[], 0, decH h0, 0⟩ 9 (dec a1)) fun v2 =>
q_cmpW (cmpF2 .gtr) 3 (binC Try.prog .gtr 3 (.tmp 11) (.const (.int .i64 (.ofNat 32768))) (dec v2) (dec ⟨3, 32768, r0, []⟩)) v2 ⟨3, 32768, r0, []⟩ fun v3 =>
q_condW v3 (
K ⟨13, 0, r0, [⟨12, 0, ⟨0, 0, 0, .str ⟨⟨[]⟩⟩⟩, []⟩, ⟨3, 1, r0, []⟩]⟩ h0 c0) (
q_genW (lenMC Try.prog tys ⟨[], 0, decH h0, 0⟩ 9 (dec a1)) fun v4 =>
q_makeSW 1 1 4 (.ints .u8) [⟨4, 0, r0, []⟩] true h0 c0 v4 v4 fun v5 h6 c7 =>
q_lenW (lenC tys 60 (dec v5)) v5 fun v8 =>
@Nat.rec (fun _ => Fun 1) (fun _ _ _ => false) (fun _ f12 v9 h10 c11 =>
q_cmpW (cmpF2 .lss) 3 (binC Try.prog .lss 3 (.tmp 18) (.tmp 17) (dec v9) (dec v8)) v9 v8 fun v13 =>
q_condW v13 (
q_genW (two2 Try.prog (dec a1) (dec v9) (Instr.index 9)) fun v14 =>
call 26 [a0, v14] h10 c11 fun v15 h16 c17 =>
q_tupW v15 fun l18 => q_nthW 0 l18 fun v19 =>
q_tupW v15 fun l20 => q_nthW 1 l20 fun v21 =>
q_idxSW 1 v5 v9 fun v22 =>
q_storeSW h16 v22 v19 fun h23 =>
q_addW 3 9223372036854775807 (binC Try.prog .add 3 (.tmp 18) (.const (.int .i64 (.ofNat 1))) (dec v9) (dec ⟨3, 1, r0, []⟩)) v9 ⟨3, 1, r0, []⟩ fun v24 =>
f12 v24 h23 c17) (
q_genW (convC Try.prog tys ⟨[], 0, decH h10, 0⟩ 60 9 (dec v5)) fun v25 =>
K ⟨13, 0, r0, [v25, ⟨3, 0, r0, []⟩]⟩ h10 c11)) fu ⟨3, 0, r0, []⟩ h6 c7))
theorem R28_eq (Q : PrimW) (fu : Nat) (call : CallW) : curryA 2 (fnK Q Try.prog tys stl fu call e28) = R28 Q.genW Q.addW Q.cmpW Q.condW Q.idxSW Q.lenW Q.tupW Q.nthW Q.storeSW Q.makeSW fu call := by kernel_rfl
noncomputable def n28 (call : CallW) : List W → HW → Nat → KW → Bool := appF 2 (R28 genW addW cmpW condW idxSW lenW tupW nthW storeSW makeSW 1000000 call)
theorem n28_ok {call : CallW} (h : CallSim Try.prog tys stl tab call) : FnGood Try.prog tys stl tab 28 (n28 call) := node_ok h (by kernel_rfl) rfl g28 (R28_eq real _ _)
/- foghorn/weave.isWeave -/
noncomputable def R32 (q_share : (α : Type) → α → (α → Bool) → Bool) (q_cmpW : (Nat → Nat → Bool) → Nat → Option CV → W → W → (W → Bool) → Bool) (q_guardW : Bool → W → Bool → Bool → Bool) (q_pickW : W → W → W → (W → Bool) → Bool) (fu : Nat) (call : CallW) (a0 : W) (a1 : W) (h0 : HW) (c0 : Nat) (K : KW) : Bool :=
q_cmpW (cmpF2 .geq) 3 (binC Try.prog .geq 3 (.tmp 5) (.const (.int .i64 (.ofNat 1))) (dec a0) (dec ⟨3, 1, r0, []⟩)) a0 ⟨3, 1, r0, []⟩ fun v1 =>
q_share _ (fun (v3 : W) (h4 : HW) (c5 : Nat) =>
q_share _ (fun (v7 : W) (h8 : HW) (c9 : Nat) =>
q_pickW v1 v7 ⟨8, 0, r0, []⟩ fun v10 =>
q_share _ (fun (v12 : W) (h13 : HW) (c14 : Nat) =>
q_share _ (fun (v16 : W) (h17 : HW) (c18 : Nat) =>
q_pickW v10 v16 ⟨8, 0, r0, []⟩ fun v19 =>
q_share _ (fun (v21 : W) (h22 : HW) (c23 : Nat) =>
q_share _ (fun (v25 : W) (h26 : HW) (c27 : Nat) =>
q_pickW v19 v25 ⟨8, 0, r0, []⟩ fun v28 =>
K v28 h26 c27) fun f24 =>
q_guardW true v19 (q_cmpW (cmpF2 .leq) 3 (binC Try.prog .leq 3 (.tmp 16) (.const (.int .i64 (.ofNat 255))) (dec v21) (dec ⟨3, 255, r0, []⟩)) v21 ⟨3, 255, r0, []⟩ fun v29 =>
f24 v29 h22 c23) (f24 wUnd h22 c23)) fun f20 =>
q_guardW true v19 (f20 a1 h17 c18) (f20 wUnd h17 c18)) fun f15 =>
q_guardW true v10 (q_cmpW (cmpF2 .geq) 3 (binC Try.prog .geq 3 (.tmp 12) (.const (.int .i64 (.ofNat 1))) (dec v12) (dec ⟨3, 1, r0, []⟩)) v12 ⟨3, 1, r0, []⟩ fun v30 =>
f15 v30 h13 c14) (f15 wUnd h13 c14)) fun f11 =>
q_guardW true v10 (f11 a1 h8 c9) (f11 wUnd h8 c9)) fun f6 =>
q_guardW true v1 (q_cmpW (cmpF2 .leq) 3 (binC Try.prog .leq 3 (.tmp 8) (.const (.int .i64 (.ofNat 255))) (dec v3) (dec ⟨3, 255, r0, []⟩)) v3 ⟨3, 255, r0, []⟩ fun v31 =>
f6 v31 h4 c5) (f6 wUnd h4 c5)) fun f2 =>
q_guardW true v1 (f2 a0 h0 c0) (f2 wUnd h0 c0)
theorem R32_eq (Q : PrimW) (fu : Nat) (call : CallW) : curryA 2 (fnK Q Try.prog tys stl fu call e32) = R32 Q.share Q.cmpW Q.guardW Q.pickW fu call := by kernel_rfl
noncomputable def n32 (call : CallW) : List W → HW → Nat → KW → Bool := appF 2 (R32 (fun _ x f => f x) cmpW guardW pickW 1000000 call)
theorem n32_ok {call : CallW} (h : CallSim Try.prog tys stl tab call) : FnGood Try.prog tys stl tab 32 (n32 call) := node_ok h (by kernel_rfl) rfl g32 (R32_eq real _ _)
/- foghorn/weave.made -/
noncomputable def R35 (q_share : (α : Type) → α → (α → Bool) → Bool) (q_addW : Nat → Nat → Option CV → W → W → (W → Bool) → Bool) (q_mulW : Nat → Nat → Option CV → W → W → (W → Bool) → Bool) (q_cmpW : (Nat → Nat → Bool) → Nat → Option CV → W → W → (W → Bool) → Bool) (q_condW : W → Bool → Bool → Bool) (q_guardW : Bool → W → Bool → Bool → Bool) (q_pickW : W → W → W → (W → Bool) → Bool) (q_nilcW : W → (W → Bool) → Bool) (q_fadW : Nat → W → (W → Bool) → Bool) (q_idxAW : Nat → Nat → W → W → (W → Bool) → Bool) (q_onG : W → List W → (FuncId → List W → Bool) → Bool) (q_detW : W → Bool → Bool) (q_storeSW : HW → W → W → (HW → Bool) → Bool) (q_makeSW : Nat → Nat → Nat → Kind → List W → Bool → HW → Nat → W → W → KW → Bool) (q_boxW : HW → Nat → W → KW → Bool) (q_flatW : W → Bool → Bool) (fu : Nat) (call : CallW) (a0 : W) (a1 : W) (a2 : W) (h0 : HW) (c0 : Nat) (K : KW) : Bool :=
q_cmpW (cmpF2 .lss) 3 (binC Try.prog .lss 3 (.tmp 10) (.const (.int .i64 (.ofNat 1))) (dec a0) (dec ⟨3, 1, r0, []⟩)) a0 ⟨3, 1, r0, []⟩ fun v1 =>
q_share _ (fun (v3 : W) (h4 : HW) (c5 : Nat) =>
q_share _ (fun (v7 : W) (h8 : HW) (c9 : Nat) =>
q_pickW v1 ⟨8, 1, r0, []⟩ v7 fun v10 =>
q_share _ (fun (v12 : W) (h13 : HW) (c14 : Nat) =>
q_share _ (fun (v16 : W) (h17 : HW) (c18 : Nat) =>
q_pickW v10 ⟨8, 1, r0, []⟩ v16 fun v19 =>
q_share _ (fun (v21 : W) (h22 : HW) (c23 : Nat) =>
q_share _ (fun (v25 : W) (h26 : HW) (c27 : Nat) =>
q_pickW v19 ⟨8, 1, r0, []⟩ v25 fun v28 =>
q_condW v28 (
K ⟨13, 0, r0, [⟨12, 0, ⟨0, 0, 0, .nilp⟩, []⟩, ⟨3, 1, r0, []⟩]⟩ h26 c27) (
q_flatW a0 (
q_flatW a1 (
(fun (v29 : W) =>
q_boxW h26 c27 v29 fun v30 h31 c32 =>
@Nat.rec (fun _ => Fun 1) (fun _ _ _ => false) (fun _ f36 v33 h34 c35 =>
q_cmpW (cmpF2 .lss) 3 (binC Try.prog .lss 3 (.tmp 29) (.tmp 28) (dec v33) (dec a0)) v33 a0 fun v37 =>
q_condW v37 (
q_nilcW v30 fun v38 =>
q_detW v38 (
q_fadW 0 v38 fun v39 =>
q_detW v39 (
q_onG a2 [v33] fun g40 l41 => call g40 l41 h34 c35 fun v42 h43 c44 =>
q_mulW 3 9223372036854775807 (binC Try.prog .mul 3 (.tmp 36) (.tmp 37) (dec v42) (dec a1)) v42 a1 fun v45 =>
q_makeSW 1 1 4 (.ints .u8) [⟨4, 0, r0, []⟩] true h43 c44 v45 v45 fun v46 h47 c48 =>
q_idxAW 2 64 v39 v33 fun v49 =>
q_fadW 0 v49 fun v50 =>
q_storeSW h47 v50 v46 fun h51 =>
q_addW 3 9223372036854775807 (binC Try.prog .add 3 (.tmp 29) (.const (.int .i64 (.ofNat 1))) (dec v33) (dec ⟨3, 1, r0, []⟩)) v33 ⟨3, 1, r0, []⟩ fun v52 =>
f36 v52 h51 c48))) (
K ⟨13, 0, r0, [v30, ⟨3, 0, r0, []⟩]⟩ h34 c35)) fu ⟨3, 0, r0, []⟩ h31 c32) ⟨15, 0, r0, [⟨12, 0, ⟨0, 0, 0, .nils⟩, []⟩, ⟨3, 0, r0, []⟩, ⟨12, 0, ⟨0, 0, 0, .nils⟩, []⟩, ⟨3, 0, r0, []⟩, ⟨12, 0, ⟨0, 0, 0, .nils⟩, []⟩, ⟨3, 0, r0, []⟩, ⟨12, 0, ⟨0, 0, 0, .nils⟩, []⟩, ⟨3, 0, r0, []⟩, ⟨12, 0, ⟨0, 0, 0, .nils⟩, []⟩, ⟨3, 0, r0, []⟩, ⟨12, 0, ⟨0, 0, 0, .nils⟩, []⟩, ⟨3, 0, r0, []⟩, ⟨12, 0, ⟨0, 0, 0, .nils⟩, []⟩, ⟨3, 0, r0, []⟩, ⟨12, 0, ⟨0, 0, 0, .nils⟩, []⟩, ⟨3, 0, r0, []⟩, ⟨12, 0, ⟨0, 0, 0, .nils⟩, []⟩, ⟨3, 0, r0, []⟩, ⟨12, 0, ⟨0, 0, 0, .nils⟩, []⟩, ⟨3, 0, r0, []⟩, ⟨12, 0, ⟨0, 0, 0, .nils⟩, []⟩, ⟨3, 0, r0, []⟩, ⟨12, 0, ⟨0, 0, 0, .nils⟩, []⟩, ⟨3, 0, r0, []⟩, ⟨12, 0, ⟨0, 0, 0, .nils⟩, []⟩, ⟨3, 0, r0, []⟩, ⟨12, 0, ⟨0, 0, 0, .nils⟩, []⟩, ⟨3, 0, r0, []⟩, ⟨12, 0, ⟨0, 0, 0, .nils⟩, []⟩, ⟨3, 0, r0, []⟩, ⟨12, 0, ⟨0, 0, 0, .nils⟩, []⟩, ⟨3, 0, r0, []⟩, ⟨12, 0, ⟨0, 0, 0, .nils⟩, []⟩, ⟨3, 0, r0, []⟩, ⟨12, 0, ⟨0, 0, 0, .nils⟩, []⟩, ⟨3, 0, r0, []⟩, ⟨12, 0, ⟨0, 0, 0, .nils⟩, []⟩, ⟨3, 0, r0, []⟩, ⟨12, 0, ⟨0, 0, 0, .nils⟩, []⟩, ⟨3, 0, r0, []⟩, ⟨12, 0, ⟨0, 0, 0, .nils⟩, []⟩, ⟨3, 0, r0, []⟩, ⟨12, 0, ⟨0, 0, 0, .nils⟩, []⟩, ⟨3, 0, r0, []⟩, ⟨12, 0, ⟨0, 0, 0, .nils⟩, []⟩, ⟨3, 0, r0, []⟩, ⟨12, 0, ⟨0, 0, 0, .nils⟩, []⟩, ⟨3, 0, r0, []⟩, ⟨12, 0, ⟨0, 0, 0, .nils⟩, []⟩, ⟨3, 0, r0, []⟩, ⟨12, 0, ⟨0, 0, 0, .nils⟩, []⟩, ⟨3, 0, r0, []⟩, ⟨12, 0, ⟨0, 0, 0, .nils⟩, []⟩, ⟨3, 0, r0, []⟩, ⟨12, 0, ⟨0, 0, 0, .nils⟩, []⟩, ⟨3, 0, r0, []⟩, ⟨12, 0, ⟨0, 0, 0, .nils⟩, []⟩, ⟨3, 0, r0, []⟩, ⟨12, 0, ⟨0, 0, 0, .nils⟩, []⟩, ⟨3, 0, r0, []⟩, ⟨12, 0, ⟨0, 0, 0, .nils⟩, []⟩, ⟨3, 0, r0, []⟩, ⟨12, 0, ⟨0, 0, 0, .nils⟩, []⟩, ⟨3, 0, r0, []⟩, ⟨12, 0, ⟨0, 0, 0, .nils⟩, []⟩, ⟨3, 0, r0, []⟩, ⟨12, 0, ⟨0, 0, 0, .nils⟩, []⟩, ⟨3, 0, r0, []⟩, ⟨12, 0, ⟨0, 0, 0, .nils⟩, []⟩, ⟨3, 0, r0, []⟩, ⟨12, 0, ⟨0, 0, 0, .nils⟩, []⟩, ⟨3, 0, r0, []⟩, ⟨12, 0, ⟨0, 0, 0, .nils⟩, []⟩, ⟨3, 0, r0, []⟩, ⟨12, 0, ⟨0, 0, 0, .nils⟩, []⟩, ⟨3, 0, r0, []⟩, ⟨12, 0, ⟨0, 0, 0, .nils⟩, []⟩, ⟨3, 0, r0, []⟩, ⟨12, 0, ⟨0, 0, 0, .nils⟩, []⟩, ⟨3, 0, r0, []⟩, ⟨12, 0, ⟨0, 0, 0, .nils⟩, []⟩, ⟨3, 0, r0, []⟩, ⟨12, 0, ⟨0, 0, 0, .nils⟩, []⟩, ⟨3, 0, r0, []⟩, ⟨12, 0, ⟨0, 0, 0, .nils⟩, []⟩, ⟨3, 0, r0, []⟩, ⟨12, 0, ⟨0, 0, 0, .nils⟩, []⟩, ⟨3, 0, r0, []⟩, ⟨12, 0, ⟨0, 0, 0, .nils⟩, []⟩, ⟨3, 0, r0, []⟩, ⟨12, 0, ⟨0, 0, 0, .nils⟩, []⟩, ⟨3, 0, r0, []⟩, ⟨12, 0, ⟨0, 0, 0, .nils⟩, []⟩, ⟨3, 0, r0, []⟩, ⟨12, 0, ⟨0, 0, 0, .nils⟩, []⟩, ⟨3, 0, r0, []⟩, ⟨12, 0, ⟨0, 0, 0, .nils⟩, []⟩, ⟨3, 0, r0, []⟩, ⟨12, 0, ⟨0, 0, 0, .nils⟩, []⟩, ⟨3, 0, r0, []⟩, ⟨12, 0, ⟨0, 0, 0, .nils⟩, []⟩, ⟨3, 0, r0, []⟩, ⟨12, 0, ⟨0, 0, 0, .nils⟩, []⟩, ⟨3, 0, r0, []⟩, ⟨12, 0, ⟨0, 0, 0, .nils⟩, []⟩, ⟨3, 0, r0, []⟩, ⟨12, 0, ⟨0, 0, 0, .nils⟩, []⟩, ⟨3, 0, r0, []⟩, ⟨12, 0, ⟨0, 0, 0, .nils⟩, []⟩, ⟨3, 0, r0, []⟩, ⟨12, 0, ⟨0, 0, 0, .nils⟩, []⟩, ⟨3, 0, r0, []⟩, ⟨12, 0, ⟨0, 0, 0, .nils⟩, []⟩, ⟨3, 0, r0, []⟩, ⟨12, 0, ⟨0, 0, 0, .nils⟩, []⟩, ⟨3, 0, r0, []⟩, ⟨12, 0, ⟨0, 0, 0, .nils⟩, []⟩, ⟨3, 0, r0, []⟩, ⟨12, 0, ⟨0, 0, 0, .nils⟩, []⟩, ⟨3, 0, r0, []⟩, ⟨12, 0, ⟨0, 0, 0, .nils⟩, []⟩, ⟨3, 0, r0, []⟩, ⟨12, 0, ⟨0, 0, 0, .nils⟩, []⟩, ⟨3, 0, r0, []⟩, ⟨12, 0, ⟨0, 0, 0, .nils⟩, []⟩, ⟨3, 0, r0, []⟩, ⟨12, 0, ⟨0, 0, 0, .nils⟩, []⟩, ⟨3, 0, r0, []⟩, a0, a1, ⟨3, 0, r0, []⟩]⟩)))) fun f24 =>
q_guardW false v19 (q_cmpW (cmpF2 .gtr) 3 (binC Try.prog .gtr 3 (.tmp 21) (.const (.int .i64 (.ofNat 64))) (dec v21) (dec ⟨3, 64, r0, []⟩)) v21 ⟨3, 64, r0, []⟩ fun v53 =>
f24 v53 h22 c23) (f24 wUnd h22 c23)) fun f20 =>
q_guardW false v19 (f20 a1 h17 c18) (f20 wUnd h17 c18)) fun f15 =>
q_guardW false v10 (q_cmpW (cmpF2 .lss) 3 (binC Try.prog .lss 3 (.tmp 17) (.const (.int .i64 (.ofNat 1))) (dec v12) (dec ⟨3, 1, r0, []⟩)) v12 ⟨3, 1, r0, []⟩ fun v54 =>
f15 v54 h13 c14) (f15 wUnd h13 c14)) fun f11 =>
q_guardW false v10 (f11 a1 h8 c9) (f11 wUnd h8 c9)) fun f6 =>
q_guardW false v1 (q_cmpW (cmpF2 .gtr) 3 (binC Try.prog .gtr 3 (.tmp 13) (.const (.int .i64 (.ofNat 64))) (dec v3) (dec ⟨3, 64, r0, []⟩)) v3 ⟨3, 64, r0, []⟩ fun v55 =>
f6 v55 h4 c5) (f6 wUnd h4 c5)) fun f2 =>
q_guardW false v1 (f2 a0 h0 c0) (f2 wUnd h0 c0)
theorem R35_eq (Q : PrimW) (fu : Nat) (call : CallW) : curryA 3 (fnK Q Try.prog tys stl fu call e35) = R35 Q.share Q.addW Q.mulW Q.cmpW Q.condW Q.guardW Q.pickW Q.nilcW Q.fadW Q.idxAW Q.onG Q.detW Q.storeSW Q.makeSW Q.boxW Q.flatW fu call := by kernel_rfl
noncomputable def n35 (call : CallW) : List W → HW → Nat → KW → Bool := appF 3 (R35 (fun _ x f => f x) addW mulW cmpW condW guardW pickW nilcW fadW idxAW onG detW storeSW makeSW boxW flatW 1000000 call)
theorem n35_ok {call : CallW} (h : CallSim Try.prog tys stl tab call) : FnGood Try.prog tys stl tab 35 (n35 call) := node_ok h (by kernel_rfl) rfl g35 (R35_eq real _ _)
/- foghorn/weave.New$1 -/
noncomputable def R36 (fu : Nat) (call : CallW) (a0 : W) (h0 : HW) (c0 : Nat) (K : KW) : Bool :=
K a0 h0 c0
theorem R36_eq (Q : PrimW) (fu : Nat) (call : CallW) : curryA 1 (fnK Q Try.prog tys stl fu call e36) = R36 fu call := by kernel_rfl
noncomputable def n36 (call : CallW) : List W → HW → Nat → KW → Bool := appF 1 (R36 1000000 call)
theorem n36_ok {call : CallW} (h : CallSim Try.prog tys stl tab call) : FnGood Try.prog tys stl tab 36 (n36 call) := node_ok h (by kernel_rfl) rfl g36 (R36_eq real _ _)
/- (*foghorn/weave.ring).push -/
noncomputable def R38 (q_addW : Nat → Nat → Option CV → W → W → (W → Bool) → Bool) (q_remW : Nat → Nat → Option CV → W → W → (W → Bool) → Bool) (q_cmpW : (Nat → Nat → Bool) → Nat → Option CV → W → W → (W → Bool) → Bool) (q_condW : W → Bool → Bool → Bool) (q_nilcW : W → (W → Bool) → Bool) (q_fadW : Nat → W → (W → Bool) → Bool) (q_idxSW : Nat → W → W → (W → Bool) → Bool) (q_lenW : Option CV → W → (W → Bool) → Bool) (q_loadSW : HW → W → (W → Bool) → Bool) (q_storeSW : HW → W → W → (HW → Bool) → Bool) (fu : Nat) (call : CallW) (a0 : W) (a1 : W) (h0 : HW) (c0 : Nat) (K : KW) : Bool :=
q_nilcW a0 fun v1 =>
q_fadW 0 v1 fun v2 =>
q_loadSW h0 v2 fun v3 =>
q_lenW (lenC tys 60 (dec v3)) v3 fun v4 =>
q_cmpW (cmpF2 .eql) 3 (binC Try.prog .eql 3 (.tmp 10) (.const (.int .i64 (.ofNat 0))) (dec v4) (dec ⟨3, 0, r0, []⟩)) v4 ⟨3, 0, r0, []⟩ fun v5 =>
q_condW v5 (
K a1 h0 c0) (
q_nilcW a0 fun v6 =>
q_fadW 0 v6 fun v7 =>
q_loadSW h0 v7 fun v8 =>
q_nilcW a0 fun v9 =>
q_fadW 1 v9 fun v10 =>
q_loadSW h0 v10 fun v11 =>
q_idxSW 1 v8 v11 fun v12 =>
q_loadSW h0 v12 fun v13 =>
q_nilcW a0 fun v14 =>
q_fadW 0 v14 fun v15 =>
q_loadSW h0 v15 fun v16 =>
q_nilcW a0 fun v17 =>
q_fadW 1 v17 fun v18 =>
q_loadSW h0 v18 fun v19 =>
q_idxSW 1 v16 v19 fun v20 =>
q_storeSW h0 v20 a1 fun h21 =>
q_nilcW a0 fun v22 =>
q_fadW 1 v22 fun v23 =>
q_loadSW h21 v23 fun v24 =>
q_addW 3 9223372036854775807 (binC Try.prog .add 3 (.tmp 37) (.const (.int .i64 (.ofNat 1))) (dec v24) (dec ⟨3, 1, r0, []⟩)) v24 ⟨3, 1, r0, []⟩ fun v25 =>
q_nilcW a0 fun v26 =>
q_fadW 0 v26 fun v27 =>
q_loadSW h21 v27 fun v28 =>
q_lenW (lenC tys 60 (dec v28)) v28 fun v29 =>
q_remW 3 9223372036854775807 (binC Try.prog .rem 3 (.tmp 38) (.tmp 43) (dec v25) (dec v29)) v25 v29 fun v30 =>
q_nilcW a0 fun v31 =>
q_fadW 1 v31 fun v32 =>
q_storeSW h21 v32 v30 fun h33 =>
K v13 h33 c0)
theorem R38_eq (Q : PrimW) (fu : Nat) (call : CallW) : curryA 2 (fnK Q Try.prog tys stl fu call e38) = R38 Q.addW Q.remW Q.cmpW Q.condW Q.nilcW Q.fadW Q.idxSW Q.lenW Q.loadSW Q.storeSW fu call := by kernel_rfl
noncomputable def n38 (call : CallW) : List W → HW → Nat → KW → Bool := appF 2 (R38 addW remW cmpW condW nilcW fadW idxSW lenW loadSW storeSW 1000000 call)
theorem n38_ok {call : CallW} (h : CallSim Try.prog tys stl tab call) : FnGood Try.prog tys stl tab 38 (n38 call) := node_ok h (by kernel_rfl) rfl g38 (R38_eq real _ _)
noncomputable def dS (call : CallW) : Disp := (.node 28 (n28 call) (.node 23 (n23 call) (.node 11 (n11 call) (.node 10 (n10 call) .leaf .leaf) .leaf) (.node 26 (n26 call) .leaf .leaf)) (.node 36 (n36 call) (.node 35 (n35 call) (.node 32 (n32 call) .leaf .leaf) .leaf) (.node 38 (n38 call) .leaf .leaf)))
theorem dS_ok {call : CallW} (h : CallSim Try.prog tys stl tab call) : CallSim Try.prog tys stl tab (dS call).fn := Disp.sim (t := dS call) ⟨n28_ok h, ⟨n23_ok h, ⟨n11_ok h, ⟨n10_ok h, True.intro, True.intro⟩, True.intro⟩, ⟨n26_ok h, True.intro, True.intro⟩⟩, ⟨n36_ok h, ⟨n35_ok h, ⟨n32_ok h, True.intro, True.intro⟩, True.intro⟩, ⟨n38_ok h, True.intro, True.intro⟩⟩⟩
noncomputable def dR (m : Nat) : Disp := @Nat.rec (fun _ => Disp) .leaf (fun _ ih => dS ih.fn) m
theorem dR_ok : ∀ m, CallSim Try.prog tys stl tab (dR m).fn
  | 0 => d0_ok
  | m + 1 => dS_ok (dR_ok m)
noncomputable abbrev dT : Disp := dR 200
theorem dT_ok : CallSim Try.prog tys stl tab dT.fn := dR_ok _
set_option maxHeartbeats 0 in
theorem run10 : lawK dT.fn 10 = true := by kernel_rfl
theorem awake_f : Fits Try.prog 10 ⟨[], [], [⟨Unit, fun _ => True, fun _ => .bool true, fun _ => []⟩]⟩ :=
  lawK_fits tok mixed fok dT_ok (by kernel_rfl : tab 10 = some e10) rfl run10
end Go.Proofs.Ytpigffkajclkbaa
