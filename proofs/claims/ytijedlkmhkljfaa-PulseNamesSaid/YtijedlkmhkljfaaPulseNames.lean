/-
  foghornlaw07.PulseNames returns true, whatever the memory it begins in. No condition.
-/
import Derived.Test.YtijedlkmhkljfaaRows
import Derived.Test.YtijedlkmhkljfaaGx
import Derived.WalkKit
import Derived.ProofKit
import Derived.OpenShut
set_option linter.unusedVariables false
set_option maxRecDepth 1000000
namespace Go.Proofs.Ytijedlkmhkljfaa
open Go Go.Fw
def tys : List (Nat × TyI) := [
  (1, ⟨.func, 1, 8, .nilFunc⟩),
  (2, ⟨.int .i64, 1, 8, .int .i64 0⟩),
  (3, ⟨.int .i64, 1, 8, .int .i64 0⟩),
  (4, ⟨.bool, 1, 1, .bool false⟩),
  (5, ⟨.int .u8, 1, 1, .int .u8 0⟩),
  (9, ⟨.str, 1, 16, .string (ByteArray.mk #[])⟩),
  (12, ⟨.int .u64, 1, 8, .int .u64 0⟩),
  (21, ⟨.int .i32, 1, 4, .int .i32 0⟩),
  (22, ⟨.func, 1, 8, .nilFunc⟩),
  (23, ⟨.slice 9, 1, 24, .slice none 0 0⟩),
  (24, ⟨.slice 33, 1, 24, .slice none 0 0⟩),
  (25, ⟨.struct [(0, 3), (1, 3), (2, 24)], 3, 40, .agg #[.int .i64 0, .int .i64 0, .slice none 0 0]⟩),
  (26, ⟨.struct [(0, 3), (1, 3), (2, 24)], 3, 40, .agg #[.int .i64 0, .int .i64 0, .slice none 0 0]⟩),
  (27, ⟨.int .i64, 1, 8, .int .i64 0⟩),
  (29, ⟨.func, 1, 8, .nilFunc⟩),
  (30, ⟨.func, 1, 8, .nilFunc⟩),
  (32, ⟨.func, 1, 8, .nilFunc⟩),
  (33, ⟨.float .f64, 1, 8, .float .f64 0⟩),
  (34, ⟨.slice 48, 1, 24, .slice none 0 0⟩),
  (36, ⟨.func, 1, 8, .nilFunc⟩),
  (37, ⟨.slice 3, 1, 24, .slice none 0 0⟩),
  (38, ⟨.struct [(0, 3), (1, 3), (2, 37), (3, 33), (4, 3)], 5, 56, .agg #[.int .i64 0, .int .i64 0, .slice none 0 0, .float .f64 0, .int .i64 0]⟩),
  (39, ⟨.struct [(0, 3), (1, 3), (2, 37), (3, 33), (4, 3)], 5, 56, .agg #[.int .i64 0, .int .i64 0, .slice none 0 0, .float .f64 0, .int .i64 0]⟩),
  (40, ⟨.func, 1, 8, .nilFunc⟩),
  (41, ⟨.func, 1, 8, .nilFunc⟩),
  (42, ⟨.func, 1, 8, .nilFunc⟩),
  (43, ⟨.func, 1, 8, .nilFunc⟩),
  (44, ⟨.func, 1, 8, .nilFunc⟩),
  (45, ⟨.func, 1, 8, .nilFunc⟩),
  (46, ⟨.func, 1, 8, .nilFunc⟩),
  (47, ⟨.func, 1, 8, .nilFunc⟩),
  (48, ⟨.cpx .f64, 1, 16, .complex .f64 0 0⟩),
  (49, ⟨.func, 1, 8, .nilFunc⟩),
  (50, ⟨.func, 1, 8, .nilFunc⟩),
  (52, ⟨.func, 1, 8, .nilFunc⟩),
  (53, ⟨.func, 1, 8, .nilFunc⟩),
  (54, ⟨.func, 1, 8, .nilFunc⟩),
  (55, ⟨.slice 60, 1, 24, .slice none 0 0⟩),
  (57, ⟨.func, 1, 8, .nilFunc⟩),
  (58, ⟨.func, 1, 8, .nilFunc⟩),
  (59, ⟨.struct [(0, 48), (1, 4)], 2, 24, .agg #[.complex .f64 0 0, .bool false]⟩),
  (60, ⟨.struct [(0, 48), (1, 4)], 2, 24, .agg #[.complex .f64 0 0, .bool false]⟩),
  (61, ⟨.func, 1, 8, .nilFunc⟩),
  (62, ⟨.func, 1, 8, .nilFunc⟩),
  (63, ⟨.int .u64, 1, 8, .int .u64 0⟩),
  (64, ⟨.func, 1, 8, .nilFunc⟩),
  (65, ⟨.func, 1, 8, .nilFunc⟩),
  (67, ⟨.map, 1, 8, .map none⟩),
  (68, ⟨.func, 1, 8, .nilFunc⟩),
  (69, ⟨.func, 1, 8, .nilFunc⟩),
  (70, ⟨.func, 1, 8, .nilFunc⟩),
  (71, ⟨.func, 1, 8, .nilFunc⟩),
  (72, ⟨.func, 1, 8, .nilFunc⟩),
  (73, ⟨.func, 1, 8, .nilFunc⟩),
  (74, ⟨.func, 1, 8, .nilFunc⟩),
  (75, ⟨.func, 1, 8, .nilFunc⟩),
  (76, ⟨.func, 1, 8, .nilFunc⟩),
  (78, ⟨.func, 1, 8, .nilFunc⟩),
  (79, ⟨.int .u32, 1, 4, .int .u32 0⟩),
  (81, ⟨.func, 1, 8, .nilFunc⟩),
  (82, ⟨.int .u64, 1, 8, .int .u64 0⟩),
  (84, ⟨.func, 1, 8, .nilFunc⟩),
  (85, ⟨.func, 1, 8, .nilFunc⟩),
  (86, ⟨.func, 1, 8, .nilFunc⟩),
  (87, ⟨.func, 1, 8, .nilFunc⟩),
  (88, ⟨.func, 1, 8, .nilFunc⟩),
  (94, ⟨.func, 1, 8, .nilFunc⟩),
  (97, ⟨.func, 1, 8, .nilFunc⟩),
  (98, ⟨.ptr 5, 1, 8, .pointer none⟩)]


theorem tok : TOk Try.prog tys := tok_of ⟨⟨by kernel_rfl, by kernel_rfl⟩, ⟨by kernel_rfl, by kernel_rfl⟩, ⟨by kernel_rfl, by kernel_rfl⟩, ⟨by kernel_rfl, by kernel_rfl⟩, ⟨by kernel_rfl, by kernel_rfl⟩, ⟨by kernel_rfl, by kernel_rfl⟩, ⟨by kernel_rfl, by kernel_rfl⟩, ⟨by kernel_rfl, by kernel_rfl⟩, ⟨by kernel_rfl, by kernel_rfl⟩, ⟨by kernel_rfl, by kernel_rfl⟩, ⟨by kernel_rfl, by kernel_rfl⟩, ⟨by kernel_rfl, by kernel_rfl⟩, ⟨by kernel_rfl, by kernel_rfl⟩, ⟨by kernel_rfl, by kernel_rfl⟩, ⟨by kernel_rfl, by kernel_rfl⟩, ⟨by kernel_rfl, by kernel_rfl⟩, ⟨by kernel_rfl, by kernel_rfl⟩, ⟨by kernel_rfl, by kernel_rfl⟩, ⟨by kernel_rfl, by kernel_rfl⟩, ⟨by kernel_rfl, by kernel_rfl⟩, ⟨by kernel_rfl, by kernel_rfl⟩, ⟨by kernel_rfl, by kernel_rfl⟩, ⟨by kernel_rfl, by kernel_rfl⟩, ⟨by kernel_rfl, by kernel_rfl⟩, ⟨by kernel_rfl, by kernel_rfl⟩, ⟨by kernel_rfl, by kernel_rfl⟩, ⟨by kernel_rfl, by kernel_rfl⟩, ⟨by kernel_rfl, by kernel_rfl⟩, ⟨by kernel_rfl, by kernel_rfl⟩, ⟨by kernel_rfl, by kernel_rfl⟩, ⟨by kernel_rfl, by kernel_rfl⟩, ⟨by kernel_rfl, by kernel_rfl⟩, ⟨by kernel_rfl, by kernel_rfl⟩, ⟨by kernel_rfl, by kernel_rfl⟩, ⟨by kernel_rfl, by kernel_rfl⟩, ⟨by kernel_rfl, by kernel_rfl⟩, ⟨by kernel_rfl, by kernel_rfl⟩, ⟨by kernel_rfl, by kernel_rfl⟩, ⟨by kernel_rfl, by kernel_rfl⟩, ⟨by kernel_rfl, by kernel_rfl⟩, ⟨by kernel_rfl, by kernel_rfl⟩, ⟨by kernel_rfl, by kernel_rfl⟩, ⟨by kernel_rfl, by kernel_rfl⟩, ⟨by kernel_rfl, by kernel_rfl⟩, ⟨by kernel_rfl, by kernel_rfl⟩, ⟨by kernel_rfl, by kernel_rfl⟩, ⟨by kernel_rfl, by kernel_rfl⟩, ⟨by kernel_rfl, by kernel_rfl⟩, ⟨by kernel_rfl, by kernel_rfl⟩, ⟨by kernel_rfl, by kernel_rfl⟩, ⟨by kernel_rfl, by kernel_rfl⟩, ⟨by kernel_rfl, by kernel_rfl⟩, ⟨by kernel_rfl, by kernel_rfl⟩, ⟨by kernel_rfl, by kernel_rfl⟩, ⟨by kernel_rfl, by kernel_rfl⟩, ⟨by kernel_rfl, by kernel_rfl⟩, ⟨by kernel_rfl, by kernel_rfl⟩, ⟨by kernel_rfl, by kernel_rfl⟩, ⟨by kernel_rfl, by kernel_rfl⟩, ⟨by kernel_rfl, by kernel_rfl⟩, ⟨by kernel_rfl, by kernel_rfl⟩, ⟨by kernel_rfl, by kernel_rfl⟩, ⟨by kernel_rfl, by kernel_rfl⟩, ⟨by kernel_rfl, by kernel_rfl⟩, ⟨by kernel_rfl, by kernel_rfl⟩, ⟨by kernel_rfl, by kernel_rfl⟩, ⟨by kernel_rfl, by kernel_rfl⟩, ⟨by kernel_rfl, by kernel_rfl⟩, ⟨by kernel_rfl, by kernel_rfl⟩, True.intro⟩
theorem mixed : Try.prog.follows .mixedOrders = true := by kernel_rfl
def inL : List Nat → Nat → Bool
  | [], _ => false
  | a :: r, n => match Nat.beq a n with | true => true | false => inL r n
def stl : Nat → Bool := inL [38, 49, 50, 51, 52, 53, 54, 55, 56, 57, 58, 59, 60]
/- 3: foghorn/foghornlaw07.PulseNames -/
def p3 : Nat → Option PlanC := fun
  | 27 => some (.op 0 false (.op 1 false (.chk [0] (.op 2 false (.op 3 false (.op 4 false (.op 5 false (.op 6 false (.op 7 false (.done))))))))))
  | 28 => some (.op 0 false (.op 1 false (.chk [0] (.op 2 false (.op 3 false (.op 4 false (.op 5 false (.op 6 false (.done)))))))))
  | _ => none
def wl3 : Nat → List Nat := fun
  | 5 => [1, 38]
  | 8 => [1, 4]
  | _ => []
def wj3 : Nat → Option (List Nat) := fun
  | 9 => some [1]
  | _ => none
def kr3 : Nat → List Nat := fun _ => []
noncomputable def e3 : Ent := entOf Try.f3 ⟨p3, wl3, wj3, kr3, [7, 13, 14, 20, 21]⟩
theorem g3 : EntOk Try.prog stl 3 e3 := .inr ⟨rfl, Try.func3, by kernel_rfl, by kernel_rfl, by kernel_rfl, by kernel_rfl, by kernel_rfl, rfl⟩
/- 12: foghorn/foghornlaw07.works -/
def p12 : Nat → Option PlanC := fun
  | 4 => some (.op 1 false (.op 0 false (.op 2 false (.chk [0] (.op 3 false (.op 4 false (.op 5 false (.op 6 false (.op 7 false (.op 8 false (.done)))))))))))
  | _ => none
def wl12 : Nat → List Nat := fun _ => []
def wj12 : Nat → Option (List Nat) := fun _ => none
def kr12 : Nat → List Nat := fun _ => []
noncomputable def e12 : Ent := entOf Try.f12 ⟨p12, wl12, wj12, kr12, [1]⟩
theorem g12 : EntOk Try.prog stl 12 e12 := .inr ⟨rfl, Try.func12, by kernel_rfl, by kernel_rfl, by kernel_rfl, by kernel_rfl, by kernel_rfl, rfl⟩
/- 13: foghorn/pulse.Named -/
def p13 : Nat → Option PlanC := fun _ => none
def wl13 : Nat → List Nat := fun _ => []
def wj13 : Nat → Option (List Nat) := fun _ => none
def kr13 : Nat → List Nat := fun _ => []
noncomputable def e13 : Ent := entOf Try.f13 ⟨p13, wl13, wj13, kr13, [8]⟩
theorem g13 : EntOk Try.prog stl 13 e13 := .inr ⟨rfl, Try.func13, by kernel_rfl, by kernel_rfl, by kernel_rfl, by kernel_rfl, by kernel_rfl, rfl⟩
/- 14: foghorn/pulse.Check -/
def p14 : Nat → Option PlanC := fun _ => none
def wl14 : Nat → List Nat := fun
  | 6 => [33]
  | _ => []
def wj14 : Nat → Option (List Nat) := fun _ => none
def kr14 : Nat → List Nat := fun _ => []
noncomputable def e14 : Ent := entOf Try.f14 ⟨p14, wl14, wj14, kr14, [1]⟩
theorem g14 : EntOk Try.prog stl 14 e14 := .inr ⟨rfl, Try.func14, by kernel_rfl, by kernel_rfl, by kernel_rfl, by kernel_rfl, by kernel_rfl, rfl⟩
/- 15: foghorn/pulse.Length -/
def p15 : Nat → Option PlanC := fun _ => none
def wl15 : Nat → List Nat := fun _ => []
def wj15 : Nat → Option (List Nat) := fun _ => none
def kr15 : Nat → List Nat := fun _ => []
noncomputable def e15 : Ent := entOf Try.f15 ⟨p15, wl15, wj15, kr15, [2]⟩
theorem g15 : EntOk Try.prog stl 15 e15 := .inr ⟨rfl, Try.func15, by kernel_rfl, by kernel_rfl, by kernel_rfl, by kernel_rfl, by kernel_rfl, rfl⟩
/- 16: foghorn/pulse.Shape -/
def p16 : Nat → Option PlanC := fun _ => none
def wl16 : Nat → List Nat := fun
  | 8 => [31]
  | 12 => [45]
  | _ => []
def wj16 : Nat → Option (List Nat) := fun _ => none
def kr16 : Nat → List Nat := fun _ => []
noncomputable def e16 : Ent := entOf Try.f16 ⟨p16, wl16, wj16, kr16, [2]⟩
theorem g16 : EntOk Try.prog stl 16 e16 := .inr ⟨rfl, Try.func16, by kernel_rfl, by kernel_rfl, by kernel_rfl, by kernel_rfl, by kernel_rfl, rfl⟩
/- 28: foghorn/foghornlaw07.samePoints -/
def p28 : Nat → Option PlanC := fun _ => none
def wl28 : Nat → List Nat := fun
  | 4 => [5]
  | _ => []
def wj28 : Nat → Option (List Nat) := fun _ => none
def kr28 : Nat → List Nat := fun _ => []
noncomputable def e28 : Ent := entOf Try.f28 ⟨p28, wl28, wj28, kr28, []⟩
theorem g28 : EntOk Try.prog stl 28 e28 := .inr ⟨rfl, Try.func28, by kernel_rfl, by kernel_rfl, by kernel_rfl, by kernel_rfl, by kernel_rfl, rfl⟩
/- 34: foghorn/pulse.Pick -/
def p34 : Nat → Option PlanC := fun _ => none
def wl34 : Nat → List Nat := fun
  | 10 => [54]
  | _ => []
def wj34 : Nat → Option (List Nat) := fun _ => none
def kr34 : Nat → List Nat := fun _ => []
noncomputable def e34 : Ent := entOf Try.f34 ⟨p34, wl34, wj34, kr34, [4]⟩
theorem g34 : EntOk Try.prog stl 34 e34 := .inr ⟨rfl, Try.func34, by kernel_rfl, by kernel_rfl, by kernel_rfl, by kernel_rfl, by kernel_rfl, rfl⟩
/- 35: foghorn/foghornlaw07.samples -/
def p35 : Nat → Option PlanC := fun _ => none
def wl35 : Nat → List Nat := fun
  | 3 => [5, 6]
  | _ => []
def wj35 : Nat → Option (List Nat) := fun
  | 8 => some []
  | _ => none
def kr35 : Nat → List Nat := fun
  | 8 => [32]
  | _ => []
noncomputable def e35 : Ent := entOf Try.f35 ⟨p35, wl35, wj35, kr35, []⟩
theorem g35 : EntOk Try.prog stl 35 e35 := .inr ⟨rfl, Try.func35, by kernel_rfl, by kernel_rfl, by kernel_rfl, by kernel_rfl, by kernel_rfl, rfl⟩
/- 36: foghorn/pulse.named -/
def p36 : Nat → Option PlanC := fun _ => none
def wl36 : Nat → List Nat := fun _ => []
def wj36 : Nat → Option (List Nat) := fun _ => none
def kr36 : Nat → List Nat := fun _ => []
noncomputable def e36 : Ent := entOf Try.f36 ⟨p36, wl36, wj36, kr36, []⟩
theorem g36 : EntOk Try.prog stl 36 e36 := .inr ⟨rfl, Try.func36, by kernel_rfl, by kernel_rfl, by kernel_rfl, by kernel_rfl, by kernel_rfl, rfl⟩
/- 37: foghorn/bounds.Reals -/
def p37 : Nat → Option PlanC := fun _ => none
def wl37 : Nat → List Nat := fun
  | 5 => [14]
  | _ => []
def wj37 : Nat → Option (List Nat) := fun _ => none
def kr37 : Nat → List Nat := fun _ => []
noncomputable def e37 : Ent := entOf Try.f37 ⟨p37, wl37, wj37, kr37, []⟩
theorem g37 : EntOk Try.prog stl 37 e37 := .inr ⟨rfl, Try.func37, by kernel_rfl, by kernel_rfl, by kernel_rfl, by kernel_rfl, by kernel_rfl, rfl⟩
/- 38: foghorn/bounds.Plain -/
def p38 : Nat → Option PlanC := fun _ => none
def wl38 : Nat → List Nat := fun
  | 2 => [7]
  | _ => []
def wj38 : Nat → Option (List Nat) := fun _ => none
def kr38 : Nat → List Nat := fun _ => []
noncomputable def e38 : Ent := entOf Try.f38 ⟨p38, wl38, wj38, kr38, []⟩
theorem g38 : EntOk Try.prog stl 38 e38 := .inr ⟨rfl, Try.func38, by kernel_rfl, by kernel_rfl, by kernel_rfl, by kernel_rfl, by kernel_rfl, rfl⟩
/- 44: foghorn/pulse.named$1 -/
def p44 : Nat → Option PlanC := fun _ => none
def wl44 : Nat → List Nat := fun _ => []
def wj44 : Nat → Option (List Nat) := fun _ => none
def kr44 : Nat → List Nat := fun _ => []
noncomputable def e44 : Ent := entOf Try.f44 ⟨p44, wl44, wj44, kr44, []⟩
theorem g44 : EntOk Try.prog stl 44 e44 := .inr ⟨rfl, Try.func44, by kernel_rfl, by kernel_rfl, by kernel_rfl, by kernel_rfl, by kernel_rfl, rfl⟩
/- 45: foghorn/pulse.named$2 -/
def p45 : Nat → Option PlanC := fun _ => none
def wl45 : Nat → List Nat := fun _ => []
def wj45 : Nat → Option (List Nat) := fun _ => none
def kr45 : Nat → List Nat := fun _ => []
noncomputable def e45 : Ent := entOf Try.f45 ⟨p45, wl45, wj45, kr45, []⟩
theorem g45 : EntOk Try.prog stl 45 e45 := .inr ⟨rfl, Try.func45, by kernel_rfl, by kernel_rfl, by kernel_rfl, by kernel_rfl, by kernel_rfl, rfl⟩
/- 46: slices.Repeat[[]float64,float64] -/
def p46 : Nat → Option PlanC := fun
  | 9 => some (.op 1 false (.op 2 false (.op 3 false (.op 4 false (.op 5 false (.op 6 false (.op 0 true (.op 7 false (.op 8 false (.op 9 false (.done)))))))))))
  | _ => none
def wl46 : Nat → List Nat := fun
  | 8 => [8]
  | _ => []
def wj46 : Nat → Option (List Nat) := fun
  | 3 => some []
  | 6 => some []
  | _ => none
def kr46 : Nat → List Nat := fun _ => []
noncomputable def e46 : Ent := entOf Try.f46 ⟨p46, wl46, wj46, kr46, []⟩
theorem g46 : EntOk Try.prog stl 46 e46 := .inr ⟨rfl, Try.func46, by kernel_rfl, by kernel_rfl, by kernel_rfl, by kernel_rfl, by kernel_rfl, rfl⟩
/- 47: foghorn/pulse.tent -/
def p47 : Nat → Option PlanC := fun _ => none
def wl47 : Nat → List Nat := fun
  | 5 => [22]
  | _ => []
def wj47 : Nat → Option (List Nat) := fun _ => none
def kr47 : Nat → List Nat := fun _ => []
noncomputable def e47 : Ent := entOf Try.f47 ⟨p47, wl47, wj47, kr47, []⟩
theorem g47 : EntOk Try.prog stl 47 e47 := .inr ⟨rfl, Try.func47, by kernel_rfl, by kernel_rfl, by kernel_rfl, by kernel_rfl, by kernel_rfl, rfl⟩
/- 48: foghorn/pulse.named$3 -/
def p48 : Nat → Option PlanC := fun _ => none
def wl48 : Nat → List Nat := fun _ => []
def wj48 : Nat → Option (List Nat) := fun _ => none
def kr48 : Nat → List Nat := fun _ => []
noncomputable def e48 : Ent := entOf Try.f48 ⟨p48, wl48, wj48, kr48, []⟩
theorem g48 : EntOk Try.prog stl 48 e48 := .inr ⟨rfl, Try.func48, by kernel_rfl, by kernel_rfl, by kernel_rfl, by kernel_rfl, by kernel_rfl, rfl⟩
/- 49: foghorn/bounds.Taps -/
def p49 : Nat → Option PlanC := fun _ => none
def wl49 : Nat → List Nat := fun
  | 5 => [3, 16]
  | _ => []
def wj49 : Nat → Option (List Nat) := fun _ => none
def kr49 : Nat → List Nat := fun _ => []
noncomputable def e49 : Ent := entOf Try.f49 ⟨p49, wl49, wj49, kr49, []⟩
theorem g49 : EntOk Try.prog stl 49 e49 := .inr ⟨rfl, Try.func49, by kernel_rfl, by kernel_rfl, by kernel_rfl, by kernel_rfl, by kernel_rfl, rfl⟩
/- 50: foghorn/bounds.Fine -/
def p50 : Nat → Option PlanC := fun _ => none
def wl50 : Nat → List Nat := fun _ => []
def wj50 : Nat → Option (List Nat) := fun _ => none
def kr50 : Nat → List Nat := fun _ => []
noncomputable def e50 : Ent := entOf Try.f50 ⟨p50, wl50, wj50, kr50, []⟩
theorem g50 : EntOk Try.prog stl 50 e50 := .inr ⟨rfl, Try.func50, by kernel_rfl, by kernel_rfl, by kernel_rfl, by kernel_rfl, by kernel_rfl, rfl⟩
/- 51: math/bits.Mul -/
def p51 : Nat → Option PlanC := fun _ => none
def wl51 : Nat → List Nat := fun _ => []
def wj51 : Nat → Option (List Nat) := fun _ => none
def kr51 : Nat → List Nat := fun _ => []
noncomputable def e51 : Ent := entOf Try.f51 ⟨p51, wl51, wj51, kr51, []⟩
theorem g51 : EntOk Try.prog stl 51 e51 := .inr ⟨rfl, Try.func51, by kernel_rfl, by kernel_rfl, by kernel_rfl, by kernel_rfl, by kernel_rfl, rfl⟩
/- 52: math.Abs -/
def p52 : Nat → Option PlanC := fun _ => none
def wl52 : Nat → List Nat := fun _ => []
def wj52 : Nat → Option (List Nat) := fun _ => none
def kr52 : Nat → List Nat := fun _ => []
noncomputable def e52 : Ent := entOf Try.f52 ⟨p52, wl52, wj52, kr52, []⟩
theorem g52 : EntOk Try.prog stl 52 e52 := .inr ⟨rfl, Try.func52, by kernel_rfl, by kernel_rfl, by kernel_rfl, by kernel_rfl, by kernel_rfl, rfl⟩
/- 53: math.Trunc -/
def p53 : Nat → Option PlanC := fun _ => none
def wl53 : Nat → List Nat := fun _ => []
def wj53 : Nat → Option (List Nat) := fun _ => none
def kr53 : Nat → List Nat := fun _ => []
noncomputable def e53 : Ent := entOf Try.f53 ⟨p53, wl53, wj53, kr53, []⟩
theorem g53 : EntOk Try.prog stl 53 e53 := .inr ⟨rfl, Try.func53, by kernel_rfl, by kernel_rfl, by kernel_rfl, by kernel_rfl, by kernel_rfl, rfl⟩
/- 54: math/bits.Mul32 -/
def p54 : Nat → Option PlanC := fun _ => none
def wl54 : Nat → List Nat := fun _ => []
def wj54 : Nat → Option (List Nat) := fun _ => none
def kr54 : Nat → List Nat := fun _ => []
noncomputable def e54 : Ent := entOf Try.f54 ⟨p54, wl54, wj54, kr54, []⟩
theorem g54 : EntOk Try.prog stl 54 e54 := .inr ⟨rfl, Try.func54, by kernel_rfl, by kernel_rfl, by kernel_rfl, by kernel_rfl, by kernel_rfl, rfl⟩
/- 55: math/bits.Mul64 -/
def p55 : Nat → Option PlanC := fun _ => none
def wl55 : Nat → List Nat := fun _ => []
def wj55 : Nat → Option (List Nat) := fun _ => none
def kr55 : Nat → List Nat := fun _ => []
noncomputable def e55 : Ent := entOf Try.f55 ⟨p55, wl55, wj55, kr55, []⟩
theorem g55 : EntOk Try.prog stl 55 e55 := .inr ⟨rfl, Try.func55, by kernel_rfl, by kernel_rfl, by kernel_rfl, by kernel_rfl, by kernel_rfl, rfl⟩
/- 56: math.Float64frombits (no Go text) -/
noncomputable def e56 : Ent := extEnt
theorem g56 : EntOk Try.prog stl 56 e56 := .inl rfl
/- 57: math.Float64bits (no Go text) -/
noncomputable def e57 : Ent := extEnt
theorem g57 : EntOk Try.prog stl 57 e57 := .inl rfl
/- 58: math.archTrunc (no Go text) -/
noncomputable def e58 : Ent := extEnt
theorem g58 : EntOk Try.prog stl 58 e58 := .inl rfl
/- 59: math.trunc -/
def p59 : Nat → Option PlanC := fun _ => none
def wl59 : Nat → List Nat := fun _ => []
def wj59 : Nat → Option (List Nat) := fun
  | 7 => some [3]
  | _ => none
def kr59 : Nat → List Nat := fun _ => []
noncomputable def e59 : Ent := entOf Try.f59 ⟨p59, wl59, wj59, kr59, []⟩
theorem g59 : EntOk Try.prog stl 59 e59 := .inr ⟨rfl, Try.func59, by kernel_rfl, by kernel_rfl, by kernel_rfl, by kernel_rfl, by kernel_rfl, rfl⟩
/- 60: math.Copysign -/
def p60 : Nat → Option PlanC := fun _ => none
def wl60 : Nat → List Nat := fun _ => []
def wj60 : Nat → Option (List Nat) := fun _ => none
def kr60 : Nat → List Nat := fun _ => []
noncomputable def e60 : Ent := entOf Try.f60 ⟨p60, wl60, wj60, kr60, []⟩
theorem g60 : EntOk Try.prog stl 60 e60 := .inr ⟨rfl, Try.func60, by kernel_rfl, by kernel_rfl, by kernel_rfl, by kernel_rfl, by kernel_rfl, rfl⟩
noncomputable def ents : List (Nat × Ent) := [(3, e3), (12, e12), (13, e13), (14, e14), (15, e15), (16, e16), (28, e28), (34, e34), (35, e35), (36, e36), (37, e37), (38, e38), (44, e44), (45, e45), (46, e46), (47, e47), (48, e48), (49, e49), (50, e50), (51, e51), (52, e52), (53, e53), (54, e54), (55, e55), (56, e56), (57, e57), (58, e58), (59, e59), (60, e60)]
theorem goods : EntsOk Try.prog stl ents := ⟨g3, g12, g13, g14, g15, g16, g28, g34, g35, g36, g37, g38, g44, g45, g46, g47, g48, g49, g50, g51, g52, g53, g54, g55, g56, g57, g58, g59, g60, True.intro⟩
noncomputable def tab : Nat → Option Ent := (tabOf ents).get
theorem fok : FOk Try.prog stl tab := fok_of goods
noncomputable def d0 : Disp := .leaf
theorem d0_ok : CallSim Try.prog tys stl tab d0.fn := Disp.sim True.intro
/- foghorn/foghornlaw07.samePoints -/
noncomputable def R28 (q_genW : Option CV → (W → Bool) → Bool) (q_addW : Nat → Nat → Option CV → W → W → (W → Bool) → Bool) (q_cmpW : (Nat → Nat → Bool) → Nat → Option CV → W → W → (W → Bool) → Bool) (q_condW : W → Bool → Bool → Bool) (q_idxSW : Nat → W → W → (W → Bool) → Bool) (q_lenW : Option CV → W → (W → Bool) → Bool) (q_loadSW : HW → W → (W → Bool) → Bool) (fu : Nat) (call : CallW) (a0 : W) (a1 : W) (h0 : HW) (c0 : Nat) (K : KW) : Bool :=
q_lenW (lenC tys 34 (dec a0)) a0 fun v1 =>
q_lenW (lenC tys 34 (dec a1)) a1 fun v2 =>
q_cmpW (cmpF2 .neq) 3 (binC Try.prog .neq 3 (.tmp 7) (.tmp 9) (dec v1) (dec v2)) v1 v2 fun v3 =>
q_condW v3 (
K ⟨8, 0, r0, []⟩ h0 c0) (
@Nat.rec (fun _ => Fun 1) (fun _ _ _ => false) (fun _ f7 v4 h5 c6 =>
q_lenW (lenC tys 34 (dec a0)) a0 fun v8 =>
q_cmpW (cmpF2 .lss) 3 (binC Try.prog .lss 3 (.tmp 11) (.tmp 13) (dec v4) (dec v8)) v4 v8 fun v9 =>
q_condW v9 (
q_idxSW 1 a0 v4 fun v10 =>
q_loadSW h5 v10 fun v11 =>
q_idxSW 1 a1 v4 fun v12 =>
q_loadSW h5 v12 fun v13 =>
q_genW (binC Try.prog .neq 48 (.tmp 20) (.tmp 24) (dec v11) (dec v13)) fun v14 =>
q_condW v14 (
K ⟨8, 0, r0, []⟩ h5 c6) (
q_addW 3 9223372036854775807 (binC Try.prog .add 3 (.tmp 15) (.const (.int .i64 (.ofNat 1))) (dec v4) (dec ⟨3, 1, r0, []⟩)) v4 ⟨3, 1, r0, []⟩ fun v15 =>
f7 v15 h5 c6)) (
K ⟨8, 1, r0, []⟩ h5 c6)) fu ⟨3, 0, r0, []⟩ h0 c0)
theorem R28_eq (Q : PrimW) (fu : Nat) (call : CallW) : curryA 2 (fnK Q Try.prog tys stl fu call e28) = R28 Q.genW Q.addW Q.cmpW Q.condW Q.idxSW Q.lenW Q.loadSW fu call := by kernel_rfl
noncomputable def n28 : List W → HW → Nat → KW → Bool := appF 2 (R28 genW addW cmpW condW idxSW lenW loadSW 1000000 d0.fn)
theorem n28_ok : FnGood Try.prog tys stl tab 28 n28 := node_ok d0_ok (by kernel_rfl) rfl g28 (R28_eq real _ _)
/- foghorn/foghornlaw07.samples -/
noncomputable def R35 (q_share : (α : Type) → α → (α → Bool) → Bool) (q_addW : Nat → Nat → Option CV → W → W → (W → Bool) → Bool) (q_subW : Nat → Nat → Option CV → W → W → (W → Bool) → Bool) (q_remW : Nat → Nat → Option CV → W → W → (W → Bool) → Bool) (q_cmpW : (Nat → Nat → Bool) → Nat → Option CV → W → W → (W → Bool) → Bool) (q_condW : W → Bool → Bool → Bool) (q_guardW : Bool → W → Bool → Bool → Bool) (q_pickW : W → W → W → (W → Bool) → Bool) (q_idxSW : Nat → W → W → (W → Bool) → Bool) (q_lenW : Option CV → W → (W → Bool) → Bool) (q_killVW : W → HW → (HW → Bool) → Bool) (q_loadSW : HW → W → (W → Bool) → Bool) (q_loadAW : Nat → HW → W → (W → Bool) → Bool) (q_storeAW : Nat → HW → W → W → (HW → Bool) → Bool) (q_allocW : Trie W → Nat → Bool → HW → Nat → KW → Bool) (q_buildSW : Nat → Nat → Kind → Nat → Bool → HW → Nat → Nat → List W → KW → Bool) (q_appSW : Nat → Nat → (Kind → Bool) → Bool → HW → Nat → W → W → Bool → KW → Bool) (q_flatW : W → Bool → Bool) (fu : Nat) (call : CallW) (a0 : W) (a1 : W) (h0 : HW) (c0 : Nat) (K : KW) : Bool :=
@Nat.rec (fun _ => Fun 2) (fun _ _ _ _ => false) (fun _ f5 v1 v2 h3 c4 =>
q_lenW (lenC tys 34 (dec a0)) a0 fun v6 =>
q_cmpW (cmpF2 .lss) 3 (binC Try.prog .lss 3 (.tmp 8) (.tmp 10) (dec v2) (dec v6)) v2 v6 fun v7 =>
q_condW v7 (
q_idxSW 1 a0 v2 fun v8 =>
q_loadSW h3 v8 fun v9 =>
q_flatW v9 (
(fun (v10 : W) =>
q_allocW (allocT tys 60) 2 true h3 c4 fun v11 h12 c13 =>
q_storeAW 2 h12 v11 v10 fun h14 =>
q_share _ (fun  (h15 : HW) (c16 : Nat) =>
q_loadAW 2 h15 v11 fun v18 =>
q_buildSW 2 9 .avs 2 true h15 c16 1 [v18] fun v19 h20 c21 =>
q_appSW 24 2 (appKindOk (elemJ tys 55)) false h20 c21 v1 v19 false fun v22 h23 c24 =>
q_killVW v19 h23 fun h25 =>
q_addW 3 9223372036854775807 (binC Try.prog .add 3 (.tmp 12) (.const (.int .i64 (.ofNat 1))) (dec v2) (dec ⟨3, 1, r0, []⟩)) v2 ⟨3, 1, r0, []⟩ fun v26 =>
f5 v22 v26 h25 c24) fun f17 =>
q_cmpW (cmpF2 .gtr) 3 (binC Try.prog .gtr 3 (.tmp 19) (.const (.int .i64 (.ofNat 0))) (dec a1) (dec ⟨3, 0, r0, []⟩)) a1 ⟨3, 0, r0, []⟩ fun v27 =>
q_share _ (fun (v29 : W) (h30 : HW) (c31 : Nat) =>
q_share _ (fun (v33 : W) (h34 : HW) (c35 : Nat) =>
q_share _ (fun (v37 : W) (h38 : HW) (c39 : Nat) =>
q_share _ (fun (v41 : W) (h42 : HW) (c43 : Nat) =>
q_share _ (fun (v45 : W) (h46 : HW) (c47 : Nat) =>
q_share _ (fun (v49 : W) (h50 : HW) (c51 : Nat) =>
q_pickW v27 v49 ⟨8, 0, r0, []⟩ fun v52 =>
q_condW v52 (
q_flatW ⟨8, 1, r0, []⟩ (
(fun (v53 : W) =>
q_storeAW 2 h50 v11 v53 fun h54 =>
f17 h54 c51) ⟨15, 0, r0, [⟨12, 0, ⟨0, 0, 0, .cpx .f64 0 0⟩, []⟩, ⟨8, 1, r0, []⟩]⟩)) (
f17 h50 c51)) fun f48 =>
q_guardW true v27 (q_cmpW (cmpF2 .eql) 3 (binC Try.prog .eql 3 (.tmp 24) (.tmp 26) (dec v37) (dec v45)) v37 v45 fun v55 =>
f48 v55 h46 c47) (f48 wUnd h46 c47)) fun f44 =>
q_guardW true v27 (q_subW 3 9223372036854775807 (binC Try.prog .sub 3 (.tmp 25) (.const (.int .i64 (.ofNat 1))) (dec v41) (dec ⟨3, 1, r0, []⟩)) v41 ⟨3, 1, r0, []⟩ fun v56 =>
f44 v56 h42 c43) (f44 wUnd h42 c43)) fun f40 =>
q_guardW true v27 (f40 a1 h38 c39) (f40 wUnd h38 c39)) fun f36 =>
q_guardW true v27 (q_remW 3 9223372036854775807 (binC Try.prog .rem 3 (.tmp 22) (.tmp 23) (dec v29) (dec v33)) v29 v33 fun v57 =>
f36 v57 h34 c35) (f36 wUnd h34 c35)) fun f32 =>
q_guardW true v27 (f32 a1 h30 c31) (f32 wUnd h30 c31)) fun f28 =>
q_guardW true v27 (f28 v2 h14 c13) (f28 wUnd h14 c13)) ⟨15, 0, r0, [v9, ⟨8, 0, r0, []⟩]⟩)) (
K v1 h3 c4)) fu ⟨12, 0, ⟨0, 0, 0, .nils⟩, []⟩ ⟨3, 0, r0, []⟩ h0 c0
theorem R35_eq (Q : PrimW) (fu : Nat) (call : CallW) : curryA 2 (fnK Q Try.prog tys stl fu call e35) = R35 Q.share Q.addW Q.subW Q.remW Q.cmpW Q.condW Q.guardW Q.pickW Q.idxSW Q.lenW Q.killVW Q.loadSW Q.loadAW Q.storeAW Q.allocW Q.buildSW Q.appSW Q.flatW fu call := by kernel_rfl
noncomputable def n35 : List W → HW → Nat → KW → Bool := appF 2 (R35 (fun _ x f => f x) addW subW remW cmpW condW guardW pickW idxSW lenW killVW loadSW loadAW storeAW allocW buildSW appSW flatW 1000000 d0.fn)
theorem n35_ok : FnGood Try.prog tys stl tab 35 n35 := node_ok d0_ok (by kernel_rfl) rfl g35 (R35_eq real _ _)
/- foghorn/pulse.named -/
noncomputable def R36 (q_newOW : CO → W → HW → Nat → KW → Bool) (q_updOW : Option (TypeDesc × Nat) → HW → Nat → W → W → W → KW → Bool) (fu : Nat) (call : CallW) (h0 : HW) (c0 : Nat) (K : KW) : Bool :=
q_newOW (.map [] 0) ⟨12, 0, ⟨0, 0, 0, .map c0⟩, []⟩ h0 c0 fun v1 h2 c3 =>
q_updOW (mapTyC Try.prog 67) h2 c3 v1 ⟨12, 0, ⟨0, 0, 0, .str ⟨⟨[115, 112, 105, 107, 101]⟩⟩⟩, []⟩ ⟨14, 44, r0, []⟩ fun v4 h5 c6 =>
q_updOW (mapTyC Try.prog 67) h5 c6 v1 ⟨12, 0, ⟨0, 0, 0, .str ⟨⟨[98, 111, 120]⟩⟩⟩, []⟩ ⟨14, 45, r0, []⟩ fun v7 h8 c9 =>
q_updOW (mapTyC Try.prog 67) h8 c9 v1 ⟨12, 0, ⟨0, 0, 0, .str ⟨⟨[116, 101, 110, 116]⟩⟩⟩, []⟩ ⟨14, 47, r0, []⟩ fun v10 h11 c12 =>
q_updOW (mapTyC Try.prog 67) h11 c12 v1 ⟨12, 0, ⟨0, 0, 0, .str ⟨⟨[115, 111, 102, 116]⟩⟩⟩, []⟩ ⟨14, 48, r0, []⟩ fun v13 h14 c15 =>
K v1 h14 c15
theorem R36_eq (Q : PrimW) (fu : Nat) (call : CallW) : curryA 0 (fnK Q Try.prog tys stl fu call e36) = R36 Q.newOW Q.updOW fu call := by kernel_rfl
noncomputable def n36 : List W → HW → Nat → KW → Bool := appF 0 (R36 newOW updOW 1000000 d0.fn)
theorem n36_ok : FnGood Try.prog tys stl tab 36 n36 := node_ok d0_ok (by kernel_rfl) rfl g36 (R36_eq real _ _)
/- foghorn/pulse.named$1 -/
noncomputable def R44 (q_share : (α : Type) → α → (α → Bool) → Bool) (q_cmpW : (Nat → Nat → Bool) → Nat → Option CV → W → W → (W → Bool) → Bool) (q_condW : W → Bool → Bool → Bool) (q_guardW : Bool → W → Bool → Bool → Bool) (q_pickW : W → W → W → (W → Bool) → Bool) (q_loadAW : Nat → HW → W → (W → Bool) → Bool) (q_storeAW : Nat → HW → W → W → (HW → Bool) → Bool) (q_allocW : Trie W → Nat → Bool → HW → Nat → KW → Bool) (q_buildSW : Nat → Nat → Kind → Nat → Bool → HW → Nat → Nat → List W → KW → Bool) (q_flatW : W → Bool → Bool) (fu : Nat) (call : CallW) (a0 : W) (h0 : HW) (c0 : Nat) (K : KW) : Bool :=
q_allocW (allocT tys 26) 3 true h0 c0 fun v1 h2 c3 =>
q_cmpW (cmpF2 .lss) 3 (binC Try.prog .lss 3 (.tmp 3) (.const (.int .i64 (.ofNat 1))) (dec a0) (dec ⟨3, 1, r0, []⟩)) a0 ⟨3, 1, r0, []⟩ fun v4 =>
q_share _ (fun (v6 : W) (h7 : HW) (c8 : Nat) =>
q_share _ (fun (v10 : W) (h11 : HW) (c12 : Nat) =>
q_pickW v4 ⟨8, 1, r0, []⟩ v10 fun v13 =>
q_condW v13 (
(fun (v14 : W) =>
q_storeAW 3 h11 v1 v14 fun h15 =>
q_loadAW 3 h15 v1 fun v16 =>
K v16 h15 c12) ⟨15, 0, r0, [⟨3, 0, r0, []⟩, ⟨3, 0, r0, []⟩, ⟨12, 0, ⟨0, 0, 0, .nils⟩, []⟩]⟩) (
q_buildSW 1 99 (.flts .f64) 1 true h11 c12 1 [⟨12, 0, ⟨0, 0, 0, .flt .f64 4607182418800017408⟩, []⟩] fun v17 h18 c19 =>
q_flatW a0 (
q_flatW v17 (
(fun (v20 : W) =>
q_storeAW 3 h18 v1 v20 fun h21 =>
q_loadAW 3 h21 v1 fun v22 =>
K v22 h21 c19) ⟨15, 0, r0, [a0, ⟨3, 0, r0, []⟩, v17]⟩)))) fun f9 =>
q_guardW false v4 (q_cmpW (cmpF2 .gtr) 3 (binC Try.prog .gtr 3 (.tmp 6) (.const (.int .i64 (.ofNat 8))) (dec v6) (dec ⟨3, 8, r0, []⟩)) v6 ⟨3, 8, r0, []⟩ fun v23 =>
f9 v23 h7 c8) (f9 wUnd h7 c8)) fun f5 =>
q_guardW false v4 (f5 a0 h2 c3) (f5 wUnd h2 c3)
theorem R44_eq (Q : PrimW) (fu : Nat) (call : CallW) : curryA 1 (fnK Q Try.prog tys stl fu call e44) = R44 Q.share Q.cmpW Q.condW Q.guardW Q.pickW Q.loadAW Q.storeAW Q.allocW Q.buildSW Q.flatW fu call := by kernel_rfl
noncomputable def n44 : List W → HW → Nat → KW → Bool := appF 1 (R44 (fun _ x f => f x) cmpW condW guardW pickW loadAW storeAW allocW buildSW flatW 1000000 d0.fn)
theorem n44_ok : FnGood Try.prog tys stl tab 44 n44 := node_ok d0_ok (by kernel_rfl) rfl g44 (R44_eq real _ _)
/- foghorn/pulse.tent -/
noncomputable def R47 (q_share : (α : Type) → α → (α → Bool) → Bool) (q_genW : Option CV → (W → Bool) → Bool) (q_addW : Nat → Nat → Option CV → W → W → (W → Bool) → Bool) (q_subW : Nat → Nat → Option CV → W → W → (W → Bool) → Bool) (q_mulW : Nat → Nat → Option CV → W → W → (W → Bool) → Bool) (q_cmpW : (Nat → Nat → Bool) → Nat → Option CV → W → W → (W → Bool) → Bool) (q_condW : W → Bool → Bool → Bool) (q_guardW : Bool → W → Bool → Bool → Bool) (q_pickW : W → W → W → (W → Bool) → Bool) (q_idxSW : Nat → W → W → (W → Bool) → Bool) (q_lenW : Option CV → W → (W → Bool) → Bool) (q_loadAW : Nat → HW → W → (W → Bool) → Bool) (q_storeSW : HW → W → W → (HW → Bool) → Bool) (q_storeAW : Nat → HW → W → W → (HW → Bool) → Bool) (q_makeSW : Nat → Nat → Nat → Kind → List W → Bool → HW → Nat → W → W → KW → Bool) (q_allocW : Trie W → Nat → Bool → HW → Nat → KW → Bool) (q_flatW : W → Bool → Bool) (fu : Nat) (call : CallW) (a0 : W) (h0 : HW) (c0 : Nat) (K : KW) : Bool :=
q_allocW (allocT tys 26) 3 true h0 c0 fun v1 h2 c3 =>
q_cmpW (cmpF2 .neq) 3 (binC Try.prog .neq 3 (.tmp 5) (.const (.int .i64 (.ofNat 1))) (dec a0) (dec ⟨3, 1, r0, []⟩)) a0 ⟨3, 1, r0, []⟩ fun v4 =>
q_share _ (fun (v6 : W) (h7 : HW) (c8 : Nat) =>
q_share _ (fun (v10 : W) (h11 : HW) (c12 : Nat) =>
q_pickW v4 v10 ⟨8, 0, r0, []⟩ fun v13 =>
q_share _ (fun (v15 : W) (h16 : HW) (c17 : Nat) =>
q_share _ (fun (v19 : W) (h20 : HW) (c21 : Nat) =>
q_pickW v13 v19 ⟨8, 0, r0, []⟩ fun v22 =>
q_condW v22 (
(fun (v23 : W) =>
q_storeAW 3 h20 v1 v23 fun h24 =>
q_loadAW 3 h24 v1 fun v25 =>
K v25 h24 c21) ⟨15, 0, r0, [⟨3, 0, r0, []⟩, ⟨3, 0, r0, []⟩, ⟨12, 0, ⟨0, 0, 0, .nils⟩, []⟩]⟩) (
q_mulW 3 9223372036854775807 (binC Try.prog .mul 3 (.const (.int .i64 (.ofNat 2))) (.tmp 16) (dec ⟨3, 2, r0, []⟩) (dec a0)) ⟨3, 2, r0, []⟩ a0 fun v26 =>
q_subW 3 9223372036854775807 (binC Try.prog .sub 3 (.tmp 17) (.const (.int .i64 (.ofNat 1))) (dec v26) (dec ⟨3, 1, r0, []⟩)) v26 ⟨3, 1, r0, []⟩ fun v27 =>
q_makeSW 8 1 99 (.flts .f64) [⟨12, 0, ⟨0, 0, 0, .flt .f64 0⟩, []⟩] true h20 c21 v27 v27 fun v28 h29 c30 =>
q_lenW (lenC tys 24 (dec v28)) v28 fun v31 =>
@Nat.rec (fun _ => Fun 1) (fun _ _ _ => false) (fun _ f35 v32 h33 c34 =>
q_cmpW (cmpF2 .lss) 3 (binC Try.prog .lss 3 (.tmp 22) (.tmp 21) (dec v32) (dec v31)) v32 v31 fun v36 =>
q_condW v36 (
q_addW 3 9223372036854775807 (binC Try.prog .add 3 (.tmp 27) (.const (.int .i64 (.ofNat 1))) (dec v32) (dec ⟨3, 1, r0, []⟩)) v32 ⟨3, 1, r0, []⟩ fun v37 =>
q_lenW (lenC tys 24 (dec v28)) v28 fun v38 =>
q_subW 3 9223372036854775807 (binC Try.prog .sub 3 (.tmp 30) (.tmp 31) (dec v38) (dec v32)) v38 v32 fun v39 =>
q_genW (two2 Try.prog (dec v37) (dec v39) fun v u => Builtin.min_ #[3, 3] 3 #[v, u]) fun v40 =>
q_genW (convC Try.prog tys ⟨[], 0, decH h33, 0⟩ 3 33 (dec v40)) fun v41 =>
q_genW (convC Try.prog tys ⟨[], 0, decH h33, 0⟩ 3 33 (dec a0)) fun v42 =>
q_genW (binC Try.prog .quo 33 (.tmp 34) (.tmp 36) (dec v41) (dec v42)) fun v43 =>
q_idxSW 1 v28 v32 fun v44 =>
q_storeSW h33 v44 v43 fun h45 =>
q_addW 3 9223372036854775807 (binC Try.prog .add 3 (.tmp 22) (.const (.int .i64 (.ofNat 1))) (dec v32) (dec ⟨3, 1, r0, []⟩)) v32 ⟨3, 1, r0, []⟩ fun v46 =>
f35 v46 h45 c34) (
q_subW 3 9223372036854775807 (binC Try.prog .sub 3 (.tmp 41) (.const (.int .i64 (.ofNat 1))) (dec a0) (dec ⟨3, 1, r0, []⟩)) a0 ⟨3, 1, r0, []⟩ fun v47 =>
q_flatW a0 (
q_flatW v47 (
q_flatW v28 (
(fun (v48 : W) =>
q_storeAW 3 h33 v1 v48 fun h49 =>
q_loadAW 3 h49 v1 fun v50 =>
K v50 h49 c34) ⟨15, 0, r0, [a0, v47, v28]⟩))))) fu ⟨3, 0, r0, []⟩ h29 c30)) fun f18 =>
q_guardW true v13 (q_cmpW (cmpF2 .neq) 3 (binC Try.prog .neq 3 (.tmp 12) (.const (.int .i64 (.ofNat 4))) (dec v15) (dec ⟨3, 4, r0, []⟩)) v15 ⟨3, 4, r0, []⟩ fun v51 =>
f18 v51 h16 c17) (f18 wUnd h16 c17)) fun f14 =>
q_guardW true v13 (f14 a0 h11 c12) (f14 wUnd h11 c12)) fun f9 =>
q_guardW true v4 (q_cmpW (cmpF2 .neq) 3 (binC Try.prog .neq 3 (.tmp 8) (.const (.int .i64 (.ofNat 2))) (dec v6) (dec ⟨3, 2, r0, []⟩)) v6 ⟨3, 2, r0, []⟩ fun v52 =>
f9 v52 h7 c8) (f9 wUnd h7 c8)) fun f5 =>
q_guardW true v4 (f5 a0 h2 c3) (f5 wUnd h2 c3)
theorem R47_eq (Q : PrimW) (fu : Nat) (call : CallW) : curryA 1 (fnK Q Try.prog tys stl fu call e47) = R47 Q.share Q.genW Q.addW Q.subW Q.mulW Q.cmpW Q.condW Q.guardW Q.pickW Q.idxSW Q.lenW Q.loadAW Q.storeSW Q.storeAW Q.makeSW Q.allocW Q.flatW fu call := by kernel_rfl
noncomputable def n47 : List W → HW → Nat → KW → Bool := appF 1 (R47 (fun _ x f => f x) genW addW subW mulW cmpW condW guardW pickW idxSW lenW loadAW storeSW storeAW makeSW allocW flatW 1000000 d0.fn)
theorem n47_ok : FnGood Try.prog tys stl tab 47 n47 := node_ok d0_ok (by kernel_rfl) rfl g47 (R47_eq real _ _)
/- foghorn/pulse.named$3 -/
noncomputable def R48 (q_cmpW : (Nat → Nat → Bool) → Nat → Option CV → W → W → (W → Bool) → Bool) (q_condW : W → Bool → Bool → Bool) (q_loadAW : Nat → HW → W → (W → Bool) → Bool) (q_storeAW : Nat → HW → W → W → (HW → Bool) → Bool) (q_allocW : Trie W → Nat → Bool → HW → Nat → KW → Bool) (q_buildSW : Nat → Nat → Kind → Nat → Bool → HW → Nat → Nat → List W → KW → Bool) (q_flatW : W → Bool → Bool) (fu : Nat) (call : CallW) (a0 : W) (h0 : HW) (c0 : Nat) (K : KW) : Bool :=
q_allocW (allocT tys 26) 3 true h0 c0 fun v1 h2 c3 =>
q_cmpW (cmpF2 .neq) 3 (binC Try.prog .neq 3 (.tmp 3) (.const (.int .i64 (.ofNat 2))) (dec a0) (dec ⟨3, 2, r0, []⟩)) a0 ⟨3, 2, r0, []⟩ fun v4 =>
q_condW v4 (
(fun (v5 : W) =>
q_storeAW 3 h2 v1 v5 fun h6 =>
q_loadAW 3 h6 v1 fun v7 =>
K v7 h6 c3) ⟨15, 0, r0, [⟨3, 0, r0, []⟩, ⟨3, 0, r0, []⟩, ⟨12, 0, ⟨0, 0, 0, .nils⟩, []⟩]⟩) (
q_buildSW 1 99 (.flts .f64) 7 true h2 c3 7 [⟨12, 0, ⟨0, 0, 0, .flt .f64 13812540057145311232⟩, []⟩, ⟨12, 0, ⟨0, 0, 0, .flt .f64 0⟩, []⟩, ⟨12, 0, ⟨0, 0, 0, .flt .f64 4603241769126068224⟩, []⟩, ⟨12, 0, ⟨0, 0, 0, .flt .f64 4607182418800017408⟩, []⟩, ⟨12, 0, ⟨0, 0, 0, .flt .f64 4603241769126068224⟩, []⟩, ⟨12, 0, ⟨0, 0, 0, .flt .f64 0⟩, []⟩, ⟨12, 0, ⟨0, 0, 0, .flt .f64 13812540057145311232⟩, []⟩] fun v8 h9 c10 =>
q_flatW ⟨3, 2, r0, []⟩ (
q_flatW ⟨3, 3, r0, []⟩ (
q_flatW v8 (
(fun (v11 : W) =>
q_storeAW 3 h9 v1 v11 fun h12 =>
q_loadAW 3 h12 v1 fun v13 =>
K v13 h12 c10) ⟨15, 0, r0, [⟨3, 2, r0, []⟩, ⟨3, 3, r0, []⟩, v8]⟩))))
theorem R48_eq (Q : PrimW) (fu : Nat) (call : CallW) : curryA 1 (fnK Q Try.prog tys stl fu call e48) = R48 Q.cmpW Q.condW Q.loadAW Q.storeAW Q.allocW Q.buildSW Q.flatW fu call := by kernel_rfl
noncomputable def n48 : List W → HW → Nat → KW → Bool := appF 1 (R48 cmpW condW loadAW storeAW allocW buildSW flatW 1000000 d0.fn)
theorem n48_ok : FnGood Try.prog tys stl tab 48 n48 := node_ok d0_ok (by kernel_rfl) rfl g48 (R48_eq real _ _)
/- math/bits.Mul32 -/
noncomputable def R54 (q_mulW : Nat → Nat → Option CV → W → W → (W → Bool) → Bool) (q_shrW : Nat → Nat → Option CV → W → W → (W → Bool) → Bool) (q_icvW : Nat → Nat → Option CV → W → (W → Bool) → Bool) (fu : Nat) (call : CallW) (a0 : W) (a1 : W) (h0 : HW) (c0 : Nat) (K : KW) : Bool :=
q_icvW 7 18446744073709551615 (convC Try.prog tys ⟨[], 0, decH h0, 0⟩ 79 82 (dec a0)) a0 fun v1 =>
q_icvW 7 18446744073709551615 (convC Try.prog tys ⟨[], 0, decH h0, 0⟩ 79 82 (dec a1)) a1 fun v2 =>
q_mulW 7 18446744073709551615 (binC Try.prog .mul 82 (.tmp 8) (.tmp 10) (dec v1) (dec v2)) v1 v2 fun v3 =>
q_shrW 7 64 (binC Try.prog .shr 82 (.tmp 12) (.const (.int .u64 (.ofNat 32))) (dec v3) (dec ⟨7, 32, r0, []⟩)) v3 ⟨7, 32, r0, []⟩ fun v4 =>
q_icvW 6 4294967295 (convC Try.prog tys ⟨[], 0, decH h0, 0⟩ 82 79 (dec v4)) v4 fun v5 =>
q_icvW 6 4294967295 (convC Try.prog tys ⟨[], 0, decH h0, 0⟩ 82 79 (dec v3)) v3 fun v6 =>
K ⟨13, 0, r0, [v5, v6]⟩ h0 c0
theorem R54_eq (Q : PrimW) (fu : Nat) (call : CallW) : curryA 2 (fnK Q Try.prog tys stl fu call e54) = R54 Q.mulW Q.shrW Q.icvW fu call := by kernel_rfl
noncomputable def n54 : List W → HW → Nat → KW → Bool := appF 2 (R54 mulW shrW icvW 1000000 d0.fn)
theorem n54_ok : FnGood Try.prog tys stl tab 54 n54 := node_ok d0_ok (by kernel_rfl) rfl g54 (R54_eq real _ _)
/- math/bits.Mul64 -/
noncomputable def R55 (q_addW : Nat → Nat → Option CV → W → W → (W → Bool) → Bool) (q_mulW : Nat → Nat → Option CV → W → W → (W → Bool) → Bool) (q_bitW : (Nat → Nat → Nat) → Nat → Nat → Option CV → W → W → (W → Bool) → Bool) (q_shrW : Nat → Nat → Option CV → W → W → (W → Bool) → Bool) (fu : Nat) (call : CallW) (a0 : W) (a1 : W) (h0 : HW) (c0 : Nat) (K : KW) : Bool :=
q_bitW Nat.land 7 18446744073709551615 (binC Try.prog .and 82 (.tmp 14) (.const (.int .u64 (.ofNat 4294967295))) (dec a0) (dec ⟨7, 4294967295, r0, []⟩)) a0 ⟨7, 4294967295, r0, []⟩ fun v1 =>
q_shrW 7 64 (binC Try.prog .shr 82 (.tmp 16) (.const (.int .u64 (.ofNat 32))) (dec a0) (dec ⟨7, 32, r0, []⟩)) a0 ⟨7, 32, r0, []⟩ fun v2 =>
q_bitW Nat.land 7 18446744073709551615 (binC Try.prog .and 82 (.tmp 18) (.const (.int .u64 (.ofNat 4294967295))) (dec a1) (dec ⟨7, 4294967295, r0, []⟩)) a1 ⟨7, 4294967295, r0, []⟩ fun v3 =>
q_shrW 7 64 (binC Try.prog .shr 82 (.tmp 20) (.const (.int .u64 (.ofNat 32))) (dec a1) (dec ⟨7, 32, r0, []⟩)) a1 ⟨7, 32, r0, []⟩ fun v4 =>
q_mulW 7 18446744073709551615 (binC Try.prog .mul 82 (.tmp 22) (.tmp 23) (dec v1) (dec v3)) v1 v3 fun v5 =>
q_mulW 7 18446744073709551615 (binC Try.prog .mul 82 (.tmp 25) (.tmp 26) (dec v2) (dec v3)) v2 v3 fun v6 =>
q_shrW 7 64 (binC Try.prog .shr 82 (.tmp 28) (.const (.int .u64 (.ofNat 32))) (dec v5) (dec ⟨7, 32, r0, []⟩)) v5 ⟨7, 32, r0, []⟩ fun v7 =>
q_addW 7 18446744073709551615 (binC Try.prog .add 82 (.tmp 27) (.tmp 29) (dec v6) (dec v7)) v6 v7 fun v8 =>
q_bitW Nat.land 7 18446744073709551615 (binC Try.prog .and 82 (.tmp 31) (.const (.int .u64 (.ofNat 4294967295))) (dec v8) (dec ⟨7, 4294967295, r0, []⟩)) v8 ⟨7, 4294967295, r0, []⟩ fun v9 =>
q_shrW 7 64 (binC Try.prog .shr 82 (.tmp 33) (.const (.int .u64 (.ofNat 32))) (dec v8) (dec ⟨7, 32, r0, []⟩)) v8 ⟨7, 32, r0, []⟩ fun v10 =>
q_mulW 7 18446744073709551615 (binC Try.prog .mul 82 (.tmp 36) (.tmp 37) (dec v1) (dec v4)) v1 v4 fun v11 =>
q_addW 7 18446744073709551615 (binC Try.prog .add 82 (.tmp 35) (.tmp 38) (dec v9) (dec v11)) v9 v11 fun v12 =>
q_mulW 7 18446744073709551615 (binC Try.prog .mul 82 (.tmp 40) (.tmp 41) (dec v2) (dec v4)) v2 v4 fun v13 =>
q_addW 7 18446744073709551615 (binC Try.prog .add 82 (.tmp 42) (.tmp 43) (dec v13) (dec v10)) v13 v10 fun v14 =>
q_shrW 7 64 (binC Try.prog .shr 82 (.tmp 45) (.const (.int .u64 (.ofNat 32))) (dec v12) (dec ⟨7, 32, r0, []⟩)) v12 ⟨7, 32, r0, []⟩ fun v15 =>
q_addW 7 18446744073709551615 (binC Try.prog .add 82 (.tmp 44) (.tmp 46) (dec v14) (dec v15)) v14 v15 fun v16 =>
q_mulW 7 18446744073709551615 (binC Try.prog .mul 82 (.tmp 48) (.tmp 49) (dec a0) (dec a1)) a0 a1 fun v17 =>
K ⟨13, 0, r0, [v16, v17]⟩ h0 c0
theorem R55_eq (Q : PrimW) (fu : Nat) (call : CallW) : curryA 2 (fnK Q Try.prog tys stl fu call e55) = R55 Q.addW Q.mulW Q.bitW Q.shrW fu call := by kernel_rfl
noncomputable def n55 : List W → HW → Nat → KW → Bool := appF 2 (R55 addW mulW bitW shrW 1000000 d0.fn)
theorem n55_ok : FnGood Try.prog tys stl tab 55 n55 := node_ok d0_ok (by kernel_rfl) rfl g55 (R55_eq real _ _)
noncomputable def n56 : List W → HW → Nat → KW → Bool := extN Try.prog 56
theorem n56_ok : FnGood Try.prog tys stl tab 56 n56 := ext_ok (e := e56) (by kernel_rfl) rfl
noncomputable def n57 : List W → HW → Nat → KW → Bool := extN Try.prog 57
theorem n57_ok : FnGood Try.prog tys stl tab 57 n57 := ext_ok (e := e57) (by kernel_rfl) rfl
noncomputable def n58 : List W → HW → Nat → KW → Bool := extN Try.prog 58
theorem n58_ok : FnGood Try.prog tys stl tab 58 n58 := ext_ok (e := e58) (by kernel_rfl) rfl
noncomputable def d1 : Disp := (.node 48 n48 (.node 36 n36 (.node 35 n35 (.node 28 n28 .leaf .leaf) .leaf) (.node 47 n47 (.node 44 n44 .leaf .leaf) .leaf)) (.node 56 n56 (.node 55 n55 (.node 54 n54 .leaf .leaf) .leaf) (.node 58 n58 (.node 57 n57 .leaf .leaf) .leaf)))
theorem d1_ok : CallSim Try.prog tys stl tab d1.fn := Disp.sim ⟨n48_ok, ⟨n36_ok, ⟨n35_ok, ⟨n28_ok, True.intro, True.intro⟩, True.intro⟩, ⟨n47_ok, ⟨n44_ok, True.intro, True.intro⟩, True.intro⟩⟩, ⟨n56_ok, ⟨n55_ok, ⟨n54_ok, True.intro, True.intro⟩, True.intro⟩, ⟨n58_ok, ⟨n57_ok, True.intro, True.intro⟩, True.intro⟩⟩⟩
/- math/bits.Mul -/
noncomputable def R51 (q_icvW : Nat → Nat → Option CV → W → (W → Bool) → Bool) (q_condW : W → Bool → Bool → Bool) (q_tupW : W → (List W → Bool) → Bool) (q_nthW : Nat → List W → (W → Bool) → Bool) (fu : Nat) (call : CallW) (a0 : W) (a1 : W) (h0 : HW) (c0 : Nat) (K : KW) : Bool :=
q_condW ⟨8, 0, r0, []⟩ (
q_icvW 6 4294967295 (convC Try.prog tys ⟨[], 0, decH h0, 0⟩ 63 79 (dec a0)) a0 fun v1 =>
q_icvW 6 4294967295 (convC Try.prog tys ⟨[], 0, decH h0, 0⟩ 63 79 (dec a1)) a1 fun v2 =>
call 54 [v1, v2] h0 c0 fun v3 h4 c5 =>
q_tupW v3 fun l6 => q_nthW 0 l6 fun v7 =>
q_tupW v3 fun l8 => q_nthW 1 l8 fun v9 =>
q_icvW 7 18446744073709551615 (convC Try.prog tys ⟨[], 0, decH h4, 0⟩ 79 63 (dec v7)) v7 fun v10 =>
q_icvW 7 18446744073709551615 (convC Try.prog tys ⟨[], 0, decH h4, 0⟩ 79 63 (dec v9)) v9 fun v11 =>
K ⟨13, 0, r0, [v10, v11]⟩ h4 c5) (
call 55 [a0, a1] h0 c0 fun v12 h13 c14 =>
q_tupW v12 fun l15 => q_nthW 0 l15 fun v16 =>
q_tupW v12 fun l17 => q_nthW 1 l17 fun v18 =>
K ⟨13, 0, r0, [v16, v18]⟩ h13 c14)
theorem R51_eq (Q : PrimW) (fu : Nat) (call : CallW) : curryA 2 (fnK Q Try.prog tys stl fu call e51) = R51 Q.icvW Q.condW Q.tupW Q.nthW fu call := by kernel_rfl
noncomputable def n51 : List W → HW → Nat → KW → Bool := appF 2 (R51 icvW condW tupW nthW 1000000 d1.fn)
theorem n51_ok : FnGood Try.prog tys stl tab 51 n51 := node_ok d1_ok (by kernel_rfl) rfl g51 (R51_eq real _ _)
/- math.Abs -/
noncomputable def R52 (q_genW : Option CV → (W → Bool) → Bool) (fu : Nat) (call : CallW) (a0 : W) (h0 : HW) (c0 : Nat) (K : KW) : Bool :=
call 57 [a0] h0 c0 fun v1 h2 c3 =>
q_genW (binC Try.prog .andNot 82 (.tmp 4) (.const (.int .u64 (.ofNat 9223372036854775808))) (dec v1) (dec ⟨7, 9223372036854775808, r0, []⟩)) fun v4 =>
call 56 [v4] h2 c3 fun v5 h6 c7 =>
K v5 h6 c7
theorem R52_eq (Q : PrimW) (fu : Nat) (call : CallW) : curryA 1 (fnK Q Try.prog tys stl fu call e52) = R52 Q.genW fu call := by kernel_rfl
noncomputable def n52 : List W → HW → Nat → KW → Bool := appF 1 (R52 genW 1000000 d1.fn)
theorem n52_ok : FnGood Try.prog tys stl tab 52 n52 := node_ok d1_ok (by kernel_rfl) rfl g52 (R52_eq real _ _)
/- math.Copysign -/
noncomputable def R60 (q_genW : Option CV → (W → Bool) → Bool) (q_bitW : (Nat → Nat → Nat) → Nat → Nat → Option CV → W → W → (W → Bool) → Bool) (fu : Nat) (call : CallW) (a0 : W) (a1 : W) (h0 : HW) (c0 : Nat) (K : KW) : Bool :=
call 57 [a0] h0 c0 fun v1 h2 c3 =>
q_genW (binC Try.prog .andNot 82 (.tmp 6) (.const (.int .u64 (.ofNat 9223372036854775808))) (dec v1) (dec ⟨7, 9223372036854775808, r0, []⟩)) fun v4 =>
call 57 [a1] h2 c3 fun v5 h6 c7 =>
q_bitW Nat.land 7 18446744073709551615 (binC Try.prog .and 82 (.tmp 9) (.const (.int .u64 (.ofNat 9223372036854775808))) (dec v5) (dec ⟨7, 9223372036854775808, r0, []⟩)) v5 ⟨7, 9223372036854775808, r0, []⟩ fun v8 =>
q_bitW Nat.lor 7 18446744073709551615 (binC Try.prog .or 82 (.tmp 7) (.tmp 10) (dec v4) (dec v8)) v4 v8 fun v9 =>
call 56 [v9] h6 c7 fun v10 h11 c12 =>
K v10 h11 c12
theorem R60_eq (Q : PrimW) (fu : Nat) (call : CallW) : curryA 2 (fnK Q Try.prog tys stl fu call e60) = R60 Q.genW Q.bitW fu call := by kernel_rfl
noncomputable def n60 : List W → HW → Nat → KW → Bool := appF 2 (R60 genW bitW 1000000 d1.fn)
theorem n60_ok : FnGood Try.prog tys stl tab 60 n60 := node_ok d1_ok (by kernel_rfl) rfl g60 (R60_eq real _ _)
noncomputable def d2 : Disp := (.node 52 n52 (.node 44 n44 (.node 35 n35 (.node 28 n28 .leaf .leaf) (.node 36 n36 .leaf .leaf)) (.node 48 n48 (.node 47 n47 .leaf .leaf) (.node 51 n51 .leaf .leaf))) (.node 57 n57 (.node 55 n55 (.node 54 n54 .leaf .leaf) (.node 56 n56 .leaf .leaf)) (.node 60 n60 (.node 58 n58 .leaf .leaf) .leaf)))
theorem d2_ok : CallSim Try.prog tys stl tab d2.fn := Disp.sim ⟨n52_ok, ⟨n44_ok, ⟨n35_ok, ⟨n28_ok, True.intro, True.intro⟩, ⟨n36_ok, True.intro, True.intro⟩⟩, ⟨n48_ok, ⟨n47_ok, True.intro, True.intro⟩, ⟨n51_ok, True.intro, True.intro⟩⟩⟩, ⟨n57_ok, ⟨n55_ok, ⟨n54_ok, True.intro, True.intro⟩, ⟨n56_ok, True.intro, True.intro⟩⟩, ⟨n60_ok, ⟨n58_ok, True.intro, True.intro⟩, True.intro⟩⟩⟩
/- slices.Repeat[[]float64,float64] -/
noncomputable def R46 (q_share : (α : Type) → α → (α → Bool) → Bool) (q_genW : Option CV → (W → Bool) → Bool) (q_addW : Nat → Nat → Option CV → W → W → (W → Bool) → Bool) (q_cmpW : (Nat → Nat → Bool) → Nat → Option CV → W → W → (W → Bool) → Bool) (q_icvW : Nat → Nat → Option CV → W → (W → Bool) → Bool) (q_condW : W → Bool → Bool → Bool) (q_guardW : Bool → W → Bool → Bool → Bool) (q_pickW : W → W → W → (W → Bool) → Bool) (q_lenW : Option CV → W → (W → Bool) → Bool) (q_tupW : W → (List W → Bool) → Bool) (q_nthW : Nat → List W → (W → Bool) → Bool) (q_makeSW : Nat → Nat → Nat → Kind → List W → Bool → HW → Nat → W → W → KW → Bool) (q_cpySW : Nat → HW → Nat → W → W → KW → Bool) (fu : Nat) (call : CallW) (a0 : W) (a1 : W) (h0 : HW) (c0 : Nat) (K : KW) : Bool :=
q_share _ (fun  (h1 : HW) (c2 : Nat) =>
q_lenW (lenC tys 24 (dec a0)) a0 fun v4 =>
q_icvW 7 18446744073709551615 (convC Try.prog tys ⟨[], 0, decH h1, 0⟩ 3 63 (dec v4)) v4 fun v5 =>
q_icvW 7 18446744073709551615 (convC Try.prog tys ⟨[], 0, decH h1, 0⟩ 3 63 (dec a1)) a1 fun v6 =>
call 51 [v5, v6] h1 c2 fun v7 h8 c9 =>
q_tupW v7 fun l10 => q_nthW 0 l10 fun v11 =>
q_tupW v7 fun l12 => q_nthW 1 l12 fun v13 =>
q_share _ (fun  (h14 : HW) (c15 : Nat) =>
q_icvW 3 9223372036854775807 (convC Try.prog tys ⟨[], 0, decH h14, 0⟩ 63 3 (dec v13)) v13 fun v17 =>
q_makeSW 8 1 99 (.flts .f64) [⟨12, 0, ⟨0, 0, 0, .flt .f64 0⟩, []⟩] true h14 c15 v17 v17 fun v18 h19 c20 =>
q_cpySW 1 h19 c20 v18 a0 fun v21 h22 c23 =>
@Nat.rec (fun _ => Fun 1) (fun _ _ _ => false) (fun _ f27 v24 h25 c26 =>
q_lenW (lenC tys 24 (dec v18)) v18 fun v28 =>
q_cmpW (cmpF2 .lss) 3 (binC Try.prog .lss 3 (.tmp 34) (.tmp 36) (dec v24) (dec v28)) v24 v28 fun v29 =>
q_condW v29 (
q_genW (sliceC tys 24 (dec v18) (some (dec v24)) none none) fun v30 =>
q_genW (sliceC tys 24 (dec v18) none (some (dec v24)) none) fun v31 =>
q_cpySW 1 h25 c26 v30 v31 fun v32 h33 c34 =>
q_addW 3 9223372036854775807 (binC Try.prog .add 3 (.tmp 38) (.tmp 45) (dec v24) (dec v32)) v24 v32 fun v35 =>
f27 v35 h33 c34) (
K v18 h25 c26)) fu v21 h22 c23) fun f16 =>
q_cmpW (cmpF2 .gtr) 7 (binC Try.prog .gtr 63 (.tmp 21) (.const (.int .u64 (.ofNat 0))) (dec v11) (dec ⟨7, 0, r0, []⟩)) v11 ⟨7, 0, r0, []⟩ fun v36 =>
q_share _ (fun (v38 : W) (h39 : HW) (c40 : Nat) =>
q_share _ (fun (v42 : W) (h43 : HW) (c44 : Nat) =>
q_pickW v36 ⟨8, 1, r0, []⟩ v42 fun v45 =>
q_condW v45 (
false) (
f16 h43 c44)) fun f41 =>
q_guardW false v36 (q_cmpW (cmpF2 .gtr) 7 (binC Try.prog .gtr 63 (.tmp 24) (.const (.int .u64 (.ofNat 9223372036854775807))) (dec v38) (dec ⟨7, 9223372036854775807, r0, []⟩)) v38 ⟨7, 9223372036854775807, r0, []⟩ fun v46 =>
f41 v46 h39 c40) (f41 wUnd h39 c40)) fun f37 =>
q_guardW false v36 (f37 v13 h8 c9) (f37 wUnd h8 c9)) fun f3 =>
q_cmpW (cmpF2 .lss) 3 (binC Try.prog .lss 3 (.tmp 9) (.const (.int .i64 (.ofNat 0))) (dec a1) (dec ⟨3, 0, r0, []⟩)) a1 ⟨3, 0, r0, []⟩ fun v47 =>
q_condW v47 (
false) (
f3 h0 c0)
theorem R46_eq (Q : PrimW) (fu : Nat) (call : CallW) : curryA 2 (fnK Q Try.prog tys stl fu call e46) = R46 Q.share Q.genW Q.addW Q.cmpW Q.icvW Q.condW Q.guardW Q.pickW Q.lenW Q.tupW Q.nthW Q.makeSW Q.cpySW fu call := by kernel_rfl
noncomputable def n46 : List W → HW → Nat → KW → Bool := appF 2 (R46 (fun _ x f => f x) genW addW cmpW icvW condW guardW pickW lenW tupW nthW makeSW cpySW 1000000 d2.fn)
theorem n46_ok : FnGood Try.prog tys stl tab 46 n46 := node_ok d2_ok (by kernel_rfl) rfl g46 (R46_eq real _ _)
/- math.trunc -/
noncomputable def R59 (q_share : (α : Type) → α → (α → Bool) → Bool) (q_genW : Option CV → (W → Bool) → Bool) (q_subW : Nat → Nat → Option CV → W → W → (W → Bool) → Bool) (q_bitW : (Nat → Nat → Nat) → Nat → Nat → Option CV → W → W → (W → Bool) → Bool) (q_cmpW : (Nat → Nat → Bool) → Nat → Option CV → W → W → (W → Bool) → Bool) (q_shlW : Nat → Nat → Nat → Option CV → W → W → (W → Bool) → Bool) (q_shrW : Nat → Nat → Option CV → W → W → (W → Bool) → Bool) (q_condW : W → Bool → Bool → Bool) (fu : Nat) (call : CallW) (a0 : W) (h0 : HW) (c0 : Nat) (K : KW) : Bool :=
call 52 [a0] h0 c0 fun v1 h2 c3 =>
q_genW (binC Try.prog .lss 33 (.tmp 6) (.const (.float .f64 4607182418800017408)) (dec v1) (dec ⟨12, 0, ⟨0, 0, 0, .flt .f64 4607182418800017408⟩, []⟩)) fun v4 =>
q_condW v4 (
call 60 [⟨12, 0, ⟨0, 0, 0, .flt .f64 0⟩, []⟩, a0] h2 c3 fun v5 h6 c7 =>
K v5 h6 c7) (
call 57 [a0] h2 c3 fun v8 h9 c10 =>
q_shrW 7 64 (binC Try.prog .shr 82 (.tmp 12) (.const (.int .u64 (.ofNat 52))) (dec v8) (dec ⟨7, 52, r0, []⟩)) v8 ⟨7, 52, r0, []⟩ fun v11 =>
q_bitW Nat.land 7 18446744073709551615 (binC Try.prog .and 63 (.tmp 13) (.const (.int .u64 (.ofNat 2047))) (dec v11) (dec ⟨7, 2047, r0, []⟩)) v11 ⟨7, 2047, r0, []⟩ fun v12 =>
q_subW 7 18446744073709551615 (binC Try.prog .sub 63 (.tmp 14) (.const (.int .u64 (.ofNat 1023))) (dec v12) (dec ⟨7, 1023, r0, []⟩)) v12 ⟨7, 1023, r0, []⟩ fun v13 =>
q_share _ (fun (v14 : W) (h15 : HW) (c16 : Nat) =>
call 56 [v14] h15 c16 fun v18 h19 c20 =>
K v18 h19 c20) fun f17 =>
q_cmpW (cmpF2 .lss) 7 (binC Try.prog .lss 63 (.tmp 16) (.const (.int .u64 (.ofNat 52))) (dec v13) (dec ⟨7, 52, r0, []⟩)) v13 ⟨7, 52, r0, []⟩ fun v21 =>
q_condW v21 (
q_subW 7 18446744073709551615 (binC Try.prog .sub 63 (.const (.int .u64 (.ofNat 52))) (.tmp 19) (dec ⟨7, 52, r0, []⟩) (dec v13)) ⟨7, 52, r0, []⟩ v13 fun v22 =>
q_shlW 7 18446744073709551615 64 (binC Try.prog .shl 82 (.const (.int .u64 (.ofNat 1))) (.tmp 20) (dec ⟨7, 1, r0, []⟩) (dec v22)) ⟨7, 1, r0, []⟩ v22 fun v23 =>
q_subW 7 18446744073709551615 (binC Try.prog .sub 82 (.tmp 21) (.const (.int .u64 (.ofNat 1))) (dec v23) (dec ⟨7, 1, r0, []⟩)) v23 ⟨7, 1, r0, []⟩ fun v24 =>
q_genW (binC Try.prog .andNot 82 (.tmp 18) (.tmp 22) (dec v8) (dec v24)) fun v25 =>
f17 v25 h9 c10) (
f17 v8 h9 c10))
theorem R59_eq (Q : PrimW) (fu : Nat) (call : CallW) : curryA 1 (fnK Q Try.prog tys stl fu call e59) = R59 Q.share Q.genW Q.subW Q.bitW Q.cmpW Q.shlW Q.shrW Q.condW fu call := by kernel_rfl
noncomputable def n59 : List W → HW → Nat → KW → Bool := appF 1 (R59 (fun _ x f => f x) genW subW bitW cmpW shlW shrW condW 1000000 d2.fn)
theorem n59_ok : FnGood Try.prog tys stl tab 59 n59 := node_ok d2_ok (by kernel_rfl) rfl g59 (R59_eq real _ _)
noncomputable def d3 : Disp := (.node 52 n52 (.node 46 n46 (.node 36 n36 (.node 35 n35 (.node 28 n28 .leaf .leaf) .leaf) (.node 44 n44 .leaf .leaf)) (.node 48 n48 (.node 47 n47 .leaf .leaf) (.node 51 n51 .leaf .leaf))) (.node 57 n57 (.node 55 n55 (.node 54 n54 .leaf .leaf) (.node 56 n56 .leaf .leaf)) (.node 59 n59 (.node 58 n58 .leaf .leaf) (.node 60 n60 .leaf .leaf))))
theorem d3_ok : CallSim Try.prog tys stl tab d3.fn := Disp.sim ⟨n52_ok, ⟨n46_ok, ⟨n36_ok, ⟨n35_ok, ⟨n28_ok, True.intro, True.intro⟩, True.intro⟩, ⟨n44_ok, True.intro, True.intro⟩⟩, ⟨n48_ok, ⟨n47_ok, True.intro, True.intro⟩, ⟨n51_ok, True.intro, True.intro⟩⟩⟩, ⟨n57_ok, ⟨n55_ok, ⟨n54_ok, True.intro, True.intro⟩, ⟨n56_ok, True.intro, True.intro⟩⟩, ⟨n59_ok, ⟨n58_ok, True.intro, True.intro⟩, ⟨n60_ok, True.intro, True.intro⟩⟩⟩⟩
/- foghorn/pulse.named$2 -/
noncomputable def R45 (q_share : (α : Type) → α → (α → Bool) → Bool) (q_cmpW : (Nat → Nat → Bool) → Nat → Option CV → W → W → (W → Bool) → Bool) (q_condW : W → Bool → Bool → Bool) (q_guardW : Bool → W → Bool → Bool → Bool) (q_pickW : W → W → W → (W → Bool) → Bool) (q_loadAW : Nat → HW → W → (W → Bool) → Bool) (q_storeAW : Nat → HW → W → W → (HW → Bool) → Bool) (q_allocW : Trie W → Nat → Bool → HW → Nat → KW → Bool) (q_buildSW : Nat → Nat → Kind → Nat → Bool → HW → Nat → Nat → List W → KW → Bool) (q_flatW : W → Bool → Bool) (fu : Nat) (call : CallW) (a0 : W) (h0 : HW) (c0 : Nat) (K : KW) : Bool :=
q_allocW (allocT tys 26) 3 true h0 c0 fun v1 h2 c3 =>
q_cmpW (cmpF2 .lss) 3 (binC Try.prog .lss 3 (.tmp 3) (.const (.int .i64 (.ofNat 1))) (dec a0) (dec ⟨3, 1, r0, []⟩)) a0 ⟨3, 1, r0, []⟩ fun v4 =>
q_share _ (fun (v6 : W) (h7 : HW) (c8 : Nat) =>
q_share _ (fun (v10 : W) (h11 : HW) (c12 : Nat) =>
q_pickW v4 ⟨8, 1, r0, []⟩ v10 fun v13 =>
q_condW v13 (
(fun (v14 : W) =>
q_storeAW 3 h11 v1 v14 fun h15 =>
q_loadAW 3 h15 v1 fun v16 =>
K v16 h15 c12) ⟨15, 0, r0, [⟨3, 0, r0, []⟩, ⟨3, 0, r0, []⟩, ⟨12, 0, ⟨0, 0, 0, .nils⟩, []⟩]⟩) (
q_buildSW 1 99 (.flts .f64) 1 true h11 c12 1 [⟨12, 0, ⟨0, 0, 0, .flt .f64 4607182418800017408⟩, []⟩] fun v17 h18 c19 =>
call 46 [v17, a0] h18 c19 fun v20 h21 c22 =>
q_flatW a0 (
q_flatW v20 (
(fun (v23 : W) =>
q_storeAW 3 h21 v1 v23 fun h24 =>
q_loadAW 3 h24 v1 fun v25 =>
K v25 h24 c22) ⟨15, 0, r0, [a0, ⟨3, 0, r0, []⟩, v20]⟩)))) fun f9 =>
q_guardW false v4 (q_cmpW (cmpF2 .gtr) 3 (binC Try.prog .gtr 3 (.tmp 6) (.const (.int .i64 (.ofNat 4))) (dec v6) (dec ⟨3, 4, r0, []⟩)) v6 ⟨3, 4, r0, []⟩ fun v26 =>
f9 v26 h7 c8) (f9 wUnd h7 c8)) fun f5 =>
q_guardW false v4 (f5 a0 h2 c3) (f5 wUnd h2 c3)
theorem R45_eq (Q : PrimW) (fu : Nat) (call : CallW) : curryA 1 (fnK Q Try.prog tys stl fu call e45) = R45 Q.share Q.cmpW Q.condW Q.guardW Q.pickW Q.loadAW Q.storeAW Q.allocW Q.buildSW Q.flatW fu call := by kernel_rfl
noncomputable def n45 : List W → HW → Nat → KW → Bool := appF 1 (R45 (fun _ x f => f x) cmpW condW guardW pickW loadAW storeAW allocW buildSW flatW 1000000 d3.fn)
theorem n45_ok : FnGood Try.prog tys stl tab 45 n45 := node_ok d3_ok (by kernel_rfl) rfl g45 (R45_eq real _ _)
/- math.Trunc -/
noncomputable def R53 (q_condW : W → Bool → Bool → Bool) (fu : Nat) (call : CallW) (a0 : W) (h0 : HW) (c0 : Nat) (K : KW) : Bool :=
q_condW ⟨8, 1, r0, []⟩ (
call 58 [a0] h0 c0 fun v1 h2 c3 =>
K v1 h2 c3) (
call 59 [a0] h0 c0 fun v4 h5 c6 =>
K v4 h5 c6)
theorem R53_eq (Q : PrimW) (fu : Nat) (call : CallW) : curryA 1 (fnK Q Try.prog tys stl fu call e53) = R53 Q.condW fu call := by kernel_rfl
noncomputable def n53 : List W → HW → Nat → KW → Bool := appF 1 (R53 condW 1000000 d3.fn)
theorem n53_ok : FnGood Try.prog tys stl tab 53 n53 := node_ok d3_ok (by kernel_rfl) rfl g53 (R53_eq real _ _)
noncomputable def d4 : Disp := (.node 52 n52 (.node 45 n45 (.node 36 n36 (.node 35 n35 (.node 28 n28 .leaf .leaf) .leaf) (.node 44 n44 .leaf .leaf)) (.node 48 n48 (.node 47 n47 (.node 46 n46 .leaf .leaf) .leaf) (.node 51 n51 .leaf .leaf))) (.node 57 n57 (.node 55 n55 (.node 54 n54 (.node 53 n53 .leaf .leaf) .leaf) (.node 56 n56 .leaf .leaf)) (.node 59 n59 (.node 58 n58 .leaf .leaf) (.node 60 n60 .leaf .leaf))))
theorem d4_ok : CallSim Try.prog tys stl tab d4.fn := Disp.sim ⟨n52_ok, ⟨n45_ok, ⟨n36_ok, ⟨n35_ok, ⟨n28_ok, True.intro, True.intro⟩, True.intro⟩, ⟨n44_ok, True.intro, True.intro⟩⟩, ⟨n48_ok, ⟨n47_ok, ⟨n46_ok, True.intro, True.intro⟩, True.intro⟩, ⟨n51_ok, True.intro, True.intro⟩⟩⟩, ⟨n57_ok, ⟨n55_ok, ⟨n54_ok, ⟨n53_ok, True.intro, True.intro⟩, True.intro⟩, ⟨n56_ok, True.intro, True.intro⟩⟩, ⟨n59_ok, ⟨n58_ok, True.intro, True.intro⟩, ⟨n60_ok, True.intro, True.intro⟩⟩⟩⟩
/- foghorn/pulse.Named -/
noncomputable def R13 (q_genW : Option CV → (W → Bool) → Bool) (q_notW : Option CV → W → (W → Bool) → Bool) (q_condW : W → Bool → Bool → Bool) (q_fadW : Nat → W → (W → Bool) → Bool) (q_tupW : W → (List W → Bool) → Bool) (q_nthW : Nat → List W → (W → Bool) → Bool) (q_onF : W → (FuncId → List W → Bool) → Bool) (q_killVW : W → HW → (HW → Bool) → Bool) (q_loadSW : HW → W → (W → Bool) → Bool) (q_loadAW : Nat → HW → W → (W → Bool) → Bool) (q_storeAW : Nat → HW → W → W → (HW → Bool) → Bool) (q_allocW : Trie W → Nat → Bool → HW → Nat → KW → Bool) (fu : Nat) (call : CallW) (a0 : W) (a1 : W) (h0 : HW) (c0 : Nat) (K : KW) : Bool :=
q_allocW (allocT tys 26) 3 true h0 c0 fun v1 h2 c3 =>
call 36 [] h2 c3 fun v4 h5 c6 =>
q_genW (lookupC Try.prog tys ⟨[], 0, decH h5, 0⟩ 67 (dec v4) (dec a0) true) fun v7 =>
q_tupW v7 fun l8 => q_nthW 0 l8 fun v9 =>
q_tupW v7 fun l10 => q_nthW 1 l10 fun v11 =>
q_notW (two Try.prog (dec v11) (Op.unary .not)) v11 fun v12 =>
q_condW v12 (
(fun (v13 : W) =>
q_storeAW 3 h5 v1 v13 fun h14 =>
q_loadAW 3 h14 v1 fun v15 =>
q_killVW wUnd h14 fun h16 =>
K ⟨13, 0, r0, [v15, ⟨3, 6, r0, []⟩]⟩ h16 c6) ⟨15, 0, r0, [⟨3, 0, r0, []⟩, ⟨3, 0, r0, []⟩, ⟨12, 0, ⟨0, 0, 0, .nils⟩, []⟩]⟩) (
q_onF v9 fun g17 l18 => call g17 (appL [a1] l18) h5 c6 fun v19 h20 c21 =>
q_allocW (allocT tys 26) 3 true h20 c21 fun v22 h23 c24 =>
q_storeAW 3 h23 v22 v19 fun h25 =>
q_fadW 2 v22 fun v26 =>
q_loadSW h25 v26 fun v27 =>
q_genW (binC Try.prog .eql 24 (.tmp 22) (.const (.slice none 0 0)) (dec v27) (dec ⟨12, 0, ⟨0, 0, 0, .nils⟩, []⟩)) fun v28 =>
q_condW v28 (
(fun (v29 : W) =>
q_storeAW 3 h25 v1 v29 fun h30 =>
q_loadAW 3 h30 v1 fun v31 =>
q_killVW v22 h30 fun h32 =>
K ⟨13, 0, r0, [v31, ⟨3, 1, r0, []⟩]⟩ h32 c24) ⟨15, 0, r0, [⟨3, 0, r0, []⟩, ⟨3, 0, r0, []⟩, ⟨12, 0, ⟨0, 0, 0, .nils⟩, []⟩]⟩) (
q_loadAW 3 h25 v22 fun v33 =>
q_storeAW 3 h25 v1 v33 fun h34 =>
q_loadAW 3 h34 v1 fun v35 =>
q_killVW v22 h34 fun h36 =>
K ⟨13, 0, r0, [v35, ⟨3, 0, r0, []⟩]⟩ h36 c24))
theorem R13_eq (Q : PrimW) (fu : Nat) (call : CallW) : curryA 2 (fnK Q Try.prog tys stl fu call e13) = R13 Q.genW Q.notW Q.condW Q.fadW Q.tupW Q.nthW Q.onF Q.killVW Q.loadSW Q.loadAW Q.storeAW Q.allocW fu call := by kernel_rfl
noncomputable def n13 : List W → HW → Nat → KW → Bool := appF 2 (R13 genW notW condW fadW tupW nthW onF killVW loadSW loadAW storeAW allocW 1000000 d4.fn)
theorem n13_ok : FnGood Try.prog tys stl tab 13 n13 := node_ok d4_ok (by kernel_rfl) rfl g13 (R13_eq real _ _)
/- foghorn/bounds.Fine -/
noncomputable def R50 (q_share : (α : Type) → α → (α → Bool) → Bool) (q_genW : Option CV → (W → Bool) → Bool) (q_guardW : Bool → W → Bool → Bool → Bool) (q_pickW : W → W → W → (W → Bool) → Bool) (fu : Nat) (call : CallW) (a0 : W) (a1 : W) (h0 : HW) (c0 : Nat) (K : KW) : Bool :=
call 52 [a0] h0 c0 fun v1 h2 c3 =>
q_genW (binC Try.prog .leq 33 (.tmp 6) (.tmp 7) (dec v1) (dec a1)) fun v4 =>
q_share _ (fun (v6 : W) (h7 : HW) (c8 : Nat) =>
q_share _ (fun (v10 : W) (h11 : HW) (c12 : Nat) =>
q_share _ (fun (v14 : W) (h15 : HW) (c16 : Nat) =>
q_share _ (fun (v18 : W) (h19 : HW) (c20 : Nat) =>
q_share _ (fun (v22 : W) (h23 : HW) (c24 : Nat) =>
q_share _ (fun (v26 : W) (h27 : HW) (c28 : Nat) =>
q_pickW v4 v26 ⟨8, 0, r0, []⟩ fun v29 =>
K v29 h27 c28) fun f25 =>
q_guardW true v4 (q_genW (binC Try.prog .eql 33 (.tmp 11) (.tmp 14) (dec v10) (dec v22)) fun v30 =>
f25 v30 h23 c24) (f25 wUnd h23 c24)) fun f21 =>
q_guardW true v4 (call 53 [v18] h19 c20 fun v31 h32 c33 =>
f21 v31 h32 c33) (f21 wUnd h19 c20)) fun f17 =>
q_guardW true v4 (q_genW (binC Try.prog .mul 33 (.tmp 12) (.const (.float .f64 4634204016564240384)) (dec v14) (dec ⟨12, 0, ⟨0, 0, 0, .flt .f64 4634204016564240384⟩, []⟩)) fun v34 =>
f17 v34 h15 c16) (f17 wUnd h15 c16)) fun f13 =>
q_guardW true v4 (f13 a0 h11 c12) (f13 wUnd h11 c12)) fun f9 =>
q_guardW true v4 (q_genW (binC Try.prog .mul 33 (.tmp 10) (.const (.float .f64 4634204016564240384)) (dec v6) (dec ⟨12, 0, ⟨0, 0, 0, .flt .f64 4634204016564240384⟩, []⟩)) fun v35 =>
f9 v35 h7 c8) (f9 wUnd h7 c8)) fun f5 =>
q_guardW true v4 (f5 a0 h2 c3) (f5 wUnd h2 c3)
theorem R50_eq (Q : PrimW) (fu : Nat) (call : CallW) : curryA 2 (fnK Q Try.prog tys stl fu call e50) = R50 Q.share Q.genW Q.guardW Q.pickW fu call := by kernel_rfl
noncomputable def n50 : List W → HW → Nat → KW → Bool := appF 2 (R50 (fun _ x f => f x) genW guardW pickW 1000000 d4.fn)
theorem n50_ok : FnGood Try.prog tys stl tab 50 n50 := node_ok d4_ok (by kernel_rfl) rfl g50 (R50_eq real _ _)
noncomputable def d5 : Disp := (.node 51 n51 (.node 45 n45 (.node 35 n35 (.node 28 n28 (.node 13 n13 .leaf .leaf) .leaf) (.node 44 n44 (.node 36 n36 .leaf .leaf) .leaf)) (.node 48 n48 (.node 47 n47 (.node 46 n46 .leaf .leaf) .leaf) (.node 50 n50 .leaf .leaf))) (.node 56 n56 (.node 54 n54 (.node 53 n53 (.node 52 n52 .leaf .leaf) .leaf) (.node 55 n55 .leaf .leaf)) (.node 59 n59 (.node 58 n58 (.node 57 n57 .leaf .leaf) .leaf) (.node 60 n60 .leaf .leaf))))
theorem d5_ok : CallSim Try.prog tys stl tab d5.fn := Disp.sim ⟨n51_ok, ⟨n45_ok, ⟨n35_ok, ⟨n28_ok, ⟨n13_ok, True.intro, True.intro⟩, True.intro⟩, ⟨n44_ok, ⟨n36_ok, True.intro, True.intro⟩, True.intro⟩⟩, ⟨n48_ok, ⟨n47_ok, ⟨n46_ok, True.intro, True.intro⟩, True.intro⟩, ⟨n50_ok, True.intro, True.intro⟩⟩⟩, ⟨n56_ok, ⟨n54_ok, ⟨n53_ok, ⟨n52_ok, True.intro, True.intro⟩, True.intro⟩, ⟨n55_ok, True.intro, True.intro⟩⟩, ⟨n59_ok, ⟨n58_ok, ⟨n57_ok, True.intro, True.intro⟩, True.intro⟩, ⟨n60_ok, True.intro, True.intro⟩⟩⟩⟩
/- foghorn/bounds.Plain -/
noncomputable def R38 (q_share : (α : Type) → α → (α → Bool) → Bool) (q_genW : Option CV → (W → Bool) → Bool) (q_addW : Nat → Nat → Option CV → W → W → (W → Bool) → Bool) (q_cmpW : (Nat → Nat → Bool) → Nat → Option CV → W → W → (W → Bool) → Bool) (q_notW : Option CV → W → (W → Bool) → Bool) (q_condW : W → Bool → Bool → Bool) (q_guardW : Bool → W → Bool → Bool → Bool) (q_pickW : W → W → W → (W → Bool) → Bool) (q_idxSW : Nat → W → W → (W → Bool) → Bool) (q_lenW : Option CV → W → (W → Bool) → Bool) (q_loadSW : HW → W → (W → Bool) → Bool) (fu : Nat) (call : CallW) (a0 : W) (h0 : HW) (c0 : Nat) (K : KW) : Bool :=
q_lenW (lenC tys 34 (dec a0)) a0 fun v1 =>
@Nat.rec (fun _ => Fun 1) (fun _ _ _ => false) (fun _ f5 v2 h3 c4 =>
q_cmpW (cmpF2 .lss) 3 (binC Try.prog .lss 3 (.tmp 7) (.tmp 6) (dec v2) (dec v1)) v2 v1 fun v6 =>
q_condW v6 (
q_idxSW 1 a0 v2 fun v7 =>
q_loadSW h3 v7 fun v8 =>
q_genW (two Try.prog (dec v8) fun v => Builtin.real_ #[48] 33 #[v]) fun v9 =>
call 50 [v9, ⟨12, 0, ⟨0, 0, 0, .flt .f64 4638707616191610880⟩, []⟩] h3 c4 fun v10 h11 c12 =>
q_notW (two Try.prog (dec v10) (Op.unary .not)) v10 fun v13 =>
q_share _ (fun (v15 : W) (h16 : HW) (c17 : Nat) =>
q_share _ (fun (v19 : W) (h20 : HW) (c21 : Nat) =>
q_share _ (fun (v23 : W) (h24 : HW) (c25 : Nat) =>
q_share _ (fun (v27 : W) (h28 : HW) (c29 : Nat) =>
q_pickW v13 ⟨8, 1, r0, []⟩ v27 fun v30 =>
q_condW v30 (
K ⟨8, 0, r0, []⟩ h28 c29) (
q_addW 3 9223372036854775807 (binC Try.prog .add 3 (.tmp 7) (.const (.int .i64 (.ofNat 1))) (dec v2) (dec ⟨3, 1, r0, []⟩)) v2 ⟨3, 1, r0, []⟩ fun v31 =>
f5 v31 h28 c29)) fun f26 =>
q_guardW false v13 (q_notW (two Try.prog (dec v23) (Op.unary .not)) v23 fun v32 =>
f26 v32 h24 c25) (f26 wUnd h24 c25)) fun f22 =>
q_guardW false v13 (call 50 [v19, ⟨12, 0, ⟨0, 0, 0, .flt .f64 4638707616191610880⟩, []⟩] h20 c21 fun v33 h34 c35 =>
f22 v33 h34 c35) (f22 wUnd h20 c21)) fun f18 =>
q_guardW false v13 (q_genW (two Try.prog (dec v15) fun v => Builtin.imag_ #[48] 33 #[v]) fun v36 =>
f18 v36 h16 c17) (f18 wUnd h16 c17)) fun f14 =>
q_guardW false v13 (f14 v8 h11 c12) (f14 wUnd h11 c12)) (
K ⟨8, 1, r0, []⟩ h3 c4)) fu ⟨3, 0, r0, []⟩ h0 c0
theorem R38_eq (Q : PrimW) (fu : Nat) (call : CallW) : curryA 1 (fnK Q Try.prog tys stl fu call e38) = R38 Q.share Q.genW Q.addW Q.cmpW Q.notW Q.condW Q.guardW Q.pickW Q.idxSW Q.lenW Q.loadSW fu call := by kernel_rfl
noncomputable def n38 : List W → HW → Nat → KW → Bool := appF 1 (R38 (fun _ x f => f x) genW addW cmpW notW condW guardW pickW idxSW lenW loadSW 1000000 d5.fn)
theorem n38_ok : FnGood Try.prog tys stl tab 38 n38 := node_ok d5_ok (by kernel_rfl) rfl g38 (R38_eq real _ _)
/- foghorn/bounds.Taps -/
noncomputable def R49 (q_share : (α : Type) → α → (α → Bool) → Bool) (q_genW : Option CV → (W → Bool) → Bool) (q_addW : Nat → Nat → Option CV → W → W → (W → Bool) → Bool) (q_cmpW : (Nat → Nat → Bool) → Nat → Option CV → W → W → (W → Bool) → Bool) (q_notW : Option CV → W → (W → Bool) → Bool) (q_condW : W → Bool → Bool → Bool) (q_guardW : Bool → W → Bool → Bool → Bool) (q_pickW : W → W → W → (W → Bool) → Bool) (q_idxSW : Nat → W → W → (W → Bool) → Bool) (q_lenW : Option CV → W → (W → Bool) → Bool) (q_loadSW : HW → W → (W → Bool) → Bool) (fu : Nat) (call : CallW) (a0 : W) (h0 : HW) (c0 : Nat) (K : KW) : Bool :=
q_lenW (lenC tys 34 (dec a0)) a0 fun v1 =>
q_cmpW (cmpF2 .lss) 3 (binC Try.prog .lss 3 (.tmp 7) (.const (.int .i64 (.ofNat 1))) (dec v1) (dec ⟨3, 1, r0, []⟩)) v1 ⟨3, 1, r0, []⟩ fun v2 =>
q_share _ (fun (v4 : W) (h5 : HW) (c6 : Nat) =>
q_share _ (fun (v8 : W) (h9 : HW) (c10 : Nat) =>
q_share _ (fun (v12 : W) (h13 : HW) (c14 : Nat) =>
q_pickW v2 ⟨8, 1, r0, []⟩ v12 fun v15 =>
q_condW v15 (
K ⟨8, 0, r0, []⟩ h13 c14) (
q_lenW (lenC tys 34 (dec a0)) a0 fun v16 =>
@Nat.rec (fun _ => Fun 2) (fun _ _ _ _ => false) (fun _ f21 v17 v18 h19 c20 =>
q_cmpW (cmpF2 .lss) 3 (binC Try.prog .lss 3 (.tmp 16) (.tmp 15) (dec v18) (dec v16)) v18 v16 fun v22 =>
q_condW v22 (
q_idxSW 1 a0 v18 fun v23 =>
q_loadSW h19 v23 fun v24 =>
q_genW (two Try.prog (dec v24) fun v => Builtin.real_ #[48] 33 #[v]) fun v25 =>
call 50 [v25, ⟨12, 0, ⟨0, 0, 0, .flt .f64 4607182418800017408⟩, []⟩] h19 c20 fun v26 h27 c28 =>
q_notW (two Try.prog (dec v26) (Op.unary .not)) v26 fun v29 =>
q_share _ (fun (v31 : W) (h32 : HW) (c33 : Nat) =>
q_share _ (fun (v35 : W) (h36 : HW) (c37 : Nat) =>
q_share _ (fun (v39 : W) (h40 : HW) (c41 : Nat) =>
q_share _ (fun (v43 : W) (h44 : HW) (c45 : Nat) =>
q_pickW v29 ⟨8, 1, r0, []⟩ v43 fun v46 =>
q_condW v46 (
K ⟨8, 0, r0, []⟩ h44 c45) (
q_genW (two Try.prog (dec v24) fun v => Builtin.real_ #[48] 33 #[v]) fun v47 =>
call 52 [v47] h44 c45 fun v48 h49 c50 =>
q_genW (two Try.prog (dec v24) fun v => Builtin.imag_ #[48] 33 #[v]) fun v51 =>
call 52 [v51] h49 c50 fun v52 h53 c54 =>
q_genW (binC Try.prog .add 33 (.tmp 33) (.tmp 36) (dec v48) (dec v52)) fun v55 =>
q_genW (binC Try.prog .add 33 (.tmp 30) (.tmp 37) (dec v17) (dec v55)) fun v56 =>
q_addW 3 9223372036854775807 (binC Try.prog .add 3 (.tmp 16) (.const (.int .i64 (.ofNat 1))) (dec v18) (dec ⟨3, 1, r0, []⟩)) v18 ⟨3, 1, r0, []⟩ fun v57 =>
f21 v56 v57 h53 c54)) fun f42 =>
q_guardW false v29 (q_notW (two Try.prog (dec v39) (Op.unary .not)) v39 fun v58 =>
f42 v58 h40 c41) (f42 wUnd h40 c41)) fun f38 =>
q_guardW false v29 (call 50 [v35, ⟨12, 0, ⟨0, 0, 0, .flt .f64 4607182418800017408⟩, []⟩] h36 c37 fun v59 h60 c61 =>
f38 v59 h60 c61) (f38 wUnd h36 c37)) fun f34 =>
q_guardW false v29 (q_genW (two Try.prog (dec v31) fun v => Builtin.imag_ #[48] 33 #[v]) fun v62 =>
f34 v62 h32 c33) (f34 wUnd h32 c33)) fun f30 =>
q_guardW false v29 (f30 v24 h27 c28) (f30 wUnd h27 c28)) (
q_genW (binC Try.prog .leq 33 (.tmp 40) (.const (.float .f64 4616189618054758400)) (dec v17) (dec ⟨12, 0, ⟨0, 0, 0, .flt .f64 4616189618054758400⟩, []⟩)) fun v63 =>
K v63 h19 c20)) fu ⟨12, 0, ⟨0, 0, 0, .flt .f64 0⟩, []⟩ ⟨3, 0, r0, []⟩ h13 c14)) fun f11 =>
q_guardW false v2 (q_cmpW (cmpF2 .gtr) 3 (binC Try.prog .gtr 3 (.tmp 11) (.const (.int .i64 (.ofNat 64))) (dec v8) (dec ⟨3, 64, r0, []⟩)) v8 ⟨3, 64, r0, []⟩ fun v64 =>
f11 v64 h9 c10) (f11 wUnd h9 c10)) fun f7 =>
q_guardW false v2 (q_lenW (lenC tys 34 (dec v4)) v4 fun v65 =>
f7 v65 h5 c6) (f7 wUnd h5 c6)) fun f3 =>
q_guardW false v2 (f3 a0 h0 c0) (f3 wUnd h0 c0)
theorem R49_eq (Q : PrimW) (fu : Nat) (call : CallW) : curryA 1 (fnK Q Try.prog tys stl fu call e49) = R49 Q.share Q.genW Q.addW Q.cmpW Q.notW Q.condW Q.guardW Q.pickW Q.idxSW Q.lenW Q.loadSW fu call := by kernel_rfl
noncomputable def n49 : List W → HW → Nat → KW → Bool := appF 1 (R49 (fun _ x f => f x) genW addW cmpW notW condW guardW pickW idxSW lenW loadSW 1000000 d5.fn)
theorem n49_ok : FnGood Try.prog tys stl tab 49 n49 := node_ok d5_ok (by kernel_rfl) rfl g49 (R49_eq real _ _)
noncomputable def d6 : Disp := (.node 50 n50 (.node 44 n44 (.node 35 n35 (.node 28 n28 (.node 13 n13 .leaf .leaf) .leaf) (.node 38 n38 (.node 36 n36 .leaf .leaf) .leaf)) (.node 47 n47 (.node 46 n46 (.node 45 n45 .leaf .leaf) .leaf) (.node 49 n49 (.node 48 n48 .leaf .leaf) .leaf))) (.node 56 n56 (.node 53 n53 (.node 52 n52 (.node 51 n51 .leaf .leaf) .leaf) (.node 55 n55 (.node 54 n54 .leaf .leaf) .leaf)) (.node 59 n59 (.node 58 n58 (.node 57 n57 .leaf .leaf) .leaf) (.node 60 n60 .leaf .leaf))))
theorem d6_ok : CallSim Try.prog tys stl tab d6.fn := Disp.sim ⟨n50_ok, ⟨n44_ok, ⟨n35_ok, ⟨n28_ok, ⟨n13_ok, True.intro, True.intro⟩, True.intro⟩, ⟨n38_ok, ⟨n36_ok, True.intro, True.intro⟩, True.intro⟩⟩, ⟨n47_ok, ⟨n46_ok, ⟨n45_ok, True.intro, True.intro⟩, True.intro⟩, ⟨n49_ok, ⟨n48_ok, True.intro, True.intro⟩, True.intro⟩⟩⟩, ⟨n56_ok, ⟨n53_ok, ⟨n52_ok, ⟨n51_ok, True.intro, True.intro⟩, True.intro⟩, ⟨n55_ok, ⟨n54_ok, True.intro, True.intro⟩, True.intro⟩⟩, ⟨n59_ok, ⟨n58_ok, ⟨n57_ok, True.intro, True.intro⟩, True.intro⟩, ⟨n60_ok, True.intro, True.intro⟩⟩⟩⟩
/- foghorn/bounds.Reals -/
noncomputable def R37 (q_genW : Option CV → (W → Bool) → Bool) (q_addW : Nat → Nat → Option CV → W → W → (W → Bool) → Bool) (q_cmpW : (Nat → Nat → Bool) → Nat → Option CV → W → W → (W → Bool) → Bool) (q_condW : W → Bool → Bool → Bool) (q_idxSW : Nat → W → W → (W → Bool) → Bool) (q_lenW : Option CV → W → (W → Bool) → Bool) (q_loadSW : HW → W → (W → Bool) → Bool) (q_storeSW : HW → W → W → (HW → Bool) → Bool) (q_makeSW : Nat → Nat → Nat → Kind → List W → Bool → HW → Nat → W → W → KW → Bool) (fu : Nat) (call : CallW) (a0 : W) (h0 : HW) (c0 : Nat) (K : KW) : Bool :=
q_lenW (lenC tys 24 (dec a0)) a0 fun v1 =>
q_cmpW (cmpF2 .gtr) 3 (binC Try.prog .gtr 3 (.tmp 7) (.const (.int .i64 (.ofNat 64))) (dec v1) (dec ⟨3, 64, r0, []⟩)) v1 ⟨3, 64, r0, []⟩ fun v2 =>
q_condW v2 (
K ⟨8, 0, r0, []⟩ h0 c0) (
q_lenW (lenC tys 24 (dec a0)) a0 fun v3 =>
q_makeSW 16 1 99 (.cpxs .f64) [⟨12, 0, ⟨0, 0, 0, .cpx .f64 0 0⟩, []⟩] true h0 c0 v3 v3 fun v4 h5 c6 =>
q_lenW (lenC tys 24 (dec a0)) a0 fun v7 =>
@Nat.rec (fun _ => Fun 1) (fun _ _ _ => false) (fun _ f11 v8 h9 c10 =>
q_cmpW (cmpF2 .lss) 3 (binC Try.prog .lss 3 (.tmp 14) (.tmp 13) (dec v8) (dec v7)) v8 v7 fun v12 =>
q_condW v12 (
q_idxSW 1 a0 v8 fun v13 =>
q_loadSW h9 v13 fun v14 =>
q_genW (two2 Try.prog (dec v14) (dec ⟨12, 0, ⟨0, 0, 0, .flt .f64 0⟩, []⟩) fun v u => Builtin.complex_ #[33, 33] 48 #[v, u]) fun v15 =>
q_idxSW 1 v4 v8 fun v16 =>
q_storeSW h9 v16 v15 fun h17 =>
q_addW 3 9223372036854775807 (binC Try.prog .add 3 (.tmp 14) (.const (.int .i64 (.ofNat 1))) (dec v8) (dec ⟨3, 1, r0, []⟩)) v8 ⟨3, 1, r0, []⟩ fun v18 =>
f11 v18 h17 c10) (
call 49 [v4] h9 c10 fun v19 h20 c21 =>
K v19 h20 c21)) fu ⟨3, 0, r0, []⟩ h5 c6)
theorem R37_eq (Q : PrimW) (fu : Nat) (call : CallW) : curryA 1 (fnK Q Try.prog tys stl fu call e37) = R37 Q.genW Q.addW Q.cmpW Q.condW Q.idxSW Q.lenW Q.loadSW Q.storeSW Q.makeSW fu call := by kernel_rfl
noncomputable def n37 : List W → HW → Nat → KW → Bool := appF 1 (R37 genW addW cmpW condW idxSW lenW loadSW storeSW makeSW 1000000 d6.fn)
theorem n37_ok : FnGood Try.prog tys stl tab 37 n37 := node_ok d6_ok (by kernel_rfl) rfl g37 (R37_eq real _ _)
noncomputable def d7 : Disp := (.node 49 n49 (.node 38 n38 (.node 35 n35 (.node 28 n28 (.node 13 n13 .leaf .leaf) .leaf) (.node 37 n37 (.node 36 n36 .leaf .leaf) .leaf)) (.node 46 n46 (.node 45 n45 (.node 44 n44 .leaf .leaf) .leaf) (.node 48 n48 (.node 47 n47 .leaf .leaf) .leaf))) (.node 55 n55 (.node 52 n52 (.node 51 n51 (.node 50 n50 .leaf .leaf) .leaf) (.node 54 n54 (.node 53 n53 .leaf .leaf) .leaf)) (.node 58 n58 (.node 57 n57 (.node 56 n56 .leaf .leaf) .leaf) (.node 60 n60 (.node 59 n59 .leaf .leaf) .leaf))))
theorem d7_ok : CallSim Try.prog tys stl tab d7.fn := Disp.sim ⟨n49_ok, ⟨n38_ok, ⟨n35_ok, ⟨n28_ok, ⟨n13_ok, True.intro, True.intro⟩, True.intro⟩, ⟨n37_ok, ⟨n36_ok, True.intro, True.intro⟩, True.intro⟩⟩, ⟨n46_ok, ⟨n45_ok, ⟨n44_ok, True.intro, True.intro⟩, True.intro⟩, ⟨n48_ok, ⟨n47_ok, True.intro, True.intro⟩, True.intro⟩⟩⟩, ⟨n55_ok, ⟨n52_ok, ⟨n51_ok, ⟨n50_ok, True.intro, True.intro⟩, True.intro⟩, ⟨n54_ok, ⟨n53_ok, True.intro, True.intro⟩, True.intro⟩⟩, ⟨n58_ok, ⟨n57_ok, ⟨n56_ok, True.intro, True.intro⟩, True.intro⟩, ⟨n60_ok, ⟨n59_ok, True.intro, True.intro⟩, True.intro⟩⟩⟩⟩
/- foghorn/pulse.Check -/
noncomputable def R14 (q_share : (α : Type) → α → (α → Bool) → Bool) (q_genW : Option CV → (W → Bool) → Bool) (q_addW : Nat → Nat → Option CV → W → W → (W → Bool) → Bool) (q_subW : Nat → Nat → Option CV → W → W → (W → Bool) → Bool) (q_remW : Nat → Nat → Option CV → W → W → (W → Bool) → Bool) (q_cmpW : (Nat → Nat → Bool) → Nat → Option CV → W → W → (W → Bool) → Bool) (q_notW : Option CV → W → (W → Bool) → Bool) (q_condW : W → Bool → Bool → Bool) (q_guardW : Bool → W → Bool → Bool → Bool) (q_pickW : W → W → W → (W → Bool) → Bool) (q_fadW : Nat → W → (W → Bool) → Bool) (q_idxSW : Nat → W → W → (W → Bool) → Bool) (q_lenW : Option CV → W → (W → Bool) → Bool) (q_killVW : W → HW → (HW → Bool) → Bool) (q_loadSW : HW → W → (W → Bool) → Bool) (q_boxW : HW → Nat → W → KW → Bool) (fu : Nat) (call : CallW) (a0 : W) (h0 : HW) (c0 : Nat) (K : KW) : Bool :=
q_boxW h0 c0 a0 fun v1 h2 c3 =>
q_fadW 0 v1 fun v4 =>
q_loadSW h2 v4 fun v5 =>
q_cmpW (cmpF2 .lss) 3 (binC Try.prog .lss 3 (.tmp 6) (.const (.int .i64 (.ofNat 1))) (dec v5) (dec ⟨3, 1, r0, []⟩)) v5 ⟨3, 1, r0, []⟩ fun v6 =>
q_share _ (fun (v8 : W) (h9 : HW) (c10 : Nat) =>
q_share _ (fun (v12 : W) (h13 : HW) (c14 : Nat) =>
q_share _ (fun (v16 : W) (h17 : HW) (c18 : Nat) =>
q_pickW v6 ⟨8, 1, r0, []⟩ v16 fun v19 =>
q_share _ (fun (v21 : W) (h22 : HW) (c23 : Nat) =>
q_share _ (fun (v25 : W) (h26 : HW) (c27 : Nat) =>
q_share _ (fun (v29 : W) (h30 : HW) (c31 : Nat) =>
q_pickW v19 ⟨8, 1, r0, []⟩ v29 fun v32 =>
q_share _ (fun (v34 : W) (h35 : HW) (c36 : Nat) =>
q_share _ (fun (v38 : W) (h39 : HW) (c40 : Nat) =>
q_share _ (fun (v42 : W) (h43 : HW) (c44 : Nat) =>
q_share _ (fun (v46 : W) (h47 : HW) (c48 : Nat) =>
q_share _ (fun (v50 : W) (h51 : HW) (c52 : Nat) =>
q_share _ (fun (v54 : W) (h55 : HW) (c56 : Nat) =>
q_pickW v32 ⟨8, 1, r0, []⟩ v54 fun v57 =>
q_condW v57 (
q_killVW v1 h55 fun h58 =>
K ⟨3, 1, r0, []⟩ h58 c56) (
q_fadW 2 v1 fun v59 =>
q_loadSW h55 v59 fun v60 =>
call 37 [v60] h55 c56 fun v61 h62 c63 =>
q_notW (two Try.prog (dec v61) (Op.unary .not)) v61 fun v64 =>
q_condW v64 (
q_killVW v1 h62 fun h65 =>
K ⟨3, 8, r0, []⟩ h65 c63) (
q_fadW 2 v1 fun v66 =>
q_loadSW h62 v66 fun v67 =>
q_lenW (lenC tys 24 (dec v67)) v67 fun v68 =>
@Nat.rec (fun _ => Fun 1) (fun _ _ _ => false) (fun _ f72 v69 h70 c71 =>
q_cmpW (cmpF2 .lss) 3 (binC Try.prog .lss 3 (.tmp 33) (.tmp 32) (dec v69) (dec v68)) v69 v68 fun v73 =>
q_condW v73 (
q_idxSW 1 v67 v69 fun v74 =>
q_loadSW h70 v74 fun v75 =>
q_fadW 1 v1 fun v76 =>
q_loadSW h70 v76 fun v77 =>
q_cmpW (cmpF2 .eql) 3 (binC Try.prog .eql 3 (.tmp 38) (.tmp 40) (dec v69) (dec v77)) v69 v77 fun v78 =>
q_share _ (fun (v80 : W) (h81 : HW) (c82 : Nat) =>
q_share _ (fun (v84 : W) (h85 : HW) (c86 : Nat) =>
q_pickW v78 v84 ⟨8, 0, r0, []⟩ fun v87 =>
q_share _ (fun (v89 : W) (h90 : HW) (c91 : Nat) =>
q_share _ (fun (v93 : W) (h94 : HW) (c95 : Nat) =>
q_share _ (fun (v97 : W) (h98 : HW) (c99 : Nat) =>
q_share _ (fun (v101 : W) (h102 : HW) (c103 : Nat) =>
q_share _ (fun (v105 : W) (h106 : HW) (c107 : Nat) =>
q_share _ (fun (v109 : W) (h110 : HW) (c111 : Nat) =>
q_share _ (fun (v113 : W) (h114 : HW) (c115 : Nat) =>
q_share _ (fun (v117 : W) (h118 : HW) (c119 : Nat) =>
q_share _ (fun (v121 : W) (h122 : HW) (c123 : Nat) =>
q_share _ (fun (v125 : W) (h126 : HW) (c127 : Nat) =>
q_share _ (fun (v129 : W) (h130 : HW) (c131 : Nat) =>
q_share _ (fun (v133 : W) (h134 : HW) (c135 : Nat) =>
q_share _ (fun (v137 : W) (h138 : HW) (c139 : Nat) =>
q_share _ (fun (v141 : W) (h142 : HW) (c143 : Nat) =>
q_share _ (fun (v145 : W) (h146 : HW) (c147 : Nat) =>
q_share _ (fun (v149 : W) (h150 : HW) (c151 : Nat) =>
q_share _ (fun (v153 : W) (h154 : HW) (c155 : Nat) =>
q_share _ (fun (v157 : W) (h158 : HW) (c159 : Nat) =>
q_pickW v87 ⟨8, 1, r0, []⟩ v157 fun v160 =>
q_condW v160 (
q_killVW v1 h158 fun h161 =>
K ⟨3, 8, r0, []⟩ h161 c159) (
q_addW 3 9223372036854775807 (binC Try.prog .add 3 (.tmp 33) (.const (.int .i64 (.ofNat 1))) (dec v69) (dec ⟨3, 1, r0, []⟩)) v69 ⟨3, 1, r0, []⟩ fun v162 =>
f72 v162 h158 c159)) fun f156 =>
q_guardW false v87 (q_pickW v145 v153 ⟨8, 0, r0, []⟩ fun v163 =>
f156 v163 h154 c155) (f156 wUnd h154 c155)) fun f152 =>
q_guardW true v145 (q_genW (binC Try.prog .neq 33 (.tmp 62) (.const (.float .f64 0)) (dec v149) (dec ⟨12, 0, ⟨0, 0, 0, .flt .f64 0⟩, []⟩)) fun v164 =>
f152 v164 h150 c151) (f152 wUnd h150 c151)) fun f148 =>
q_guardW true v145 (f148 v75 h146 c147) (f148 wUnd h146 c147)) fun f144 =>
q_guardW false v87 (f144 v141 h142 c143) (f144 wUnd h142 c143)) fun f140 =>
q_guardW false v87 (q_pickW v105 v137 ⟨8, 0, r0, []⟩ fun v165 =>
f140 v165 h138 c139) (f140 wUnd h138 c139)) fun f136 =>
q_guardW true v105 (q_cmpW (cmpF2 .eql) 3 (binC Try.prog .eql 3 (.tmp 58) (.const (.int .i64 (.ofNat 0))) (dec v133) (dec ⟨3, 0, r0, []⟩)) v133 ⟨3, 0, r0, []⟩ fun v166 =>
f136 v166 h134 c135) (f136 wUnd h134 c135)) fun f132 =>
q_guardW true v105 (q_remW 3 9223372036854775807 (binC Try.prog .rem 3 (.tmp 55) (.tmp 57) (dec v121) (dec v129)) v121 v129 fun v167 =>
f132 v167 h130 c131) (f132 wUnd h130 c131)) fun f128 =>
q_guardW true v105 (q_loadSW h126 v125 fun v168 =>
f128 v168 h126 c127) (f128 wUnd h126 c127)) fun f124 =>
q_guardW true v105 (q_fadW 0 v1 fun v169 =>
f124 v169 h122 c123) (f124 wUnd h122 c123)) fun f120 =>
q_guardW true v105 (q_subW 3 9223372036854775807 (binC Try.prog .sub 3 (.tmp 52) (.tmp 54) (dec v109) (dec v117)) v109 v117 fun v170 =>
f120 v170 h118 c119) (f120 wUnd h118 c119)) fun f116 =>
q_guardW true v105 (q_loadSW h114 v113 fun v171 =>
f116 v171 h114 c115) (f116 wUnd h114 c115)) fun f112 =>
q_guardW true v105 (q_fadW 1 v1 fun v172 =>
f112 v172 h110 c111) (f112 wUnd h110 c111)) fun f108 =>
q_guardW true v105 (f108 v69 h106 c107) (f108 wUnd h106 c107)) fun f104 =>
q_guardW false v87 (f104 v101 h102 c103) (f104 wUnd h102 c103)) fun f100 =>
q_guardW false v87 (q_cmpW (cmpF2 .neq) 3 (binC Try.prog .neq 3 (.tmp 47) (.tmp 49) (dec v89) (dec v97)) v89 v97 fun v173 =>
f100 v173 h98 c99) (f100 wUnd h98 c99)) fun f96 =>
q_guardW false v87 (q_loadSW h94 v93 fun v174 =>
f96 v174 h94 c95) (f96 wUnd h94 c95)) fun f92 =>
q_guardW false v87 (q_fadW 1 v1 fun v175 =>
f92 v175 h90 c91) (f92 wUnd h90 c91)) fun f88 =>
q_guardW false v87 (f88 v69 h85 c86) (f88 wUnd h85 c86)) fun f83 =>
q_guardW true v78 (q_genW (binC Try.prog .neq 33 (.tmp 43) (.const (.float .f64 4607182418800017408)) (dec v80) (dec ⟨12, 0, ⟨0, 0, 0, .flt .f64 4607182418800017408⟩, []⟩)) fun v176 =>
f83 v176 h81 c82) (f83 wUnd h81 c82)) fun f79 =>
q_guardW true v78 (f79 v75 h70 c71) (f79 wUnd h70 c71)) (
q_killVW v1 h70 fun h177 =>
K ⟨3, 0, r0, []⟩ h177 c71)) fu ⟨3, 0, r0, []⟩ h62 c63))) fun f53 =>
q_guardW false v32 (q_cmpW (cmpF2 .geq) 3 (binC Try.prog .geq 3 (.tmp 20) (.tmp 23) (dec v38) (dec v50)) v38 v50 fun v178 =>
f53 v178 h51 c52) (f53 wUnd h51 c52)) fun f49 =>
q_guardW false v32 (q_lenW (lenC tys 24 (dec v46)) v46 fun v179 =>
f49 v179 h47 c48) (f49 wUnd h47 c48)) fun f45 =>
q_guardW false v32 (q_loadSW h43 v42 fun v180 =>
f45 v180 h43 c44) (f45 wUnd h43 c44)) fun f41 =>
q_guardW false v32 (q_fadW 2 v1 fun v181 =>
f41 v181 h39 c40) (f41 wUnd h39 c40)) fun f37 =>
q_guardW false v32 (q_loadSW h35 v34 fun v182 =>
f37 v182 h35 c36) (f37 wUnd h35 c36)) fun f33 =>
q_guardW false v32 (q_fadW 1 v1 fun v183 =>
f33 v183 h30 c31) (f33 wUnd h30 c31)) fun f28 =>
q_guardW false v19 (q_cmpW (cmpF2 .lss) 3 (binC Try.prog .lss 3 (.tmp 15) (.const (.int .i64 (.ofNat 0))) (dec v25) (dec ⟨3, 0, r0, []⟩)) v25 ⟨3, 0, r0, []⟩ fun v184 =>
f28 v184 h26 c27) (f28 wUnd h26 c27)) fun f24 =>
q_guardW false v19 (q_loadSW h22 v21 fun v185 =>
f24 v185 h22 c23) (f24 wUnd h22 c23)) fun f20 =>
q_guardW false v19 (q_fadW 1 v1 fun v186 =>
f20 v186 h17 c18) (f20 wUnd h17 c18)) fun f15 =>
q_guardW false v6 (q_cmpW (cmpF2 .gtr) 3 (binC Try.prog .gtr 3 (.tmp 10) (.const (.int .i64 (.ofNat 8))) (dec v12) (dec ⟨3, 8, r0, []⟩)) v12 ⟨3, 8, r0, []⟩ fun v187 =>
f15 v187 h13 c14) (f15 wUnd h13 c14)) fun f11 =>
q_guardW false v6 (q_loadSW h9 v8 fun v188 =>
f11 v188 h9 c10) (f11 wUnd h9 c10)) fun f7 =>
q_guardW false v6 (q_fadW 0 v1 fun v189 =>
f7 v189 h2 c3) (f7 wUnd h2 c3)
theorem R14_eq (Q : PrimW) (fu : Nat) (call : CallW) : curryA 1 (fnK Q Try.prog tys stl fu call e14) = R14 Q.share Q.genW Q.addW Q.subW Q.remW Q.cmpW Q.notW Q.condW Q.guardW Q.pickW Q.fadW Q.idxSW Q.lenW Q.killVW Q.loadSW Q.boxW fu call := by kernel_rfl
noncomputable def n14 : List W → HW → Nat → KW → Bool := appF 1 (R14 (fun _ x f => f x) genW addW subW remW cmpW notW condW guardW pickW fadW idxSW lenW killVW loadSW boxW 1000000 d7.fn)
theorem n14_ok : FnGood Try.prog tys stl tab 14 n14 := node_ok d7_ok (by kernel_rfl) rfl g14 (R14_eq real _ _)
noncomputable def d8 : Disp := (.node 49 n49 (.node 38 n38 (.node 35 n35 (.node 14 n14 (.node 13 n13 .leaf .leaf) (.node 28 n28 .leaf .leaf)) (.node 37 n37 (.node 36 n36 .leaf .leaf) .leaf)) (.node 46 n46 (.node 45 n45 (.node 44 n44 .leaf .leaf) .leaf) (.node 48 n48 (.node 47 n47 .leaf .leaf) .leaf))) (.node 55 n55 (.node 52 n52 (.node 51 n51 (.node 50 n50 .leaf .leaf) .leaf) (.node 54 n54 (.node 53 n53 .leaf .leaf) .leaf)) (.node 58 n58 (.node 57 n57 (.node 56 n56 .leaf .leaf) .leaf) (.node 60 n60 (.node 59 n59 .leaf .leaf) .leaf))))
theorem d8_ok : CallSim Try.prog tys stl tab d8.fn := Disp.sim ⟨n49_ok, ⟨n38_ok, ⟨n35_ok, ⟨n14_ok, ⟨n13_ok, True.intro, True.intro⟩, ⟨n28_ok, True.intro, True.intro⟩⟩, ⟨n37_ok, ⟨n36_ok, True.intro, True.intro⟩, True.intro⟩⟩, ⟨n46_ok, ⟨n45_ok, ⟨n44_ok, True.intro, True.intro⟩, True.intro⟩, ⟨n48_ok, ⟨n47_ok, True.intro, True.intro⟩, True.intro⟩⟩⟩, ⟨n55_ok, ⟨n52_ok, ⟨n51_ok, ⟨n50_ok, True.intro, True.intro⟩, True.intro⟩, ⟨n54_ok, ⟨n53_ok, True.intro, True.intro⟩, True.intro⟩⟩, ⟨n58_ok, ⟨n57_ok, ⟨n56_ok, True.intro, True.intro⟩, True.intro⟩, ⟨n60_ok, ⟨n59_ok, True.intro, True.intro⟩, True.intro⟩⟩⟩⟩
/- foghorn/pulse.Length -/
noncomputable def R15 (q_share : (α : Type) → α → (α → Bool) → Bool) (q_addW : Nat → Nat → Option CV → W → W → (W → Bool) → Bool) (q_subW : Nat → Nat → Option CV → W → W → (W → Bool) → Bool) (q_mulW : Nat → Nat → Option CV → W → W → (W → Bool) → Bool) (q_cmpW : (Nat → Nat → Bool) → Nat → Option CV → W → W → (W → Bool) → Bool) (q_condW : W → Bool → Bool → Bool) (q_guardW : Bool → W → Bool → Bool → Bool) (q_pickW : W → W → W → (W → Bool) → Bool) (q_fadW : Nat → W → (W → Bool) → Bool) (q_lenW : Option CV → W → (W → Bool) → Bool) (q_killVW : W → HW → (HW → Bool) → Bool) (q_loadSW : HW → W → (W → Bool) → Bool) (q_loadAW : Nat → HW → W → (W → Bool) → Bool) (q_boxW : HW → Nat → W → KW → Bool) (fu : Nat) (call : CallW) (a0 : W) (a1 : W) (h0 : HW) (c0 : Nat) (K : KW) : Bool :=
q_boxW h0 c0 a0 fun v1 h2 c3 =>
q_loadAW 3 h2 v1 fun v4 =>
call 14 [v4] h2 c3 fun v5 h6 c7 =>
q_cmpW (cmpF2 .neq) 3 (binC Try.prog .neq 27 (.tmp 10) (.const (.int .i64 (.ofNat 0))) (dec v5) (dec ⟨3, 0, r0, []⟩)) v5 ⟨3, 0, r0, []⟩ fun v8 =>
q_condW v8 (
q_killVW v1 h6 fun h9 =>
K ⟨13, 0, r0, [⟨3, 0, r0, []⟩, v5]⟩ h9 c7) (
q_cmpW (cmpF2 .lss) 3 (binC Try.prog .lss 3 (.tmp 13) (.const (.int .i64 (.ofNat 0))) (dec a1) (dec ⟨3, 0, r0, []⟩)) a1 ⟨3, 0, r0, []⟩ fun v10 =>
q_share _ (fun (v12 : W) (h13 : HW) (c14 : Nat) =>
q_share _ (fun (v16 : W) (h17 : HW) (c18 : Nat) =>
q_pickW v10 ⟨8, 1, r0, []⟩ v16 fun v19 =>
q_condW v19 (
q_killVW v1 h17 fun h20 =>
K ⟨13, 0, r0, [⟨3, 0, r0, []⟩, ⟨3, 1, r0, []⟩]⟩ h20 c18) (
q_cmpW (cmpF2 .eql) 3 (binC Try.prog .eql 3 (.tmp 19) (.const (.int .i64 (.ofNat 0))) (dec a1) (dec ⟨3, 0, r0, []⟩)) a1 ⟨3, 0, r0, []⟩ fun v21 =>
q_condW v21 (
q_killVW v1 h17 fun h22 =>
K ⟨13, 0, r0, [⟨3, 0, r0, []⟩, ⟨3, 0, r0, []⟩]⟩ h22 c18) (
q_subW 3 9223372036854775807 (binC Try.prog .sub 3 (.tmp 21) (.const (.int .i64 (.ofNat 1))) (dec a1) (dec ⟨3, 1, r0, []⟩)) a1 ⟨3, 1, r0, []⟩ fun v23 =>
q_fadW 0 v1 fun v24 =>
q_loadSW h17 v24 fun v25 =>
q_mulW 3 9223372036854775807 (binC Try.prog .mul 3 (.tmp 22) (.tmp 24) (dec v23) (dec v25)) v23 v25 fun v26 =>
q_fadW 2 v1 fun v27 =>
q_loadSW h17 v27 fun v28 =>
q_lenW (lenC tys 24 (dec v28)) v28 fun v29 =>
q_addW 3 9223372036854775807 (binC Try.prog .add 3 (.tmp 25) (.tmp 28) (dec v26) (dec v29)) v26 v29 fun v30 =>
q_cmpW (cmpF2 .gtr) 3 (binC Try.prog .gtr 3 (.tmp 30) (.const (.int .i64 (.ofNat 65536))) (dec v30) (dec ⟨3, 65536, r0, []⟩)) v30 ⟨3, 65536, r0, []⟩ fun v31 =>
q_condW v31 (
q_killVW v1 h17 fun h32 =>
K ⟨13, 0, r0, [⟨3, 0, r0, []⟩, ⟨3, 1, r0, []⟩]⟩ h32 c18) (
q_killVW v1 h17 fun h33 =>
K ⟨13, 0, r0, [v30, ⟨3, 0, r0, []⟩]⟩ h33 c18)))) fun f15 =>
q_guardW false v10 (q_cmpW (cmpF2 .gtr) 3 (binC Try.prog .gtr 3 (.tmp 16) (.const (.int .i64 (.ofNat 65536))) (dec v12) (dec ⟨3, 65536, r0, []⟩)) v12 ⟨3, 65536, r0, []⟩ fun v34 =>
f15 v34 h13 c14) (f15 wUnd h13 c14)) fun f11 =>
q_guardW false v10 (f11 a1 h6 c7) (f11 wUnd h6 c7))
theorem R15_eq (Q : PrimW) (fu : Nat) (call : CallW) : curryA 2 (fnK Q Try.prog tys stl fu call e15) = R15 Q.share Q.addW Q.subW Q.mulW Q.cmpW Q.condW Q.guardW Q.pickW Q.fadW Q.lenW Q.killVW Q.loadSW Q.loadAW Q.boxW fu call := by kernel_rfl
noncomputable def n15 : List W → HW → Nat → KW → Bool := appF 2 (R15 (fun _ x f => f x) addW subW mulW cmpW condW guardW pickW fadW lenW killVW loadSW loadAW boxW 1000000 d8.fn)
theorem n15_ok : FnGood Try.prog tys stl tab 15 n15 := node_ok d8_ok (by kernel_rfl) rfl g15 (R15_eq real _ _)
/- foghorn/pulse.Pick -/
noncomputable def R34 (q_share : (α : Type) → α → (α → Bool) → Bool) (q_addW : Nat → Nat → Option CV → W → W → (W → Bool) → Bool) (q_subW : Nat → Nat → Option CV → W → W → (W → Bool) → Bool) (q_mulW : Nat → Nat → Option CV → W → W → (W → Bool) → Bool) (q_quoW : Nat → Nat → Option CV → W → W → (W → Bool) → Bool) (q_cmpW : (Nat → Nat → Bool) → Nat → Option CV → W → W → (W → Bool) → Bool) (q_condW : W → Bool → Bool → Bool) (q_guardW : Bool → W → Bool → Bool → Bool) (q_pickW : W → W → W → (W → Bool) → Bool) (q_fadW : Nat → W → (W → Bool) → Bool) (q_idxSW : Nat → W → W → (W → Bool) → Bool) (q_lenW : Option CV → W → (W → Bool) → Bool) (q_killVW : W → HW → (HW → Bool) → Bool) (q_loadSW : HW → W → (W → Bool) → Bool) (q_loadAW : Nat → HW → W → (W → Bool) → Bool) (q_storeAW : Nat → HW → W → W → (HW → Bool) → Bool) (q_makeSW : Nat → Nat → Nat → Kind → List W → Bool → HW → Nat → W → W → KW → Bool) (q_boxW : HW → Nat → W → KW → Bool) (fu : Nat) (call : CallW) (a0 : W) (a1 : W) (a2 : W) (a3 : W) (h0 : HW) (c0 : Nat) (K : KW) : Bool :=
q_boxW h0 c0 a0 fun v1 h2 c3 =>
q_loadAW 3 h2 v1 fun v4 =>
call 14 [v4] h2 c3 fun v5 h6 c7 =>
q_cmpW (cmpF2 .neq) 3 (binC Try.prog .neq 27 (.tmp 15) (.const (.int .i64 (.ofNat 0))) (dec v5) (dec ⟨3, 0, r0, []⟩)) v5 ⟨3, 0, r0, []⟩ fun v8 =>
q_condW v8 (
q_killVW v1 h6 fun h9 =>
K ⟨13, 0, r0, [⟨12, 0, ⟨0, 0, 0, .nils⟩, []⟩, v5]⟩ h9 c7) (
q_lenW (lenC tys 55 (dec a1)) a1 fun v10 =>
q_cmpW (cmpF2 .gtr) 3 (binC Try.prog .gtr 3 (.tmp 19) (.const (.int .i64 (.ofNat 65536))) (dec v10) (dec ⟨3, 65536, r0, []⟩)) v10 ⟨3, 65536, r0, []⟩ fun v11 =>
q_share _ (fun (v13 : W) (h14 : HW) (c15 : Nat) =>
q_share _ (fun (v17 : W) (h18 : HW) (c19 : Nat) =>
q_pickW v11 ⟨8, 1, r0, []⟩ v17 fun v20 =>
q_share _ (fun (v22 : W) (h23 : HW) (c24 : Nat) =>
q_share _ (fun (v26 : W) (h27 : HW) (c28 : Nat) =>
q_pickW v20 ⟨8, 1, r0, []⟩ v26 fun v29 =>
q_condW v29 (
q_killVW v1 h27 fun h30 =>
K ⟨13, 0, r0, [⟨12, 0, ⟨0, 0, 0, .nils⟩, []⟩, ⟨3, 1, r0, []⟩]⟩ h30 c28) (
q_cmpW (cmpF2 .gtr) 3 (binC Try.prog .gtr 3 (.tmp 29) (.const (.int .i64 (.ofNat 0))) (dec a3) (dec ⟨3, 0, r0, []⟩)) a3 ⟨3, 0, r0, []⟩ fun v31 =>
q_share _ (fun (v33 : W) (h34 : HW) (c35 : Nat) =>
q_share _ (fun (v37 : W) (h38 : HW) (c39 : Nat) =>
q_share _ (fun (v41 : W) (h42 : HW) (c43 : Nat) =>
q_share _ (fun (v45 : W) (h46 : HW) (c47 : Nat) =>
q_share _ (fun (v49 : W) (h50 : HW) (c51 : Nat) =>
q_share _ (fun (v53 : W) (h54 : HW) (c55 : Nat) =>
q_share _ (fun (v57 : W) (h58 : HW) (c59 : Nat) =>
q_share _ (fun (v61 : W) (h62 : HW) (c63 : Nat) =>
q_share _ (fun (v65 : W) (h66 : HW) (c67 : Nat) =>
q_share _ (fun (v69 : W) (h70 : HW) (c71 : Nat) =>
q_share _ (fun (v73 : W) (h74 : HW) (c75 : Nat) =>
q_share _ (fun (v77 : W) (h78 : HW) (c79 : Nat) =>
q_share _ (fun (v81 : W) (h82 : HW) (c83 : Nat) =>
q_share _ (fun (v85 : W) (h86 : HW) (c87 : Nat) =>
q_share _ (fun (v89 : W) (h90 : HW) (c91 : Nat) =>
q_share _ (fun (v93 : W) (h94 : HW) (c95 : Nat) =>
q_share _ (fun (v97 : W) (h98 : HW) (c99 : Nat) =>
q_pickW v31 v97 ⟨8, 0, r0, []⟩ fun v100 =>
q_condW v100 (
q_killVW v1 h98 fun h101 =>
K ⟨13, 0, r0, [⟨12, 0, ⟨0, 0, 0, .nils⟩, []⟩, ⟨3, 1, r0, []⟩]⟩ h101 c99) (
q_makeSW 24 2 9 .avs [⟨12, 0, ⟨0, 0, 0, .cpx .f64 0 0⟩, []⟩, ⟨8, 0, r0, []⟩] true h98 c99 a3 a3 fun v102 h103 c104 =>
q_lenW (lenC tys 55 (dec v102)) v102 fun v105 =>
@Nat.rec (fun _ => Fun 1) (fun _ _ _ => false) (fun _ f109 v106 h107 c108 =>
q_cmpW (cmpF2 .lss) 3 (binC Try.prog .lss 3 (.tmp 54) (.tmp 53) (dec v106) (dec v105)) v106 v105 fun v110 =>
q_condW v110 (
q_fadW 0 v1 fun v111 =>
q_loadSW h107 v111 fun v112 =>
q_mulW 3 9223372036854775807 (binC Try.prog .mul 3 (.tmp 61) (.tmp 63) (dec v106) (dec v112)) v106 v112 fun v113 =>
q_addW 3 9223372036854775807 (binC Try.prog .add 3 (.tmp 60) (.tmp 64) (dec a2) (dec v113)) a2 v113 fun v114 =>
q_idxSW 2 a1 v114 fun v115 =>
q_loadAW 2 h107 v115 fun v116 =>
q_idxSW 2 v102 v106 fun v117 =>
q_storeAW 2 h107 v117 v116 fun h118 =>
q_addW 3 9223372036854775807 (binC Try.prog .add 3 (.tmp 54) (.const (.int .i64 (.ofNat 1))) (dec v106) (dec ⟨3, 1, r0, []⟩)) v106 ⟨3, 1, r0, []⟩ fun v119 =>
f109 v119 h118 c108) (
q_killVW v1 h107 fun h120 =>
K ⟨13, 0, r0, [v102, ⟨3, 0, r0, []⟩]⟩ h120 c108)) fu ⟨3, 0, r0, []⟩ h103 c104)) fun f96 =>
q_guardW true v31 (q_pickW v49 ⟨8, 1, r0, []⟩ v93 fun v121 =>
f96 v121 h94 c95) (f96 wUnd h94 c95)) fun f92 =>
q_guardW false v49 (q_cmpW (cmpF2 .gtr) 3 (binC Try.prog .gtr 3 (.tmp 38) (.tmp 46) (dec v57) (dec v89)) v57 v89 fun v122 =>
f92 v122 h90 c91) (f92 wUnd h90 c91)) fun f88 =>
q_guardW false v49 (q_quoW 3 9223372036854775807 (binC Try.prog .quo 3 (.tmp 43) (.tmp 45) (dec v77) (dec v85)) v77 v85 fun v123 =>
f88 v123 h86 c87) (f88 wUnd h86 c87)) fun f84 =>
q_guardW false v49 (q_loadSW h82 v81 fun v124 =>
f84 v124 h82 c83) (f84 wUnd h82 c83)) fun f80 =>
q_guardW false v49 (q_fadW 0 v1 fun v125 =>
f80 v125 h78 c79) (f80 wUnd h78 c79)) fun f76 =>
q_guardW false v49 (q_subW 3 9223372036854775807 (binC Try.prog .sub 3 (.tmp 41) (.tmp 42) (dec v69) (dec v73)) v69 v73 fun v126 =>
f76 v126 h74 c75) (f76 wUnd h74 c75)) fun f72 =>
q_guardW false v49 (f72 a2 h70 c71) (f72 wUnd h70 c71)) fun f68 =>
q_guardW false v49 (q_subW 3 9223372036854775807 (binC Try.prog .sub 3 (.tmp 40) (.const (.int .i64 (.ofNat 1))) (dec v65) (dec ⟨3, 1, r0, []⟩)) v65 ⟨3, 1, r0, []⟩ fun v127 =>
f68 v127 h66 c67) (f68 wUnd h66 c67)) fun f64 =>
q_guardW false v49 (q_lenW (lenC tys 55 (dec v61)) v61 fun v128 =>
f64 v128 h62 c63) (f64 wUnd h62 c63)) fun f60 =>
q_guardW false v49 (f60 a1 h58 c59) (f60 wUnd h58 c59)) fun f56 =>
q_guardW false v49 (q_subW 3 9223372036854775807 (binC Try.prog .sub 3 (.tmp 37) (.const (.int .i64 (.ofNat 1))) (dec v53) (dec ⟨3, 1, r0, []⟩)) v53 ⟨3, 1, r0, []⟩ fun v129 =>
f56 v129 h54 c55) (f56 wUnd h54 c55)) fun f52 =>
q_guardW false v49 (f52 a3 h50 c51) (f52 wUnd h50 c51)) fun f48 =>
q_guardW true v31 (f48 v45 h46 c47) (f48 wUnd h46 c47)) fun f44 =>
q_guardW true v31 (q_cmpW (cmpF2 .geq) 3 (binC Try.prog .geq 3 (.tmp 32) (.tmp 34) (dec v33) (dec v41)) v33 v41 fun v130 =>
f44 v130 h42 c43) (f44 wUnd h42 c43)) fun f40 =>
q_guardW true v31 (q_lenW (lenC tys 55 (dec v37)) v37 fun v131 =>
f40 v131 h38 c39) (f40 wUnd h38 c39)) fun f36 =>
q_guardW true v31 (f36 a1 h34 c35) (f36 wUnd h34 c35)) fun f32 =>
q_guardW true v31 (f32 a2 h27 c28) (f32 wUnd h27 c28))) fun f25 =>
q_guardW false v20 (q_cmpW (cmpF2 .lss) 3 (binC Try.prog .lss 3 (.tmp 26) (.const (.int .i64 (.ofNat 0))) (dec v22) (dec ⟨3, 0, r0, []⟩)) v22 ⟨3, 0, r0, []⟩ fun v132 =>
f25 v132 h23 c24) (f25 wUnd h23 c24)) fun f21 =>
q_guardW false v20 (f21 a3 h18 c19) (f21 wUnd h18 c19)) fun f16 =>
q_guardW false v11 (q_cmpW (cmpF2 .lss) 3 (binC Try.prog .lss 3 (.tmp 22) (.const (.int .i64 (.ofNat 0))) (dec v13) (dec ⟨3, 0, r0, []⟩)) v13 ⟨3, 0, r0, []⟩ fun v133 =>
f16 v133 h14 c15) (f16 wUnd h14 c15)) fun f12 =>
q_guardW false v11 (f12 a2 h6 c7) (f12 wUnd h6 c7))
theorem R34_eq (Q : PrimW) (fu : Nat) (call : CallW) : curryA 4 (fnK Q Try.prog tys stl fu call e34) = R34 Q.share Q.addW Q.subW Q.mulW Q.quoW Q.cmpW Q.condW Q.guardW Q.pickW Q.fadW Q.idxSW Q.lenW Q.killVW Q.loadSW Q.loadAW Q.storeAW Q.makeSW Q.boxW fu call := by kernel_rfl
noncomputable def n34 : List W → HW → Nat → KW → Bool := appF 4 (R34 (fun _ x f => f x) addW subW mulW quoW cmpW condW guardW pickW fadW idxSW lenW killVW loadSW loadAW storeAW makeSW boxW 1000000 d8.fn)
theorem n34_ok : FnGood Try.prog tys stl tab 34 n34 := node_ok d8_ok (by kernel_rfl) rfl g34 (R34_eq real _ _)
noncomputable def d9 : Disp := (.node 48 n48 (.node 36 n36 (.node 28 n28 (.node 14 n14 (.node 13 n13 .leaf .leaf) (.node 15 n15 .leaf .leaf)) (.node 35 n35 (.node 34 n34 .leaf .leaf) .leaf)) (.node 45 n45 (.node 38 n38 (.node 37 n37 .leaf .leaf) (.node 44 n44 .leaf .leaf)) (.node 47 n47 (.node 46 n46 .leaf .leaf) .leaf))) (.node 55 n55 (.node 52 n52 (.node 50 n50 (.node 49 n49 .leaf .leaf) (.node 51 n51 .leaf .leaf)) (.node 54 n54 (.node 53 n53 .leaf .leaf) .leaf)) (.node 58 n58 (.node 57 n57 (.node 56 n56 .leaf .leaf) .leaf) (.node 60 n60 (.node 59 n59 .leaf .leaf) .leaf))))
theorem d9_ok : CallSim Try.prog tys stl tab d9.fn := Disp.sim ⟨n48_ok, ⟨n36_ok, ⟨n28_ok, ⟨n14_ok, ⟨n13_ok, True.intro, True.intro⟩, ⟨n15_ok, True.intro, True.intro⟩⟩, ⟨n35_ok, ⟨n34_ok, True.intro, True.intro⟩, True.intro⟩⟩, ⟨n45_ok, ⟨n38_ok, ⟨n37_ok, True.intro, True.intro⟩, ⟨n44_ok, True.intro, True.intro⟩⟩, ⟨n47_ok, ⟨n46_ok, True.intro, True.intro⟩, True.intro⟩⟩⟩, ⟨n55_ok, ⟨n52_ok, ⟨n50_ok, ⟨n49_ok, True.intro, True.intro⟩, ⟨n51_ok, True.intro, True.intro⟩⟩, ⟨n54_ok, ⟨n53_ok, True.intro, True.intro⟩, True.intro⟩⟩, ⟨n58_ok, ⟨n57_ok, ⟨n56_ok, True.intro, True.intro⟩, True.intro⟩, ⟨n60_ok, ⟨n59_ok, True.intro, True.intro⟩, True.intro⟩⟩⟩⟩
/- foghorn/pulse.Shape -/
noncomputable def R16 (q_genW : Option CV → (W → Bool) → Bool) (q_addW : Nat → Nat → Option CV → W → W → (W → Bool) → Bool) (q_mulW : Nat → Nat → Option CV → W → W → (W → Bool) → Bool) (q_cmpW : (Nat → Nat → Bool) → Nat → Option CV → W → W → (W → Bool) → Bool) (q_notW : Option CV → W → (W → Bool) → Bool) (q_condW : W → Bool → Bool → Bool) (q_fadW : Nat → W → (W → Bool) → Bool) (q_idxSW : Nat → W → W → (W → Bool) → Bool) (q_lenW : Option CV → W → (W → Bool) → Bool) (q_tupW : W → (List W → Bool) → Bool) (q_nthW : Nat → List W → (W → Bool) → Bool) (q_killVW : W → HW → (HW → Bool) → Bool) (q_loadSW : HW → W → (W → Bool) → Bool) (q_loadAW : Nat → HW → W → (W → Bool) → Bool) (q_storeSW : HW → W → W → (HW → Bool) → Bool) (q_makeSW : Nat → Nat → Nat → Kind → List W → Bool → HW → Nat → W → W → KW → Bool) (q_boxW : HW → Nat → W → KW → Bool) (fu : Nat) (call : CallW) (a0 : W) (a1 : W) (h0 : HW) (c0 : Nat) (K : KW) : Bool :=
q_boxW h0 c0 a0 fun v1 h2 c3 =>
q_loadAW 3 h2 v1 fun v4 =>
q_lenW (lenC tys 34 (dec a1)) a1 fun v5 =>
call 15 [v4, v5] h2 c3 fun v6 h7 c8 =>
q_tupW v6 fun l9 => q_nthW 0 l9 fun v10 =>
q_tupW v6 fun l11 => q_nthW 1 l11 fun v12 =>
q_cmpW (cmpF2 .neq) 3 (binC Try.prog .neq 27 (.tmp 21) (.const (.int .i64 (.ofNat 0))) (dec v12) (dec ⟨3, 0, r0, []⟩)) v12 ⟨3, 0, r0, []⟩ fun v13 =>
q_condW v13 (
q_killVW v1 h7 fun h14 =>
K ⟨13, 0, r0, [⟨12, 0, ⟨0, 0, 0, .nils⟩, []⟩, v12]⟩ h14 c8) (
call 38 [a1] h7 c8 fun v15 h16 c17 =>
q_notW (two Try.prog (dec v15) (Op.unary .not)) v15 fun v18 =>
q_condW v18 (
q_killVW v1 h16 fun h19 =>
K ⟨13, 0, r0, [⟨12, 0, ⟨0, 0, 0, .nils⟩, []⟩, ⟨3, 7, r0, []⟩]⟩ h19 c17) (
q_makeSW 16 1 99 (.cpxs .f64) [⟨12, 0, ⟨0, 0, 0, .cpx .f64 0 0⟩, []⟩] true h16 c17 v10 v10 fun v20 h21 c22 =>
q_lenW (lenC tys 34 (dec a1)) a1 fun v23 =>
@Nat.rec (fun _ => Fun 1) (fun _ _ _ => false) (fun _ f27 v24 h25 c26 =>
q_cmpW (cmpF2 .lss) 3 (binC Try.prog .lss 3 (.tmp 31) (.tmp 30) (dec v24) (dec v23)) v24 v23 fun v28 =>
q_condW v28 (
q_idxSW 1 a1 v24 fun v29 =>
q_loadSW h25 v29 fun v30 =>
q_fadW 0 v1 fun v31 =>
q_loadSW h25 v31 fun v32 =>
q_mulW 3 9223372036854775807 (binC Try.prog .mul 3 (.tmp 37) (.tmp 39) (dec v24) (dec v32)) v24 v32 fun v33 =>
q_genW (sliceC tys 34 (dec v20) (some (dec v33)) none none) fun v34 =>
q_fadW 2 v1 fun v35 =>
q_loadSW h25 v35 fun v36 =>
q_lenW (lenC tys 24 (dec v36)) v36 fun v37 =>
@Nat.rec (fun _ => Fun 1) (fun _ _ _ => false) (fun _ f41 v38 h39 c40 =>
q_cmpW (cmpF2 .lss) 3 (binC Try.prog .lss 3 (.tmp 45) (.tmp 44) (dec v38) (dec v37)) v38 v37 fun v42 =>
q_condW v42 (
q_idxSW 1 v36 v38 fun v43 =>
q_loadSW h39 v43 fun v44 =>
q_idxSW 1 v34 v38 fun v45 =>
q_loadSW h39 v45 fun v46 =>
q_genW (two Try.prog (dec v46) fun v => Builtin.real_ #[48] 33 #[v]) fun v47 =>
q_genW (two Try.prog (dec v30) fun v => Builtin.real_ #[48] 33 #[v]) fun v48 =>
q_genW (binC Try.prog .mul 33 (.tmp 58) (.tmp 59) (dec v48) (dec v44)) fun v49 =>
q_genW (binC Try.prog .add 33 (.tmp 56) (.tmp 60) (dec v47) (dec v49)) fun v50 =>
q_idxSW 1 v34 v38 fun v51 =>
q_loadSW h39 v51 fun v52 =>
q_genW (two Try.prog (dec v52) fun v => Builtin.imag_ #[48] 33 #[v]) fun v53 =>
q_genW (two Try.prog (dec v30) fun v => Builtin.imag_ #[48] 33 #[v]) fun v54 =>
q_genW (binC Try.prog .mul 33 (.tmp 68) (.tmp 69) (dec v54) (dec v44)) fun v55 =>
q_genW (binC Try.prog .add 33 (.tmp 66) (.tmp 70) (dec v53) (dec v55)) fun v56 =>
q_genW (two2 Try.prog (dec v50) (dec v56) fun v u => Builtin.complex_ #[33, 33] 48 #[v, u]) fun v57 =>
q_idxSW 1 v34 v38 fun v58 =>
q_storeSW h39 v58 v57 fun h59 =>
q_addW 3 9223372036854775807 (binC Try.prog .add 3 (.tmp 45) (.const (.int .i64 (.ofNat 1))) (dec v38) (dec ⟨3, 1, r0, []⟩)) v38 ⟨3, 1, r0, []⟩ fun v60 =>
f41 v60 h59 c40) (
q_addW 3 9223372036854775807 (binC Try.prog .add 3 (.tmp 31) (.const (.int .i64 (.ofNat 1))) (dec v24) (dec ⟨3, 1, r0, []⟩)) v24 ⟨3, 1, r0, []⟩ fun v61 =>
f27 v61 h39 c40)) fu ⟨3, 0, r0, []⟩ h25 c26) (
q_killVW v1 h25 fun h62 =>
K ⟨13, 0, r0, [v20, ⟨3, 0, r0, []⟩]⟩ h62 c26)) fu ⟨3, 0, r0, []⟩ h21 c22))
theorem R16_eq (Q : PrimW) (fu : Nat) (call : CallW) : curryA 2 (fnK Q Try.prog tys stl fu call e16) = R16 Q.genW Q.addW Q.mulW Q.cmpW Q.notW Q.condW Q.fadW Q.idxSW Q.lenW Q.tupW Q.nthW Q.killVW Q.loadSW Q.loadAW Q.storeSW Q.makeSW Q.boxW fu call := by kernel_rfl
noncomputable def n16 : List W → HW → Nat → KW → Bool := appF 2 (R16 genW addW mulW cmpW notW condW fadW idxSW lenW tupW nthW killVW loadSW loadAW storeSW makeSW boxW 1000000 d9.fn)
theorem n16_ok : FnGood Try.prog tys stl tab 16 n16 := node_ok d9_ok (by kernel_rfl) rfl g16 (R16_eq real _ _)
noncomputable def d10 : Disp := (.node 47 n47 (.node 35 n35 (.node 16 n16 (.node 14 n14 (.node 13 n13 .leaf .leaf) (.node 15 n15 .leaf .leaf)) (.node 34 n34 (.node 28 n28 .leaf .leaf) .leaf)) (.node 44 n44 (.node 37 n37 (.node 36 n36 .leaf .leaf) (.node 38 n38 .leaf .leaf)) (.node 46 n46 (.node 45 n45 .leaf .leaf) .leaf))) (.node 54 n54 (.node 51 n51 (.node 49 n49 (.node 48 n48 .leaf .leaf) (.node 50 n50 .leaf .leaf)) (.node 53 n53 (.node 52 n52 .leaf .leaf) .leaf)) (.node 58 n58 (.node 56 n56 (.node 55 n55 .leaf .leaf) (.node 57 n57 .leaf .leaf)) (.node 60 n60 (.node 59 n59 .leaf .leaf) .leaf))))
theorem d10_ok : CallSim Try.prog tys stl tab d10.fn := Disp.sim ⟨n47_ok, ⟨n35_ok, ⟨n16_ok, ⟨n14_ok, ⟨n13_ok, True.intro, True.intro⟩, ⟨n15_ok, True.intro, True.intro⟩⟩, ⟨n34_ok, ⟨n28_ok, True.intro, True.intro⟩, True.intro⟩⟩, ⟨n44_ok, ⟨n37_ok, ⟨n36_ok, True.intro, True.intro⟩, ⟨n38_ok, True.intro, True.intro⟩⟩, ⟨n46_ok, ⟨n45_ok, True.intro, True.intro⟩, True.intro⟩⟩⟩, ⟨n54_ok, ⟨n51_ok, ⟨n49_ok, ⟨n48_ok, True.intro, True.intro⟩, ⟨n50_ok, True.intro, True.intro⟩⟩, ⟨n53_ok, ⟨n52_ok, True.intro, True.intro⟩, True.intro⟩⟩, ⟨n58_ok, ⟨n56_ok, ⟨n55_ok, True.intro, True.intro⟩, ⟨n57_ok, True.intro, True.intro⟩⟩, ⟨n60_ok, ⟨n59_ok, True.intro, True.intro⟩, True.intro⟩⟩⟩⟩
/- foghorn/foghornlaw07.works -/
noncomputable def R12 (q_share : (α : Type) → α → (α → Bool) → Bool) (q_genW : Option CV → (W → Bool) → Bool) (q_cmpW : (Nat → Nat → Bool) → Nat → Option CV → W → W → (W → Bool) → Bool) (q_guardW : Bool → W → Bool → Bool → Bool) (q_pickW : W → W → W → (W → Bool) → Bool) (q_fadW : Nat → W → (W → Bool) → Bool) (q_idxSW : Nat → W → W → (W → Bool) → Bool) (q_lenW : Option CV → W → (W → Bool) → Bool) (q_tupW : W → (List W → Bool) → Bool) (q_nthW : Nat → List W → (W → Bool) → Bool) (q_killVW : W → HW → (HW → Bool) → Bool) (q_loadSW : HW → W → (W → Bool) → Bool) (q_loadAW : Nat → HW → W → (W → Bool) → Bool) (q_storeAW : Nat → HW → W → W → (HW → Bool) → Bool) (q_allocW : Trie W → Nat → Bool → HW → Nat → KW → Bool) (q_buildSW : Nat → Nat → Kind → Nat → Bool → HW → Nat → Nat → List W → KW → Bool) (q_samQW : W → W → Bool → Bool) (fu : Nat) (call : CallW) (h0 : HW) (c0 : Nat) (K : KW) : Bool :=
call 13 [⟨12, 0, ⟨0, 0, 0, .str ⟨⟨[116, 101, 110, 116]⟩⟩⟩, []⟩, ⟨3, 2, r0, []⟩] h0 c0 fun v1 h2 c3 =>
q_tupW v1 fun l4 => q_nthW 0 l4 fun v5 =>
q_tupW v1 fun l6 => q_nthW 1 l6 fun v7 =>
q_allocW (allocT tys 26) 3 true h2 c3 fun v8 h9 c10 =>
q_storeAW 3 h9 v8 v5 fun h11 =>
q_loadAW 3 h11 v8 fun v12 =>
q_buildSW 1 99 (.cpxs .f64) 2 true h11 c10 2 [⟨12, 0, ⟨0, 0, 0, .cpx .f64 4611686018427387904 0⟩, []⟩, ⟨12, 0, ⟨0, 0, 0, .cpx .f64 0 4616189618054758400⟩, []⟩] fun v13 h14 c15 =>
call 16 [v12, v13] h14 c15 fun v16 h17 c18 =>
q_tupW v16 fun l19 => q_nthW 0 l19 fun v20 =>
q_tupW v16 fun l21 => q_nthW 1 l21 fun v22 =>
q_loadAW 3 h17 v8 fun v23 =>
call 15 [v23, ⟨3, 2, r0, []⟩] h17 c18 fun v24 h25 c26 =>
q_tupW v24 fun l27 => q_nthW 0 l27 fun v28 =>
q_tupW v24 fun l29 => q_nthW 1 l29 fun v30 =>
q_loadAW 3 h25 v8 fun v31 =>
call 35 [v20, ⟨3, 0, r0, []⟩] h25 c26 fun v32 h33 c34 =>
q_loadAW 3 h33 v8 fun v35 =>
q_samQW v35 v31 (
call 34 [v31, v32, ⟨3, 1, r0, []⟩, ⟨3, 2, r0, []⟩] h33 c34 fun v36 h37 c38 =>
q_tupW v36 fun l39 => q_nthW 0 l39 fun v40 =>
q_tupW v36 fun l41 => q_nthW 1 l41 fun v42 =>
q_cmpW (cmpF2 .eql) 3 (binC Try.prog .eql 27 (.tmp 31) (.const (.int .i64 (.ofNat 0))) (dec v7) (dec ⟨3, 0, r0, []⟩)) v7 ⟨3, 0, r0, []⟩ fun v43 =>
q_share _ (fun (v45 : W) (h46 : HW) (c47 : Nat) =>
q_share _ (fun (v49 : W) (h50 : HW) (c51 : Nat) =>
q_pickW v43 v49 ⟨8, 0, r0, []⟩ fun v52 =>
q_share _ (fun (v54 : W) (h55 : HW) (c56 : Nat) =>
q_share _ (fun (v58 : W) (h59 : HW) (c60 : Nat) =>
q_pickW v52 v58 ⟨8, 0, r0, []⟩ fun v61 =>
q_share _ (fun (v63 : W) (h64 : HW) (c65 : Nat) =>
q_share _ (fun (v67 : W) (h68 : HW) (c69 : Nat) =>
q_pickW v61 v67 ⟨8, 0, r0, []⟩ fun v70 =>
q_share _ (fun (v72 : W) (h73 : HW) (c74 : Nat) =>
q_share _ (fun (v76 : W) (h77 : HW) (c78 : Nat) =>
q_pickW v70 v76 ⟨8, 0, r0, []⟩ fun v79 =>
q_share _ (fun (v81 : W) (h82 : HW) (c83 : Nat) =>
q_share _ (fun (v85 : W) (h86 : HW) (c87 : Nat) =>
q_share _ (fun (v89 : W) (h90 : HW) (c91 : Nat) =>
q_pickW v79 v89 ⟨8, 0, r0, []⟩ fun v92 =>
q_share _ (fun (v94 : W) (h95 : HW) (c96 : Nat) =>
q_share _ (fun (v98 : W) (h99 : HW) (c100 : Nat) =>
q_share _ (fun (v102 : W) (h103 : HW) (c104 : Nat) =>
q_pickW v92 v102 ⟨8, 0, r0, []⟩ fun v105 =>
q_share _ (fun (v107 : W) (h108 : HW) (c109 : Nat) =>
q_share _ (fun (v111 : W) (h112 : HW) (c113 : Nat) =>
q_share _ (fun (v115 : W) (h116 : HW) (c117 : Nat) =>
q_share _ (fun (v119 : W) (h120 : HW) (c121 : Nat) =>
q_share _ (fun (v123 : W) (h124 : HW) (c125 : Nat) =>
q_pickW v105 v123 ⟨8, 0, r0, []⟩ fun v126 =>
q_share _ (fun (v128 : W) (h129 : HW) (c130 : Nat) =>
q_share _ (fun (v132 : W) (h133 : HW) (c134 : Nat) =>
q_share _ (fun (v136 : W) (h137 : HW) (c138 : Nat) =>
q_share _ (fun (v140 : W) (h141 : HW) (c142 : Nat) =>
q_share _ (fun (v144 : W) (h145 : HW) (c146 : Nat) =>
q_pickW v126 v144 ⟨8, 0, r0, []⟩ fun v147 =>
q_share _ (fun (v149 : W) (h150 : HW) (c151 : Nat) =>
q_share _ (fun (v153 : W) (h154 : HW) (c155 : Nat) =>
q_share _ (fun (v157 : W) (h158 : HW) (c159 : Nat) =>
q_pickW v147 v157 ⟨8, 0, r0, []⟩ fun v160 =>
q_killVW v8 h158 fun h161 =>
K v160 h161 c159) fun f156 =>
q_guardW true v147 (q_cmpW (cmpF2 .eql) 3 (binC Try.prog .eql 27 (.tmp 75) (.const (.int .i64 (.ofNat 1))) (dec v153) (dec ⟨3, 1, r0, []⟩)) v153 ⟨3, 1, r0, []⟩ fun v162 =>
f156 v162 h154 c155) (f156 wUnd h154 c155)) fun f152 =>
q_guardW true v147 (call 14 [v149] h150 c151 fun v163 h164 c165 =>
f152 v163 h164 c165) (f152 wUnd h150 c151)) fun f148 =>
q_guardW true v147 ((fun (v166 : W) =>
f148 v166 h145 c146) ⟨15, 0, r0, [⟨3, 0, r0, []⟩, ⟨3, 0, r0, []⟩, ⟨12, 0, ⟨0, 0, 0, .nils⟩, []⟩]⟩) (f148 wUnd h145 c146)) fun f143 =>
q_guardW true v126 (q_genW (binC Try.prog .eql 48 (.tmp 70) (.const (.complex .f64 0 4616189618054758400)) (dec v140) (dec ⟨12, 0, ⟨0, 0, 0, .cpx .f64 0 4616189618054758400⟩, []⟩)) fun v167 =>
f143 v167 h141 c142) (f143 wUnd h141 c142)) fun f139 =>
q_guardW true v126 (q_loadSW h137 v136 fun v168 =>
f139 v168 h137 c138) (f139 wUnd h137 c138)) fun f135 =>
q_guardW true v126 (q_fadW 0 v132 fun v169 =>
f135 v169 h133 c134) (f135 wUnd h133 c134)) fun f131 =>
q_guardW true v126 (q_idxSW 2 v128 ⟨3, 1, r0, []⟩ fun v170 =>
f131 v170 h129 c130) (f131 wUnd h129 c130)) fun f127 =>
q_guardW true v126 (f127 v40 h124 c125) (f127 wUnd h124 c125)) fun f122 =>
q_guardW true v105 (q_genW (binC Try.prog .eql 48 (.tmp 63) (.const (.complex .f64 4611686018427387904 0)) (dec v119) (dec ⟨12, 0, ⟨0, 0, 0, .cpx .f64 4611686018427387904 0⟩, []⟩)) fun v171 =>
f122 v171 h120 c121) (f122 wUnd h120 c121)) fun f118 =>
q_guardW true v105 (q_loadSW h116 v115 fun v172 =>
f118 v172 h116 c117) (f118 wUnd h116 c117)) fun f114 =>
q_guardW true v105 (q_fadW 0 v111 fun v173 =>
f114 v173 h112 c113) (f114 wUnd h112 c113)) fun f110 =>
q_guardW true v105 (q_idxSW 2 v107 ⟨3, 0, r0, []⟩ fun v174 =>
f110 v174 h108 c109) (f110 wUnd h108 c109)) fun f106 =>
q_guardW true v105 (f106 v40 h103 c104) (f106 wUnd h103 c104)) fun f101 =>
q_guardW true v92 (q_cmpW (cmpF2 .eql) 3 (binC Try.prog .eql 3 (.tmp 56) (.const (.int .i64 (.ofNat 2))) (dec v98) (dec ⟨3, 2, r0, []⟩)) v98 ⟨3, 2, r0, []⟩ fun v175 =>
f101 v175 h99 c100) (f101 wUnd h99 c100)) fun f97 =>
q_guardW true v92 (q_lenW (lenC tys 55 (dec v94)) v94 fun v176 =>
f97 v176 h95 c96) (f97 wUnd h95 c96)) fun f93 =>
q_guardW true v92 (f93 v40 h90 c91) (f93 wUnd h90 c91)) fun f88 =>
q_guardW true v79 (call 28 [v81, v85] h86 c87 fun v177 h178 c179 =>
f88 v177 h178 c179) (f88 wUnd h86 c87)) fun f84 =>
q_guardW true v79 (q_buildSW 1 99 (.cpxs .f64) 5 true h82 c83 5 [⟨12, 0, ⟨0, 0, 0, .cpx .f64 4607182418800017408 0⟩, []⟩, ⟨12, 0, ⟨0, 0, 0, .cpx .f64 4611686018427387904 0⟩, []⟩, ⟨12, 0, ⟨0, 0, 0, .cpx .f64 4607182418800017408 4611686018427387904⟩, []⟩, ⟨12, 0, ⟨0, 0, 0, .cpx .f64 0 4616189618054758400⟩, []⟩, ⟨12, 0, ⟨0, 0, 0, .cpx .f64 0 4611686018427387904⟩, []⟩] fun v180 h181 c182 =>
f84 v180 h181 c182) (f84 wUnd h82 c83)) fun f80 =>
q_guardW true v79 (f80 v20 h77 c78) (f80 wUnd h77 c78)) fun f75 =>
q_guardW true v70 (q_cmpW (cmpF2 .eql) 3 (binC Try.prog .eql 3 (.tmp 46) (.const (.int .i64 (.ofNat 5))) (dec v72) (dec ⟨3, 5, r0, []⟩)) v72 ⟨3, 5, r0, []⟩ fun v183 =>
f75 v183 h73 c74) (f75 wUnd h73 c74)) fun f71 =>
q_guardW true v70 (f71 v28 h68 c69) (f71 wUnd h68 c69)) fun f66 =>
q_guardW true v61 (q_cmpW (cmpF2 .eql) 3 (binC Try.prog .eql 27 (.tmp 42) (.const (.int .i64 (.ofNat 0))) (dec v63) (dec ⟨3, 0, r0, []⟩)) v63 ⟨3, 0, r0, []⟩ fun v184 =>
f66 v184 h64 c65) (f66 wUnd h64 c65)) fun f62 =>
q_guardW true v61 (f62 v42 h59 c60) (f62 wUnd h59 c60)) fun f57 =>
q_guardW true v52 (q_cmpW (cmpF2 .eql) 3 (binC Try.prog .eql 27 (.tmp 38) (.const (.int .i64 (.ofNat 0))) (dec v54) (dec ⟨3, 0, r0, []⟩)) v54 ⟨3, 0, r0, []⟩ fun v185 =>
f57 v185 h55 c56) (f57 wUnd h55 c56)) fun f53 =>
q_guardW true v52 (f53 v30 h50 c51) (f53 wUnd h50 c51)) fun f48 =>
q_guardW true v43 (q_cmpW (cmpF2 .eql) 3 (binC Try.prog .eql 27 (.tmp 34) (.const (.int .i64 (.ofNat 0))) (dec v45) (dec ⟨3, 0, r0, []⟩)) v45 ⟨3, 0, r0, []⟩ fun v186 =>
f48 v186 h46 c47) (f48 wUnd h46 c47)) fun f44 =>
q_guardW true v43 (f44 v22 h37 c38) (f44 wUnd h37 c38))
theorem R12_eq (Q : PrimW) (fu : Nat) (call : CallW) : curryA 0 (fnK Q Try.prog tys stl fu call e12) = R12 Q.share Q.genW Q.cmpW Q.guardW Q.pickW Q.fadW Q.idxSW Q.lenW Q.tupW Q.nthW Q.killVW Q.loadSW Q.loadAW Q.storeAW Q.allocW Q.buildSW Q.samQW fu call := by kernel_rfl
noncomputable def n12 : List W → HW → Nat → KW → Bool := appF 0 (R12 (fun _ x f => f x) genW cmpW guardW pickW fadW idxSW lenW tupW nthW killVW loadSW loadAW storeAW allocW buildSW samQW 1000000 d10.fn)
theorem n12_ok : FnGood Try.prog tys stl tab 12 n12 := node_ok d10_ok (by kernel_rfl) rfl g12 (R12_eq real _ _)
noncomputable def d11 : Disp := (.node 47 n47 (.node 35 n35 (.node 15 n15 (.node 13 n13 (.node 12 n12 .leaf .leaf) (.node 14 n14 .leaf .leaf)) (.node 28 n28 (.node 16 n16 .leaf .leaf) (.node 34 n34 .leaf .leaf))) (.node 44 n44 (.node 37 n37 (.node 36 n36 .leaf .leaf) (.node 38 n38 .leaf .leaf)) (.node 46 n46 (.node 45 n45 .leaf .leaf) .leaf))) (.node 54 n54 (.node 51 n51 (.node 49 n49 (.node 48 n48 .leaf .leaf) (.node 50 n50 .leaf .leaf)) (.node 53 n53 (.node 52 n52 .leaf .leaf) .leaf)) (.node 58 n58 (.node 56 n56 (.node 55 n55 .leaf .leaf) (.node 57 n57 .leaf .leaf)) (.node 60 n60 (.node 59 n59 .leaf .leaf) .leaf))))
theorem d11_ok : CallSim Try.prog tys stl tab d11.fn := Disp.sim ⟨n47_ok, ⟨n35_ok, ⟨n15_ok, ⟨n13_ok, ⟨n12_ok, True.intro, True.intro⟩, ⟨n14_ok, True.intro, True.intro⟩⟩, ⟨n28_ok, ⟨n16_ok, True.intro, True.intro⟩, ⟨n34_ok, True.intro, True.intro⟩⟩⟩, ⟨n44_ok, ⟨n37_ok, ⟨n36_ok, True.intro, True.intro⟩, ⟨n38_ok, True.intro, True.intro⟩⟩, ⟨n46_ok, ⟨n45_ok, True.intro, True.intro⟩, True.intro⟩⟩⟩, ⟨n54_ok, ⟨n51_ok, ⟨n49_ok, ⟨n48_ok, True.intro, True.intro⟩, ⟨n50_ok, True.intro, True.intro⟩⟩, ⟨n53_ok, ⟨n52_ok, True.intro, True.intro⟩, True.intro⟩⟩, ⟨n58_ok, ⟨n56_ok, ⟨n55_ok, True.intro, True.intro⟩, ⟨n57_ok, True.intro, True.intro⟩⟩, ⟨n60_ok, ⟨n59_ok, True.intro, True.intro⟩, True.intro⟩⟩⟩⟩
/- foghorn/foghornlaw07.PulseNames -/
noncomputable def R3 (q_share : (α : Type) → α → (α → Bool) → Bool) (q_addW : Nat → Nat → Option CV → W → W → (W → Bool) → Bool) (q_cmpW : (Nat → Nat → Bool) → Nat → Option CV → W → W → (W → Bool) → Bool) (q_notW : Option CV → W → (W → Bool) → Bool) (q_condW : W → Bool → Bool → Bool) (q_guardW : Bool → W → Bool → Bool → Bool) (q_pickW : W → W → W → (W → Bool) → Bool) (q_fadW : Nat → W → (W → Bool) → Bool) (q_idxSW : Nat → W → W → (W → Bool) → Bool) (q_lenW : Option CV → W → (W → Bool) → Bool) (q_tupW : W → (List W → Bool) → Bool) (q_nthW : Nat → List W → (W → Bool) → Bool) (q_killVW : W → HW → (HW → Bool) → Bool) (q_loadSW : HW → W → (W → Bool) → Bool) (q_loadAW : Nat → HW → W → (W → Bool) → Bool) (q_storeSW : HW → W → W → (HW → Bool) → Bool) (q_storeAW : Nat → HW → W → W → (HW → Bool) → Bool) (q_makeSW : Nat → Nat → Nat → Kind → List W → Bool → HW → Nat → W → W → KW → Bool) (q_allocW : Trie W → Nat → Bool → HW → Nat → KW → Bool) (q_buildSW : Nat → Nat → Kind → Nat → Bool → HW → Nat → Nat → List W → KW → Bool) (q_flatW : W → Bool → Bool) (q_samQW : W → W → Bool → Bool) (fu : Nat) (call : CallW) (h0 : HW) (c0 : Nat) (K : KW) : Bool :=
call 12 [] h0 c0 fun v1 h2 c3 =>
q_notW (two Try.prog (dec v1) (Op.unary .not)) v1 fun v4 =>
q_pickW v4 ⟨8, 1, r0, []⟩ ⟨8, 0, r0, []⟩ fun v5 =>
q_pickW v5 ⟨8, 1, r0, []⟩ ⟨8, 0, r0, []⟩ fun v6 =>
q_pickW v6 ⟨8, 1, r0, []⟩ ⟨8, 0, r0, []⟩ fun v7 =>
q_pickW v7 ⟨8, 1, r0, []⟩ ⟨8, 0, r0, []⟩ fun v8 =>
q_pickW v8 ⟨8, 1, r0, []⟩ ⟨8, 0, r0, []⟩ fun v9 =>
q_pickW v9 ⟨8, 1, r0, []⟩ ⟨8, 0, r0, []⟩ fun v10 =>
q_condW v10 (
q_killVW wUnd h2 fun h11 =>
q_killVW wUnd h11 fun h12 =>
q_killVW wUnd h12 fun h13 =>
q_killVW wUnd h13 fun h14 =>
q_killVW wUnd h14 fun h15 =>
K ⟨8, 0, r0, []⟩ h15 c3) (
q_buildSW 1 99 .strs 4 true h2 c3 4 [⟨12, 0, ⟨0, 0, 0, .str ⟨⟨[115, 112, 105, 107, 101]⟩⟩⟩, []⟩, ⟨12, 0, ⟨0, 0, 0, .str ⟨⟨[98, 111, 120]⟩⟩⟩, []⟩, ⟨12, 0, ⟨0, 0, 0, .str ⟨⟨[116, 101, 110, 116]⟩⟩⟩, []⟩, ⟨12, 0, ⟨0, 0, 0, .str ⟨⟨[115, 111, 102, 116]⟩⟩⟩, []⟩] fun v16 h17 c18 =>
q_lenW (lenC tys 23 (dec v16)) v16 fun v19 =>
@Nat.rec (fun _ => Fun 2) (fun _ _ _ _ => false) (fun _ f24 v20 v21 h22 c23 =>
q_cmpW (cmpF2 .lss) 3 (binC Try.prog .lss 3 (.tmp 38) (.tmp 37) (dec v21) (dec v19)) v21 v19 fun v25 =>
q_condW v25 (
q_idxSW 1 v16 v21 fun v26 =>
q_loadSW h22 v26 fun v27 =>
@Nat.rec (fun _ => Fun 2) (fun _ _ _ _ => false) (fun _ f32 v28 v29 h30 c31 =>
q_cmpW (cmpF2 .leq) 3 (binC Try.prog .leq 3 (.tmp 42) (.const (.int .i64 (.ofNat 8))) (dec v29) (dec ⟨3, 8, r0, []⟩)) v29 ⟨3, 8, r0, []⟩ fun v33 =>
q_condW v33 (
q_share _ (fun (v34 : W) (h35 : HW) (c36 : Nat) =>
q_addW 3 9223372036854775807 (binC Try.prog .add 3 (.tmp 44) (.const (.int .i64 (.ofNat 1))) (dec v29) (dec ⟨3, 1, r0, []⟩)) v29 ⟨3, 1, r0, []⟩ fun v38 =>
f32 v34 v38 h35 c36) fun f37 =>
call 13 [v27, v29] h30 c31 fun v39 h40 c41 =>
q_tupW v39 fun l42 => q_nthW 0 l42 fun v43 =>
q_tupW v39 fun l44 => q_nthW 1 l44 fun v45 =>
q_allocW (allocT tys 26) 3 true h40 c41 fun v46 h47 c48 =>
q_storeAW 3 h47 v46 v43 fun h49 =>
q_cmpW (cmpF2 .eql) 3 (binC Try.prog .eql 27 (.tmp 52) (.const (.int .i64 (.ofNat 0))) (dec v45) (dec ⟨3, 0, r0, []⟩)) v45 ⟨3, 0, r0, []⟩ fun v50 =>
q_condW v50 (
q_addW 3 9223372036854775807 (binC Try.prog .add 3 (.tmp 54) (.const (.int .i64 (.ofNat 1))) (dec v28) (dec ⟨3, 1, r0, []⟩)) v28 ⟨3, 1, r0, []⟩ fun v51 =>
q_loadAW 3 h49 v46 fun v52 =>
call 14 [v52] h49 c48 fun v53 h54 c55 =>
q_cmpW (cmpF2 .neq) 3 (binC Try.prog .neq 27 (.tmp 57) (.const (.int .i64 (.ofNat 0))) (dec v53) (dec ⟨3, 0, r0, []⟩)) v53 ⟨3, 0, r0, []⟩ fun v56 =>
q_share _ (fun (v58 : W) (h59 : HW) (c60 : Nat) =>
q_share _ (fun (v62 : W) (h63 : HW) (c64 : Nat) =>
q_share _ (fun (v66 : W) (h67 : HW) (c68 : Nat) =>
q_share _ (fun (v70 : W) (h71 : HW) (c72 : Nat) =>
q_pickW v56 ⟨8, 1, r0, []⟩ v70 fun v73 =>
q_condW v73 (
q_killVW wUnd h71 fun h74 =>
q_killVW wUnd h74 fun h75 =>
q_killVW wUnd h75 fun h76 =>
q_killVW wUnd h76 fun h77 =>
q_killVW wUnd h77 fun h78 =>
K ⟨8, 0, r0, []⟩ h78 c72) (
f37 v51 h71 c72)) fun f69 =>
q_guardW false v56 (q_cmpW (cmpF2 .neq) 3 (binC Try.prog .neq 3 (.tmp 61) (.tmp 62) (dec v62) (dec v66)) v62 v66 fun v79 =>
f69 v79 h67 c68) (f69 wUnd h67 c68)) fun f65 =>
q_guardW false v56 (f65 v29 h63 c64) (f65 wUnd h63 c64)) fun f61 =>
q_guardW false v56 (q_loadSW h59 v58 fun v80 =>
f61 v80 h59 c60) (f61 wUnd h59 c60)) fun f57 =>
q_guardW false v56 (q_fadW 0 v46 fun v81 =>
f57 v81 h54 c55) (f57 wUnd h54 c55)) (
f37 v28 h49 c48)) (
q_addW 3 9223372036854775807 (binC Try.prog .add 3 (.tmp 38) (.const (.int .i64 (.ofNat 1))) (dec v21) (dec ⟨3, 1, r0, []⟩)) v21 ⟨3, 1, r0, []⟩ fun v82 =>
f24 v28 v82 h30 c31)) fu v20 ⟨3, 1, r0, []⟩ h22 c23) (
call 13 [⟨12, 0, ⟨0, 0, 0, .str ⟨⟨[115, 112, 105, 107, 101]⟩⟩⟩, []⟩, ⟨3, 8, r0, []⟩] h22 c23 fun v83 h84 c85 =>
q_tupW v83 fun l86 => q_nthW 0 l86 fun v87 =>
q_tupW v83 fun l88 => q_nthW 1 l88 fun v89 =>
q_allocW (allocT tys 26) 3 true h84 c85 fun v90 h91 c92 =>
q_storeAW 3 h91 v90 v87 fun h93 =>
q_loadAW 3 h93 v90 fun v94 =>
call 15 [v94, ⟨3, 8192, r0, []⟩] h93 c92 fun v95 h96 c97 =>
q_tupW v95 fun l98 => q_nthW 0 l98 fun v99 =>
q_tupW v95 fun l100 => q_nthW 1 l100 fun v101 =>
q_loadAW 3 h96 v90 fun v102 =>
call 15 [v102, ⟨3, 8193, r0, []⟩] h96 c97 fun v103 h104 c105 =>
q_tupW v103 fun l106 => q_nthW 0 l106 fun v107 =>
q_tupW v103 fun l108 => q_nthW 1 l108 fun v109 =>
q_makeSW 8 1 99 (.flts .f64) [⟨12, 0, ⟨0, 0, 0, .flt .f64 0⟩, []⟩] true h104 c105 ⟨3, 64, r0, []⟩ ⟨3, 64, r0, []⟩ fun v110 h111 c112 =>
q_flatW ⟨3, 8, r0, []⟩ (
q_flatW v110 (
(fun (v113 : W) =>
q_allocW (allocT tys 26) 3 true h111 c112 fun v114 h115 c116 =>
q_storeAW 3 h115 v114 v113 fun h117 =>
q_fadW 2 v114 fun v118 =>
q_loadSW h117 v118 fun v119 =>
q_idxSW 1 v119 ⟨3, 0, r0, []⟩ fun v120 =>
q_storeSW h117 v120 ⟨12, 0, ⟨0, 0, 0, .flt .f64 4607182418800017408⟩, []⟩ fun h121 =>
q_makeSW 8 1 99 (.flts .f64) [⟨12, 0, ⟨0, 0, 0, .flt .f64 0⟩, []⟩] true h121 c116 ⟨3, 65, r0, []⟩ ⟨3, 65, r0, []⟩ fun v122 h123 c124 =>
q_flatW ⟨3, 8, r0, []⟩ (
q_flatW v122 (
(fun (v125 : W) =>
q_allocW (allocT tys 26) 3 true h123 c124 fun v126 h127 c128 =>
q_storeAW 3 h127 v126 v125 fun h129 =>
q_fadW 2 v126 fun v130 =>
q_loadSW h129 v130 fun v131 =>
q_idxSW 1 v131 ⟨3, 0, r0, []⟩ fun v132 =>
q_storeSW h129 v132 ⟨12, 0, ⟨0, 0, 0, .flt .f64 4607182418800017408⟩, []⟩ fun h133 =>
q_loadAW 3 h133 v114 fun v134 =>
call 15 [v134, ⟨3, 8185, r0, []⟩] h133 c128 fun v135 h136 c137 =>
q_tupW v135 fun l138 => q_nthW 0 l138 fun v139 =>
q_tupW v135 fun l140 => q_nthW 1 l140 fun v141 =>
q_loadAW 3 h136 v114 fun v142 =>
call 15 [v142, ⟨3, 8186, r0, []⟩] h136 c137 fun v143 h144 c145 =>
q_tupW v143 fun l146 => q_nthW 0 l146 fun v147 =>
q_tupW v143 fun l148 => q_nthW 1 l148 fun v149 =>
q_cmpW (cmpF2 .neq) 3 (binC Try.prog .neq 3 (.tmp 100) (.const (.int .i64 (.ofNat 16))) (dec v20) (dec ⟨3, 16, r0, []⟩)) v20 ⟨3, 16, r0, []⟩ fun v150 =>
q_share _ (fun (v152 : W) (h153 : HW) (c154 : Nat) =>
q_share _ (fun (v156 : W) (h157 : HW) (c158 : Nat) =>
q_pickW v150 ⟨8, 1, r0, []⟩ v156 fun v159 =>
q_share _ (fun (v161 : W) (h162 : HW) (c163 : Nat) =>
q_share _ (fun (v165 : W) (h166 : HW) (c167 : Nat) =>
q_pickW v159 ⟨8, 1, r0, []⟩ v165 fun v168 =>
q_share _ (fun (v170 : W) (h171 : HW) (c172 : Nat) =>
q_share _ (fun (v174 : W) (h175 : HW) (c176 : Nat) =>
q_pickW v168 ⟨8, 1, r0, []⟩ v174 fun v177 =>
q_share _ (fun (v179 : W) (h180 : HW) (c181 : Nat) =>
q_share _ (fun (v183 : W) (h184 : HW) (c185 : Nat) =>
q_pickW v177 ⟨8, 1, r0, []⟩ v183 fun v186 =>
q_share _ (fun (v188 : W) (h189 : HW) (c190 : Nat) =>
q_share _ (fun (v192 : W) (h193 : HW) (c194 : Nat) =>
q_pickW v186 ⟨8, 1, r0, []⟩ v192 fun v195 =>
q_share _ (fun (v197 : W) (h198 : HW) (c199 : Nat) =>
q_share _ (fun (v201 : W) (h202 : HW) (c203 : Nat) =>
q_pickW v195 ⟨8, 1, r0, []⟩ v201 fun v204 =>
q_share _ (fun (v206 : W) (h207 : HW) (c208 : Nat) =>
q_share _ (fun (v210 : W) (h211 : HW) (c212 : Nat) =>
q_pickW v204 ⟨8, 1, r0, []⟩ v210 fun v213 =>
q_share _ (fun (v215 : W) (h216 : HW) (c217 : Nat) =>
q_share _ (fun (v219 : W) (h220 : HW) (c221 : Nat) =>
q_share _ (fun (v223 : W) (h224 : HW) (c225 : Nat) =>
q_pickW v213 ⟨8, 1, r0, []⟩ v223 fun v226 =>
q_share _ (fun (v228 : W) (h229 : HW) (c230 : Nat) =>
q_share _ (fun (v232 : W) (h233 : HW) (c234 : Nat) =>
q_share _ (fun (v236 : W) (h237 : HW) (c238 : Nat) =>
q_pickW v226 ⟨8, 1, r0, []⟩ v236 fun v239 =>
q_condW v239 (
q_killVW v90 h237 fun h240 =>
q_killVW v114 h240 fun h241 =>
q_killVW v126 h241 fun h242 =>
q_killVW wUnd h242 fun h243 =>
q_killVW wUnd h243 fun h244 =>
K ⟨8, 0, r0, []⟩ h244 c238) (
q_loadAW 3 h237 v114 fun v245 =>
q_makeSW 16 1 99 (.cpxs .f64) [⟨12, 0, ⟨0, 0, 0, .cpx .f64 0 0⟩, []⟩] true h237 c238 ⟨3, 8185, r0, []⟩ ⟨3, 8185, r0, []⟩ fun v246 h247 c248 =>
q_loadAW 3 h247 v114 fun v249 =>
q_samQW v249 v245 (
call 16 [v245, v246] h247 c248 fun v250 h251 c252 =>
q_tupW v250 fun l253 => q_nthW 0 l253 fun v254 =>
q_tupW v250 fun l255 => q_nthW 1 l255 fun v256 =>
q_loadAW 3 h251 v114 fun v257 =>
q_makeSW 16 1 99 (.cpxs .f64) [⟨12, 0, ⟨0, 0, 0, .cpx .f64 0 0⟩, []⟩] true h251 c252 ⟨3, 8186, r0, []⟩ ⟨3, 8186, r0, []⟩ fun v258 h259 c260 =>
q_loadAW 3 h259 v114 fun v261 =>
q_samQW v261 v257 (
call 16 [v257, v258] h259 c260 fun v262 h263 c264 =>
q_tupW v262 fun l265 => q_nthW 0 l265 fun v266 =>
q_tupW v262 fun l267 => q_nthW 1 l267 fun v268 =>
q_buildSW 1 99 (.flts .f64) 4 true h263 c264 4 [⟨12, 0, ⟨0, 0, 0, .flt .f64 4607182418800017408⟩, []⟩, ⟨12, 0, ⟨0, 0, 0, .flt .f64 4607182418800017408⟩, []⟩, ⟨12, 0, ⟨0, 0, 0, .flt .f64 4607182418800017408⟩, []⟩, ⟨12, 0, ⟨0, 0, 0, .flt .f64 13830554455654793216⟩, []⟩] fun v269 h270 c271 =>
q_flatW ⟨3, 5, r0, []⟩ (
q_flatW v269 (
(fun (v272 : W) =>
q_allocW (allocT tys 26) 3 true h270 c271 fun v273 h274 c275 =>
q_storeAW 3 h274 v273 v272 fun h276 =>
q_buildSW 1 99 (.flts .f64) 5 true h276 c275 5 [⟨12, 0, ⟨0, 0, 0, .flt .f64 4607182418800017408⟩, []⟩, ⟨12, 0, ⟨0, 0, 0, .flt .f64 4607182418800017408⟩, []⟩, ⟨12, 0, ⟨0, 0, 0, .flt .f64 4607182418800017408⟩, []⟩, ⟨12, 0, ⟨0, 0, 0, .flt .f64 13830554455654793216⟩, []⟩, ⟨12, 0, ⟨0, 0, 0, .flt .f64 4580160821035794432⟩, []⟩] fun v277 h278 c279 =>
q_flatW ⟨3, 5, r0, []⟩ (
q_flatW v277 (
(fun (v280 : W) =>
q_allocW (allocT tys 26) 3 true h278 c279 fun v281 h282 c283 =>
q_storeAW 3 h282 v281 v280 fun h284 =>
q_cmpW (cmpF2 .eql) 3 (binC Try.prog .eql 27 (.tmp 156) (.const (.int .i64 (.ofNat 0))) (dec v256) (dec ⟨3, 0, r0, []⟩)) v256 ⟨3, 0, r0, []⟩ fun v285 =>
q_share _ (fun (v287 : W) (h288 : HW) (c289 : Nat) =>
q_share _ (fun (v291 : W) (h292 : HW) (c293 : Nat) =>
q_pickW v285 v291 ⟨8, 0, r0, []⟩ fun v294 =>
q_share _ (fun (v296 : W) (h297 : HW) (c298 : Nat) =>
q_share _ (fun (v300 : W) (h301 : HW) (c302 : Nat) =>
q_share _ (fun (v304 : W) (h305 : HW) (c306 : Nat) =>
q_pickW v294 v304 ⟨8, 0, r0, []⟩ fun v307 =>
q_share _ (fun (v309 : W) (h310 : HW) (c311 : Nat) =>
q_share _ (fun (v313 : W) (h314 : HW) (c315 : Nat) =>
q_share _ (fun (v317 : W) (h318 : HW) (c319 : Nat) =>
q_pickW v307 v317 ⟨8, 0, r0, []⟩ fun v320 =>
q_share _ (fun (v322 : W) (h323 : HW) (c324 : Nat) =>
q_share _ (fun (v326 : W) (h327 : HW) (c328 : Nat) =>
q_share _ (fun (v330 : W) (h331 : HW) (c332 : Nat) =>
q_pickW v320 v330 ⟨8, 0, r0, []⟩ fun v333 =>
q_killVW v90 h331 fun h334 =>
q_killVW v114 h334 fun h335 =>
q_killVW v126 h335 fun h336 =>
q_killVW v273 h336 fun h337 =>
q_killVW v281 h337 fun h338 =>
K v333 h338 c332) fun f329 =>
q_guardW true v320 (q_cmpW (cmpF2 .eql) 3 (binC Try.prog .eql 27 (.tmp 174) (.const (.int .i64 (.ofNat 8))) (dec v326) (dec ⟨3, 8, r0, []⟩)) v326 ⟨3, 8, r0, []⟩ fun v339 =>
f329 v339 h327 c328) (f329 wUnd h327 c328)) fun f325 =>
q_guardW true v320 (call 14 [v322] h323 c324 fun v340 h341 c342 =>
f325 v340 h341 c342) (f325 wUnd h323 c324)) fun f321 =>
q_guardW true v320 (q_loadAW 3 h318 v281 fun v343 =>
f321 v343 h318 c319) (f321 wUnd h318 c319)) fun f316 =>
q_guardW true v307 (q_cmpW (cmpF2 .eql) 3 (binC Try.prog .eql 27 (.tmp 169) (.const (.int .i64 (.ofNat 0))) (dec v313) (dec ⟨3, 0, r0, []⟩)) v313 ⟨3, 0, r0, []⟩ fun v344 =>
f316 v344 h314 c315) (f316 wUnd h314 c315)) fun f312 =>
q_guardW true v307 (call 14 [v309] h310 c311 fun v345 h346 c347 =>
f312 v345 h346 c347) (f312 wUnd h310 c311)) fun f308 =>
q_guardW true v307 (q_loadAW 3 h305 v273 fun v348 =>
f308 v348 h305 c306) (f308 wUnd h305 c306)) fun f303 =>
q_guardW true v294 (q_cmpW (cmpF2 .eql) 3 (binC Try.prog .eql 3 (.tmp 164) (.const (.int .i64 (.ofNat 65536))) (dec v300) (dec ⟨3, 65536, r0, []⟩)) v300 ⟨3, 65536, r0, []⟩ fun v349 =>
f303 v349 h301 c302) (f303 wUnd h301 c302)) fun f299 =>
q_guardW true v294 (q_lenW (lenC tys 34 (dec v296)) v296 fun v350 =>
f299 v350 h297 c298) (f299 wUnd h297 c298)) fun f295 =>
q_guardW true v294 (f295 v254 h292 c293) (f295 wUnd h292 c293)) fun f290 =>
q_guardW true v285 (q_cmpW (cmpF2 .eql) 3 (binC Try.prog .eql 27 (.tmp 159) (.const (.int .i64 (.ofNat 1))) (dec v287) (dec ⟨3, 1, r0, []⟩)) v287 ⟨3, 1, r0, []⟩ fun v351 =>
f290 v351 h288 c289) (f290 wUnd h288 c289)) fun f286 =>
q_guardW true v285 (f286 v268 h284 c283) (f286 wUnd h284 c283)) ⟨15, 0, r0, [⟨3, 5, r0, []⟩, ⟨3, 0, r0, []⟩, v277]⟩))) ⟨15, 0, r0, [⟨3, 5, r0, []⟩, ⟨3, 0, r0, []⟩, v269]⟩)))))) fun f235 =>
q_guardW false v226 (q_cmpW (cmpF2 .neq) 3 (binC Try.prog .neq 27 (.tmp 137) (.const (.int .i64 (.ofNat 8))) (dec v232) (dec ⟨3, 8, r0, []⟩)) v232 ⟨3, 8, r0, []⟩ fun v352 =>
f235 v352 h233 c234) (f235 wUnd h233 c234)) fun f231 =>
q_guardW false v226 (call 14 [v228] h229 c230 fun v353 h354 c355 =>
f231 v353 h354 c355) (f231 wUnd h229 c230)) fun f227 =>
q_guardW false v226 (q_loadAW 3 h224 v126 fun v356 =>
f227 v356 h224 c225) (f227 wUnd h224 c225)) fun f222 =>
q_guardW false v213 (q_cmpW (cmpF2 .neq) 3 (binC Try.prog .neq 27 (.tmp 132) (.const (.int .i64 (.ofNat 0))) (dec v219) (dec ⟨3, 0, r0, []⟩)) v219 ⟨3, 0, r0, []⟩ fun v357 =>
f222 v357 h220 c221) (f222 wUnd h220 c221)) fun f218 =>
q_guardW false v213 (call 14 [v215] h216 c217 fun v358 h359 c360 =>
f218 v358 h359 c360) (f218 wUnd h216 c217)) fun f214 =>
q_guardW false v213 (q_loadAW 3 h211 v114 fun v361 =>
f214 v361 h211 c212) (f214 wUnd h211 c212)) fun f209 =>
q_guardW false v204 (q_cmpW (cmpF2 .neq) 3 (binC Try.prog .neq 27 (.tmp 127) (.const (.int .i64 (.ofNat 1))) (dec v206) (dec ⟨3, 1, r0, []⟩)) v206 ⟨3, 1, r0, []⟩ fun v362 =>
f209 v362 h207 c208) (f209 wUnd h207 c208)) fun f205 =>
q_guardW false v204 (f205 v149 h202 c203) (f205 wUnd h202 c203)) fun f200 =>
q_guardW false v195 (q_cmpW (cmpF2 .neq) 3 (binC Try.prog .neq 27 (.tmp 123) (.const (.int .i64 (.ofNat 0))) (dec v197) (dec ⟨3, 0, r0, []⟩)) v197 ⟨3, 0, r0, []⟩ fun v363 =>
f200 v363 h198 c199) (f200 wUnd h198 c199)) fun f196 =>
q_guardW false v195 (f196 v141 h193 c194) (f196 wUnd h193 c194)) fun f191 =>
q_guardW false v186 (q_cmpW (cmpF2 .neq) 3 (binC Try.prog .neq 3 (.tmp 119) (.const (.int .i64 (.ofNat 65536))) (dec v188) (dec ⟨3, 65536, r0, []⟩)) v188 ⟨3, 65536, r0, []⟩ fun v364 =>
f191 v364 h189 c190) (f191 wUnd h189 c190)) fun f187 =>
q_guardW false v186 (f187 v139 h184 c185) (f187 wUnd h184 c185)) fun f182 =>
q_guardW false v177 (q_cmpW (cmpF2 .neq) 3 (binC Try.prog .neq 27 (.tmp 115) (.const (.int .i64 (.ofNat 1))) (dec v179) (dec ⟨3, 1, r0, []⟩)) v179 ⟨3, 1, r0, []⟩ fun v365 =>
f182 v365 h180 c181) (f182 wUnd h180 c181)) fun f178 =>
q_guardW false v177 (f178 v109 h175 c176) (f178 wUnd h175 c176)) fun f173 =>
q_guardW false v168 (q_cmpW (cmpF2 .neq) 3 (binC Try.prog .neq 3 (.tmp 111) (.const (.int .i64 (.ofNat 65529))) (dec v170) (dec ⟨3, 65529, r0, []⟩)) v170 ⟨3, 65529, r0, []⟩ fun v366 =>
f173 v366 h171 c172) (f173 wUnd h171 c172)) fun f169 =>
q_guardW false v168 (f169 v99 h166 c167) (f169 wUnd h166 c167)) fun f164 =>
q_guardW false v159 (q_cmpW (cmpF2 .neq) 3 (binC Try.prog .neq 27 (.tmp 107) (.const (.int .i64 (.ofNat 0))) (dec v161) (dec ⟨3, 0, r0, []⟩)) v161 ⟨3, 0, r0, []⟩ fun v367 =>
f164 v367 h162 c163) (f164 wUnd h162 c163)) fun f160 =>
q_guardW false v159 (f160 v101 h157 c158) (f160 wUnd h157 c158)) fun f155 =>
q_guardW false v150 (q_cmpW (cmpF2 .neq) 3 (binC Try.prog .neq 27 (.tmp 103) (.const (.int .i64 (.ofNat 0))) (dec v152) (dec ⟨3, 0, r0, []⟩)) v152 ⟨3, 0, r0, []⟩ fun v368 =>
f155 v368 h153 c154) (f155 wUnd h153 c154)) fun f151 =>
q_guardW false v150 (f151 v89 h144 c145) (f151 wUnd h144 c145)) ⟨15, 0, r0, [⟨3, 8, r0, []⟩, ⟨3, 0, r0, []⟩, v122]⟩))) ⟨15, 0, r0, [⟨3, 8, r0, []⟩, ⟨3, 0, r0, []⟩, v110]⟩)))) fu ⟨3, 0, r0, []⟩ ⟨3, 0, r0, []⟩ h17 c18)
theorem R3_eq (Q : PrimW) (fu : Nat) (call : CallW) : curryA 0 (fnK Q Try.prog tys stl fu call e3) = R3 Q.share Q.addW Q.cmpW Q.notW Q.condW Q.guardW Q.pickW Q.fadW Q.idxSW Q.lenW Q.tupW Q.nthW Q.killVW Q.loadSW Q.loadAW Q.storeSW Q.storeAW Q.makeSW Q.allocW Q.buildSW Q.flatW Q.samQW fu call := by kernel_rfl
noncomputable def n3 : List W → HW → Nat → KW → Bool := appF 0 (R3 (fun _ x f => f x) addW cmpW notW condW guardW pickW fadW idxSW lenW tupW nthW killVW loadSW loadAW storeSW storeAW makeSW allocW buildSW flatW samQW 1000000 d11.fn)
theorem n3_ok : FnGood Try.prog tys stl tab 3 n3 := node_ok d11_ok (by kernel_rfl) rfl g3 (R3_eq real _ _)
noncomputable def d12 : Disp := (.node 46 n46 (.node 34 n34 (.node 14 n14 (.node 12 n12 (.node 3 n3 .leaf .leaf) (.node 13 n13 .leaf .leaf)) (.node 16 n16 (.node 15 n15 .leaf .leaf) (.node 28 n28 .leaf .leaf))) (.node 38 n38 (.node 36 n36 (.node 35 n35 .leaf .leaf) (.node 37 n37 .leaf .leaf)) (.node 45 n45 (.node 44 n44 .leaf .leaf) .leaf))) (.node 54 n54 (.node 50 n50 (.node 48 n48 (.node 47 n47 .leaf .leaf) (.node 49 n49 .leaf .leaf)) (.node 52 n52 (.node 51 n51 .leaf .leaf) (.node 53 n53 .leaf .leaf))) (.node 58 n58 (.node 56 n56 (.node 55 n55 .leaf .leaf) (.node 57 n57 .leaf .leaf)) (.node 60 n60 (.node 59 n59 .leaf .leaf) .leaf))))
theorem d12_ok : CallSim Try.prog tys stl tab d12.fn := Disp.sim ⟨n46_ok, ⟨n34_ok, ⟨n14_ok, ⟨n12_ok, ⟨n3_ok, True.intro, True.intro⟩, ⟨n13_ok, True.intro, True.intro⟩⟩, ⟨n16_ok, ⟨n15_ok, True.intro, True.intro⟩, ⟨n28_ok, True.intro, True.intro⟩⟩⟩, ⟨n38_ok, ⟨n36_ok, ⟨n35_ok, True.intro, True.intro⟩, ⟨n37_ok, True.intro, True.intro⟩⟩, ⟨n45_ok, ⟨n44_ok, True.intro, True.intro⟩, True.intro⟩⟩⟩, ⟨n54_ok, ⟨n50_ok, ⟨n48_ok, ⟨n47_ok, True.intro, True.intro⟩, ⟨n49_ok, True.intro, True.intro⟩⟩, ⟨n52_ok, ⟨n51_ok, True.intro, True.intro⟩, ⟨n53_ok, True.intro, True.intro⟩⟩⟩, ⟨n58_ok, ⟨n56_ok, ⟨n55_ok, True.intro, True.intro⟩, ⟨n57_ok, True.intro, True.intro⟩⟩, ⟨n60_ok, ⟨n59_ok, True.intro, True.intro⟩, True.intro⟩⟩⟩⟩
noncomputable abbrev dT : Disp := d12
theorem dT_ok : CallSim Try.prog tys stl tab dT.fn := d12_ok

set_option maxHeartbeats 0 in
theorem run3 : lawK dT.fn 3 = true := by kernel_rfl
namespace pulseNames
open Go.ChangeShapes Go.WideShapes Go.ChangeAt Go.RowKit
theorem own : ownKnob Try.prog.godebug = none := by kernel_rfl
theorem laid : laidOutB Try.prog = true := by kernel_rfl
theorem lifted (os : Os) (started : os.Started) (H : Type) (enc : TypeId × Value → H) :
    ReturnsInHanded {} Try.checked os 3 .any (Rows.pulseNamesSpec.pre6 enc Try.prog Try.f3 Rows.pulseNamesRow.domain false) (Rows.pulseNamesSpec.post enc Try.prog Try.f3 false true false false) := by
  refine returnsInHanded_of_change (C := Try.checked) own started (by kernel_rfl) Try.func3
    (ChangeSpec.witness6 (enc := enc) (C := Try.checked) false ⟨#[], #[], []⟩ 8 (by kernel_rfl) (by kernel_rfl) (by kernel_rfl) (by kernel_rfl)) ?_
  intro W base args ds gs before hval0 hW hcnd _
  have hW' := hW
  obtain ⟨p, q, hA0, hV, rfl, hfz, hnd⟩ := hW
  have hA : DataW.TrodAll enc Try.prog W 0 (fun _ => true) true Try.f3.params.toList args.toList ds p := hA0
  rw [Try.params3] at hA
  obtain ⟨hargs, rfl, rfl⟩ := trodAll_nil hA
  obtain rfl : args = #[] := by cases args; simp_all
  obtain ⟨rfl, rfl⟩ := trodVars_none hV
  clear hA0 hval0
  refine (lawK_true tok mixed fok dT_ok (by kernel_rfl : tab 3 = some e3) rfl run3 W).mono fun e W' ⟨he, hg⟩ => ?_
  subst he
  exact ⟨_, rfl, law_done laid rfl rfl Try.underlying4 (by kernel_rfl) hW' rfl hg⟩

theorem over : Rows.pulseNamesRow.holds Try.pinned (OpenSpec.ofChange Rows.pulseNamesSpec) :=
  OpenClaim.holds_of_wide 3 Try.f3 rfl rfl rfl rfl rfl rfl rfl ⟨rfl, rfl, rfl, rfl, rfl⟩ rfl rfl rfl rfl rfl (by kernel_rfl) Try.func3 (by kernel_rfl)
    (of_decide_eq_true (by kernel_rfl)) (by unfold Func.isWrapper; first | (rw [if_pos (by decide +kernel)]; kernel_rfl) | (rw [if_neg (by decide +kernel)]; exact ⟨rfl, rfl⟩))
    (fun os started H enc _ => lifted os started H enc)

theorem proved : Rows.PulseNamesSaid := over
end pulseNames
end Go.Proofs.Ytijedlkmhkljfaa
