/-
  foghornlaw06.TurnsNone returns true, whatever the memory it begins in. No condition.
-/
import Derived.Test.YtcckfdgpdmkjnaaRows
import Derived.Test.YtcckfdgpdmkjnaaGx
import Derived.WalkKit
import Derived.ProofKit
import Derived.OpenShut
set_option linter.unusedVariables false
set_option maxRecDepth 1000000
namespace Go.Proofs.Ytcckfdgpdmkjnaa
open Go Go.Fw
def tys : List (Nat × TyI) := [
  (1, ⟨.func, 1, 8, .nilFunc⟩),
  (2, ⟨.int .i64, 1, 8, .int .i64 0⟩),
  (3, ⟨.int .i64, 1, 8, .int .i64 0⟩),
  (4, ⟨.bool, 1, 1, .bool false⟩),
  (5, ⟨.int .u8, 1, 1, .int .u8 0⟩),
  (9, ⟨.str, 1, 16, .string (ByteArray.mk #[])⟩),
  (12, ⟨.int .u64, 1, 8, .int .u64 0⟩),
  (21, ⟨.int .i32, 1, 4, .int .i32 0⟩),
  (22, ⟨.slice 5, 1, 24, .slice none 0 0⟩),
  (23, ⟨.slice 4, 1, 24, .slice none 0 0⟩),
  (24, ⟨.func, 1, 8, .nilFunc⟩),
  (25, ⟨.func, 1, 8, .nilFunc⟩),
  (26, ⟨.func, 1, 8, .nilFunc⟩),
  (27, ⟨.func, 1, 8, .nilFunc⟩),
  (28, ⟨.func, 1, 8, .nilFunc⟩),
  (29, ⟨.float .f64, 1, 8, .float .f64 0⟩),
  (30, ⟨.slice 72, 1, 24, .slice none 0 0⟩),
  (31, ⟨.slice 73, 1, 24, .slice none 0 0⟩),
  (32, ⟨.struct [(0, 22), (1, 29), (2, 30), (3, 31), (4, 31), (5, 3)], 6, 112, .agg #[.slice none 0 0, .float .f64 0, .slice none 0 0, .slice none 0 0, .slice none 0 0, .int .i64 0]⟩),
  (33, ⟨.struct [(0, 22), (1, 29), (2, 30), (3, 31), (4, 31), (5, 3)], 6, 112, .agg #[.slice none 0 0, .float .f64 0, .slice none 0 0, .slice none 0 0, .slice none 0 0, .int .i64 0]⟩),
  (34, ⟨.slice 44, 1, 24, .slice none 0 0⟩),
  (35, ⟨.func, 1, 8, .nilFunc⟩),
  (36, ⟨.slice 42, 1, 24, .slice none 0 0⟩),
  (37, ⟨.func, 1, 8, .nilFunc⟩),
  (38, ⟨.int .i64, 1, 8, .int .i64 0⟩),
  (40, ⟨.func, 1, 8, .nilFunc⟩),
  (41, ⟨.func, 1, 8, .nilFunc⟩),
  (42, ⟨.cpx .f64, 1, 16, .complex .f64 0 0⟩),
  (43, ⟨.struct [(0, 42), (1, 4)], 2, 24, .agg #[.complex .f64 0 0, .bool false]⟩),
  (44, ⟨.struct [(0, 42), (1, 4)], 2, 24, .agg #[.complex .f64 0 0, .bool false]⟩),
  (46, ⟨.func, 1, 8, .nilFunc⟩),
  (47, ⟨.func, 1, 8, .nilFunc⟩),
  (49, ⟨.func, 1, 8, .nilFunc⟩),
  (50, ⟨.func, 1, 8, .nilFunc⟩),
  (52, ⟨.func, 1, 8, .nilFunc⟩),
  (53, ⟨.func, 1, 8, .nilFunc⟩),
  (54, ⟨.func, 1, 8, .nilFunc⟩),
  (56, ⟨.func, 1, 8, .nilFunc⟩),
  (58, ⟨.func, 1, 8, .nilFunc⟩),
  (59, ⟨.func, 1, 8, .nilFunc⟩),
  (60, ⟨.func, 1, 8, .nilFunc⟩),
  (61, ⟨.slice 65, 1, 24, .slice none 0 0⟩),
  (62, ⟨.struct [(0, 22), (1, 61), (2, 23), (3, 5)], 4, 80, .agg #[.slice none 0 0, .slice none 0 0, .slice none 0 0, .int .u8 0]⟩),
  (63, ⟨.struct [(0, 22), (1, 61), (2, 23), (3, 5)], 4, 80, .agg #[.slice none 0 0, .slice none 0 0, .slice none 0 0, .int .u8 0]⟩),
  (64, ⟨.int .i16, 1, 2, .int .i16 0⟩),
  (65, ⟨.array 2 64, 2, 4, .agg #[.int .i16 0, .int .i16 0]⟩),
  (66, ⟨.func, 1, 8, .nilFunc⟩),
  (67, ⟨.func, 1, 8, .nilFunc⟩),
  (68, ⟨.array 4 3, 4, 32, .agg #[.int .i64 0, .int .i64 0, .int .i64 0, .int .i64 0]⟩),
  (70, ⟨.func, 1, 8, .nilFunc⟩),
  (71, ⟨.struct [(0, 29), (1, 29), (2, 4)], 3, 24, .agg #[.float .f64 0, .float .f64 0, .bool false]⟩),
  (72, ⟨.struct [(0, 29), (1, 29), (2, 4)], 3, 24, .agg #[.float .f64 0, .float .f64 0, .bool false]⟩),
  (73, ⟨.array 2 29, 2, 16, .agg #[.float .f64 0, .float .f64 0]⟩),
  (74, ⟨.func, 1, 8, .nilFunc⟩),
  (75, ⟨.func, 1, 8, .nilFunc⟩),
  (76, ⟨.func, 1, 8, .nilFunc⟩),
  (77, ⟨.func, 1, 8, .nilFunc⟩),
  (78, ⟨.array 4 29, 4, 32, .agg #[.float .f64 0, .float .f64 0, .float .f64 0, .float .f64 0]⟩),
  (79, ⟨.slice 29, 1, 24, .slice none 0 0⟩),
  (80, ⟨.func, 1, 8, .nilFunc⟩),
  (81, ⟨.func, 1, 8, .nilFunc⟩),
  (82, ⟨.func, 1, 8, .nilFunc⟩),
  (83, ⟨.int .u64, 1, 8, .int .u64 0⟩),
  (84, ⟨.func, 1, 8, .nilFunc⟩),
  (85, ⟨.func, 1, 8, .nilFunc⟩),
  (91, ⟨.func, 1, 8, .nilFunc⟩),
  (92, ⟨.int .u32, 1, 4, .int .u32 0⟩),
  (95, ⟨.func, 1, 8, .nilFunc⟩),
  (96, ⟨.ptr 5, 1, 8, .pointer none⟩)]


theorem tok : TOk Try.prog tys := tok_of ⟨⟨by kernel_rfl, by kernel_rfl⟩, ⟨by kernel_rfl, by kernel_rfl⟩, ⟨by kernel_rfl, by kernel_rfl⟩, ⟨by kernel_rfl, by kernel_rfl⟩, ⟨by kernel_rfl, by kernel_rfl⟩, ⟨by kernel_rfl, by kernel_rfl⟩, ⟨by kernel_rfl, by kernel_rfl⟩, ⟨by kernel_rfl, by kernel_rfl⟩, ⟨by kernel_rfl, by kernel_rfl⟩, ⟨by kernel_rfl, by kernel_rfl⟩, ⟨by kernel_rfl, by kernel_rfl⟩, ⟨by kernel_rfl, by kernel_rfl⟩, ⟨by kernel_rfl, by kernel_rfl⟩, ⟨by kernel_rfl, by kernel_rfl⟩, ⟨by kernel_rfl, by kernel_rfl⟩, ⟨by kernel_rfl, by kernel_rfl⟩, ⟨by kernel_rfl, by kernel_rfl⟩, ⟨by kernel_rfl, by kernel_rfl⟩, ⟨by kernel_rfl, by kernel_rfl⟩, ⟨by kernel_rfl, by kernel_rfl⟩, ⟨by kernel_rfl, by kernel_rfl⟩, ⟨by kernel_rfl, by kernel_rfl⟩, ⟨by kernel_rfl, by kernel_rfl⟩, ⟨by kernel_rfl, by kernel_rfl⟩, ⟨by kernel_rfl, by kernel_rfl⟩, ⟨by kernel_rfl, by kernel_rfl⟩, ⟨by kernel_rfl, by kernel_rfl⟩, ⟨by kernel_rfl, by kernel_rfl⟩, ⟨by kernel_rfl, by kernel_rfl⟩, ⟨by kernel_rfl, by kernel_rfl⟩, ⟨by kernel_rfl, by kernel_rfl⟩, ⟨by kernel_rfl, by kernel_rfl⟩, ⟨by kernel_rfl, by kernel_rfl⟩, ⟨by kernel_rfl, by kernel_rfl⟩, ⟨by kernel_rfl, by kernel_rfl⟩, ⟨by kernel_rfl, by kernel_rfl⟩, ⟨by kernel_rfl, by kernel_rfl⟩, ⟨by kernel_rfl, by kernel_rfl⟩, ⟨by kernel_rfl, by kernel_rfl⟩, ⟨by kernel_rfl, by kernel_rfl⟩, ⟨by kernel_rfl, by kernel_rfl⟩, ⟨by kernel_rfl, by kernel_rfl⟩, ⟨by kernel_rfl, by kernel_rfl⟩, ⟨by kernel_rfl, by kernel_rfl⟩, ⟨by kernel_rfl, by kernel_rfl⟩, ⟨by kernel_rfl, by kernel_rfl⟩, ⟨by kernel_rfl, by kernel_rfl⟩, ⟨by kernel_rfl, by kernel_rfl⟩, ⟨by kernel_rfl, by kernel_rfl⟩, ⟨by kernel_rfl, by kernel_rfl⟩, ⟨by kernel_rfl, by kernel_rfl⟩, ⟨by kernel_rfl, by kernel_rfl⟩, ⟨by kernel_rfl, by kernel_rfl⟩, ⟨by kernel_rfl, by kernel_rfl⟩, ⟨by kernel_rfl, by kernel_rfl⟩, ⟨by kernel_rfl, by kernel_rfl⟩, ⟨by kernel_rfl, by kernel_rfl⟩, ⟨by kernel_rfl, by kernel_rfl⟩, ⟨by kernel_rfl, by kernel_rfl⟩, ⟨by kernel_rfl, by kernel_rfl⟩, ⟨by kernel_rfl, by kernel_rfl⟩, ⟨by kernel_rfl, by kernel_rfl⟩, ⟨by kernel_rfl, by kernel_rfl⟩, ⟨by kernel_rfl, by kernel_rfl⟩, ⟨by kernel_rfl, by kernel_rfl⟩, ⟨by kernel_rfl, by kernel_rfl⟩, ⟨by kernel_rfl, by kernel_rfl⟩, ⟨by kernel_rfl, by kernel_rfl⟩, ⟨by kernel_rfl, by kernel_rfl⟩, True.intro⟩
theorem mixed : Try.prog.follows .mixedOrders = true := by kernel_rfl
def inL : List Nat → Nat → Bool
  | [], _ => false
  | a :: r, n => match Nat.beq a n with | true => true | false => inL r n
def stl : Nat → Bool := inL [40, 41, 45]
/- 7: foghorn/foghornlaw06.TurnsNone -/
def p7 : Nat → Option PlanC := fun _ => none
def wl7 : Nat → List Nat := fun _ => []
def wj7 : Nat → Option (List Nat) := fun _ => none
def kr7 : Nat → List Nat := fun _ => []
noncomputable def e7 : Ent := entOf Try.f7 ⟨p7, wl7, wj7, kr7, []⟩
theorem g7 : EntOk Try.prog stl 7 e7 := .inr ⟨rfl, Try.func7, by kernel_rfl, by kernel_rfl, by kernel_rfl, by kernel_rfl, by kernel_rfl, rfl⟩
/- 9: foghorn/foghornlaw06.quarters -/
def p9 : Nat → Option PlanC := fun _ => none
def wl9 : Nat → List Nat := fun
  | 4 => [5]
  | _ => []
def wj9 : Nat → Option (List Nat) := fun _ => none
def kr9 : Nat → List Nat := fun _ => []
noncomputable def e9 : Ent := entOf Try.f9 ⟨p9, wl9, wj9, kr9, []⟩
theorem g9 : EntOk Try.prog stl 9 e9 := .inr ⟨rfl, Try.func9, by kernel_rfl, by kernel_rfl, by kernel_rfl, by kernel_rfl, by kernel_rfl, rfl⟩
/- 12: foghorn/foghornlaw06.awake -/
def p12 : Nat → Option PlanC := fun _ => none
def wl12 : Nat → List Nat := fun _ => []
def wj12 : Nat → Option (List Nat) := fun _ => none
def kr12 : Nat → List Nat := fun _ => []
noncomputable def e12 : Ent := entOf Try.f12 ⟨p12, wl12, wj12, kr12, []⟩
theorem g12 : EntOk Try.prog stl 12 e12 := .inr ⟨rfl, Try.func12, by kernel_rfl, by kernel_rfl, by kernel_rfl, by kernel_rfl, by kernel_rfl, rfl⟩
/- 15: foghorn/turns.Points -/
def p15 : Nat → Option PlanC := fun _ => none
def wl15 : Nat → List Nat := fun
  | 5 => [26]
  | _ => []
def wj15 : Nat → Option (List Nat) := fun _ => none
def kr15 : Nat → List Nat := fun _ => []
noncomputable def e15 : Ent := entOf Try.f15 ⟨p15, wl15, wj15, kr15, []⟩
theorem g15 : EntOk Try.prog stl 15 e15 := .inr ⟨rfl, Try.func15, by kernel_rfl, by kernel_rfl, by kernel_rfl, by kernel_rfl, by kernel_rfl, rfl⟩
/- 21: foghorn/turns.Near -/
def p21 : Nat → Option PlanC := fun _ => none
def wl21 : Nat → List Nat := fun
  | 6 => [5, 32]
  | _ => []
def wj21 : Nat → Option (List Nat) := fun
  | 10 => some [5]
  | _ => none
def kr21 : Nat → List Nat := fun _ => []
noncomputable def e21 : Ent := entOf Try.f21 ⟨p21, wl21, wj21, kr21, [4]⟩
theorem g21 : EntOk Try.prog stl 21 e21 := .inr ⟨rfl, Try.func21, by kernel_rfl, by kernel_rfl, by kernel_rfl, by kernel_rfl, by kernel_rfl, rfl⟩
/- 25: foghorn/turns.Found -/
def p25 : Nat → Option PlanC := fun _ => none
def wl25 : Nat → List Nat := fun
  | 4 => [17]
  | _ => []
def wj25 : Nat → Option (List Nat) := fun _ => none
def kr25 : Nat → List Nat := fun _ => []
noncomputable def e25 : Ent := entOf Try.f25 ⟨p25, wl25, wj25, kr25, []⟩
theorem g25 : EntOk Try.prog stl 25 e25 := .inr ⟨rfl, Try.func25, by kernel_rfl, by kernel_rfl, by kernel_rfl, by kernel_rfl, by kernel_rfl, rfl⟩
/- 28: foghorn/turns.Into -/
def p28 : Nat → Option PlanC := fun _ => none
def wl28 : Nat → List Nat := fun
  | 6 => [17]
  | _ => []
def wj28 : Nat → Option (List Nat) := fun _ => none
def kr28 : Nat → List Nat := fun _ => []
noncomputable def e28 : Ent := entOf Try.f28 ⟨p28, wl28, wj28, kr28, []⟩
theorem g28 : EntOk Try.prog stl 28 e28 := .inr ⟨rfl, Try.func28, by kernel_rfl, by kernel_rfl, by kernel_rfl, by kernel_rfl, by kernel_rfl, rfl⟩
/- 29: foghorn/turns.Out -/
def p29 : Nat → Option PlanC := fun _ => none
def wl29 : Nat → List Nat := fun
  | 6 => [5, 16]
  | _ => []
def wj29 : Nat → Option (List Nat) := fun _ => none
def kr29 : Nat → List Nat := fun _ => []
noncomputable def e29 : Ent := entOf Try.f29 ⟨p29, wl29, wj29, kr29, []⟩
theorem g29 : EntOk Try.prog stl 29 e29 := .inr ⟨rfl, Try.func29, by kernel_rfl, by kernel_rfl, by kernel_rfl, by kernel_rfl, by kernel_rfl, rfl⟩
/- 30: foghorn/turns.Bits -/
def p30 : Nat → Option PlanC := fun _ => none
def wl30 : Nat → List Nat := fun
  | 5 => [4, 21]
  | _ => []
def wj30 : Nat → Option (List Nat) := fun _ => none
def kr30 : Nat → List Nat := fun
  | 7 => [34]
  | _ => []
noncomputable def e30 : Ent := entOf Try.f30 ⟨p30, wl30, wj30, kr30, []⟩
theorem g30 : EntOk Try.prog stl 30 e30 := .inr ⟨rfl, Try.func30, by kernel_rfl, by kernel_rfl, by kernel_rfl, by kernel_rfl, by kernel_rfl, rfl⟩
/- 31: foghorn/turns.Of -/
def p31 : Nat → Option PlanC := fun _ => none
def wl31 : Nat → List Nat := fun
  | 5 => [23]
  | _ => []
def wj31 : Nat → Option (List Nat) := fun
  | 14 => some []
  | _ => none
def kr31 : Nat → List Nat := fun _ => []
noncomputable def e31 : Ent := entOf Try.f31 ⟨p31, wl31, wj31, kr31, []⟩
theorem g31 : EntOk Try.prog stl 31 e31 := .inr ⟨rfl, Try.func31, by kernel_rfl, by kernel_rfl, by kernel_rfl, by kernel_rfl, by kernel_rfl, rfl⟩
/- 32: foghorn/turns.Marked -/
def p32 : Nat → Option PlanC := fun _ => none
def wl32 : Nat → List Nat := fun
  | 8 => [29]
  | _ => []
def wj32 : Nat → Option (List Nat) := fun
  | 13 => some []
  | _ => none
def kr32 : Nat → List Nat := fun _ => []
noncomputable def e32 : Ent := entOf Try.f32 ⟨p32, wl32, wj32, kr32, []⟩
theorem g32 : EntOk Try.prog stl 32 e32 := .inr ⟨rfl, Try.func32, by kernel_rfl, by kernel_rfl, by kernel_rfl, by kernel_rfl, by kernel_rfl, rfl⟩
/- 40: foghorn/turns.isRow -/
def p40 : Nat → Option PlanC := fun _ => none
def wl40 : Nat → List Nat := fun
  | 4 => [10]
  | _ => []
def wj40 : Nat → Option (List Nat) := fun _ => none
def kr40 : Nat → List Nat := fun _ => []
noncomputable def e40 : Ent := entOf Try.f40 ⟨p40, wl40, wj40, kr40, []⟩
theorem g40 : EntOk Try.prog stl 40 e40 := .inr ⟨rfl, Try.func40, by kernel_rfl, by kernel_rfl, by kernel_rfl, by kernel_rfl, by kernel_rfl, rfl⟩
/- 41: foghorn/plane.Turn -/
def p41 : Nat → Option PlanC := fun _ => none
def wl41 : Nat → List Nat := fun _ => []
def wj41 : Nat → Option (List Nat) := fun _ => none
def kr41 : Nat → List Nat := fun _ => []
noncomputable def e41 : Ent := entOf Try.f41 ⟨p41, wl41, wj41, kr41, []⟩
theorem g41 : EntOk Try.prog stl 41 e41 := .inr ⟨rfl, Try.func41, by kernel_rfl, by kernel_rfl, by kernel_rfl, by kernel_rfl, by kernel_rfl, rfl⟩
/- 45: math.IsNaN -/
def p45 : Nat → Option PlanC := fun _ => none
def wl45 : Nat → List Nat := fun _ => []
def wj45 : Nat → Option (List Nat) := fun _ => none
def kr45 : Nat → List Nat := fun _ => []
noncomputable def e45 : Ent := entOf Try.f45 ⟨p45, wl45, wj45, kr45, []⟩
theorem g45 : EntOk Try.prog stl 45 e45 := .inr ⟨rfl, Try.func45, by kernel_rfl, by kernel_rfl, by kernel_rfl, by kernel_rfl, by kernel_rfl, rfl⟩
/- 46: foghorn/turns.isTurned -/
def p46 : Nat → Option PlanC := fun
  | 4 => some (.op 0 false (.op 1 false (.op 2 false (.op 3 false (.op 4 false (.op 5 false (.op 6 false (.op 7 false (.done)))))))))
  | _ => none
def wl46 : Nat → List Nat := fun
  | 2 => [11]
  | _ => []
def wj46 : Nat → Option (List Nat) := fun _ => none
def kr46 : Nat → List Nat := fun _ => []
noncomputable def e46 : Ent := entOf Try.f46 ⟨p46, wl46, wj46, kr46, []⟩
theorem g46 : EntOk Try.prog stl 46 e46 := .inr ⟨rfl, Try.func46, by kernel_rfl, by kernel_rfl, by kernel_rfl, by kernel_rfl, by kernel_rfl, rfl⟩
/- 47: foghorn/turns.turning -/
def p47 : Nat → Option PlanC := fun _ => none
def wl47 : Nat → List Nat := fun _ => []
def wj47 : Nat → Option (List Nat) := fun _ => none
def kr47 : Nat → List Nat := fun _ => []
noncomputable def e47 : Ent := entOf Try.f47 ⟨p47, wl47, wj47, kr47, []⟩
theorem g47 : EntOk Try.prog stl 47 e47 := .inr ⟨rfl, Try.func47, by kernel_rfl, by kernel_rfl, by kernel_rfl, by kernel_rfl, by kernel_rfl, rfl⟩
/- 49: foghorn/turns.turning$1 -/
def p49 : Nat → Option PlanC := fun _ => none
def wl49 : Nat → List Nat := fun _ => []
def wj49 : Nat → Option (List Nat) := fun _ => none
def kr49 : Nat → List Nat := fun _ => []
noncomputable def e49 : Ent := entOf Try.f49 ⟨p49, wl49, wj49, kr49, []⟩
theorem g49 : EntOk Try.prog stl 49 e49 := .inr ⟨rfl, Try.func49, by kernel_rfl, by kernel_rfl, by kernel_rfl, by kernel_rfl, by kernel_rfl, rfl⟩
noncomputable def ents : List (Nat × Ent) := [(7, e7), (9, e9), (12, e12), (15, e15), (21, e21), (25, e25), (28, e28), (29, e29), (30, e30), (31, e31), (32, e32), (40, e40), (41, e41), (45, e45), (46, e46), (47, e47), (49, e49)]
theorem goods : EntsOk Try.prog stl ents := ⟨g7, g9, g12, g15, g21, g25, g28, g29, g30, g31, g32, g40, g41, g45, g46, g47, g49, True.intro⟩
noncomputable def tab : Nat → Option Ent := (tabOf ents).get
theorem fok : FOk Try.prog stl tab := fok_of goods
noncomputable def d0 : Disp := .leaf
theorem d0_ok : CallSim Try.prog tys stl tab d0.fn := Disp.sim True.intro
/- foghorn/foghornlaw06.quarters -/
noncomputable def R9 (q_addW : Nat → Nat → Option CV → W → W → (W → Bool) → Bool) (q_cmpW : (Nat → Nat → Bool) → Nat → Option CV → W → W → (W → Bool) → Bool) (q_condW : W → Bool → Bool → Bool) (q_idxSW : Nat → W → W → (W → Bool) → Bool) (q_lenW : Option CV → W → (W → Bool) → Bool) (q_loadSW : HW → W → (W → Bool) → Bool) (fu : Nat) (call : CallW) (a0 : W) (a1 : W) (h0 : HW) (c0 : Nat) (K : KW) : Bool :=
q_lenW (lenC tys 22 (dec a0)) a0 fun v1 =>
q_lenW (lenC tys 22 (dec a1)) a1 fun v2 =>
q_cmpW (cmpF2 .neq) 3 (binC Try.prog .neq 3 (.tmp 7) (.tmp 9) (dec v1) (dec v2)) v1 v2 fun v3 =>
q_condW v3 (
K ⟨8, 0, r0, []⟩ h0 c0) (
@Nat.rec (fun _ => Fun 1) (fun _ _ _ => false) (fun _ f7 v4 h5 c6 =>
q_lenW (lenC tys 22 (dec a0)) a0 fun v8 =>
q_cmpW (cmpF2 .lss) 3 (binC Try.prog .lss 3 (.tmp 11) (.tmp 13) (dec v4) (dec v8)) v4 v8 fun v9 =>
q_condW v9 (
q_idxSW 1 a0 v4 fun v10 =>
q_loadSW h5 v10 fun v11 =>
q_idxSW 1 a1 v4 fun v12 =>
q_loadSW h5 v12 fun v13 =>
q_cmpW (cmpF2 .neq) 4 (binC Try.prog .neq 5 (.tmp 20) (.tmp 24) (dec v11) (dec v13)) v11 v13 fun v14 =>
q_condW v14 (
K ⟨8, 0, r0, []⟩ h5 c6) (
q_addW 3 9223372036854775807 (binC Try.prog .add 3 (.tmp 15) (.const (.int .i64 (.ofNat 1))) (dec v4) (dec ⟨3, 1, r0, []⟩)) v4 ⟨3, 1, r0, []⟩ fun v15 =>
f7 v15 h5 c6)) (
K ⟨8, 1, r0, []⟩ h5 c6)) fu ⟨3, 0, r0, []⟩ h0 c0)
theorem R9_eq (Q : PrimW) (fu : Nat) (call : CallW) : curryA 2 (fnK Q Try.prog tys stl fu call e9) = R9 Q.addW Q.cmpW Q.condW Q.idxSW Q.lenW Q.loadSW fu call := by kernel_rfl
noncomputable def n9 : List W → HW → Nat → KW → Bool := appF 2 (R9 addW cmpW condW idxSW lenW loadSW 1000000 d0.fn)
theorem n9_ok : FnGood Try.prog tys stl tab 9 n9 := node_ok d0_ok (by kernel_rfl) rfl g9 (R9_eq real _ _)
/- foghorn/turns.Of -/
noncomputable def R31 (q_share : (α : Type) → α → (α → Bool) → Bool) (q_addW : Nat → Nat → Option CV → W → W → (W → Bool) → Bool) (q_mulW : Nat → Nat → Option CV → W → W → (W → Bool) → Bool) (q_quoW : Nat → Nat → Option CV → W → W → (W → Bool) → Bool) (q_remW : Nat → Nat → Option CV → W → W → (W → Bool) → Bool) (q_cmpW : (Nat → Nat → Bool) → Nat → Option CV → W → W → (W → Bool) → Bool) (q_condW : W → Bool → Bool → Bool) (q_guardW : Bool → W → Bool → Bool → Bool) (q_pickW : W → W → W → (W → Bool) → Bool) (q_idxSW : Nat → W → W → (W → Bool) → Bool) (q_lenW : Option CV → W → (W → Bool) → Bool) (q_loadSW : HW → W → (W → Bool) → Bool) (q_storeSW : HW → W → W → (HW → Bool) → Bool) (q_makeSW : Nat → Nat → Nat → Kind → List W → Bool → HW → Nat → W → W → KW → Bool) (fu : Nat) (call : CallW) (a0 : W) (h0 : HW) (c0 : Nat) (K : KW) : Bool :=
q_lenW (lenC tys 23 (dec a0)) a0 fun v1 =>
q_cmpW (cmpF2 .gtr) 3 (binC Try.prog .gtr 3 (.tmp 9) (.const (.int .i64 (.ofNat 32768))) (dec v1) (dec ⟨3, 32768, r0, []⟩)) v1 ⟨3, 32768, r0, []⟩ fun v2 =>
q_share _ (fun (v4 : W) (h5 : HW) (c6 : Nat) =>
q_share _ (fun (v8 : W) (h9 : HW) (c10 : Nat) =>
q_share _ (fun (v12 : W) (h13 : HW) (c14 : Nat) =>
q_share _ (fun (v16 : W) (h17 : HW) (c18 : Nat) =>
q_pickW v2 ⟨8, 1, r0, []⟩ v16 fun v19 =>
q_condW v19 (
K ⟨13, 0, r0, [⟨12, 0, ⟨0, 0, 0, .nils⟩, []⟩, ⟨3, 1, r0, []⟩]⟩ h17 c18) (
q_lenW (lenC tys 23 (dec a0)) a0 fun v20 =>
q_quoW 3 9223372036854775807 (binC Try.prog .quo 3 (.tmp 18) (.const (.int .i64 (.ofNat 2))) (dec v20) (dec ⟨3, 2, r0, []⟩)) v20 ⟨3, 2, r0, []⟩ fun v21 =>
q_makeSW 1 1 4 (.ints .u8) [⟨4, 0, r0, []⟩] true h17 c18 v21 v21 fun v22 h23 c24 =>
q_lenW (lenC tys 22 (dec v22)) v22 fun v25 =>
@Nat.rec (fun _ => Fun 1) (fun _ _ _ => false) (fun _ f29 v26 h27 c28 =>
q_cmpW (cmpF2 .lss) 3 (binC Try.prog .lss 3 (.tmp 23) (.tmp 22) (dec v26) (dec v25)) v26 v25 fun v30 =>
q_condW v30 (
q_share _ (fun  (h31 : HW) (c32 : Nat) =>
q_addW 3 9223372036854775807 (binC Try.prog .add 3 (.tmp 23) (.const (.int .i64 (.ofNat 1))) (dec v26) (dec ⟨3, 1, r0, []⟩)) v26 ⟨3, 1, r0, []⟩ fun v34 =>
f29 v34 h31 c32) fun f33 =>
q_mulW 3 9223372036854775807 (binC Try.prog .mul 3 (.const (.int .i64 (.ofNat 2))) (.tmp 27) (dec ⟨3, 2, r0, []⟩) (dec v26)) ⟨3, 2, r0, []⟩ v26 fun v35 =>
q_idxSW 1 a0 v35 fun v36 =>
q_loadSW h27 v36 fun v37 =>
q_mulW 3 9223372036854775807 (binC Try.prog .mul 3 (.const (.int .i64 (.ofNat 2))) (.tmp 32) (dec ⟨3, 2, r0, []⟩) (dec v26)) ⟨3, 2, r0, []⟩ v26 fun v38 =>
q_addW 3 9223372036854775807 (binC Try.prog .add 3 (.tmp 33) (.const (.int .i64 (.ofNat 1))) (dec v38) (dec ⟨3, 1, r0, []⟩)) v38 ⟨3, 1, r0, []⟩ fun v39 =>
q_idxSW 1 a0 v39 fun v40 =>
q_loadSW h27 v40 fun v41 =>
q_share _ (fun (v43 : W) (h44 : HW) (c45 : Nat) =>
q_pickW v37 v43 ⟨8, 0, r0, []⟩ fun v46 =>
q_condW v46 (
q_idxSW 1 v22 v26 fun v47 =>
q_storeSW h44 v47 ⟨4, 2, r0, []⟩ fun h48 =>
f33 h48 c45) (
q_condW v37 (
q_idxSW 1 v22 v26 fun v49 =>
q_storeSW h44 v49 ⟨4, 3, r0, []⟩ fun h50 =>
f33 h50 c45) (
q_condW v41 (
q_idxSW 1 v22 v26 fun v51 =>
q_storeSW h44 v51 ⟨4, 1, r0, []⟩ fun h52 =>
f33 h52 c45) (
f33 h44 c45)))) fun f42 =>
q_guardW true v37 (f42 v41 h27 c28) (f42 wUnd h27 c28)) (
K ⟨13, 0, r0, [v22, ⟨3, 0, r0, []⟩]⟩ h27 c28)) fu ⟨3, 0, r0, []⟩ h23 c24)) fun f15 =>
q_guardW false v2 (q_cmpW (cmpF2 .neq) 3 (binC Try.prog .neq 3 (.tmp 14) (.const (.int .i64 (.ofNat 0))) (dec v12) (dec ⟨3, 0, r0, []⟩)) v12 ⟨3, 0, r0, []⟩ fun v53 =>
f15 v53 h13 c14) (f15 wUnd h13 c14)) fun f11 =>
q_guardW false v2 (q_remW 3 9223372036854775807 (binC Try.prog .rem 3 (.tmp 13) (.const (.int .i64 (.ofNat 2))) (dec v8) (dec ⟨3, 2, r0, []⟩)) v8 ⟨3, 2, r0, []⟩ fun v54 =>
f11 v54 h9 c10) (f11 wUnd h9 c10)) fun f7 =>
q_guardW false v2 (q_lenW (lenC tys 23 (dec v4)) v4 fun v55 =>
f7 v55 h5 c6) (f7 wUnd h5 c6)) fun f3 =>
q_guardW false v2 (f3 a0 h0 c0) (f3 wUnd h0 c0)
theorem R31_eq (Q : PrimW) (fu : Nat) (call : CallW) : curryA 1 (fnK Q Try.prog tys stl fu call e31) = R31 Q.share Q.addW Q.mulW Q.quoW Q.remW Q.cmpW Q.condW Q.guardW Q.pickW Q.idxSW Q.lenW Q.loadSW Q.storeSW Q.makeSW fu call := by kernel_rfl
noncomputable def n31 : List W → HW → Nat → KW → Bool := appF 1 (R31 (fun _ x f => f x) addW mulW quoW remW cmpW condW guardW pickW idxSW lenW loadSW storeSW makeSW 1000000 d0.fn)
theorem n31_ok : FnGood Try.prog tys stl tab 31 n31 := node_ok d0_ok (by kernel_rfl) rfl g31 (R31_eq real _ _)
/- foghorn/turns.isRow -/
noncomputable def R40 (q_addW : Nat → Nat → Option CV → W → W → (W → Bool) → Bool) (q_cmpW : (Nat → Nat → Bool) → Nat → Option CV → W → W → (W → Bool) → Bool) (q_condW : W → Bool → Bool → Bool) (q_idxSW : Nat → W → W → (W → Bool) → Bool) (q_lenW : Option CV → W → (W → Bool) → Bool) (q_loadSW : HW → W → (W → Bool) → Bool) (fu : Nat) (call : CallW) (a0 : W) (h0 : HW) (c0 : Nat) (K : KW) : Bool :=
q_lenW (lenC tys 22 (dec a0)) a0 fun v1 =>
q_cmpW (cmpF2 .gtr) 3 (binC Try.prog .gtr 3 (.tmp 6) (.const (.int .i64 (.ofNat 65536))) (dec v1) (dec ⟨3, 65536, r0, []⟩)) v1 ⟨3, 65536, r0, []⟩ fun v2 =>
q_condW v2 (
K ⟨8, 0, r0, []⟩ h0 c0) (
q_lenW (lenC tys 22 (dec a0)) a0 fun v3 =>
@Nat.rec (fun _ => Fun 1) (fun _ _ _ => false) (fun _ f7 v4 h5 c6 =>
q_cmpW (cmpF2 .lss) 3 (binC Try.prog .lss 3 (.tmp 10) (.tmp 9) (dec v4) (dec v3)) v4 v3 fun v8 =>
q_condW v8 (
q_idxSW 1 a0 v4 fun v9 =>
q_loadSW h5 v9 fun v10 =>
q_cmpW (cmpF2 .gtr) 4 (binC Try.prog .gtr 5 (.tmp 14) (.const (.int .u8 (.ofNat 3))) (dec v10) (dec ⟨4, 3, r0, []⟩)) v10 ⟨4, 3, r0, []⟩ fun v11 =>
q_condW v11 (
K ⟨8, 0, r0, []⟩ h5 c6) (
q_addW 3 9223372036854775807 (binC Try.prog .add 3 (.tmp 10) (.const (.int .i64 (.ofNat 1))) (dec v4) (dec ⟨3, 1, r0, []⟩)) v4 ⟨3, 1, r0, []⟩ fun v12 =>
f7 v12 h5 c6)) (
K ⟨8, 1, r0, []⟩ h5 c6)) fu ⟨3, 0, r0, []⟩ h0 c0)
theorem R40_eq (Q : PrimW) (fu : Nat) (call : CallW) : curryA 1 (fnK Q Try.prog tys stl fu call e40) = R40 Q.addW Q.cmpW Q.condW Q.idxSW Q.lenW Q.loadSW fu call := by kernel_rfl
noncomputable def n40 : List W → HW → Nat → KW → Bool := appF 1 (R40 addW cmpW condW idxSW lenW loadSW 1000000 d0.fn)
theorem n40_ok : FnGood Try.prog tys stl tab 40 n40 := node_ok d0_ok (by kernel_rfl) rfl g40 (R40_eq real _ _)
/- foghorn/plane.Turn -/
noncomputable def R41 (q_genW : Option CV → (W → Bool) → Bool) (q_bitW : (Nat → Nat → Nat) → Nat → Nat → Option CV → W → W → (W → Bool) → Bool) (q_cmpW : (Nat → Nat → Bool) → Nat → Option CV → W → W → (W → Bool) → Bool) (q_condW : W → Bool → Bool → Bool) (fu : Nat) (call : CallW) (a0 : W) (a1 : W) (h0 : HW) (c0 : Nat) (K : KW) : Bool :=
q_genW (two Try.prog (dec a0) fun v => Builtin.real_ #[42] 29 #[v]) fun v1 =>
q_genW (two Try.prog (dec a0) fun v => Builtin.imag_ #[42] 29 #[v]) fun v2 =>
q_bitW Nat.land 3 9223372036854775807 (binC Try.prog .and 3 (.tmp 11) (.const (.int .i64 (.ofNat 3))) (dec a1) (dec ⟨3, 3, r0, []⟩)) a1 ⟨3, 3, r0, []⟩ fun v3 =>
q_cmpW (cmpF2 .eql) 3 (binC Try.prog .eql 3 (.tmp 12) (.const (.int .i64 (.ofNat 1))) (dec v3) (dec ⟨3, 1, r0, []⟩)) v3 ⟨3, 1, r0, []⟩ fun v4 =>
q_condW v4 (
q_genW (two Try.prog (dec v2) (Op.unary .neg)) fun v5 =>
q_genW (two2 Try.prog (dec v5) (dec v1) fun v u => Builtin.complex_ #[29, 29] 42 #[v, u]) fun v6 =>
K v6 h0 c0) (
q_cmpW (cmpF2 .eql) 3 (binC Try.prog .eql 3 (.tmp 12) (.const (.int .i64 (.ofNat 2))) (dec v3) (dec ⟨3, 2, r0, []⟩)) v3 ⟨3, 2, r0, []⟩ fun v7 =>
q_condW v7 (
q_genW (two Try.prog (dec v1) (Op.unary .neg)) fun v8 =>
q_genW (two Try.prog (dec v2) (Op.unary .neg)) fun v9 =>
q_genW (two2 Try.prog (dec v8) (dec v9) fun v u => Builtin.complex_ #[29, 29] 42 #[v, u]) fun v10 =>
K v10 h0 c0) (
q_cmpW (cmpF2 .eql) 3 (binC Try.prog .eql 3 (.tmp 12) (.const (.int .i64 (.ofNat 3))) (dec v3) (dec ⟨3, 3, r0, []⟩)) v3 ⟨3, 3, r0, []⟩ fun v11 =>
q_condW v11 (
q_genW (two Try.prog (dec v1) (Op.unary .neg)) fun v12 =>
q_genW (two2 Try.prog (dec v2) (dec v12) fun v u => Builtin.complex_ #[29, 29] 42 #[v, u]) fun v13 =>
K v13 h0 c0) (
K a0 h0 c0)))
theorem R41_eq (Q : PrimW) (fu : Nat) (call : CallW) : curryA 2 (fnK Q Try.prog tys stl fu call e41) = R41 Q.genW Q.bitW Q.cmpW Q.condW fu call := by kernel_rfl
noncomputable def n41 : List W → HW → Nat → KW → Bool := appF 2 (R41 genW bitW cmpW condW 1000000 d0.fn)
theorem n41_ok : FnGood Try.prog tys stl tab 41 n41 := node_ok d0_ok (by kernel_rfl) rfl g41 (R41_eq real _ _)
/- math.IsNaN -/
noncomputable def R45 (q_genW : Option CV → (W → Bool) → Bool) (fu : Nat) (call : CallW) (a0 : W) (h0 : HW) (c0 : Nat) (K : KW) : Bool :=
q_genW (binC Try.prog .neq 29 (.tmp 3) (.tmp 4) (dec a0) (dec a0)) fun v1 =>
K v1 h0 c0
theorem R45_eq (Q : PrimW) (fu : Nat) (call : CallW) : curryA 1 (fnK Q Try.prog tys stl fu call e45) = R45 Q.genW fu call := by kernel_rfl
noncomputable def n45 : List W → HW → Nat → KW → Bool := appF 1 (R45 genW 1000000 d0.fn)
theorem n45_ok : FnGood Try.prog tys stl tab 45 n45 := node_ok d0_ok (by kernel_rfl) rfl g45 (R45_eq real _ _)
/- foghorn/turns.turning -/
noncomputable def R47 (q_allocW : Trie W → Nat → Bool → HW → Nat → KW → Bool) (fu : Nat) (call : CallW) (h0 : HW) (c0 : Nat) (K : KW) : Bool :=
q_allocW (allocT tys 5) 1 true h0 c0 fun v1 h2 c3 =>
(fun (v4 : W) =>
K v4 h2 c3) ⟨14, 49, r0, [v1]⟩
theorem R47_eq (Q : PrimW) (fu : Nat) (call : CallW) : curryA 0 (fnK Q Try.prog tys stl fu call e47) = R47 Q.allocW fu call := by kernel_rfl
noncomputable def n47 : List W → HW → Nat → KW → Bool := appF 0 (R47 allocW 1000000 d0.fn)
theorem n47_ok : FnGood Try.prog tys stl tab 47 n47 := node_ok d0_ok (by kernel_rfl) rfl g47 (R47_eq real _ _)
/- foghorn/turns.turning$1 -/
noncomputable def R49 (q_addW : Nat → Nat → Option CV → W → W → (W → Bool) → Bool) (q_bitW : (Nat → Nat → Nat) → Nat → Nat → Option CV → W → W → (W → Bool) → Bool) (q_loadSW : HW → W → (W → Bool) → Bool) (q_storeSW : HW → W → W → (HW → Bool) → Bool) (fu : Nat) (call : CallW) (a0 : W) (a1 : W) (h0 : HW) (c0 : Nat) (K : KW) : Bool :=
q_loadSW h0 a1 fun v1 =>
q_addW 4 255 (binC Try.prog .add 5 (.tmp 4) (.tmp 5) (dec v1) (dec a0)) v1 a0 fun v2 =>
q_bitW Nat.land 4 255 (binC Try.prog .and 5 (.tmp 6) (.const (.int .u8 (.ofNat 3))) (dec v2) (dec ⟨4, 3, r0, []⟩)) v2 ⟨4, 3, r0, []⟩ fun v3 =>
q_storeSW h0 a1 v3 fun h4 =>
q_loadSW h4 a1 fun v5 =>
K v5 h4 c0
theorem R49_eq (Q : PrimW) (fu : Nat) (call : CallW) : curryA 2 (fnK Q Try.prog tys stl fu call e49) = R49 Q.addW Q.bitW Q.loadSW Q.storeSW fu call := by kernel_rfl
noncomputable def n49 : List W → HW → Nat → KW → Bool := appF 2 (R49 addW bitW loadSW storeSW 1000000 d0.fn)
theorem n49_ok : FnGood Try.prog tys stl tab 49 n49 := node_ok d0_ok (by kernel_rfl) rfl g49 (R49_eq real _ _)
noncomputable def d1 : Disp := (.node 41 n41 (.node 31 n31 (.node 9 n9 .leaf .leaf) (.node 40 n40 .leaf .leaf)) (.node 47 n47 (.node 45 n45 .leaf .leaf) (.node 49 n49 .leaf .leaf)))
theorem d1_ok : CallSim Try.prog tys stl tab d1.fn := Disp.sim ⟨n41_ok, ⟨n31_ok, ⟨n9_ok, True.intro, True.intro⟩, ⟨n40_ok, True.intro, True.intro⟩⟩, ⟨n47_ok, ⟨n45_ok, True.intro, True.intro⟩, ⟨n49_ok, True.intro, True.intro⟩⟩⟩
/- foghorn/turns.Points -/
noncomputable def R15 (q_share : (α : Type) → α → (α → Bool) → Bool) (q_genW : Option CV → (W → Bool) → Bool) (q_addW : Nat → Nat → Option CV → W → W → (W → Bool) → Bool) (q_cmpW : (Nat → Nat → Bool) → Nat → Option CV → W → W → (W → Bool) → Bool) (q_notW : Option CV → W → (W → Bool) → Bool) (q_icvW : Nat → Nat → Option CV → W → (W → Bool) → Bool) (q_condW : W → Bool → Bool → Bool) (q_guardW : Bool → W → Bool → Bool → Bool) (q_pickW : W → W → W → (W → Bool) → Bool) (q_idxSW : Nat → W → W → (W → Bool) → Bool) (q_lenW : Option CV → W → (W → Bool) → Bool) (q_loadSW : HW → W → (W → Bool) → Bool) (q_storeSW : HW → W → W → (HW → Bool) → Bool) (q_makeSW : Nat → Nat → Nat → Kind → List W → Bool → HW → Nat → W → W → KW → Bool) (fu : Nat) (call : CallW) (a0 : W) (a1 : W) (h0 : HW) (c0 : Nat) (K : KW) : Bool :=
call 40 [a0] h0 c0 fun v1 h2 c3 =>
q_notW (two Try.prog (dec v1) (Op.unary .not)) v1 fun v4 =>
q_share _ (fun (v6 : W) (h7 : HW) (c8 : Nat) =>
q_share _ (fun (v10 : W) (h11 : HW) (c12 : Nat) =>
q_share _ (fun (v14 : W) (h15 : HW) (c16 : Nat) =>
q_share _ (fun (v18 : W) (h19 : HW) (c20 : Nat) =>
q_share _ (fun (v22 : W) (h23 : HW) (c24 : Nat) =>
q_share _ (fun (v26 : W) (h27 : HW) (c28 : Nat) =>
q_share _ (fun (v30 : W) (h31 : HW) (c32 : Nat) =>
q_pickW v4 ⟨8, 1, r0, []⟩ v30 fun v33 =>
q_condW v33 (
K ⟨13, 0, r0, [⟨12, 0, ⟨0, 0, 0, .nils⟩, []⟩, ⟨3, 1, r0, []⟩]⟩ h31 c32) (
q_lenW (lenC tys 22 (dec a0)) a0 fun v34 =>
q_makeSW 16 1 99 (.cpxs .f64) [⟨12, 0, ⟨0, 0, 0, .cpx .f64 0 0⟩, []⟩] true h31 c32 v34 v34 fun v35 h36 c37 =>
q_lenW (lenC tys 22 (dec a0)) a0 fun v38 =>
@Nat.rec (fun _ => Fun 1) (fun _ _ _ => false) (fun _ f42 v39 h40 c41 =>
q_cmpW (cmpF2 .lss) 3 (binC Try.prog .lss 3 (.tmp 26) (.tmp 25) (dec v39) (dec v38)) v39 v38 fun v43 =>
q_condW v43 (
q_idxSW 1 a0 v39 fun v44 =>
q_loadSW h40 v44 fun v45 =>
q_genW (two2 Try.prog (dec a1) (dec ⟨12, 0, ⟨0, 0, 0, .flt .f64 0⟩, []⟩) fun v u => Builtin.complex_ #[29, 29] 42 #[v, u]) fun v46 =>
q_icvW 3 9223372036854775807 (convC Try.prog tys ⟨[], 0, decH h40, 0⟩ 5 3 (dec v45)) v45 fun v47 =>
call 41 [v46, v47] h40 c41 fun v48 h49 c50 =>
q_idxSW 1 v35 v39 fun v51 =>
q_storeSW h49 v51 v48 fun h52 =>
q_addW 3 9223372036854775807 (binC Try.prog .add 3 (.tmp 26) (.const (.int .i64 (.ofNat 1))) (dec v39) (dec ⟨3, 1, r0, []⟩)) v39 ⟨3, 1, r0, []⟩ fun v53 =>
f42 v53 h52 c50) (
K ⟨13, 0, r0, [v35, ⟨3, 0, r0, []⟩]⟩ h40 c41)) fu ⟨3, 0, r0, []⟩ h36 c37)) fun f29 =>
q_guardW false v4 (q_notW (two Try.prog (dec v26) (Op.unary .not)) v26 fun v54 =>
f29 v54 h27 c28) (f29 wUnd h27 c28)) fun f25 =>
q_guardW false v4 (q_pickW v14 v22 ⟨8, 0, r0, []⟩ fun v55 =>
f25 v55 h23 c24) (f25 wUnd h23 c24)) fun f21 =>
q_guardW true v14 (q_genW (binC Try.prog .leq 29 (.tmp 16) (.const (.float .f64 4652218415073722368)) (dec v18) (dec ⟨12, 0, ⟨0, 0, 0, .flt .f64 4652218415073722368⟩, []⟩)) fun v56 =>
f21 v56 h19 c20) (f21 wUnd h19 c20)) fun f17 =>
q_guardW true v14 (f17 a1 h15 c16) (f17 wUnd h15 c16)) fun f13 =>
q_guardW false v4 (f13 v10 h11 c12) (f13 wUnd h11 c12)) fun f9 =>
q_guardW false v4 (q_genW (binC Try.prog .geq 29 (.tmp 13) (.const (.float .f64 4553139223271571456)) (dec v6) (dec ⟨12, 0, ⟨0, 0, 0, .flt .f64 4553139223271571456⟩, []⟩)) fun v57 =>
f9 v57 h7 c8) (f9 wUnd h7 c8)) fun f5 =>
q_guardW false v4 (f5 a1 h2 c3) (f5 wUnd h2 c3)
theorem R15_eq (Q : PrimW) (fu : Nat) (call : CallW) : curryA 2 (fnK Q Try.prog tys stl fu call e15) = R15 Q.share Q.genW Q.addW Q.cmpW Q.notW Q.icvW Q.condW Q.guardW Q.pickW Q.idxSW Q.lenW Q.loadSW Q.storeSW Q.makeSW fu call := by kernel_rfl
noncomputable def n15 : List W → HW → Nat → KW → Bool := appF 2 (R15 (fun _ x f => f x) genW addW cmpW notW icvW condW guardW pickW idxSW lenW loadSW storeSW makeSW 1000000 d1.fn)
theorem n15_ok : FnGood Try.prog tys stl tab 15 n15 := node_ok d1_ok (by kernel_rfl) rfl g15 (R15_eq real _ _)
/- foghorn/turns.Near -/
noncomputable def R21 (q_share : (α : Type) → α → (α → Bool) → Bool) (q_genW : Option CV → (W → Bool) → Bool) (q_addW : Nat → Nat → Option CV → W → W → (W → Bool) → Bool) (q_cmpW : (Nat → Nat → Bool) → Nat → Option CV → W → W → (W → Bool) → Bool) (q_icvW : Nat → Nat → Option CV → W → (W → Bool) → Bool) (q_condW : W → Bool → Bool → Bool) (q_guardW : Bool → W → Bool → Bool → Bool) (q_pickW : W → W → W → (W → Bool) → Bool) (q_idxAW : Nat → Nat → W → W → (W → Bool) → Bool) (q_killVW : W → HW → (HW → Bool) → Bool) (q_loadSW : HW → W → (W → Bool) → Bool) (q_loadAW : Nat → HW → W → (W → Bool) → Bool) (q_storeAW : Nat → HW → W → W → (HW → Bool) → Bool) (q_allocW : Trie W → Nat → Bool → HW → Nat → KW → Bool) (q_flatW : W → Bool → Bool) (fu : Nat) (call : CallW) (a0 : W) (h0 : HW) (c0 : Nat) (K : KW) : Bool :=
q_genW (two Try.prog (dec a0) fun v => Builtin.real_ #[42] 29 #[v]) fun v1 =>
call 45 [v1] h0 c0 fun v2 h3 c4 =>
q_share _ (fun (v6 : W) (h7 : HW) (c8 : Nat) =>
q_share _ (fun (v10 : W) (h11 : HW) (c12 : Nat) =>
q_share _ (fun (v14 : W) (h15 : HW) (c16 : Nat) =>
q_pickW v2 ⟨8, 1, r0, []⟩ v14 fun v17 =>
q_share _ (fun (v19 : W) (h20 : HW) (c21 : Nat) =>
q_share _ (fun (v23 : W) (h24 : HW) (c25 : Nat) =>
q_pickW v17 ⟨8, 1, r0, []⟩ v23 fun v26 =>
q_condW v26 (
q_killVW wUnd h24 fun h27 =>
K ⟨13, 0, r0, [⟨4, 0, r0, []⟩, ⟨8, 0, r0, []⟩]⟩ h27 c25) (
q_genW (two Try.prog (dec a0) fun v => Builtin.real_ #[42] 29 #[v]) fun v28 =>
q_genW (two Try.prog (dec a0) fun v => Builtin.imag_ #[42] 29 #[v]) fun v29 =>
q_genW (two Try.prog (dec a0) fun v => Builtin.real_ #[42] 29 #[v]) fun v30 =>
q_genW (two Try.prog (dec v30) (Op.unary .neg)) fun v31 =>
q_genW (two Try.prog (dec a0) fun v => Builtin.imag_ #[42] 29 #[v]) fun v32 =>
q_genW (two Try.prog (dec v32) (Op.unary .neg)) fun v33 =>
q_flatW v28 (
q_flatW v29 (
q_flatW v31 (
q_flatW v33 (
(fun (v34 : W) =>
q_allocW (allocT tys 78) 4 true h24 c25 fun v35 h36 c37 =>
q_storeAW 4 h36 v35 v34 fun h38 =>
q_loadAW 4 h38 v35 fun v39 =>
@Nat.rec (fun _ => Fun 2) (fun _ _ _ _ => false) (fun _ f44 v40 v41 h42 c43 =>
q_cmpW (cmpF2 .lss) 3 (binC Try.prog .lss 3 (.tmp 32) (.const (.int .i64 (.ofNat 4))) (dec v41) (dec ⟨3, 4, r0, []⟩)) v41 ⟨3, 4, r0, []⟩ fun v45 =>
q_condW v45 (
q_share _ (fun (v46 : W) (h47 : HW) (c48 : Nat) =>
q_addW 3 9223372036854775807 (binC Try.prog .add 3 (.tmp 32) (.const (.int .i64 (.ofNat 1))) (dec v41) (dec ⟨3, 1, r0, []⟩)) v41 ⟨3, 1, r0, []⟩ fun v50 =>
f44 v46 v50 h47 c48) fun f49 =>
q_genW (two2 Try.prog (dec v39) (dec v41) (Instr.index 78)) fun v51 =>
q_idxAW 1 4 v35 v40 fun v52 =>
q_loadSW h42 v52 fun v53 =>
q_genW (binC Try.prog .gtr 29 (.tmp 36) (.tmp 39) (dec v51) (dec v53)) fun v54 =>
q_condW v54 (
f49 v41 h42 c43) (
f49 v40 h42 c43)) (
q_icvW 4 255 (convC Try.prog tys ⟨[], 0, decH h42, 0⟩ 3 5 (dec v40)) v40 fun v55 =>
q_killVW v35 h42 fun h56 =>
K ⟨13, 0, r0, [v55, ⟨8, 1, r0, []⟩]⟩ h56 c43)) fu ⟨3, 0, r0, []⟩ ⟨3, 0, r0, []⟩ h38 c37) ⟨15, 0, r0, [v28, v29, v31, v33]⟩)))))) fun f22 =>
q_guardW false v17 (q_genW (binC Try.prog .eql 42 (.tmp 17) (.const (.complex .f64 0 0)) (dec v19) (dec ⟨12, 0, ⟨0, 0, 0, .cpx .f64 0 0⟩, []⟩)) fun v57 =>
f22 v57 h20 c21) (f22 wUnd h20 c21)) fun f18 =>
q_guardW false v17 (f18 a0 h15 c16) (f18 wUnd h15 c16)) fun f13 =>
q_guardW false v2 (call 45 [v10] h11 c12 fun v58 h59 c60 =>
f13 v58 h59 c60) (f13 wUnd h11 c12)) fun f9 =>
q_guardW false v2 (q_genW (two Try.prog (dec v6) fun v => Builtin.imag_ #[42] 29 #[v]) fun v61 =>
f9 v61 h7 c8) (f9 wUnd h7 c8)) fun f5 =>
q_guardW false v2 (f5 a0 h3 c4) (f5 wUnd h3 c4)
theorem R21_eq (Q : PrimW) (fu : Nat) (call : CallW) : curryA 1 (fnK Q Try.prog tys stl fu call e21) = R21 Q.share Q.genW Q.addW Q.cmpW Q.icvW Q.condW Q.guardW Q.pickW Q.idxAW Q.killVW Q.loadSW Q.loadAW Q.storeAW Q.allocW Q.flatW fu call := by kernel_rfl
noncomputable def n21 : List W → HW → Nat → KW → Bool := appF 1 (R21 (fun _ x f => f x) genW addW cmpW icvW condW guardW pickW idxAW killVW loadSW loadAW storeAW allocW flatW 1000000 d1.fn)
theorem n21_ok : FnGood Try.prog tys stl tab 21 n21 := node_ok d1_ok (by kernel_rfl) rfl g21 (R21_eq real _ _)
/- foghorn/turns.Into -/
noncomputable def R28 (q_addW : Nat → Nat → Option CV → W → W → (W → Bool) → Bool) (q_cmpW : (Nat → Nat → Bool) → Nat → Option CV → W → W → (W → Bool) → Bool) (q_notW : Option CV → W → (W → Bool) → Bool) (q_condW : W → Bool → Bool → Bool) (q_idxSW : Nat → W → W → (W → Bool) → Bool) (q_lenW : Option CV → W → (W → Bool) → Bool) (q_onF : W → (FuncId → List W → Bool) → Bool) (q_loadSW : HW → W → (W → Bool) → Bool) (q_storeSW : HW → W → W → (HW → Bool) → Bool) (q_makeSW : Nat → Nat → Nat → Kind → List W → Bool → HW → Nat → W → W → KW → Bool) (fu : Nat) (call : CallW) (a0 : W) (h0 : HW) (c0 : Nat) (K : KW) : Bool :=
call 40 [a0] h0 c0 fun v1 h2 c3 =>
q_notW (two Try.prog (dec v1) (Op.unary .not)) v1 fun v4 =>
q_condW v4 (
K ⟨13, 0, r0, [⟨12, 0, ⟨0, 0, 0, .nils⟩, []⟩, ⟨3, 1, r0, []⟩]⟩ h2 c3) (
q_lenW (lenC tys 22 (dec a0)) a0 fun v5 =>
q_makeSW 1 1 4 (.ints .u8) [⟨4, 0, r0, []⟩] true h2 c3 v5 v5 fun v6 h7 c8 =>
call 47 [] h7 c8 fun v9 h10 c11 =>
q_lenW (lenC tys 22 (dec a0)) a0 fun v12 =>
@Nat.rec (fun _ => Fun 1) (fun _ _ _ => false) (fun _ f16 v13 h14 c15 =>
q_cmpW (cmpF2 .lss) 3 (binC Try.prog .lss 3 (.tmp 17) (.tmp 16) (dec v13) (dec v12)) v13 v12 fun v17 =>
q_condW v17 (
q_idxSW 1 a0 v13 fun v18 =>
q_loadSW h14 v18 fun v19 =>
q_onF v9 fun g20 l21 => call g20 (appL [v19] l21) h14 c15 fun v22 h23 c24 =>
q_idxSW 1 v6 v13 fun v25 =>
q_storeSW h23 v25 v22 fun h26 =>
q_addW 3 9223372036854775807 (binC Try.prog .add 3 (.tmp 17) (.const (.int .i64 (.ofNat 1))) (dec v13) (dec ⟨3, 1, r0, []⟩)) v13 ⟨3, 1, r0, []⟩ fun v27 =>
f16 v27 h26 c24) (
K ⟨13, 0, r0, [v6, ⟨3, 0, r0, []⟩]⟩ h14 c15)) fu ⟨3, 0, r0, []⟩ h10 c11)
theorem R28_eq (Q : PrimW) (fu : Nat) (call : CallW) : curryA 1 (fnK Q Try.prog tys stl fu call e28) = R28 Q.addW Q.cmpW Q.notW Q.condW Q.idxSW Q.lenW Q.onF Q.loadSW Q.storeSW Q.makeSW fu call := by kernel_rfl
noncomputable def n28 : List W → HW → Nat → KW → Bool := appF 1 (R28 addW cmpW notW condW idxSW lenW onF loadSW storeSW makeSW 1000000 d1.fn)
theorem n28_ok : FnGood Try.prog tys stl tab 28 n28 := node_ok d1_ok (by kernel_rfl) rfl g28 (R28_eq real _ _)
/- foghorn/turns.Out -/
noncomputable def R29 (q_addW : Nat → Nat → Option CV → W → W → (W → Bool) → Bool) (q_subW : Nat → Nat → Option CV → W → W → (W → Bool) → Bool) (q_bitW : (Nat → Nat → Nat) → Nat → Nat → Option CV → W → W → (W → Bool) → Bool) (q_cmpW : (Nat → Nat → Bool) → Nat → Option CV → W → W → (W → Bool) → Bool) (q_notW : Option CV → W → (W → Bool) → Bool) (q_condW : W → Bool → Bool → Bool) (q_idxSW : Nat → W → W → (W → Bool) → Bool) (q_lenW : Option CV → W → (W → Bool) → Bool) (q_loadSW : HW → W → (W → Bool) → Bool) (q_storeSW : HW → W → W → (HW → Bool) → Bool) (q_makeSW : Nat → Nat → Nat → Kind → List W → Bool → HW → Nat → W → W → KW → Bool) (fu : Nat) (call : CallW) (a0 : W) (h0 : HW) (c0 : Nat) (K : KW) : Bool :=
call 40 [a0] h0 c0 fun v1 h2 c3 =>
q_notW (two Try.prog (dec v1) (Op.unary .not)) v1 fun v4 =>
q_condW v4 (
K ⟨13, 0, r0, [⟨12, 0, ⟨0, 0, 0, .nils⟩, []⟩, ⟨3, 1, r0, []⟩]⟩ h2 c3) (
q_lenW (lenC tys 22 (dec a0)) a0 fun v5 =>
q_makeSW 1 1 4 (.ints .u8) [⟨4, 0, r0, []⟩] true h2 c3 v5 v5 fun v6 h7 c8 =>
q_lenW (lenC tys 22 (dec a0)) a0 fun v9 =>
@Nat.rec (fun _ => Fun 2) (fun _ _ _ _ => false) (fun _ f14 v10 v11 h12 c13 =>
q_cmpW (cmpF2 .lss) 3 (binC Try.prog .lss 3 (.tmp 16) (.tmp 15) (dec v11) (dec v9)) v11 v9 fun v15 =>
q_condW v15 (
q_idxSW 1 a0 v11 fun v16 =>
q_loadSW h12 v16 fun v17 =>
q_subW 4 255 (binC Try.prog .sub 5 (.tmp 23) (.tmp 24) (dec v17) (dec v10)) v17 v10 fun v18 =>
q_bitW Nat.land 4 255 (binC Try.prog .and 5 (.tmp 25) (.const (.int .u8 (.ofNat 3))) (dec v18) (dec ⟨4, 3, r0, []⟩)) v18 ⟨4, 3, r0, []⟩ fun v19 =>
q_idxSW 1 v6 v11 fun v20 =>
q_storeSW h12 v20 v19 fun h21 =>
q_addW 3 9223372036854775807 (binC Try.prog .add 3 (.tmp 16) (.const (.int .i64 (.ofNat 1))) (dec v11) (dec ⟨3, 1, r0, []⟩)) v11 ⟨3, 1, r0, []⟩ fun v22 =>
f14 v17 v22 h21 c13) (
K ⟨13, 0, r0, [v6, ⟨3, 0, r0, []⟩]⟩ h12 c13)) fu ⟨4, 0, r0, []⟩ ⟨3, 0, r0, []⟩ h7 c8)
theorem R29_eq (Q : PrimW) (fu : Nat) (call : CallW) : curryA 1 (fnK Q Try.prog tys stl fu call e29) = R29 Q.addW Q.subW Q.bitW Q.cmpW Q.notW Q.condW Q.idxSW Q.lenW Q.loadSW Q.storeSW Q.makeSW fu call := by kernel_rfl
noncomputable def n29 : List W → HW → Nat → KW → Bool := appF 1 (R29 addW subW bitW cmpW notW condW idxSW lenW loadSW storeSW makeSW 1000000 d1.fn)
theorem n29_ok : FnGood Try.prog tys stl tab 29 n29 := node_ok d1_ok (by kernel_rfl) rfl g29 (R29_eq real _ _)
/- foghorn/turns.Bits -/
noncomputable def R30 (q_share : (α : Type) → α → (α → Bool) → Bool) (q_addW : Nat → Nat → Option CV → W → W → (W → Bool) → Bool) (q_mulW : Nat → Nat → Option CV → W → W → (W → Bool) → Bool) (q_cmpW : (Nat → Nat → Bool) → Nat → Option CV → W → W → (W → Bool) → Bool) (q_notW : Option CV → W → (W → Bool) → Bool) (q_condW : W → Bool → Bool → Bool) (q_guardW : Bool → W → Bool → Bool → Bool) (q_pickW : W → W → W → (W → Bool) → Bool) (q_idxSW : Nat → W → W → (W → Bool) → Bool) (q_lenW : Option CV → W → (W → Bool) → Bool) (q_killVW : W → HW → (HW → Bool) → Bool) (q_loadSW : HW → W → (W → Bool) → Bool) (q_makeSW : Nat → Nat → Nat → Kind → List W → Bool → HW → Nat → W → W → KW → Bool) (q_buildSW : Nat → Nat → Kind → Nat → Bool → HW → Nat → Nat → List W → KW → Bool) (q_appSW : Nat → Nat → (Kind → Bool) → Bool → HW → Nat → W → W → Bool → KW → Bool) (fu : Nat) (call : CallW) (a0 : W) (h0 : HW) (c0 : Nat) (K : KW) : Bool :=
call 40 [a0] h0 c0 fun v1 h2 c3 =>
q_notW (two Try.prog (dec v1) (Op.unary .not)) v1 fun v4 =>
q_share _ (fun (v6 : W) (h7 : HW) (c8 : Nat) =>
q_share _ (fun (v10 : W) (h11 : HW) (c12 : Nat) =>
q_share _ (fun (v14 : W) (h15 : HW) (c16 : Nat) =>
q_pickW v4 ⟨8, 1, r0, []⟩ v14 fun v17 =>
q_condW v17 (
K ⟨13, 0, r0, [⟨12, 0, ⟨0, 0, 0, .nils⟩, []⟩, ⟨3, 1, r0, []⟩]⟩ h15 c16) (
q_lenW (lenC tys 22 (dec a0)) a0 fun v18 =>
q_mulW 3 9223372036854775807 (binC Try.prog .mul 3 (.const (.int .i64 (.ofNat 2))) (.tmp 16) (dec ⟨3, 2, r0, []⟩) (dec v18)) ⟨3, 2, r0, []⟩ v18 fun v19 =>
q_makeSW 1 1 8 .bools [⟨8, 0, r0, []⟩] true h15 c16 ⟨3, 0, r0, []⟩ v19 fun v20 h21 c22 =>
q_lenW (lenC tys 22 (dec a0)) a0 fun v23 =>
@Nat.rec (fun _ => Fun 2) (fun _ _ _ _ => false) (fun _ f28 v24 v25 h26 c27 =>
q_cmpW (cmpF2 .lss) 3 (binC Try.prog .lss 3 (.tmp 21) (.tmp 20) (dec v25) (dec v23)) v25 v23 fun v29 =>
q_condW v29 (
q_idxSW 1 a0 v25 fun v30 =>
q_loadSW h26 v30 fun v31 =>
q_cmpW (cmpF2 .geq) 4 (binC Try.prog .geq 5 (.tmp 26) (.const (.int .u8 (.ofNat 2))) (dec v31) (dec ⟨4, 2, r0, []⟩)) v31 ⟨4, 2, r0, []⟩ fun v32 =>
q_cmpW (cmpF2 .eql) 4 (binC Try.prog .eql 5 (.tmp 28) (.const (.int .u8 (.ofNat 1))) (dec v31) (dec ⟨4, 1, r0, []⟩)) v31 ⟨4, 1, r0, []⟩ fun v33 =>
q_share _ (fun (v35 : W) (h36 : HW) (c37 : Nat) =>
q_share _ (fun (v39 : W) (h40 : HW) (c41 : Nat) =>
q_pickW v33 ⟨8, 1, r0, []⟩ v39 fun v42 =>
q_buildSW 1 8 .bools 2 true h40 c41 2 [v32, v42] fun v43 h44 c45 =>
q_appSW 1 1 (appKindOk (elemJ tys 23)) false h44 c45 v24 v43 false fun v46 h47 c48 =>
q_killVW v43 h47 fun h49 =>
q_addW 3 9223372036854775807 (binC Try.prog .add 3 (.tmp 21) (.const (.int .i64 (.ofNat 1))) (dec v25) (dec ⟨3, 1, r0, []⟩)) v25 ⟨3, 1, r0, []⟩ fun v50 =>
f28 v46 v50 h49 c48) fun f38 =>
q_guardW false v33 (q_cmpW (cmpF2 .eql) 4 (binC Try.prog .eql 5 (.tmp 31) (.const (.int .u8 (.ofNat 2))) (dec v35) (dec ⟨4, 2, r0, []⟩)) v35 ⟨4, 2, r0, []⟩ fun v51 =>
f38 v51 h36 c37) (f38 wUnd h36 c37)) fun f34 =>
q_guardW false v33 (f34 v31 h26 c27) (f34 wUnd h26 c27)) (
K ⟨13, 0, r0, [v24, ⟨3, 0, r0, []⟩]⟩ h26 c27)) fu v20 ⟨3, 0, r0, []⟩ h21 c22)) fun f13 =>
q_guardW false v4 (q_cmpW (cmpF2 .gtr) 3 (binC Try.prog .gtr 3 (.tmp 12) (.const (.int .i64 (.ofNat 16384))) (dec v10) (dec ⟨3, 16384, r0, []⟩)) v10 ⟨3, 16384, r0, []⟩ fun v52 =>
f13 v52 h11 c12) (f13 wUnd h11 c12)) fun f9 =>
q_guardW false v4 (q_lenW (lenC tys 22 (dec v6)) v6 fun v53 =>
f9 v53 h7 c8) (f9 wUnd h7 c8)) fun f5 =>
q_guardW false v4 (f5 a0 h2 c3) (f5 wUnd h2 c3)
theorem R30_eq (Q : PrimW) (fu : Nat) (call : CallW) : curryA 1 (fnK Q Try.prog tys stl fu call e30) = R30 Q.share Q.addW Q.mulW Q.cmpW Q.notW Q.condW Q.guardW Q.pickW Q.idxSW Q.lenW Q.killVW Q.loadSW Q.makeSW Q.buildSW Q.appSW fu call := by kernel_rfl
noncomputable def n30 : List W → HW → Nat → KW → Bool := appF 1 (R30 (fun _ x f => f x) addW mulW cmpW notW condW guardW pickW idxSW lenW killVW loadSW makeSW buildSW appSW 1000000 d1.fn)
theorem n30_ok : FnGood Try.prog tys stl tab 30 n30 := node_ok d1_ok (by kernel_rfl) rfl g30 (R30_eq real _ _)
/- foghorn/turns.isTurned -/
noncomputable def R46 (q_genW : Option CV → (W → Bool) → Bool) (q_addW : Nat → Nat → Option CV → W → W → (W → Bool) → Bool) (q_cmpW : (Nat → Nat → Bool) → Nat → Option CV → W → W → (W → Bool) → Bool) (q_condW : W → Bool → Bool → Bool) (q_idxSW : Nat → W → W → (W → Bool) → Bool) (q_lenW : Option CV → W → (W → Bool) → Bool) (q_knownW : W → Bool → Bool) (q_loadSW : HW → W → (W → Bool) → Bool) (fu : Nat) (call : CallW) (a0 : W) (a1 : W) (a2 : W) (h0 : HW) (c0 : Nat) (K : KW) : Bool :=
q_lenW (lenC tys 36 (dec a0)) a0 fun v1 =>
@Nat.rec (fun _ => Fun 1) (fun _ _ _ => false) (fun _ f5 v2 h3 c4 =>
q_cmpW (cmpF2 .lss) 3 (binC Try.prog .lss 3 (.tmp 11) (.tmp 10) (dec v2) (dec v1)) v2 v1 fun v6 =>
q_condW v6 (
q_idxSW 1 a0 v2 fun v7 =>
q_loadSW h3 v7 fun v8 =>
call 41 [v8, a2] h3 c4 fun v9 _ _ => q_knownW v9 (
q_idxSW 1 a1 v2 fun v10 =>
q_loadSW h3 v10 fun v11 =>
q_genW (binC Try.prog .neq 42 (.tmp 18) (.tmp 22) (dec v9) (dec v11)) fun v12 =>
q_condW v12 (
K ⟨8, 0, r0, []⟩ h3 c4) (
q_addW 3 9223372036854775807 (binC Try.prog .add 3 (.tmp 11) (.const (.int .i64 (.ofNat 1))) (dec v2) (dec ⟨3, 1, r0, []⟩)) v2 ⟨3, 1, r0, []⟩ fun v13 =>
f5 v13 h3 c4))) (
K ⟨8, 1, r0, []⟩ h3 c4)) fu ⟨3, 0, r0, []⟩ h0 c0
theorem R46_eq (Q : PrimW) (fu : Nat) (call : CallW) : curryA 3 (fnK Q Try.prog tys stl fu call e46) = R46 Q.genW Q.addW Q.cmpW Q.condW Q.idxSW Q.lenW Q.knownW Q.loadSW fu call := by kernel_rfl
noncomputable def n46 : List W → HW → Nat → KW → Bool := appF 3 (R46 genW addW cmpW condW idxSW lenW knownW loadSW 1000000 d1.fn)
theorem n46_ok : FnGood Try.prog tys stl tab 46 n46 := node_ok d1_ok (by kernel_rfl) rfl g46 (R46_eq real _ _)
noncomputable def d2 : Disp := (.node 31 n31 (.node 28 n28 (.node 15 n15 (.node 9 n9 .leaf .leaf) (.node 21 n21 .leaf .leaf)) (.node 30 n30 (.node 29 n29 .leaf .leaf) .leaf)) (.node 46 n46 (.node 41 n41 (.node 40 n40 .leaf .leaf) (.node 45 n45 .leaf .leaf)) (.node 49 n49 (.node 47 n47 .leaf .leaf) .leaf)))
theorem d2_ok : CallSim Try.prog tys stl tab d2.fn := Disp.sim ⟨n31_ok, ⟨n28_ok, ⟨n15_ok, ⟨n9_ok, True.intro, True.intro⟩, ⟨n21_ok, True.intro, True.intro⟩⟩, ⟨n30_ok, ⟨n29_ok, True.intro, True.intro⟩, True.intro⟩⟩, ⟨n46_ok, ⟨n41_ok, ⟨n40_ok, True.intro, True.intro⟩, ⟨n45_ok, True.intro, True.intro⟩⟩, ⟨n49_ok, ⟨n47_ok, True.intro, True.intro⟩, True.intro⟩⟩⟩
/- foghorn/foghornlaw06.awake -/
noncomputable def R12 (q_share : (α : Type) → α → (α → Bool) → Bool) (q_cmpW : (Nat → Nat → Bool) → Nat → Option CV → W → W → (W → Bool) → Bool) (q_guardW : Bool → W → Bool → Bool → Bool) (q_pickW : W → W → W → (W → Bool) → Bool) (q_tupW : W → (List W → Bool) → Bool) (q_nthW : Nat → List W → (W → Bool) → Bool) (q_buildSW : Nat → Nat → Kind → Nat → Bool → HW → Nat → Nat → List W → KW → Bool) (fu : Nat) (call : CallW) (h0 : HW) (c0 : Nat) (K : KW) : Bool :=
q_buildSW 1 4 (.ints .u8) 4 true h0 c0 4 [⟨4, 1, r0, []⟩, ⟨4, 1, r0, []⟩, ⟨4, 3, r0, []⟩, ⟨4, 2, r0, []⟩] fun v1 h2 c3 =>
call 28 [v1] h2 c3 fun v4 h5 c6 =>
q_tupW v4 fun l7 => q_nthW 0 l7 fun v8 =>
q_tupW v4 fun l9 => q_nthW 1 l9 fun v10 =>
q_buildSW 1 4 (.ints .u8) 4 true h5 c6 4 [⟨4, 1, r0, []⟩, ⟨4, 2, r0, []⟩, ⟨4, 1, r0, []⟩, ⟨4, 3, r0, []⟩] fun v11 h12 c13 =>
call 29 [v11] h12 c13 fun v14 h15 c16 =>
q_tupW v14 fun l17 => q_nthW 0 l17 fun v18 =>
q_tupW v14 fun l19 => q_nthW 1 l19 fun v20 =>
q_cmpW (cmpF2 .eql) 3 (binC Try.prog .eql 38 (.tmp 15) (.const (.int .i64 (.ofNat 0))) (dec v10) (dec ⟨3, 0, r0, []⟩)) v10 ⟨3, 0, r0, []⟩ fun v21 =>
q_share _ (fun (v23 : W) (h24 : HW) (c25 : Nat) =>
q_share _ (fun (v27 : W) (h28 : HW) (c29 : Nat) =>
q_pickW v21 v27 ⟨8, 0, r0, []⟩ fun v30 =>
q_share _ (fun (v32 : W) (h33 : HW) (c34 : Nat) =>
q_share _ (fun (v36 : W) (h37 : HW) (c38 : Nat) =>
q_share _ (fun (v40 : W) (h41 : HW) (c42 : Nat) =>
q_pickW v30 v40 ⟨8, 0, r0, []⟩ fun v43 =>
q_share _ (fun (v45 : W) (h46 : HW) (c47 : Nat) =>
q_share _ (fun (v49 : W) (h50 : HW) (c51 : Nat) =>
q_share _ (fun (v53 : W) (h54 : HW) (c55 : Nat) =>
q_pickW v43 v53 ⟨8, 0, r0, []⟩ fun v56 =>
K v56 h54 c55) fun f52 =>
q_guardW true v43 (call 9 [v45, v49] h50 c51 fun v57 h58 c59 =>
f52 v57 h58 c59) (f52 wUnd h50 c51)) fun f48 =>
q_guardW true v43 (q_buildSW 1 4 (.ints .u8) 4 true h46 c47 4 [⟨4, 1, r0, []⟩, ⟨4, 1, r0, []⟩, ⟨4, 3, r0, []⟩, ⟨4, 2, r0, []⟩] fun v60 h61 c62 =>
f48 v60 h61 c62) (f48 wUnd h46 c47)) fun f44 =>
q_guardW true v43 (f44 v18 h41 c42) (f44 wUnd h41 c42)) fun f39 =>
q_guardW true v30 (call 9 [v32, v36] h37 c38 fun v63 h64 c65 =>
f39 v63 h64 c65) (f39 wUnd h37 c38)) fun f35 =>
q_guardW true v30 (q_buildSW 1 4 (.ints .u8) 4 true h33 c34 4 [⟨4, 1, r0, []⟩, ⟨4, 2, r0, []⟩, ⟨4, 1, r0, []⟩, ⟨4, 3, r0, []⟩] fun v66 h67 c68 =>
f35 v66 h67 c68) (f35 wUnd h33 c34)) fun f31 =>
q_guardW true v30 (f31 v8 h28 c29) (f31 wUnd h28 c29)) fun f26 =>
q_guardW true v21 (q_cmpW (cmpF2 .eql) 3 (binC Try.prog .eql 38 (.tmp 18) (.const (.int .i64 (.ofNat 0))) (dec v23) (dec ⟨3, 0, r0, []⟩)) v23 ⟨3, 0, r0, []⟩ fun v69 =>
f26 v69 h24 c25) (f26 wUnd h24 c25)) fun f22 =>
q_guardW true v21 (f22 v20 h15 c16) (f22 wUnd h15 c16)
theorem R12_eq (Q : PrimW) (fu : Nat) (call : CallW) : curryA 0 (fnK Q Try.prog tys stl fu call e12) = R12 Q.share Q.cmpW Q.guardW Q.pickW Q.tupW Q.nthW Q.buildSW fu call := by kernel_rfl
noncomputable def n12 : List W → HW → Nat → KW → Bool := appF 0 (R12 (fun _ x f => f x) cmpW guardW pickW tupW nthW buildSW 1000000 d2.fn)
theorem n12_ok : FnGood Try.prog tys stl tab 12 n12 := node_ok d2_ok (by kernel_rfl) rfl g12 (R12_eq real _ _)
/- foghorn/turns.Found -/
noncomputable def R25 (q_share : (α : Type) → α → (α → Bool) → Bool) (q_addW : Nat → Nat → Option CV → W → W → (W → Bool) → Bool) (q_cmpW : (Nat → Nat → Bool) → Nat → Option CV → W → W → (W → Bool) → Bool) (q_condW : W → Bool → Bool → Bool) (q_guardW : Bool → W → Bool → Bool → Bool) (q_pickW : W → W → W → (W → Bool) → Bool) (q_lenW : Option CV → W → (W → Bool) → Bool) (fu : Nat) (call : CallW) (a0 : W) (a1 : W) (h0 : HW) (c0 : Nat) (K : KW) : Bool :=
q_lenW (lenC tys 36 (dec a0)) a0 fun v1 =>
q_cmpW (cmpF2 .gtr) 3 (binC Try.prog .gtr 3 (.tmp 8) (.const (.int .i64 (.ofNat 65536))) (dec v1) (dec ⟨3, 65536, r0, []⟩)) v1 ⟨3, 65536, r0, []⟩ fun v2 =>
q_share _ (fun (v4 : W) (h5 : HW) (c6 : Nat) =>
q_share _ (fun (v8 : W) (h9 : HW) (c10 : Nat) =>
q_share _ (fun (v12 : W) (h13 : HW) (c14 : Nat) =>
q_share _ (fun (v16 : W) (h17 : HW) (c18 : Nat) =>
q_share _ (fun (v20 : W) (h21 : HW) (c22 : Nat) =>
q_pickW v2 ⟨8, 1, r0, []⟩ v20 fun v23 =>
q_condW v23 (
K ⟨13, 0, r0, [⟨3, 0, r0, []⟩, ⟨3, 1, r0, []⟩]⟩ h21 c22) (
@Nat.rec (fun _ => Fun 1) (fun _ _ _ => false) (fun _ f27 v24 h25 c26 =>
q_cmpW (cmpF2 .lss) 3 (binC Try.prog .lss 3 (.tmp 17) (.const (.int .i64 (.ofNat 4))) (dec v24) (dec ⟨3, 4, r0, []⟩)) v24 ⟨3, 4, r0, []⟩ fun v28 =>
q_condW v28 (
call 46 [a0, a1, v24] h25 c26 fun v29 h30 c31 =>
q_condW v29 (
K ⟨13, 0, r0, [v24, ⟨3, 0, r0, []⟩]⟩ h30 c31) (
q_addW 3 9223372036854775807 (binC Try.prog .add 3 (.tmp 17) (.const (.int .i64 (.ofNat 1))) (dec v24) (dec ⟨3, 1, r0, []⟩)) v24 ⟨3, 1, r0, []⟩ fun v32 =>
f27 v32 h30 c31)) (
K ⟨13, 0, r0, [⟨3, 0, r0, []⟩, ⟨3, 6, r0, []⟩]⟩ h25 c26)) fu ⟨3, 0, r0, []⟩ h21 c22)) fun f19 =>
q_guardW false v2 (q_cmpW (cmpF2 .neq) 3 (binC Try.prog .neq 3 (.tmp 12) (.tmp 14) (dec v8) (dec v16)) v8 v16 fun v33 =>
f19 v33 h17 c18) (f19 wUnd h17 c18)) fun f15 =>
q_guardW false v2 (q_lenW (lenC tys 36 (dec v12)) v12 fun v34 =>
f15 v34 h13 c14) (f15 wUnd h13 c14)) fun f11 =>
q_guardW false v2 (f11 a1 h9 c10) (f11 wUnd h9 c10)) fun f7 =>
q_guardW false v2 (q_lenW (lenC tys 36 (dec v4)) v4 fun v35 =>
f7 v35 h5 c6) (f7 wUnd h5 c6)) fun f3 =>
q_guardW false v2 (f3 a0 h0 c0) (f3 wUnd h0 c0)
theorem R25_eq (Q : PrimW) (fu : Nat) (call : CallW) : curryA 2 (fnK Q Try.prog tys stl fu call e25) = R25 Q.share Q.addW Q.cmpW Q.condW Q.guardW Q.pickW Q.lenW fu call := by kernel_rfl
noncomputable def n25 : List W → HW → Nat → KW → Bool := appF 2 (R25 (fun _ x f => f x) addW cmpW condW guardW pickW lenW 1000000 d2.fn)
theorem n25_ok : FnGood Try.prog tys stl tab 25 n25 := node_ok d2_ok (by kernel_rfl) rfl g25 (R25_eq real _ _)
/- foghorn/turns.Marked -/
noncomputable def R32 (q_share : (α : Type) → α → (α → Bool) → Bool) (q_addW : Nat → Nat → Option CV → W → W → (W → Bool) → Bool) (q_subW : Nat → Nat → Option CV → W → W → (W → Bool) → Bool) (q_cmpW : (Nat → Nat → Bool) → Nat → Option CV → W → W → (W → Bool) → Bool) (q_notW : Option CV → W → (W → Bool) → Bool) (q_condW : W → Bool → Bool → Bool) (q_guardW : Bool → W → Bool → Bool → Bool) (q_pickW : W → W → W → (W → Bool) → Bool) (q_idxSW : Nat → W → W → (W → Bool) → Bool) (q_lenW : Option CV → W → (W → Bool) → Bool) (q_tupW : W → (List W → Bool) → Bool) (q_nthW : Nat → List W → (W → Bool) → Bool) (q_loadSW : HW → W → (W → Bool) → Bool) (q_storeSW : HW → W → W → (HW → Bool) → Bool) (q_makeSW : Nat → Nat → Nat → Kind → List W → Bool → HW → Nat → W → W → KW → Bool) (fu : Nat) (call : CallW) (a0 : W) (a1 : W) (h0 : HW) (c0 : Nat) (K : KW) : Bool :=
call 29 [a0] h0 c0 fun v1 h2 c3 =>
q_tupW v1 fun l4 => q_nthW 0 l4 fun v5 =>
q_tupW v1 fun l6 => q_nthW 1 l6 fun v7 =>
q_cmpW (cmpF2 .neq) 3 (binC Try.prog .neq 38 (.tmp 16) (.const (.int .i64 (.ofNat 0))) (dec v7) (dec ⟨3, 0, r0, []⟩)) v7 ⟨3, 0, r0, []⟩ fun v8 =>
q_condW v8 (
K ⟨13, 0, r0, [⟨12, 0, ⟨0, 0, 0, .nils⟩, []⟩, ⟨12, 0, ⟨0, 0, 0, .nils⟩, []⟩, v7]⟩ h2 c3) (
q_lenW (lenC tys 23 (dec a1)) a1 fun v9 =>
q_lenW (lenC tys 22 (dec a0)) a0 fun v10 =>
q_cmpW (cmpF2 .neq) 3 (binC Try.prog .neq 3 (.tmp 20) (.tmp 22) (dec v9) (dec v10)) v9 v10 fun v11 =>
q_condW v11 (
K ⟨13, 0, r0, [⟨12, 0, ⟨0, 0, 0, .nils⟩, []⟩, ⟨12, 0, ⟨0, 0, 0, .nils⟩, []⟩, ⟨3, 1, r0, []⟩]⟩ h2 c3) (
q_lenW (lenC tys 22 (dec a0)) a0 fun v12 =>
q_makeSW 1 1 8 .bools [⟨8, 0, r0, []⟩] true h2 c3 v12 v12 fun v13 h14 c15 =>
q_lenW (lenC tys 23 (dec v13)) v13 fun v16 =>
@Nat.rec (fun _ => Fun 1) (fun _ _ _ => false) (fun _ f20 v17 h18 c19 =>
q_cmpW (cmpF2 .lss) 3 (binC Try.prog .lss 3 (.tmp 29) (.tmp 28) (dec v17) (dec v16)) v17 v16 fun v21 =>
q_condW v21 (
q_share _ (fun  (h22 : HW) (c23 : Nat) =>
q_addW 3 9223372036854775807 (binC Try.prog .add 3 (.tmp 29) (.const (.int .i64 (.ofNat 1))) (dec v17) (dec ⟨3, 1, r0, []⟩)) v17 ⟨3, 1, r0, []⟩ fun v25 =>
f20 v25 h22 c23) fun f24 =>
q_idxSW 1 a1 v17 fun v26 =>
q_loadSW h18 v26 fun v27 =>
q_share _ (fun (v29 : W) (h30 : HW) (c31 : Nat) =>
q_share _ (fun (v33 : W) (h34 : HW) (c35 : Nat) =>
q_share _ (fun (v37 : W) (h38 : HW) (c39 : Nat) =>
q_share _ (fun (v41 : W) (h42 : HW) (c43 : Nat) =>
q_share _ (fun (v45 : W) (h46 : HW) (c47 : Nat) =>
q_share _ (fun (v49 : W) (h50 : HW) (c51 : Nat) =>
q_share _ (fun (v53 : W) (h54 : HW) (c55 : Nat) =>
q_share _ (fun (v57 : W) (h58 : HW) (c59 : Nat) =>
q_share _ (fun (v61 : W) (h62 : HW) (c63 : Nat) =>
q_pickW v27 v61 ⟨8, 0, r0, []⟩ fun v64 =>
q_idxSW 1 v13 v17 fun v65 =>
q_storeSW h62 v65 v64 fun h66 =>
q_idxSW 1 v13 v17 fun v67 =>
q_loadSW h66 v67 fun v68 =>
q_notW (two Try.prog (dec v68) (Op.unary .not)) v68 fun v69 =>
q_condW v69 (
q_idxSW 1 v5 v17 fun v70 =>
q_storeSW h66 v70 ⟨4, 0, r0, []⟩ fun h71 =>
f24 h71 c63) (
f24 h66 c63)) fun f60 =>
q_guardW true v27 (q_pickW v37 ⟨8, 1, r0, []⟩ v57 fun v72 =>
f60 v72 h58 c59) (f60 wUnd h58 c59)) fun f56 =>
q_guardW false v37 (q_loadSW h54 v53 fun v73 =>
f56 v73 h54 c55) (f56 wUnd h54 c55)) fun f52 =>
q_guardW false v37 (q_idxSW 1 v41 v49 fun v74 =>
f52 v74 h50 c51) (f52 wUnd h50 c51)) fun f48 =>
q_guardW false v37 (q_subW 3 9223372036854775807 (binC Try.prog .sub 3 (.tmp 43) (.const (.int .i64 (.ofNat 1))) (dec v45) (dec ⟨3, 1, r0, []⟩)) v45 ⟨3, 1, r0, []⟩ fun v75 =>
f48 v75 h46 c47) (f48 wUnd h46 c47)) fun f44 =>
q_guardW false v37 (f44 v17 h42 c43) (f44 wUnd h42 c43)) fun f40 =>
q_guardW false v37 (f40 a1 h38 c39) (f40 wUnd h38 c39)) fun f36 =>
q_guardW true v27 (f36 v33 h34 c35) (f36 wUnd h34 c35)) fun f32 =>
q_guardW true v27 (q_cmpW (cmpF2 .eql) 3 (binC Try.prog .eql 3 (.tmp 39) (.const (.int .i64 (.ofNat 0))) (dec v29) (dec ⟨3, 0, r0, []⟩)) v29 ⟨3, 0, r0, []⟩ fun v76 =>
f32 v76 h30 c31) (f32 wUnd h30 c31)) fun f28 =>
q_guardW true v27 (f28 v17 h18 c19) (f28 wUnd h18 c19)) (
K ⟨13, 0, r0, [v5, v13, ⟨3, 0, r0, []⟩]⟩ h18 c19)) fu ⟨3, 0, r0, []⟩ h14 c15))
theorem R32_eq (Q : PrimW) (fu : Nat) (call : CallW) : curryA 2 (fnK Q Try.prog tys stl fu call e32) = R32 Q.share Q.addW Q.subW Q.cmpW Q.notW Q.condW Q.guardW Q.pickW Q.idxSW Q.lenW Q.tupW Q.nthW Q.loadSW Q.storeSW Q.makeSW fu call := by kernel_rfl
noncomputable def n32 : List W → HW → Nat → KW → Bool := appF 2 (R32 (fun _ x f => f x) addW subW cmpW notW condW guardW pickW idxSW lenW tupW nthW loadSW storeSW makeSW 1000000 d2.fn)
theorem n32_ok : FnGood Try.prog tys stl tab 32 n32 := node_ok d2_ok (by kernel_rfl) rfl g32 (R32_eq real _ _)
noncomputable def d3 : Disp := (.node 31 n31 (.node 25 n25 (.node 15 n15 (.node 12 n12 (.node 9 n9 .leaf .leaf) .leaf) (.node 21 n21 .leaf .leaf)) (.node 29 n29 (.node 28 n28 .leaf .leaf) (.node 30 n30 .leaf .leaf))) (.node 45 n45 (.node 40 n40 (.node 32 n32 .leaf .leaf) (.node 41 n41 .leaf .leaf)) (.node 47 n47 (.node 46 n46 .leaf .leaf) (.node 49 n49 .leaf .leaf))))
theorem d3_ok : CallSim Try.prog tys stl tab d3.fn := Disp.sim ⟨n31_ok, ⟨n25_ok, ⟨n15_ok, ⟨n12_ok, ⟨n9_ok, True.intro, True.intro⟩, True.intro⟩, ⟨n21_ok, True.intro, True.intro⟩⟩, ⟨n29_ok, ⟨n28_ok, True.intro, True.intro⟩, ⟨n30_ok, True.intro, True.intro⟩⟩⟩, ⟨n45_ok, ⟨n40_ok, ⟨n32_ok, True.intro, True.intro⟩, ⟨n41_ok, True.intro, True.intro⟩⟩, ⟨n47_ok, ⟨n46_ok, True.intro, True.intro⟩, ⟨n49_ok, True.intro, True.intro⟩⟩⟩⟩
/- foghorn/foghornlaw06.TurnsNone -/
noncomputable def R7 (q_share : (α : Type) → α → (α → Bool) → Bool) (q_cmpW : (Nat → Nat → Bool) → Nat → Option CV → W → W → (W → Bool) → Bool) (q_notW : Option CV → W → (W → Bool) → Bool) (q_guardW : Bool → W → Bool → Bool → Bool) (q_pickW : W → W → W → (W → Bool) → Bool) (q_lenW : Option CV → W → (W → Bool) → Bool) (q_tupW : W → (List W → Bool) → Bool) (q_nthW : Nat → List W → (W → Bool) → Bool) (q_makeSW : Nat → Nat → Nat → Kind → List W → Bool → HW → Nat → W → W → KW → Bool) (q_buildSW : Nat → Nat → Kind → Nat → Bool → HW → Nat → Nat → List W → KW → Bool) (fu : Nat) (call : CallW) (h0 : HW) (c0 : Nat) (K : KW) : Bool :=
call 28 [⟨12, 0, ⟨0, 0, 0, .nils⟩, []⟩] h0 c0 fun v1 h2 c3 =>
q_tupW v1 fun l4 => q_nthW 0 l4 fun v5 =>
q_tupW v1 fun l6 => q_nthW 1 l6 fun v7 =>
q_buildSW 1 4 (.ints .u8) 1 true h2 c3 1 [⟨4, 4, r0, []⟩] fun v8 h9 c10 =>
call 28 [v8] h9 c10 fun v11 h12 c13 =>
q_tupW v11 fun l14 => q_nthW 0 l14 fun v15 =>
q_tupW v11 fun l16 => q_nthW 1 l16 fun v17 =>
q_makeSW 1 1 4 (.ints .u8) [⟨4, 0, r0, []⟩] true h12 c13 ⟨3, 65537, r0, []⟩ ⟨3, 65537, r0, []⟩ fun v18 h19 c20 =>
call 29 [v18] h19 c20 fun v21 h22 c23 =>
q_tupW v21 fun l24 => q_nthW 0 l24 fun v25 =>
q_tupW v21 fun l26 => q_nthW 1 l26 fun v27 =>
q_makeSW 1 1 4 (.ints .u8) [⟨4, 0, r0, []⟩] true h22 c23 ⟨3, 65536, r0, []⟩ ⟨3, 65536, r0, []⟩ fun v28 h29 c30 =>
call 29 [v28] h29 c30 fun v31 h32 c33 =>
q_tupW v31 fun l34 => q_nthW 0 l34 fun v35 =>
q_tupW v31 fun l36 => q_nthW 1 l36 fun v37 =>
q_makeSW 1 1 4 (.ints .u8) [⟨4, 0, r0, []⟩] true h32 c33 ⟨3, 16385, r0, []⟩ ⟨3, 16385, r0, []⟩ fun v38 h39 c40 =>
call 30 [v38] h39 c40 fun v41 h42 c43 =>
q_tupW v41 fun l44 => q_nthW 0 l44 fun v45 =>
q_tupW v41 fun l46 => q_nthW 1 l46 fun v47 =>
q_makeSW 1 1 8 .bools [⟨8, 0, r0, []⟩] true h42 c43 ⟨3, 32769, r0, []⟩ ⟨3, 32769, r0, []⟩ fun v48 h49 c50 =>
call 31 [v48] h49 c50 fun v51 h52 c53 =>
q_tupW v51 fun l54 => q_nthW 0 l54 fun v55 =>
q_tupW v51 fun l56 => q_nthW 1 l56 fun v57 =>
q_makeSW 1 1 8 .bools [⟨8, 0, r0, []⟩] true h52 c53 ⟨3, 32770, r0, []⟩ ⟨3, 32770, r0, []⟩ fun v58 h59 c60 =>
call 31 [v58] h59 c60 fun v61 h62 c63 =>
q_tupW v61 fun l64 => q_nthW 0 l64 fun v65 =>
q_tupW v61 fun l66 => q_nthW 1 l66 fun v67 =>
q_buildSW 1 4 (.ints .u8) 1 true h62 c63 1 [⟨4, 1, r0, []⟩] fun v68 h69 c70 =>
call 32 [v68, ⟨12, 0, ⟨0, 0, 0, .nils⟩, []⟩] h69 c70 fun v71 h72 c73 =>
q_tupW v71 fun l74 => q_nthW 0 l74 fun v75 =>
q_tupW v71 fun l76 => q_nthW 1 l76 fun v77 =>
q_tupW v71 fun l78 => q_nthW 2 l78 fun v79 =>
call 15 [⟨12, 0, ⟨0, 0, 0, .nils⟩, []⟩, ⟨12, 0, ⟨0, 0, 0, .flt .f64 0⟩, []⟩] h72 c73 fun v80 h81 c82 =>
q_tupW v80 fun l83 => q_nthW 0 l83 fun v84 =>
q_tupW v80 fun l85 => q_nthW 1 l85 fun v86 =>
call 15 [⟨12, 0, ⟨0, 0, 0, .nils⟩, []⟩, ⟨12, 0, ⟨0, 0, 0, .flt .f64 4553139223271571456⟩, []⟩] h81 c82 fun v87 h88 c89 =>
q_tupW v87 fun l90 => q_nthW 0 l90 fun v91 =>
q_tupW v87 fun l92 => q_nthW 1 l92 fun v93 =>
call 15 [⟨12, 0, ⟨0, 0, 0, .nils⟩, []⟩, ⟨12, 0, ⟨0, 0, 0, .flt .f64 4652220614096977920⟩, []⟩] h88 c89 fun v94 h95 c96 =>
q_tupW v94 fun l97 => q_nthW 0 l97 fun v98 =>
q_tupW v94 fun l99 => q_nthW 1 l99 fun v100 =>
call 25 [⟨12, 0, ⟨0, 0, 0, .nils⟩, []⟩, ⟨12, 0, ⟨0, 0, 0, .nils⟩, []⟩] h95 c96 fun v101 h102 c103 =>
q_tupW v101 fun l104 => q_nthW 0 l104 fun v105 =>
q_tupW v101 fun l106 => q_nthW 1 l106 fun v107 =>
q_makeSW 16 1 99 (.cpxs .f64) [⟨12, 0, ⟨0, 0, 0, .cpx .f64 0 0⟩, []⟩] true h102 c103 ⟨3, 1, r0, []⟩ ⟨3, 1, r0, []⟩ fun v108 h109 c110 =>
call 25 [⟨12, 0, ⟨0, 0, 0, .nils⟩, []⟩, v108] h109 c110 fun v111 h112 c113 =>
q_tupW v111 fun l114 => q_nthW 0 l114 fun v115 =>
q_tupW v111 fun l116 => q_nthW 1 l116 fun v117 =>
call 21 [⟨12, 0, ⟨0, 0, 0, .cpx .f64 0 0⟩, []⟩] h112 c113 fun v118 h119 c120 =>
q_tupW v118 fun l121 => q_nthW 0 l121 fun v122 =>
q_tupW v118 fun l123 => q_nthW 1 l123 fun v124 =>
q_lenW (lenC tys 22 (dec v5)) v5 fun v125 =>
q_cmpW (cmpF2 .eql) 3 (binC Try.prog .eql 3 (.tmp 96) (.const (.int .i64 (.ofNat 0))) (dec v125) (dec ⟨3, 0, r0, []⟩)) v125 ⟨3, 0, r0, []⟩ fun v126 =>
q_share _ (fun (v128 : W) (h129 : HW) (c130 : Nat) =>
q_share _ (fun (v132 : W) (h133 : HW) (c134 : Nat) =>
q_pickW v126 v132 ⟨8, 0, r0, []⟩ fun v135 =>
q_share _ (fun (v137 : W) (h138 : HW) (c139 : Nat) =>
q_share _ (fun (v141 : W) (h142 : HW) (c143 : Nat) =>
q_pickW v135 v141 ⟨8, 0, r0, []⟩ fun v144 =>
q_share _ (fun (v146 : W) (h147 : HW) (c148 : Nat) =>
q_share _ (fun (v150 : W) (h151 : HW) (c152 : Nat) =>
q_pickW v144 v150 ⟨8, 0, r0, []⟩ fun v153 =>
q_share _ (fun (v155 : W) (h156 : HW) (c157 : Nat) =>
q_share _ (fun (v159 : W) (h160 : HW) (c161 : Nat) =>
q_share _ (fun (v163 : W) (h164 : HW) (c165 : Nat) =>
q_pickW v153 v163 ⟨8, 0, r0, []⟩ fun v166 =>
q_share _ (fun (v168 : W) (h169 : HW) (c170 : Nat) =>
q_share _ (fun (v172 : W) (h173 : HW) (c174 : Nat) =>
q_pickW v166 v172 ⟨8, 0, r0, []⟩ fun v175 =>
q_share _ (fun (v177 : W) (h178 : HW) (c179 : Nat) =>
q_share _ (fun (v181 : W) (h182 : HW) (c183 : Nat) =>
q_pickW v175 v181 ⟨8, 0, r0, []⟩ fun v184 =>
q_share _ (fun (v186 : W) (h187 : HW) (c188 : Nat) =>
q_share _ (fun (v190 : W) (h191 : HW) (c192 : Nat) =>
q_pickW v184 v190 ⟨8, 0, r0, []⟩ fun v193 =>
q_share _ (fun (v195 : W) (h196 : HW) (c197 : Nat) =>
q_share _ (fun (v199 : W) (h200 : HW) (c201 : Nat) =>
q_pickW v193 v199 ⟨8, 0, r0, []⟩ fun v202 =>
q_share _ (fun (v204 : W) (h205 : HW) (c206 : Nat) =>
q_share _ (fun (v208 : W) (h209 : HW) (c210 : Nat) =>
q_pickW v202 v208 ⟨8, 0, r0, []⟩ fun v211 =>
q_share _ (fun (v213 : W) (h214 : HW) (c215 : Nat) =>
q_share _ (fun (v217 : W) (h218 : HW) (c219 : Nat) =>
q_pickW v211 v217 ⟨8, 0, r0, []⟩ fun v220 =>
q_share _ (fun (v222 : W) (h223 : HW) (c224 : Nat) =>
q_share _ (fun (v226 : W) (h227 : HW) (c228 : Nat) =>
q_pickW v220 v226 ⟨8, 0, r0, []⟩ fun v229 =>
q_share _ (fun (v231 : W) (h232 : HW) (c233 : Nat) =>
q_share _ (fun (v235 : W) (h236 : HW) (c237 : Nat) =>
q_pickW v229 v235 ⟨8, 0, r0, []⟩ fun v238 =>
q_share _ (fun (v240 : W) (h241 : HW) (c242 : Nat) =>
q_share _ (fun (v244 : W) (h245 : HW) (c246 : Nat) =>
q_pickW v238 v244 ⟨8, 0, r0, []⟩ fun v247 =>
q_share _ (fun (v249 : W) (h250 : HW) (c251 : Nat) =>
q_share _ (fun (v253 : W) (h254 : HW) (c255 : Nat) =>
q_pickW v247 v253 ⟨8, 0, r0, []⟩ fun v256 =>
q_share _ (fun (v258 : W) (h259 : HW) (c260 : Nat) =>
q_share _ (fun (v262 : W) (h263 : HW) (c264 : Nat) =>
q_pickW v256 v262 ⟨8, 0, r0, []⟩ fun v265 =>
q_share _ (fun (v267 : W) (h268 : HW) (c269 : Nat) =>
q_share _ (fun (v271 : W) (h272 : HW) (c273 : Nat) =>
q_pickW v265 v271 ⟨8, 0, r0, []⟩ fun v274 =>
q_share _ (fun (v276 : W) (h277 : HW) (c278 : Nat) =>
q_share _ (fun (v280 : W) (h281 : HW) (c282 : Nat) =>
q_pickW v274 v280 ⟨8, 0, r0, []⟩ fun v283 =>
q_share _ (fun (v285 : W) (h286 : HW) (c287 : Nat) =>
q_pickW v283 v285 ⟨8, 0, r0, []⟩ fun v288 =>
K v288 h286 c287) fun f284 =>
q_guardW true v283 (call 12 [] h281 c282 fun v289 h290 c291 =>
f284 v289 h290 c291) (f284 wUnd h281 c282)) fun f279 =>
q_guardW true v274 (q_notW (two Try.prog (dec v276) (Op.unary .not)) v276 fun v292 =>
f279 v292 h277 c278) (f279 wUnd h277 c278)) fun f275 =>
q_guardW true v274 (f275 v124 h272 c273) (f275 wUnd h272 c273)) fun f270 =>
q_guardW true v265 (q_cmpW (cmpF2 .eql) 4 (binC Try.prog .eql 5 (.tmp 160) (.const (.int .u8 (.ofNat 0))) (dec v267) (dec ⟨4, 0, r0, []⟩)) v267 ⟨4, 0, r0, []⟩ fun v293 =>
f270 v293 h268 c269) (f270 wUnd h268 c269)) fun f266 =>
q_guardW true v265 (f266 v122 h263 c264) (f266 wUnd h263 c264)) fun f261 =>
q_guardW true v256 (q_cmpW (cmpF2 .eql) 3 (binC Try.prog .eql 38 (.tmp 156) (.const (.int .i64 (.ofNat 1))) (dec v258) (dec ⟨3, 1, r0, []⟩)) v258 ⟨3, 1, r0, []⟩ fun v294 =>
f261 v294 h259 c260) (f261 wUnd h259 c260)) fun f257 =>
q_guardW true v256 (f257 v117 h254 c255) (f257 wUnd h254 c255)) fun f252 =>
q_guardW true v247 (q_cmpW (cmpF2 .eql) 3 (binC Try.prog .eql 38 (.tmp 152) (.const (.int .i64 (.ofNat 0))) (dec v249) (dec ⟨3, 0, r0, []⟩)) v249 ⟨3, 0, r0, []⟩ fun v295 =>
f252 v295 h250 c251) (f252 wUnd h250 c251)) fun f248 =>
q_guardW true v247 (f248 v107 h245 c246) (f248 wUnd h245 c246)) fun f243 =>
q_guardW true v238 (q_cmpW (cmpF2 .eql) 3 (binC Try.prog .eql 3 (.tmp 148) (.const (.int .i64 (.ofNat 0))) (dec v240) (dec ⟨3, 0, r0, []⟩)) v240 ⟨3, 0, r0, []⟩ fun v296 =>
f243 v296 h241 c242) (f243 wUnd h241 c242)) fun f239 =>
q_guardW true v238 (f239 v105 h236 c237) (f239 wUnd h236 c237)) fun f234 =>
q_guardW true v229 (q_cmpW (cmpF2 .eql) 3 (binC Try.prog .eql 38 (.tmp 144) (.const (.int .i64 (.ofNat 1))) (dec v231) (dec ⟨3, 1, r0, []⟩)) v231 ⟨3, 1, r0, []⟩ fun v297 =>
f234 v297 h232 c233) (f234 wUnd h232 c233)) fun f230 =>
q_guardW true v229 (f230 v100 h227 c228) (f230 wUnd h227 c228)) fun f225 =>
q_guardW true v220 (q_cmpW (cmpF2 .eql) 3 (binC Try.prog .eql 38 (.tmp 140) (.const (.int .i64 (.ofNat 0))) (dec v222) (dec ⟨3, 0, r0, []⟩)) v222 ⟨3, 0, r0, []⟩ fun v298 =>
f225 v298 h223 c224) (f225 wUnd h223 c224)) fun f221 =>
q_guardW true v220 (f221 v93 h218 c219) (f221 wUnd h218 c219)) fun f216 =>
q_guardW true v211 (q_cmpW (cmpF2 .eql) 3 (binC Try.prog .eql 38 (.tmp 136) (.const (.int .i64 (.ofNat 1))) (dec v213) (dec ⟨3, 1, r0, []⟩)) v213 ⟨3, 1, r0, []⟩ fun v299 =>
f216 v299 h214 c215) (f216 wUnd h214 c215)) fun f212 =>
q_guardW true v211 (f212 v86 h209 c210) (f212 wUnd h209 c210)) fun f207 =>
q_guardW true v202 (q_cmpW (cmpF2 .eql) 3 (binC Try.prog .eql 38 (.tmp 132) (.const (.int .i64 (.ofNat 1))) (dec v204) (dec ⟨3, 1, r0, []⟩)) v204 ⟨3, 1, r0, []⟩ fun v300 =>
f207 v300 h205 c206) (f207 wUnd h205 c206)) fun f203 =>
q_guardW true v202 (f203 v79 h200 c201) (f203 wUnd h200 c201)) fun f198 =>
q_guardW true v193 (q_cmpW (cmpF2 .eql) 3 (binC Try.prog .eql 38 (.tmp 128) (.const (.int .i64 (.ofNat 1))) (dec v195) (dec ⟨3, 1, r0, []⟩)) v195 ⟨3, 1, r0, []⟩ fun v301 =>
f198 v301 h196 c197) (f198 wUnd h196 c197)) fun f194 =>
q_guardW true v193 (f194 v67 h191 c192) (f194 wUnd h191 c192)) fun f189 =>
q_guardW true v184 (q_cmpW (cmpF2 .eql) 3 (binC Try.prog .eql 38 (.tmp 124) (.const (.int .i64 (.ofNat 1))) (dec v186) (dec ⟨3, 1, r0, []⟩)) v186 ⟨3, 1, r0, []⟩ fun v302 =>
f189 v302 h187 c188) (f189 wUnd h187 c188)) fun f185 =>
q_guardW true v184 (f185 v57 h182 c183) (f185 wUnd h182 c183)) fun f180 =>
q_guardW true v175 (q_cmpW (cmpF2 .eql) 3 (binC Try.prog .eql 38 (.tmp 120) (.const (.int .i64 (.ofNat 1))) (dec v177) (dec ⟨3, 1, r0, []⟩)) v177 ⟨3, 1, r0, []⟩ fun v303 =>
f180 v303 h178 c179) (f180 wUnd h178 c179)) fun f176 =>
q_guardW true v175 (f176 v47 h173 c174) (f176 wUnd h173 c174)) fun f171 =>
q_guardW true v166 (q_cmpW (cmpF2 .eql) 3 (binC Try.prog .eql 38 (.tmp 116) (.const (.int .i64 (.ofNat 0))) (dec v168) (dec ⟨3, 0, r0, []⟩)) v168 ⟨3, 0, r0, []⟩ fun v304 =>
f171 v304 h169 c170) (f171 wUnd h169 c170)) fun f167 =>
q_guardW true v166 (f167 v37 h164 c165) (f167 wUnd h164 c165)) fun f162 =>
q_guardW true v153 (q_cmpW (cmpF2 .eql) 3 (binC Try.prog .eql 3 (.tmp 112) (.const (.int .i64 (.ofNat 65536))) (dec v159) (dec ⟨3, 65536, r0, []⟩)) v159 ⟨3, 65536, r0, []⟩ fun v305 =>
f162 v305 h160 c161) (f162 wUnd h160 c161)) fun f158 =>
q_guardW true v153 (q_lenW (lenC tys 22 (dec v155)) v155 fun v306 =>
f158 v306 h156 c157) (f158 wUnd h156 c157)) fun f154 =>
q_guardW true v153 (f154 v35 h151 c152) (f154 wUnd h151 c152)) fun f149 =>
q_guardW true v144 (q_cmpW (cmpF2 .eql) 3 (binC Try.prog .eql 38 (.tmp 107) (.const (.int .i64 (.ofNat 1))) (dec v146) (dec ⟨3, 1, r0, []⟩)) v146 ⟨3, 1, r0, []⟩ fun v307 =>
f149 v307 h147 c148) (f149 wUnd h147 c148)) fun f145 =>
q_guardW true v144 (f145 v27 h142 c143) (f145 wUnd h142 c143)) fun f140 =>
q_guardW true v135 (q_cmpW (cmpF2 .eql) 3 (binC Try.prog .eql 38 (.tmp 103) (.const (.int .i64 (.ofNat 1))) (dec v137) (dec ⟨3, 1, r0, []⟩)) v137 ⟨3, 1, r0, []⟩ fun v308 =>
f140 v308 h138 c139) (f140 wUnd h138 c139)) fun f136 =>
q_guardW true v135 (f136 v17 h133 c134) (f136 wUnd h133 c134)) fun f131 =>
q_guardW true v126 (q_cmpW (cmpF2 .eql) 3 (binC Try.prog .eql 38 (.tmp 99) (.const (.int .i64 (.ofNat 0))) (dec v128) (dec ⟨3, 0, r0, []⟩)) v128 ⟨3, 0, r0, []⟩ fun v309 =>
f131 v309 h129 c130) (f131 wUnd h129 c130)) fun f127 =>
q_guardW true v126 (f127 v7 h119 c120) (f127 wUnd h119 c120)
theorem R7_eq (Q : PrimW) (fu : Nat) (call : CallW) : curryA 0 (fnK Q Try.prog tys stl fu call e7) = R7 Q.share Q.cmpW Q.notW Q.guardW Q.pickW Q.lenW Q.tupW Q.nthW Q.makeSW Q.buildSW fu call := by kernel_rfl
noncomputable def n7 : List W → HW → Nat → KW → Bool := appF 0 (R7 (fun _ x f => f x) cmpW notW guardW pickW lenW tupW nthW makeSW buildSW 1000000 d3.fn)
theorem n7_ok : FnGood Try.prog tys stl tab 7 n7 := node_ok d3_ok (by kernel_rfl) rfl g7 (R7_eq real _ _)
noncomputable def d4 : Disp := (.node 30 n30 (.node 21 n21 (.node 12 n12 (.node 9 n9 (.node 7 n7 .leaf .leaf) .leaf) (.node 15 n15 .leaf .leaf)) (.node 28 n28 (.node 25 n25 .leaf .leaf) (.node 29 n29 .leaf .leaf))) (.node 45 n45 (.node 40 n40 (.node 32 n32 (.node 31 n31 .leaf .leaf) .leaf) (.node 41 n41 .leaf .leaf)) (.node 47 n47 (.node 46 n46 .leaf .leaf) (.node 49 n49 .leaf .leaf))))
theorem d4_ok : CallSim Try.prog tys stl tab d4.fn := Disp.sim ⟨n30_ok, ⟨n21_ok, ⟨n12_ok, ⟨n9_ok, ⟨n7_ok, True.intro, True.intro⟩, True.intro⟩, ⟨n15_ok, True.intro, True.intro⟩⟩, ⟨n28_ok, ⟨n25_ok, True.intro, True.intro⟩, ⟨n29_ok, True.intro, True.intro⟩⟩⟩, ⟨n45_ok, ⟨n40_ok, ⟨n32_ok, ⟨n31_ok, True.intro, True.intro⟩, True.intro⟩, ⟨n41_ok, True.intro, True.intro⟩⟩, ⟨n47_ok, ⟨n46_ok, True.intro, True.intro⟩, ⟨n49_ok, True.intro, True.intro⟩⟩⟩⟩
noncomputable abbrev dT : Disp := d4
theorem dT_ok : CallSim Try.prog tys stl tab dT.fn := d4_ok

set_option maxHeartbeats 0 in
theorem run7 : lawK dT.fn 7 = true := by kernel_rfl
namespace turnsNone
open Go.ChangeShapes Go.WideShapes Go.ChangeAt Go.RowKit
theorem own : ownKnob Try.prog.godebug = none := by kernel_rfl
theorem laid : laidOutB Try.prog = true := by kernel_rfl
theorem lifted (os : Os) (started : os.Started) (H : Type) (enc : TypeId × Value → H) :
    ReturnsInHanded {} Try.checked os 7 .any (Rows.turnsNoneSpec.pre6 enc Try.prog Try.f7 Rows.turnsNoneRow.domain false) (Rows.turnsNoneSpec.post enc Try.prog Try.f7 false true false false) := by
  refine returnsInHanded_of_change (C := Try.checked) own started (by kernel_rfl) Try.func7
    (ChangeSpec.witness6 (enc := enc) (C := Try.checked) false ⟨#[], #[], []⟩ 8 (by kernel_rfl) (by kernel_rfl) (by kernel_rfl) (by kernel_rfl)) ?_
  intro W base args ds gs before hval0 hW hcnd _
  have hW' := hW
  obtain ⟨p, q, hA0, hV, rfl, hfz, hnd⟩ := hW
  have hA : DataW.TrodAll enc Try.prog W 0 (fun _ => true) true Try.f7.params.toList args.toList ds p := hA0
  rw [Try.params7] at hA
  obtain ⟨hargs, rfl, rfl⟩ := trodAll_nil hA
  obtain rfl : args = #[] := by cases args; simp_all
  obtain ⟨rfl, rfl⟩ := trodVars_none hV
  clear hA0 hval0
  refine (lawK_true tok mixed fok dT_ok (by kernel_rfl : tab 7 = some e7) rfl run7 W).mono fun e W' ⟨he, hg⟩ => ?_
  subst he
  exact ⟨_, rfl, law_done laid rfl rfl Try.underlying4 (by kernel_rfl) hW' rfl hg⟩

theorem over : Rows.turnsNoneRow.holds Try.pinned (OpenSpec.ofChange Rows.turnsNoneSpec) :=
  OpenClaim.holds_of_wide 7 Try.f7 rfl rfl rfl rfl rfl rfl rfl ⟨rfl, rfl, rfl, rfl, rfl⟩ rfl rfl rfl rfl rfl (by kernel_rfl) Try.func7 (by kernel_rfl)
    (of_decide_eq_true (by kernel_rfl)) (by unfold Func.isWrapper; first | (rw [if_pos (by decide +kernel)]; kernel_rfl) | (rw [if_neg (by decide +kernel)]; exact ⟨rfl, rfl⟩))
    (fun os started H enc _ => lifted os started H enc)

theorem proved : Rows.TurnsNoneSaid := over
end turnsNone
end Go.Proofs.Ytcckfdgpdmkjnaa
