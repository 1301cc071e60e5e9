/-
  foghornlaw16.ScrambleNames returns true, whatever the memory it begins in. No condition.
-/
import Derived.Test.YtbfjkddobhafeaaRows
import Derived.Test.YtbfjkddobhafeaaGx
import Derived.WalkKit
import Derived.ProofKit
import Derived.OpenShut
set_option linter.unusedVariables false
set_option maxRecDepth 1000000
namespace Go.Proofs.Ytbfjkddobhafeaa
open Go Go.Fw
def tys : List (Nat × TyI) := [
  (1, ⟨.func, 1, 8, .nilFunc⟩),
  (2, ⟨.int .i64, 1, 8, .int .i64 0⟩),
  (3, ⟨.int .i64, 1, 8, .int .i64 0⟩),
  (4, ⟨.bool, 1, 1, .bool false⟩),
  (5, ⟨.int .u8, 1, 1, .int .u8 0⟩),
  (9, ⟨.str, 1, 16, .string (ByteArray.mk #[])⟩),
  (12, ⟨.int .u64, 1, 8, .int .u64 0⟩),
  (21, ⟨.int .i32, 1, 4, .int .i32 0⟩),
  (22, ⟨.ptr 60, 1, 8, .pointer none⟩),
  (23, ⟨.int .i64, 1, 8, .int .i64 0⟩),
  (25, ⟨.func, 1, 8, .nilFunc⟩),
  (26, ⟨.slice 4, 1, 24, .slice none 0 0⟩),
  (28, ⟨.func, 1, 8, .nilFunc⟩),
  (29, ⟨.func, 1, 8, .nilFunc⟩),
  (30, ⟨.func, 1, 8, .nilFunc⟩),
  (32, ⟨.func, 1, 8, .nilFunc⟩),
  (33, ⟨.int .u32, 1, 4, .int .u32 0⟩),
  (34, ⟨.func, 1, 8, .nilFunc⟩),
  (35, ⟨.func, 1, 8, .nilFunc⟩),
  (36, ⟨.func, 1, 8, .nilFunc⟩),
  (38, ⟨.func, 1, 8, .nilFunc⟩),
  (39, ⟨.func, 1, 8, .nilFunc⟩),
  (40, ⟨.func, 1, 8, .nilFunc⟩),
  (41, ⟨.slice 47, 1, 24, .slice none 0 0⟩),
  (42, ⟨.ptr 70, 1, 8, .pointer none⟩),
  (44, ⟨.func, 1, 8, .nilFunc⟩),
  (45, ⟨.func, 1, 8, .nilFunc⟩),
  (46, ⟨.struct [(0, 5), (1, 3), (2, 2), (3, 26)], 4, 48, .agg #[.int .u8 0, .int .i64 0, .int .i64 0, .slice none 0 0]⟩),
  (47, ⟨.struct [(0, 5), (1, 3), (2, 2), (3, 26)], 4, 48, .agg #[.int .u8 0, .int .i64 0, .int .i64 0, .slice none 0 0]⟩),
  (48, ⟨.func, 1, 8, .nilFunc⟩),
  (49, ⟨.func, 1, 8, .nilFunc⟩),
  (50, ⟨.func, 1, 8, .nilFunc⟩),
  (51, ⟨.func, 1, 8, .nilFunc⟩),
  (52, ⟨.int .u64, 1, 8, .int .u64 0⟩),
  (53, ⟨.func, 1, 8, .nilFunc⟩),
  (54, ⟨.func, 1, 8, .nilFunc⟩),
  (56, ⟨.func, 1, 8, .nilFunc⟩),
  (57, ⟨.func, 1, 8, .nilFunc⟩),
  (58, ⟨.func, 1, 8, .nilFunc⟩),
  (59, ⟨.struct [(0, 52), (1, 33), (2, 33)], 3, 16, .agg #[.int .u64 0, .int .u32 0, .int .u32 0]⟩),
  (60, ⟨.struct [(0, 52), (1, 33), (2, 33)], 3, 16, .agg #[.int .u64 0, .int .u32 0, .int .u32 0]⟩),
  (61, ⟨.func, 1, 8, .nilFunc⟩),
  (62, ⟨.func, 1, 8, .nilFunc⟩),
  (63, ⟨.int .u64, 1, 8, .int .u64 0⟩),
  (64, ⟨.array 32 33, 32, 128, .agg ⟨List.replicate 32 (.int .u32 0)⟩⟩),
  (65, ⟨.array 32 33, 32, 128, .agg ⟨List.replicate 32 (.int .u32 0)⟩⟩),
  (66, ⟨.func, 1, 8, .nilFunc⟩),
  (67, ⟨.func, 1, 8, .nilFunc⟩),
  (68, ⟨.func, 1, 8, .nilFunc⟩),
  (69, ⟨.struct [(0, 26), (1, 26)], 2, 48, .agg #[.slice none 0 0, .slice none 0 0]⟩),
  (70, ⟨.struct [(0, 26), (1, 26)], 2, 48, .agg #[.slice none 0 0, .slice none 0 0]⟩),
  (71, ⟨.func, 1, 8, .nilFunc⟩),
  (72, ⟨.func, 1, 8, .nilFunc⟩),
  (73, ⟨.slice 33, 1, 24, .slice none 0 0⟩),
  (74, ⟨.func, 1, 8, .nilFunc⟩),
  (75, ⟨.func, 1, 8, .nilFunc⟩),
  (76, ⟨.func, 1, 8, .nilFunc⟩),
  (82, ⟨.func, 1, 8, .nilFunc⟩),
  (85, ⟨.func, 1, 8, .nilFunc⟩),
  (86, ⟨.ptr 5, 1, 8, .pointer none⟩)]


theorem tok : TOk Try.prog tys := tok_of ⟨⟨by kernel_rfl, by kernel_rfl⟩, ⟨by kernel_rfl, by kernel_rfl⟩, ⟨by kernel_rfl, by kernel_rfl⟩, ⟨by kernel_rfl, by kernel_rfl⟩, ⟨by kernel_rfl, by kernel_rfl⟩, ⟨by kernel_rfl, by kernel_rfl⟩, ⟨by kernel_rfl, by kernel_rfl⟩, ⟨by kernel_rfl, by kernel_rfl⟩, ⟨by kernel_rfl, by kernel_rfl⟩, ⟨by kernel_rfl, by kernel_rfl⟩, ⟨by kernel_rfl, by kernel_rfl⟩, ⟨by kernel_rfl, by kernel_rfl⟩, ⟨by kernel_rfl, by kernel_rfl⟩, ⟨by kernel_rfl, by kernel_rfl⟩, ⟨by kernel_rfl, by kernel_rfl⟩, ⟨by kernel_rfl, by kernel_rfl⟩, ⟨by kernel_rfl, by kernel_rfl⟩, ⟨by kernel_rfl, by kernel_rfl⟩, ⟨by kernel_rfl, by kernel_rfl⟩, ⟨by kernel_rfl, by kernel_rfl⟩, ⟨by kernel_rfl, by kernel_rfl⟩, ⟨by kernel_rfl, by kernel_rfl⟩, ⟨by kernel_rfl, by kernel_rfl⟩, ⟨by kernel_rfl, by kernel_rfl⟩, ⟨by kernel_rfl, by kernel_rfl⟩, ⟨by kernel_rfl, by kernel_rfl⟩, ⟨by kernel_rfl, by kernel_rfl⟩, ⟨by kernel_rfl, by kernel_rfl⟩, ⟨by kernel_rfl, by kernel_rfl⟩, ⟨by kernel_rfl, by kernel_rfl⟩, ⟨by kernel_rfl, by kernel_rfl⟩, ⟨by kernel_rfl, by kernel_rfl⟩, ⟨by kernel_rfl, by kernel_rfl⟩, ⟨by kernel_rfl, by kernel_rfl⟩, ⟨by kernel_rfl, by kernel_rfl⟩, ⟨by kernel_rfl, by kernel_rfl⟩, ⟨by kernel_rfl, by kernel_rfl⟩, ⟨by kernel_rfl, by kernel_rfl⟩, ⟨by kernel_rfl, by kernel_rfl⟩, ⟨by kernel_rfl, by kernel_rfl⟩, ⟨by kernel_rfl, by kernel_rfl⟩, ⟨by kernel_rfl, by kernel_rfl⟩, ⟨by kernel_rfl, by kernel_rfl⟩, ⟨by kernel_rfl, by kernel_rfl⟩, ⟨by kernel_rfl, by kernel_rfl⟩, ⟨by kernel_rfl, by kernel_rfl⟩, ⟨by kernel_rfl, by kernel_rfl⟩, ⟨by kernel_rfl, by kernel_rfl⟩, ⟨by kernel_rfl, by kernel_rfl⟩, ⟨by kernel_rfl, by kernel_rfl⟩, ⟨by kernel_rfl, by kernel_rfl⟩, ⟨by kernel_rfl, by kernel_rfl⟩, ⟨by kernel_rfl, by kernel_rfl⟩, ⟨by kernel_rfl, by kernel_rfl⟩, ⟨by kernel_rfl, by kernel_rfl⟩, ⟨by kernel_rfl, by kernel_rfl⟩, ⟨by kernel_rfl, by kernel_rfl⟩, ⟨by kernel_rfl, by kernel_rfl⟩, ⟨by kernel_rfl, by kernel_rfl⟩, ⟨by kernel_rfl, by kernel_rfl⟩, True.intro⟩
theorem mixed : Try.prog.follows .mixedOrders = true := by kernel_rfl
def inL : List Nat → Nat → Bool
  | [], _ => false
  | a :: r, n => match Nat.beq a n with | true => true | false => inL r n
def stl : Nat → Bool := inL [16, 34, 43]
/- 4: foghorn/foghornlaw16.ScrambleNames -/
def p4 : Nat → Option PlanC := fun
  | 18 => some (.op 0 false (.op 1 false (.op 2 false (.op 3 false (.op 4 false (.op 5 false (.op 6 false (.op 7 false (.op 8 false (.op 9 false (.op 10 false (.op 11 false (.op 12 false (.op 13 false (.op 14 false (.op 15 false (.op 16 false (.op 17 false (.op 18 false (.op 19 false (.op 20 false (.op 21 false (.op 22 false (.op 23 false (.op 24 false (.op 25 false (.op 26 false (.op 27 false (.op 28 false (.op 29 false (.op 30 false (.op 31 false (.op 32 false (.op 33 false (.op 34 false (.op 35 false (.op 36 false (.op 37 false (.op 38 false (.op 39 false (.op 40 false (.op 41 false (.op 42 false (.op 43 false (.op 44 false (.op 45 false (.op 46 false (.op 47 false (.op 48 false (.op 49 false (.op 50 false (.done))))))))))))))))))))))))))))))))))))))))))))))))))))
  | _ => none
def wl4 : Nat → List Nat := fun
  | 14 => [15, 16]
  | _ => []
def wj4 : Nat → Option (List Nat) := fun
  | 15 => some [15]
  | _ => none
def kr4 : Nat → List Nat := fun _ => []
noncomputable def e4 : Ent := entOf Try.f4 ⟨p4, wl4, wj4, kr4, []⟩
theorem g4 : EntOk Try.prog stl 4 e4 := .inr ⟨rfl, Try.func4, by kernel_rfl, by kernel_rfl, by kernel_rfl, by kernel_rfl, by kernel_rfl, rfl⟩
/- 12: (*foghorn/scramble.Register).Row -/
def p12 : Nat → Option PlanC := fun
  | 10 => some (.op 1 false (.op 2 false (.op 3 false (.op 4 false (.op 5 false (.op 6 false (.op 7 false (.op 0 true (.op 8 false (.op 9 false (.op 10 false (.op 11 false (.done)))))))))))))
  | _ => none
def wl12 : Nat → List Nat := fun
  | 7 => [19]
  | _ => []
def wj12 : Nat → Option (List Nat) := fun _ => none
def kr12 : Nat → List Nat := fun _ => []
noncomputable def e12 : Ent := entOf Try.f12 ⟨p12, wl12, wj12, kr12, []⟩
theorem g12 : EntOk Try.prog stl 12 e12 := .inr ⟨rfl, Try.func12, by kernel_rfl, by kernel_rfl, by kernel_rfl, by kernel_rfl, by kernel_rfl, rfl⟩
/- 13: (*foghorn/scramble.Register).Apply -/
def p13 : Nat → Option PlanC := fun _ => none
def wl13 : Nat → List Nat := fun _ => []
def wj13 : Nat → Option (List Nat) := fun _ => none
def kr13 : Nat → List Nat := fun _ => []
noncomputable def e13 : Ent := entOf Try.f13 ⟨p13, wl13, wj13, kr13, []⟩
theorem g13 : EntOk Try.prog stl 13 e13 := .inr ⟨rfl, Try.func13, by kernel_rfl, by kernel_rfl, by kernel_rfl, by kernel_rfl, by kernel_rfl, rfl⟩
/- 14: (*foghorn/scramble.Register).Jump -/
def p14 : Nat → Option PlanC := fun
  | 15 => some (.op 1 false (.op 2 false (.op 3 false (.op 4 false (.op 5 false (.op 0 true (.op 6 false (.op 7 false (.op 8 false (.op 9 false (.done)))))))))))
  | _ => none
def wl14 : Nat → List Nat := fun
  | 8 => [29]
  | 12 => [6]
  | _ => []
def wj14 : Nat → Option (List Nat) := fun
  | 6 => some [5, 6]
  | 16 => some []
  | _ => none
def kr14 : Nat → List Nat := fun _ => []
noncomputable def e14 : Ent := entOf Try.f14 ⟨p14, wl14, wj14, kr14, [7]⟩
theorem g14 : EntOk Try.prog stl 14 e14 := .inr ⟨rfl, Try.func14, by kernel_rfl, by kernel_rfl, by kernel_rfl, by kernel_rfl, by kernel_rfl, rfl⟩
/- 15: (*foghorn/scramble.Register).Period -/
def p15 : Nat → Option PlanC := fun _ => none
def wl15 : Nat → List Nat := fun
  | 7 => [6, 21]
  | _ => []
def wj15 : Nat → Option (List Nat) := fun _ => none
def kr15 : Nat → List Nat := fun _ => []
noncomputable def e15 : Ent := entOf Try.f15 ⟨p15, wl15, wj15, kr15, []⟩
theorem g15 : EntOk Try.prog stl 15 e15 := .inr ⟨rfl, Try.func15, by kernel_rfl, by kernel_rfl, by kernel_rfl, by kernel_rfl, by kernel_rfl, rfl⟩
/- 16: (*foghorn/scramble.Register).State -/
def p16 : Nat → Option PlanC := fun _ => none
def wl16 : Nat → List Nat := fun _ => []
def wj16 : Nat → Option (List Nat) := fun _ => none
def kr16 : Nat → List Nat := fun _ => []
noncomputable def e16 : Ent := entOf Try.f16 ⟨p16, wl16, wj16, kr16, []⟩
theorem g16 : EntOk Try.prog stl 16 e16 := .inr ⟨rfl, Try.func16, by kernel_rfl, by kernel_rfl, by kernel_rfl, by kernel_rfl, by kernel_rfl, rfl⟩
/- 17: (*foghorn/scramble.Register).Copy -/
def p17 : Nat → Option PlanC := fun _ => none
def wl17 : Nat → List Nat := fun _ => []
def wj17 : Nat → Option (List Nat) := fun _ => none
def kr17 : Nat → List Nat := fun _ => []
noncomputable def e17 : Ent := entOf Try.f17 ⟨p17, wl17, wj17, kr17, []⟩
theorem g17 : EntOk Try.prog stl 17 e17 := .inr ⟨rfl, Try.func17, by kernel_rfl, by kernel_rfl, by kernel_rfl, by kernel_rfl, by kernel_rfl, rfl⟩
/- 18: foghorn/foghornlaw16.works -/
def p18 : Nat → Option PlanC := fun _ => none
def wl18 : Nat → List Nat := fun _ => []
def wj18 : Nat → Option (List Nat) := fun _ => none
def kr18 : Nat → List Nat := fun _ => []
noncomputable def e18 : Ent := entOf Try.f18 ⟨p18, wl18, wj18, kr18, []⟩
theorem g18 : EntOk Try.prog stl 18 e18 := .inr ⟨rfl, Try.func18, by kernel_rfl, by kernel_rfl, by kernel_rfl, by kernel_rfl, by kernel_rfl, rfl⟩
/- 19: foghorn/scramble.For -/
def p19 : Nat → Option PlanC := fun _ => none
def wl19 : Nat → List Nat := fun _ => []
def wj19 : Nat → Option (List Nat) := fun _ => none
def kr19 : Nat → List Nat := fun _ => []
noncomputable def e19 : Ent := entOf Try.f19 ⟨p19, wl19, wj19, kr19, []⟩
theorem g19 : EntOk Try.prog stl 19 e19 := .inr ⟨rfl, Try.func19, by kernel_rfl, by kernel_rfl, by kernel_rfl, by kernel_rfl, by kernel_rfl, rfl⟩
/- 20: foghorn/foghornlaw16.sameBits -/
def p20 : Nat → Option PlanC := fun _ => none
def wl20 : Nat → List Nat := fun
  | 4 => [5]
  | _ => []
def wj20 : Nat → Option (List Nat) := fun _ => none
def kr20 : Nat → List Nat := fun _ => []
noncomputable def e20 : Ent := entOf Try.f20 ⟨p20, wl20, wj20, kr20, []⟩
theorem g20 : EntOk Try.prog stl 20 e20 := .inr ⟨rfl, Try.func20, by kernel_rfl, by kernel_rfl, by kernel_rfl, by kernel_rfl, by kernel_rfl, rfl⟩
/- 21: foghorn/scramble.New -/
def p21 : Nat → Option PlanC := fun _ => none
def wl21 : Nat → List Nat := fun _ => []
def wj21 : Nat → Option (List Nat) := fun _ => none
def kr21 : Nat → List Nat := fun _ => []
noncomputable def e21 : Ent := entOf Try.f21 ⟨p21, wl21, wj21, kr21, []⟩
theorem g21 : EntOk Try.prog stl 21 e21 := .inr ⟨rfl, Try.func21, by kernel_rfl, by kernel_rfl, by kernel_rfl, by kernel_rfl, by kernel_rfl, rfl⟩
/- 29: (foghorn/scramble.Register).after -/
def p29 : Nat → Option PlanC := fun
  | 1 => some (.op 2 false (.op 3 false (.op 4 false (.op 5 false (.op 0 true (.op 1 true (.op 7 true (.op 8 false (.op 9 true (.op 6 false (.chk [8] (.op 10 false (.op 11 false (.op 12 false (.done)))))))))))))))
  | _ => none
def wl29 : Nat → List Nat := fun _ => []
def wj29 : Nat → Option (List Nat) := fun _ => none
def kr29 : Nat → List Nat := fun _ => []
noncomputable def e29 : Ent := entOf Try.f29 ⟨p29, wl29, wj29, kr29, [2]⟩
theorem g29 : EntOk Try.prog stl 29 e29 := .inr ⟨rfl, Try.func29, by kernel_rfl, by kernel_rfl, by kernel_rfl, by kernel_rfl, by kernel_rfl, rfl⟩
/- 30: (foghorn/scramble.Register).before -/
def p30 : Nat → Option PlanC := fun _ => none
def wl30 : Nat → List Nat := fun _ => []
def wj30 : Nat → Option (List Nat) := fun _ => none
def kr30 : Nat → List Nat := fun _ => []
noncomputable def e30 : Ent := entOf Try.f30 ⟨p30, wl30, wj30, kr30, [2]⟩
theorem g30 : EntOk Try.prog stl 30 e30 := .inr ⟨rfl, Try.func30, by kernel_rfl, by kernel_rfl, by kernel_rfl, by kernel_rfl, by kernel_rfl, rfl⟩
/- 31: foghorn/bits.Xor -/
def p31 : Nat → Option PlanC := fun _ => none
def wl31 : Nat → List Nat := fun
  | 5 => [23]
  | _ => []
def wj31 : Nat → Option (List Nat) := fun _ => none
def kr31 : Nat → List Nat := fun _ => []
noncomputable def e31 : Ent := entOf Try.f31 ⟨p31, wl31, wj31, kr31, []⟩
theorem g31 : EntOk Try.prog stl 31 e31 := .inr ⟨rfl, Try.func31, by kernel_rfl, by kernel_rfl, by kernel_rfl, by kernel_rfl, by kernel_rfl, rfl⟩
/- 32: (foghorn/scramble.jump).of -/
def p32 : Nat → Option PlanC := fun _ => none
def wl32 : Nat → List Nat := fun
  | 3 => [5, 7]
  | _ => []
def wj32 : Nat → Option (List Nat) := fun _ => none
def kr32 : Nat → List Nat := fun _ => []
noncomputable def e32 : Ent := entOf Try.f32 ⟨p32, wl32, wj32, kr32, [2]⟩
theorem g32 : EntOk Try.prog stl 32 e32 := .inr ⟨rfl, Try.func32, by kernel_rfl, by kernel_rfl, by kernel_rfl, by kernel_rfl, by kernel_rfl, rfl⟩
/- 33: (foghorn/scramble.jump).twice -/
def p33 : Nat → Option PlanC := fun
  | 5 => some (.op 1 false (.op 2 false (.op 3 false (.op 4 false (.op 0 true (.op 5 false (.op 6 false (.op 7 false (.done)))))))))
  | _ => none
def wl33 : Nat → List Nat := fun
  | 3 => [5]
  | _ => []
def wj33 : Nat → Option (List Nat) := fun _ => none
def kr33 : Nat → List Nat := fun _ => []
noncomputable def e33 : Ent := entOf Try.f33 ⟨p33, wl33, wj33, kr33, [1, 3]⟩
theorem g33 : EntOk Try.prog stl 33 e33 := .inr ⟨rfl, Try.func33, by kernel_rfl, by kernel_rfl, by kernel_rfl, by kernel_rfl, by kernel_rfl, rfl⟩
/- 34: foghorn/scramble.mask -/
def p34 : Nat → Option PlanC := fun _ => none
def wl34 : Nat → List Nat := fun _ => []
def wj34 : Nat → Option (List Nat) := fun _ => none
def kr34 : Nat → List Nat := fun _ => []
noncomputable def e34 : Ent := entOf Try.f34 ⟨p34, wl34, wj34, kr34, []⟩
theorem g34 : EntOk Try.prog stl 34 e34 := .inr ⟨rfl, Try.func34, by kernel_rfl, by kernel_rfl, by kernel_rfl, by kernel_rfl, by kernel_rfl, rfl⟩
/- 42: foghorn/scramble.parity -/
def p42 : Nat → Option PlanC := fun _ => none
def wl42 : Nat → List Nat := fun _ => []
def wj42 : Nat → Option (List Nat) := fun _ => none
def kr42 : Nat → List Nat := fun _ => []
noncomputable def e42 : Ent := entOf Try.f42 ⟨p42, wl42, wj42, kr42, []⟩
theorem g42 : EntOk Try.prog stl 42 e42 := .inr ⟨rfl, Try.func42, by kernel_rfl, by kernel_rfl, by kernel_rfl, by kernel_rfl, by kernel_rfl, rfl⟩
/- 43: foghorn/bits.isRow -/
def p43 : Nat → Option PlanC := fun _ => none
def wl43 : Nat → List Nat := fun _ => []
def wj43 : Nat → Option (List Nat) := fun _ => none
def kr43 : Nat → List Nat := fun _ => []
noncomputable def e43 : Ent := entOf Try.f43 ⟨p43, wl43, wj43, kr43, []⟩
theorem g43 : EntOk Try.prog stl 43 e43 := .inr ⟨rfl, Try.func43, by kernel_rfl, by kernel_rfl, by kernel_rfl, by kernel_rfl, by kernel_rfl, rfl⟩
/- 46: math/bits.OnesCount32 -/
def p46 : Nat → Option PlanC := fun _ => none
def wl46 : Nat → List Nat := fun _ => []
def wj46 : Nat → Option (List Nat) := fun _ => none
def kr46 : Nat → List Nat := fun _ => []
noncomputable def e46 : Ent := entOf Try.f46 ⟨p46, wl46, wj46, kr46, []⟩
theorem g46 : EntOk Try.prog stl 46 e46 := .inr ⟨rfl, Try.func46, by kernel_rfl, by kernel_rfl, by kernel_rfl, by kernel_rfl, by kernel_rfl, rfl⟩
noncomputable def ents : List (Nat × Ent) := [(4, e4), (12, e12), (13, e13), (14, e14), (15, e15), (16, e16), (17, e17), (18, e18), (19, e19), (20, e20), (21, e21), (29, e29), (30, e30), (31, e31), (32, e32), (33, e33), (34, e34), (42, e42), (43, e43), (46, e46)]
theorem goods : EntsOk Try.prog stl ents := ⟨g4, g12, g13, g14, g15, g16, g17, g18, g19, g20, g21, g29, g30, g31, g32, g33, g34, g42, g43, g46, True.intro⟩
noncomputable def tab : Nat → Option Ent := (tabOf ents).get
theorem fok : FOk Try.prog stl tab := fok_of goods
noncomputable def d0 : Disp := .leaf
theorem d0_ok : CallSim Try.prog tys stl tab d0.fn := Disp.sim True.intro
/- (*foghorn/scramble.Register).State -/
noncomputable def R16 (q_genW : Option CV → (W → Bool) → Bool) (q_condW : W → Bool → Bool → Bool) (q_nilcW : W → (W → Bool) → Bool) (q_fadW : Nat → W → (W → Bool) → Bool) (q_loadSW : HW → W → (W → Bool) → Bool) (fu : Nat) (call : CallW) (a0 : W) (h0 : HW) (c0 : Nat) (K : KW) : Bool :=
q_genW (binC Try.prog .eql 22 (.tmp 3) (.const (.pointer none)) (dec a0) (dec ⟨12, 0, ⟨0, 0, 0, .nilp⟩, []⟩)) fun v1 =>
q_condW v1 (
K ⟨6, 0, r0, []⟩ h0 c0) (
q_nilcW a0 fun v2 =>
q_fadW 2 v2 fun v3 =>
q_loadSW h0 v3 fun v4 =>
K v4 h0 c0)
theorem R16_eq (Q : PrimW) (fu : Nat) (call : CallW) : curryA 1 (fnK Q Try.prog tys stl fu call e16) = R16 Q.genW Q.condW Q.nilcW Q.fadW Q.loadSW fu call := by kernel_rfl
noncomputable def n16 : List W → HW → Nat → KW → Bool := appF 1 (R16 genW condW nilcW fadW loadSW 1000000 d0.fn)
theorem n16_ok : FnGood Try.prog tys stl tab 16 n16 := node_ok d0_ok (by kernel_rfl) rfl g16 (R16_eq real _ _)
/- (*foghorn/scramble.Register).Copy -/
noncomputable def R17 (q_genW : Option CV → (W → Bool) → Bool) (q_condW : W → Bool → Bool → Bool) (q_nilcW : W → (W → Bool) → Bool) (q_loadAW : Nat → HW → W → (W → Bool) → Bool) (q_storeAW : Nat → HW → W → W → (HW → Bool) → Bool) (q_allocW : Trie W → Nat → Bool → HW → Nat → KW → Bool) (fu : Nat) (call : CallW) (a0 : W) (h0 : HW) (c0 : Nat) (K : KW) : Bool :=
q_genW (binC Try.prog .eql 22 (.tmp 4) (.const (.pointer none)) (dec a0) (dec ⟨12, 0, ⟨0, 0, 0, .nilp⟩, []⟩)) fun v1 =>
q_condW v1 (
K ⟨12, 0, ⟨0, 0, 0, .nilp⟩, []⟩ h0 c0) (
q_nilcW a0 fun v2 =>
q_loadAW 3 h0 v2 fun v3 =>
q_allocW (allocT tys 60) 3 true h0 c0 fun v4 h5 c6 =>
q_storeAW 3 h5 v4 v3 fun h7 =>
K v4 h7 c6)
theorem R17_eq (Q : PrimW) (fu : Nat) (call : CallW) : curryA 1 (fnK Q Try.prog tys stl fu call e17) = R17 Q.genW Q.condW Q.nilcW Q.loadAW Q.storeAW Q.allocW fu call := by kernel_rfl
noncomputable def n17 : List W → HW → Nat → KW → Bool := appF 1 (R17 genW condW nilcW loadAW storeAW allocW 1000000 d0.fn)
theorem n17_ok : FnGood Try.prog tys stl tab 17 n17 := node_ok d0_ok (by kernel_rfl) rfl g17 (R17_eq real _ _)
/- foghorn/foghornlaw16.sameBits -/
noncomputable def R20 (q_genW : Option CV → (W → Bool) → Bool) (q_addW : Nat → Nat → Option CV → W → W → (W → Bool) → Bool) (q_cmpW : (Nat → Nat → Bool) → Nat → Option CV → W → W → (W → Bool) → Bool) (q_condW : W → Bool → Bool → Bool) (q_idxSW : Nat → W → W → (W → Bool) → Bool) (q_lenW : Option CV → W → (W → Bool) → Bool) (q_loadSW : HW → W → (W → Bool) → Bool) (fu : Nat) (call : CallW) (a0 : W) (a1 : W) (h0 : HW) (c0 : Nat) (K : KW) : Bool :=
q_lenW (lenC tys 26 (dec a0)) a0 fun v1 =>
q_lenW (lenC tys 26 (dec a1)) a1 fun v2 =>
q_cmpW (cmpF2 .neq) 3 (binC Try.prog .neq 3 (.tmp 7) (.tmp 9) (dec v1) (dec v2)) v1 v2 fun v3 =>
q_condW v3 (
K ⟨8, 0, r0, []⟩ h0 c0) (
@Nat.rec (fun _ => Fun 1) (fun _ _ _ => false) (fun _ f7 v4 h5 c6 =>
q_lenW (lenC tys 26 (dec a0)) a0 fun v8 =>
q_cmpW (cmpF2 .lss) 3 (binC Try.prog .lss 3 (.tmp 11) (.tmp 13) (dec v4) (dec v8)) v4 v8 fun v9 =>
q_condW v9 (
q_idxSW 1 a0 v4 fun v10 =>
q_loadSW h5 v10 fun v11 =>
q_idxSW 1 a1 v4 fun v12 =>
q_loadSW h5 v12 fun v13 =>
q_genW (binC Try.prog .neq 4 (.tmp 20) (.tmp 24) (dec v11) (dec v13)) fun v14 =>
q_condW v14 (
K ⟨8, 0, r0, []⟩ h5 c6) (
q_addW 3 9223372036854775807 (binC Try.prog .add 3 (.tmp 15) (.const (.int .i64 (.ofNat 1))) (dec v4) (dec ⟨3, 1, r0, []⟩)) v4 ⟨3, 1, r0, []⟩ fun v15 =>
f7 v15 h5 c6)) (
K ⟨8, 1, r0, []⟩ h5 c6)) fu ⟨3, 0, r0, []⟩ h0 c0)
theorem R20_eq (Q : PrimW) (fu : Nat) (call : CallW) : curryA 2 (fnK Q Try.prog tys stl fu call e20) = R20 Q.genW Q.addW Q.cmpW Q.condW Q.idxSW Q.lenW Q.loadSW fu call := by kernel_rfl
noncomputable def n20 : List W → HW → Nat → KW → Bool := appF 2 (R20 genW addW cmpW condW idxSW lenW loadSW 1000000 d0.fn)
theorem n20_ok : FnGood Try.prog tys stl tab 20 n20 := node_ok d0_ok (by kernel_rfl) rfl g20 (R20_eq real _ _)
/- (foghorn/scramble.jump).of -/
noncomputable def R32 (q_addW : Nat → Nat → Option CV → W → W → (W → Bool) → Bool) (q_bitW : (Nat → Nat → Nat) → Nat → Nat → Option CV → W → W → (W → Bool) → Bool) (q_cmpW : (Nat → Nat → Bool) → Nat → Option CV → W → W → (W → Bool) → Bool) (q_shrW : Nat → Nat → Option CV → W → W → (W → Bool) → Bool) (q_negW : Nat → Nat → Bool → Option CV → W → (W → Bool) → Bool) (q_condW : W → Bool → Bool → Bool) (q_idxAW : Nat → Nat → W → W → (W → Bool) → Bool) (q_killVW : W → HW → (HW → Bool) → Bool) (q_loadSW : HW → W → (W → Bool) → Bool) (q_boxW : HW → Nat → W → KW → Bool) (fu : Nat) (call : CallW) (a0 : W) (a1 : W) (h0 : HW) (c0 : Nat) (K : KW) : Bool :=
q_boxW h0 c0 a0 fun v1 h2 c3 =>
@Nat.rec (fun _ => Fun 2) (fun _ _ _ _ => false) (fun _ f8 v4 v5 h6 c7 =>
q_cmpW (cmpF2 .lss) 3 (binC Try.prog .lss 3 (.tmp 7) (.const (.int .i64 (.ofNat 32))) (dec v5) (dec ⟨3, 32, r0, []⟩)) v5 ⟨3, 32, r0, []⟩ fun v9 =>
q_condW v9 (
q_idxAW 1 32 v1 v5 fun v10 =>
q_loadSW h6 v10 fun v11 =>
q_shrW 6 32 (binC Try.prog .shr 33 (.tmp 14) (.tmp 15) (dec a1) (dec v5)) a1 v5 fun v12 =>
q_bitW Nat.land 6 4294967295 (binC Try.prog .and 33 (.tmp 16) (.const (.int .u32 (.ofNat 1))) (dec v12) (dec ⟨6, 1, r0, []⟩)) v12 ⟨6, 1, r0, []⟩ fun v13 =>
q_negW 6 4294967295 true (two Try.prog (dec v13) (Op.unary .neg)) v13 fun v14 =>
q_bitW Nat.land 6 4294967295 (binC Try.prog .and 33 (.tmp 13) (.tmp 18) (dec v11) (dec v14)) v11 v14 fun v15 =>
q_bitW Nat.xor 6 4294967295 (binC Try.prog .xor 33 (.tmp 10) (.tmp 19) (dec v4) (dec v15)) v4 v15 fun v16 =>
q_addW 3 9223372036854775807 (binC Try.prog .add 3 (.tmp 7) (.const (.int .i64 (.ofNat 1))) (dec v5) (dec ⟨3, 1, r0, []⟩)) v5 ⟨3, 1, r0, []⟩ fun v17 =>
f8 v16 v17 h6 c7) (
q_killVW v1 h6 fun h18 =>
K v4 h18 c7)) fu ⟨6, 0, r0, []⟩ ⟨3, 0, r0, []⟩ h2 c3
theorem R32_eq (Q : PrimW) (fu : Nat) (call : CallW) : curryA 2 (fnK Q Try.prog tys stl fu call e32) = R32 Q.addW Q.bitW Q.cmpW Q.shrW Q.negW Q.condW Q.idxAW Q.killVW Q.loadSW Q.boxW fu call := by kernel_rfl
noncomputable def n32 : List W → HW → Nat → KW → Bool := appF 2 (R32 addW bitW cmpW shrW negW condW idxAW killVW loadSW boxW 1000000 d0.fn)
theorem n32_ok : FnGood Try.prog tys stl tab 32 n32 := node_ok d0_ok (by kernel_rfl) rfl g32 (R32_eq real _ _)
/- foghorn/scramble.mask -/
noncomputable def R34 (q_subW : Nat → Nat → Option CV → W → W → (W → Bool) → Bool) (q_shlW : Nat → Nat → Nat → Option CV → W → W → (W → Bool) → Bool) (fu : Nat) (call : CallW) (a0 : W) (h0 : HW) (c0 : Nat) (K : KW) : Bool :=
q_shlW 6 4294967295 32 (binC Try.prog .shl 33 (.const (.int .u32 (.ofNat 1))) (.tmp 3) (dec ⟨6, 1, r0, []⟩) (dec a0)) ⟨6, 1, r0, []⟩ a0 fun v1 =>
q_subW 6 4294967295 (binC Try.prog .sub 33 (.tmp 4) (.const (.int .u32 (.ofNat 1))) (dec v1) (dec ⟨6, 1, r0, []⟩)) v1 ⟨6, 1, r0, []⟩ fun v2 =>
K v2 h0 c0
theorem R34_eq (Q : PrimW) (fu : Nat) (call : CallW) : curryA 1 (fnK Q Try.prog tys stl fu call e34) = R34 Q.subW Q.shlW fu call := by kernel_rfl
noncomputable def n34 : List W → HW → Nat → KW → Bool := appF 1 (R34 subW shlW 1000000 d0.fn)
theorem n34_ok : FnGood Try.prog tys stl tab 34 n34 := node_ok d0_ok (by kernel_rfl) rfl g34 (R34_eq real _ _)
/- foghorn/bits.isRow -/
noncomputable def R43 (q_cmpW : (Nat → Nat → Bool) → Nat → Option CV → W → W → (W → Bool) → Bool) (q_lenW : Option CV → W → (W → Bool) → Bool) (fu : Nat) (call : CallW) (a0 : W) (h0 : HW) (c0 : Nat) (K : KW) : Bool :=
q_lenW (lenC tys 26 (dec a0)) a0 fun v1 =>
q_cmpW (cmpF2 .leq) 3 (binC Try.prog .leq 3 (.tmp 4) (.const (.int .i64 (.ofNat 32768))) (dec v1) (dec ⟨3, 32768, r0, []⟩)) v1 ⟨3, 32768, r0, []⟩ fun v2 =>
K v2 h0 c0
theorem R43_eq (Q : PrimW) (fu : Nat) (call : CallW) : curryA 1 (fnK Q Try.prog tys stl fu call e43) = R43 Q.cmpW Q.lenW fu call := by kernel_rfl
noncomputable def n43 : List W → HW → Nat → KW → Bool := appF 1 (R43 cmpW lenW 1000000 d0.fn)
theorem n43_ok : FnGood Try.prog tys stl tab 43 n43 := node_ok d0_ok (by kernel_rfl) rfl g43 (R43_eq real _ _)
/- math/bits.OnesCount32 -/
noncomputable def R46 (q_genW : Option CV → (W → Bool) → Bool) (q_addW : Nat → Nat → Option CV → W → W → (W → Bool) → Bool) (q_bitW : (Nat → Nat → Nat) → Nat → Nat → Option CV → W → W → (W → Bool) → Bool) (q_shrW : Nat → Nat → Option CV → W → W → (W → Bool) → Bool) (q_icvW : Nat → Nat → Option CV → W → (W → Bool) → Bool) (fu : Nat) (call : CallW) (a0 : W) (h0 : HW) (c0 : Nat) (K : KW) : Bool :=
q_shrW 6 32 (binC Try.prog .shr 33 (.tmp 3) (.const (.int .u64 (.ofNat 24))) (dec a0) (dec ⟨7, 24, r0, []⟩)) a0 ⟨7, 24, r0, []⟩ fun v1 =>
q_genW (two2 Try.prog (dec ⟨12, 0, ⟨0, 0, 0, .str ⟨⟨[0, 1, 1, 2, 1, 2, 2, 3, 1, 2, 2, 3, 2, 3, 3, 4, 1, 2, 2, 3, 2, 3, 3, 4, 2, 3, 3, 4, 3, 4, 4, 5, 1, 2, 2, 3, 2, 3, 3, 4, 2, 3, 3, 4, 3, 4, 4, 5, 2, 3, 3, 4, 3, 4, 4, 5, 3, 4, 4, 5, 4, 5, 5, 6, 1, 2, 2, 3, 2, 3, 3, 4, 2, 3, 3, 4, 3, 4, 4, 5, 2, 3, 3, 4, 3, 4, 4, 5, 3, 4, 4, 5, 4, 5, 5, 6, 2, 3, 3, 4, 3, 4, 4, 5, 3, 4, 4, 5, 4, 5, 5, 6, 3, 4, 4, 5, 4, 5, 5, 6, 4, 5, 5, 6, 5, 6, 6, 7, 1, 2, 2, 3, 2, 3, 3, 4, 2, 3, 3, 4, 3, 4, 4, 5, 2, 3, 3, 4, 3, 4, 4, 5, 3, 4, 4, 5, 4, 5, 5, 6, 2, 3, 3, 4, 3, 4, 4, 5, 3, 4, 4, 5, 4, 5, 5, 6, 3, 4, 4, 5, 4, 5, 5, 6, 4, 5, 5, 6, 5, 6, 6, 7, 2, 3, 3, 4, 3, 4, 4, 5, 3, 4, 4, 5, 4, 5, 5, 6, 3, 4, 4, 5, 4, 5, 5, 6, 4, 5, 5, 6, 5, 6, 6, 7, 3, 4, 4, 5, 4, 5, 5, 6, 4, 5, 5, 6, 5, 6, 6, 7, 4, 5, 5, 6, 5, 6, 6, 7, 5, 6, 6, 7, 6, 7, 7, 8]⟩⟩⟩, []⟩) (dec v1) (Instr.index 9)) fun v2 =>
q_shrW 6 32 (binC Try.prog .shr 33 (.tmp 6) (.const (.int .u64 (.ofNat 16))) (dec a0) (dec ⟨7, 16, r0, []⟩)) a0 ⟨7, 16, r0, []⟩ fun v3 =>
q_bitW Nat.land 6 4294967295 (binC Try.prog .and 33 (.tmp 7) (.const (.int .u32 (.ofNat 255))) (dec v3) (dec ⟨6, 255, r0, []⟩)) v3 ⟨6, 255, r0, []⟩ fun v4 =>
q_genW (two2 Try.prog (dec ⟨12, 0, ⟨0, 0, 0, .str ⟨⟨[0, 1, 1, 2, 1, 2, 2, 3, 1, 2, 2, 3, 2, 3, 3, 4, 1, 2, 2, 3, 2, 3, 3, 4, 2, 3, 3, 4, 3, 4, 4, 5, 1, 2, 2, 3, 2, 3, 3, 4, 2, 3, 3, 4, 3, 4, 4, 5, 2, 3, 3, 4, 3, 4, 4, 5, 3, 4, 4, 5, 4, 5, 5, 6, 1, 2, 2, 3, 2, 3, 3, 4, 2, 3, 3, 4, 3, 4, 4, 5, 2, 3, 3, 4, 3, 4, 4, 5, 3, 4, 4, 5, 4, 5, 5, 6, 2, 3, 3, 4, 3, 4, 4, 5, 3, 4, 4, 5, 4, 5, 5, 6, 3, 4, 4, 5, 4, 5, 5, 6, 4, 5, 5, 6, 5, 6, 6, 7, 1, 2, 2, 3, 2, 3, 3, 4, 2, 3, 3, 4, 3, 4, 4, 5, 2, 3, 3, 4, 3, 4, 4, 5, 3, 4, 4, 5, 4, 5, 5, 6, 2, 3, 3, 4, 3, 4, 4, 5, 3, 4, 4, 5, 4, 5, 5, 6, 3, 4, 4, 5, 4, 5, 5, 6, 4, 5, 5, 6, 5, 6, 6, 7, 2, 3, 3, 4, 3, 4, 4, 5, 3, 4, 4, 5, 4, 5, 5, 6, 3, 4, 4, 5, 4, 5, 5, 6, 4, 5, 5, 6, 5, 6, 6, 7, 3, 4, 4, 5, 4, 5, 5, 6, 4, 5, 5, 6, 5, 6, 6, 7, 4, 5, 5, 6, 5, 6, 6, 7, 5, 6, 6, 7, 6, 7, 7, 8]⟩⟩⟩, []⟩) (dec v4) (Instr.index 9)) fun v5 =>
q_addW 4 255 (binC Try.prog .add 5 (.tmp 5) (.tmp 9) (dec v2) (dec v5)) v2 v5 fun v6 =>
q_shrW 6 32 (binC Try.prog .shr 33 (.tmp 11) (.const (.int .u64 (.ofNat 8))) (dec a0) (dec ⟨7, 8, r0, []⟩)) a0 ⟨7, 8, r0, []⟩ fun v7 =>
q_bitW Nat.land 6 4294967295 (binC Try.prog .and 33 (.tmp 12) (.const (.int .u32 (.ofNat 255))) (dec v7) (dec ⟨6, 255, r0, []⟩)) v7 ⟨6, 255, r0, []⟩ fun v8 =>
q_genW (two2 Try.prog (dec ⟨12, 0, ⟨0, 0, 0, .str ⟨⟨[0, 1, 1, 2, 1, 2, 2, 3, 1, 2, 2, 3, 2, 3, 3, 4, 1, 2, 2, 3, 2, 3, 3, 4, 2, 3, 3, 4, 3, 4, 4, 5, 1, 2, 2, 3, 2, 3, 3, 4, 2, 3, 3, 4, 3, 4, 4, 5, 2, 3, 3, 4, 3, 4, 4, 5, 3, 4, 4, 5, 4, 5, 5, 6, 1, 2, 2, 3, 2, 3, 3, 4, 2, 3, 3, 4, 3, 4, 4, 5, 2, 3, 3, 4, 3, 4, 4, 5, 3, 4, 4, 5, 4, 5, 5, 6, 2, 3, 3, 4, 3, 4, 4, 5, 3, 4, 4, 5, 4, 5, 5, 6, 3, 4, 4, 5, 4, 5, 5, 6, 4, 5, 5, 6, 5, 6, 6, 7, 1, 2, 2, 3, 2, 3, 3, 4, 2, 3, 3, 4, 3, 4, 4, 5, 2, 3, 3, 4, 3, 4, 4, 5, 3, 4, 4, 5, 4, 5, 5, 6, 2, 3, 3, 4, 3, 4, 4, 5, 3, 4, 4, 5, 4, 5, 5, 6, 3, 4, 4, 5, 4, 5, 5, 6, 4, 5, 5, 6, 5, 6, 6, 7, 2, 3, 3, 4, 3, 4, 4, 5, 3, 4, 4, 5, 4, 5, 5, 6, 3, 4, 4, 5, 4, 5, 5, 6, 4, 5, 5, 6, 5, 6, 6, 7, 3, 4, 4, 5, 4, 5, 5, 6, 4, 5, 5, 6, 5, 6, 6, 7, 4, 5, 5, 6, 5, 6, 6, 7, 5, 6, 6, 7, 6, 7, 7, 8]⟩⟩⟩, []⟩) (dec v8) (Instr.index 9)) fun v9 =>
q_addW 4 255 (binC Try.prog .add 5 (.tmp 10) (.tmp 14) (dec v6) (dec v9)) v6 v9 fun v10 =>
q_bitW Nat.land 6 4294967295 (binC Try.prog .and 33 (.tmp 16) (.const (.int .u32 (.ofNat 255))) (dec a0) (dec ⟨6, 255, r0, []⟩)) a0 ⟨6, 255, r0, []⟩ fun v11 =>
q_genW (two2 Try.prog (dec ⟨12, 0, ⟨0, 0, 0, .str ⟨⟨[0, 1, 1, 2, 1, 2, 2, 3, 1, 2, 2, 3, 2, 3, 3, 4, 1, 2, 2, 3, 2, 3, 3, 4, 2, 3, 3, 4, 3, 4, 4, 5, 1, 2, 2, 3, 2, 3, 3, 4, 2, 3, 3, 4, 3, 4, 4, 5, 2, 3, 3, 4, 3, 4, 4, 5, 3, 4, 4, 5, 4, 5, 5, 6, 1, 2, 2, 3, 2, 3, 3, 4, 2, 3, 3, 4, 3, 4, 4, 5, 2, 3, 3, 4, 3, 4, 4, 5, 3, 4, 4, 5, 4, 5, 5, 6, 2, 3, 3, 4, 3, 4, 4, 5, 3, 4, 4, 5, 4, 5, 5, 6, 3, 4, 4, 5, 4, 5, 5, 6, 4, 5, 5, 6, 5, 6, 6, 7, 1, 2, 2, 3, 2, 3, 3, 4, 2, 3, 3, 4, 3, 4, 4, 5, 2, 3, 3, 4, 3, 4, 4, 5, 3, 4, 4, 5, 4, 5, 5, 6, 2, 3, 3, 4, 3, 4, 4, 5, 3, 4, 4, 5, 4, 5, 5, 6, 3, 4, 4, 5, 4, 5, 5, 6, 4, 5, 5, 6, 5, 6, 6, 7, 2, 3, 3, 4, 3, 4, 4, 5, 3, 4, 4, 5, 4, 5, 5, 6, 3, 4, 4, 5, 4, 5, 5, 6, 4, 5, 5, 6, 5, 6, 6, 7, 3, 4, 4, 5, 4, 5, 5, 6, 4, 5, 5, 6, 5, 6, 6, 7, 4, 5, 5, 6, 5, 6, 6, 7, 5, 6, 6, 7, 6, 7, 7, 8]⟩⟩⟩, []⟩) (dec v11) (Instr.index 9)) fun v12 =>
q_addW 4 255 (binC Try.prog .add 5 (.tmp 15) (.tmp 18) (dec v10) (dec v12)) v10 v12 fun v13 =>
q_icvW 3 9223372036854775807 (convC Try.prog tys ⟨[], 0, decH h0, 0⟩ 5 3 (dec v13)) v13 fun v14 =>
K v14 h0 c0
theorem R46_eq (Q : PrimW) (fu : Nat) (call : CallW) : curryA 1 (fnK Q Try.prog tys stl fu call e46) = R46 Q.genW Q.addW Q.bitW Q.shrW Q.icvW fu call := by kernel_rfl
noncomputable def n46 : List W → HW → Nat → KW → Bool := appF 1 (R46 genW addW bitW shrW icvW 1000000 d0.fn)
theorem n46_ok : FnGood Try.prog tys stl tab 46 n46 := node_ok d0_ok (by kernel_rfl) rfl g46 (R46_eq real _ _)
noncomputable def d1 : Disp := (.node 32 n32 (.node 17 n17 (.node 16 n16 .leaf .leaf) (.node 20 n20 .leaf .leaf)) (.node 43 n43 (.node 34 n34 .leaf .leaf) (.node 46 n46 .leaf .leaf)))
theorem d1_ok : CallSim Try.prog tys stl tab d1.fn := Disp.sim ⟨n32_ok, ⟨n17_ok, ⟨n16_ok, True.intro, True.intro⟩, ⟨n20_ok, True.intro, True.intro⟩⟩, ⟨n43_ok, ⟨n34_ok, True.intro, True.intro⟩, ⟨n46_ok, True.intro, True.intro⟩⟩⟩
/- foghorn/scramble.New -/
noncomputable def R21 (q_share : (α : Type) → α → (α → Bool) → Bool) (q_bitW : (Nat → Nat → Nat) → Nat → Nat → Option CV → W → W → (W → Bool) → Bool) (q_cmpW : (Nat → Nat → Bool) → Nat → Option CV → W → W → (W → Bool) → Bool) (q_icvW : Nat → Nat → Option CV → W → (W → Bool) → Bool) (q_condW : W → Bool → Bool → Bool) (q_guardW : Bool → W → Bool → Bool → Bool) (q_pickW : W → W → W → (W → Bool) → Bool) (q_boxW : HW → Nat → W → KW → Bool) (q_flatW : W → Bool → Bool) (fu : Nat) (call : CallW) (a0 : W) (a1 : W) (a2 : W) (h0 : HW) (c0 : Nat) (K : KW) : Bool :=
q_cmpW (cmpF2 .lss) 3 (binC Try.prog .lss 3 (.tmp 9) (.const (.int .i64 (.ofNat 2))) (dec a0) (dec ⟨3, 2, r0, []⟩)) a0 ⟨3, 2, r0, []⟩ fun v1 =>
q_share _ (fun (v3 : W) (h4 : HW) (c5 : Nat) =>
q_share _ (fun (v7 : W) (h8 : HW) (c9 : Nat) =>
q_pickW v1 ⟨8, 1, r0, []⟩ v7 fun v10 =>
q_condW v10 (
K ⟨13, 0, r0, [⟨12, 0, ⟨0, 0, 0, .nilp⟩, []⟩, ⟨3, 1, r0, []⟩]⟩ h8 c9) (
q_icvW 7 18446744073709551615 (convC Try.prog tys ⟨[], 0, decH h8, 0⟩ 3 52 (dec a0)) a0 fun v11 =>
call 34 [v11] h8 c9 fun v12 h13 c14 =>
q_cmpW (cmpF2 .gtr) 6 (binC Try.prog .gtr 33 (.tmp 18) (.tmp 19) (dec a1) (dec v12)) a1 v12 fun v15 =>
q_share _ (fun (v17 : W) (h18 : HW) (c19 : Nat) =>
q_share _ (fun (v21 : W) (h22 : HW) (c23 : Nat) =>
q_share _ (fun (v25 : W) (h26 : HW) (c27 : Nat) =>
q_pickW v15 ⟨8, 1, r0, []⟩ v25 fun v28 =>
q_share _ (fun (v30 : W) (h31 : HW) (c32 : Nat) =>
q_share _ (fun (v34 : W) (h35 : HW) (c36 : Nat) =>
q_pickW v28 ⟨8, 1, r0, []⟩ v34 fun v37 =>
q_share _ (fun (v39 : W) (h40 : HW) (c41 : Nat) =>
q_share _ (fun (v43 : W) (h44 : HW) (c45 : Nat) =>
q_share _ (fun (v47 : W) (h48 : HW) (c49 : Nat) =>
q_pickW v37 ⟨8, 1, r0, []⟩ v47 fun v50 =>
q_condW v50 (
K ⟨13, 0, r0, [⟨12, 0, ⟨0, 0, 0, .nilp⟩, []⟩, ⟨3, 1, r0, []⟩]⟩ h48 c49) (
q_icvW 7 18446744073709551615 (convC Try.prog tys ⟨[], 0, decH h48, 0⟩ 3 52 (dec a0)) a0 fun v51 =>
q_flatW v51 (
q_flatW a1 (
q_flatW a2 (
(fun (v52 : W) =>
q_boxW h48 c49 v52 fun v53 h54 c55 =>
K ⟨13, 0, r0, [v53, ⟨3, 0, r0, []⟩]⟩ h54 c55) ⟨15, 0, r0, [v51, a1, a2]⟩))))) fun f46 =>
q_guardW false v37 (q_cmpW (cmpF2 .gtr) 6 (binC Try.prog .gtr 33 (.tmp 31) (.tmp 32) (dec v39) (dec v43)) v39 v43 fun v56 =>
f46 v56 h44 c45) (f46 wUnd h44 c45)) fun f42 =>
q_guardW false v37 (f42 v12 h40 c41) (f42 wUnd h40 c41)) fun f38 =>
q_guardW false v37 (f38 a2 h35 c36) (f38 wUnd h35 c36)) fun f33 =>
q_guardW false v28 (q_cmpW (cmpF2 .lss) 6 (binC Try.prog .lss 33 (.tmp 27) (.const (.int .u32 (.ofNat 1))) (dec v30) (dec ⟨6, 1, r0, []⟩)) v30 ⟨6, 1, r0, []⟩ fun v57 =>
f33 v57 h31 c32) (f33 wUnd h31 c32)) fun f29 =>
q_guardW false v28 (f29 a2 h26 c27) (f29 wUnd h26 c27)) fun f24 =>
q_guardW false v15 (q_cmpW (cmpF2 .eql) 6 (binC Try.prog .eql 33 (.tmp 23) (.const (.int .u32 (.ofNat 0))) (dec v21) (dec ⟨6, 0, r0, []⟩)) v21 ⟨6, 0, r0, []⟩ fun v58 =>
f24 v58 h22 c23) (f24 wUnd h22 c23)) fun f20 =>
q_guardW false v15 (q_bitW Nat.land 6 4294967295 (binC Try.prog .and 33 (.tmp 22) (.const (.int .u32 (.ofNat 1))) (dec v17) (dec ⟨6, 1, r0, []⟩)) v17 ⟨6, 1, r0, []⟩ fun v59 =>
f20 v59 h18 c19) (f20 wUnd h18 c19)) fun f16 =>
q_guardW false v15 (f16 a1 h13 c14) (f16 wUnd h13 c14))) fun f6 =>
q_guardW false v1 (q_cmpW (cmpF2 .gtr) 3 (binC Try.prog .gtr 3 (.tmp 12) (.const (.int .i64 (.ofNat 32))) (dec v3) (dec ⟨3, 32, r0, []⟩)) v3 ⟨3, 32, r0, []⟩ fun v60 =>
f6 v60 h4 c5) (f6 wUnd h4 c5)) fun f2 =>
q_guardW false v1 (f2 a0 h0 c0) (f2 wUnd h0 c0)
theorem R21_eq (Q : PrimW) (fu : Nat) (call : CallW) : curryA 3 (fnK Q Try.prog tys stl fu call e21) = R21 Q.share Q.bitW Q.cmpW Q.icvW Q.condW Q.guardW Q.pickW Q.boxW Q.flatW fu call := by kernel_rfl
noncomputable def n21 : List W → HW → Nat → KW → Bool := appF 3 (R21 (fun _ x f => f x) bitW cmpW icvW condW guardW pickW boxW flatW 1000000 d1.fn)
theorem n21_ok : FnGood Try.prog tys stl tab 21 n21 := node_ok d1_ok (by kernel_rfl) rfl g21 (R21_eq real _ _)
/- foghorn/bits.Xor -/
noncomputable def R31 (q_share : (α : Type) → α → (α → Bool) → Bool) (q_genW : Option CV → (W → Bool) → Bool) (q_addW : Nat → Nat → Option CV → W → W → (W → Bool) → Bool) (q_cmpW : (Nat → Nat → Bool) → Nat → Option CV → W → W → (W → Bool) → Bool) (q_notW : Option CV → W → (W → Bool) → Bool) (q_condW : W → Bool → Bool → Bool) (q_guardW : Bool → W → Bool → Bool → Bool) (q_pickW : W → W → W → (W → Bool) → Bool) (q_idxSW : Nat → W → W → (W → Bool) → Bool) (q_lenW : Option CV → W → (W → Bool) → Bool) (q_loadSW : HW → W → (W → Bool) → Bool) (q_storeSW : HW → W → W → (HW → Bool) → Bool) (q_makeSW : Nat → Nat → Nat → Kind → List W → Bool → HW → Nat → W → W → KW → Bool) (fu : Nat) (call : CallW) (a0 : W) (a1 : W) (h0 : HW) (c0 : Nat) (K : KW) : Bool :=
call 43 [a0] h0 c0 fun v1 h2 c3 =>
q_notW (two Try.prog (dec v1) (Op.unary .not)) v1 fun v4 =>
q_share _ (fun (v6 : W) (h7 : HW) (c8 : Nat) =>
q_share _ (fun (v10 : W) (h11 : HW) (c12 : Nat) =>
q_share _ (fun (v14 : W) (h15 : HW) (c16 : Nat) =>
q_share _ (fun (v18 : W) (h19 : HW) (c20 : Nat) =>
q_share _ (fun (v22 : W) (h23 : HW) (c24 : Nat) =>
q_pickW v4 ⟨8, 1, r0, []⟩ v22 fun v25 =>
q_condW v25 (
K ⟨13, 0, r0, [⟨12, 0, ⟨0, 0, 0, .nils⟩, []⟩, ⟨3, 1, r0, []⟩]⟩ h23 c24) (
q_lenW (lenC tys 26 (dec a0)) a0 fun v26 =>
q_makeSW 1 1 8 .bools [⟨8, 0, r0, []⟩] true h23 c24 v26 v26 fun v27 h28 c29 =>
q_lenW (lenC tys 26 (dec v27)) v27 fun v30 =>
@Nat.rec (fun _ => Fun 1) (fun _ _ _ => false) (fun _ f34 v31 h32 c33 =>
q_cmpW (cmpF2 .lss) 3 (binC Try.prog .lss 3 (.tmp 23) (.tmp 22) (dec v31) (dec v30)) v31 v30 fun v35 =>
q_condW v35 (
q_idxSW 1 a0 v31 fun v36 =>
q_loadSW h32 v36 fun v37 =>
q_idxSW 1 a1 v31 fun v38 =>
q_loadSW h32 v38 fun v39 =>
q_genW (binC Try.prog .neq 4 (.tmp 31) (.tmp 35) (dec v37) (dec v39)) fun v40 =>
q_idxSW 1 v27 v31 fun v41 =>
q_storeSW h32 v41 v40 fun h42 =>
q_addW 3 9223372036854775807 (binC Try.prog .add 3 (.tmp 23) (.const (.int .i64 (.ofNat 1))) (dec v31) (dec ⟨3, 1, r0, []⟩)) v31 ⟨3, 1, r0, []⟩ fun v43 =>
f34 v43 h42 c33) (
K ⟨13, 0, r0, [v27, ⟨3, 0, r0, []⟩]⟩ h32 c33)) fu ⟨3, 0, r0, []⟩ h28 c29)) fun f21 =>
q_guardW false v4 (q_cmpW (cmpF2 .neq) 3 (binC Try.prog .neq 3 (.tmp 13) (.tmp 15) (dec v10) (dec v18)) v10 v18 fun v44 =>
f21 v44 h19 c20) (f21 wUnd h19 c20)) fun f17 =>
q_guardW false v4 (q_lenW (lenC tys 26 (dec v14)) v14 fun v45 =>
f17 v45 h15 c16) (f17 wUnd h15 c16)) fun f13 =>
q_guardW false v4 (f13 a1 h11 c12) (f13 wUnd h11 c12)) fun f9 =>
q_guardW false v4 (q_lenW (lenC tys 26 (dec v6)) v6 fun v46 =>
f9 v46 h7 c8) (f9 wUnd h7 c8)) fun f5 =>
q_guardW false v4 (f5 a0 h2 c3) (f5 wUnd h2 c3)
theorem R31_eq (Q : PrimW) (fu : Nat) (call : CallW) : curryA 2 (fnK Q Try.prog tys stl fu call e31) = R31 Q.share Q.genW Q.addW Q.cmpW Q.notW Q.condW Q.guardW Q.pickW Q.idxSW Q.lenW Q.loadSW Q.storeSW Q.makeSW fu call := by kernel_rfl
noncomputable def n31 : List W → HW → Nat → KW → Bool := appF 2 (R31 (fun _ x f => f x) genW addW cmpW notW condW guardW pickW idxSW lenW loadSW storeSW makeSW 1000000 d1.fn)
theorem n31_ok : FnGood Try.prog tys stl tab 31 n31 := node_ok d1_ok (by kernel_rfl) rfl g31 (R31_eq real _ _)
/- (foghorn/scramble.jump).twice -/
noncomputable def R33 (q_addW : Nat → Nat → Option CV → W → W → (W → Bool) → Bool) (q_cmpW : (Nat → Nat → Bool) → Nat → Option CV → W → W → (W → Bool) → Bool) (q_condW : W → Bool → Bool → Bool) (q_idxAW : Nat → Nat → W → W → (W → Bool) → Bool) (q_killVW : W → HW → (HW → Bool) → Bool) (q_loadSW : HW → W → (W → Bool) → Bool) (q_loadAW : Nat → HW → W → (W → Bool) → Bool) (q_storeSW : HW → W → W → (HW → Bool) → Bool) (q_storeAW : Nat → HW → W → W → (HW → Bool) → Bool) (q_allocW : Trie W → Nat → Bool → HW → Nat → KW → Bool) (q_boxW : HW → Nat → W → KW → Bool) (fu : Nat) (call : CallW) (a0 : W) (h0 : HW) (c0 : Nat) (K : KW) : Bool :=
q_boxW h0 c0 a0 fun v1 h2 c3 =>
q_allocW (allocT tys 65) 32 true h2 c3 fun v4 h5 c6 =>
q_allocW (allocT tys 65) 32 true h5 c6 fun v7 h8 c9 =>
@Nat.rec (fun _ => Fun 1) (fun _ _ _ => false) (fun _ f13 v10 h11 c12 =>
q_cmpW (cmpF2 .lss) 3 (binC Try.prog .lss 3 (.tmp 5) (.const (.int .i64 (.ofNat 32))) (dec v10) (dec ⟨3, 32, r0, []⟩)) v10 ⟨3, 32, r0, []⟩ fun v14 =>
q_condW v14 (
q_loadAW 32 h11 v1 fun v15 =>
q_idxAW 1 32 v1 v10 fun v16 =>
q_loadSW h11 v16 fun v17 =>
call 32 [v15, v17] h11 c12 fun v18 h19 c20 =>
q_idxAW 1 32 v7 v10 fun v21 =>
q_storeSW h19 v21 v18 fun h22 =>
q_addW 3 9223372036854775807 (binC Try.prog .add 3 (.tmp 5) (.const (.int .i64 (.ofNat 1))) (dec v10) (dec ⟨3, 1, r0, []⟩)) v10 ⟨3, 1, r0, []⟩ fun v23 =>
f13 v23 h22 c20) (
q_loadAW 32 h11 v7 fun v24 =>
q_storeAW 32 h11 v4 v24 fun h25 =>
q_loadAW 32 h25 v4 fun v26 =>
q_killVW v1 h25 fun h27 =>
q_killVW v7 h27 fun h28 =>
K v26 h28 c12)) fu ⟨3, 0, r0, []⟩ h8 c9
theorem R33_eq (Q : PrimW) (fu : Nat) (call : CallW) : curryA 1 (fnK Q Try.prog tys stl fu call e33) = R33 Q.addW Q.cmpW Q.condW Q.idxAW Q.killVW Q.loadSW Q.loadAW Q.storeSW Q.storeAW Q.allocW Q.boxW fu call := by kernel_rfl
noncomputable def n33 : List W → HW → Nat → KW → Bool := appF 1 (R33 addW cmpW condW idxAW killVW loadSW loadAW storeSW storeAW allocW boxW 1000000 d1.fn)
theorem n33_ok : FnGood Try.prog tys stl tab 33 n33 := node_ok d1_ok (by kernel_rfl) rfl g33 (R33_eq real _ _)
/- foghorn/scramble.parity -/
noncomputable def R42 (q_bitW : (Nat → Nat → Nat) → Nat → Nat → Option CV → W → W → (W → Bool) → Bool) (q_icvW : Nat → Nat → Option CV → W → (W → Bool) → Bool) (fu : Nat) (call : CallW) (a0 : W) (h0 : HW) (c0 : Nat) (K : KW) : Bool :=
call 46 [a0] h0 c0 fun v1 h2 c3 =>
q_bitW Nat.land 3 9223372036854775807 (binC Try.prog .and 3 (.tmp 4) (.const (.int .i64 (.ofNat 1))) (dec v1) (dec ⟨3, 1, r0, []⟩)) v1 ⟨3, 1, r0, []⟩ fun v4 =>
q_icvW 6 4294967295 (convC Try.prog tys ⟨[], 0, decH h2, 0⟩ 3 33 (dec v4)) v4 fun v5 =>
K v5 h2 c3
theorem R42_eq (Q : PrimW) (fu : Nat) (call : CallW) : curryA 1 (fnK Q Try.prog tys stl fu call e42) = R42 Q.bitW Q.icvW fu call := by kernel_rfl
noncomputable def n42 : List W → HW → Nat → KW → Bool := appF 1 (R42 bitW icvW 1000000 d1.fn)
theorem n42_ok : FnGood Try.prog tys stl tab 42 n42 := node_ok d1_ok (by kernel_rfl) rfl g42 (R42_eq real _ _)
noncomputable def d2 : Disp := (.node 32 n32 (.node 20 n20 (.node 17 n17 (.node 16 n16 .leaf .leaf) .leaf) (.node 31 n31 (.node 21 n21 .leaf .leaf) .leaf)) (.node 42 n42 (.node 34 n34 (.node 33 n33 .leaf .leaf) .leaf) (.node 46 n46 (.node 43 n43 .leaf .leaf) .leaf)))
theorem d2_ok : CallSim Try.prog tys stl tab d2.fn := Disp.sim ⟨n32_ok, ⟨n20_ok, ⟨n17_ok, ⟨n16_ok, True.intro, True.intro⟩, True.intro⟩, ⟨n31_ok, ⟨n21_ok, True.intro, True.intro⟩, True.intro⟩⟩, ⟨n42_ok, ⟨n34_ok, ⟨n33_ok, True.intro, True.intro⟩, True.intro⟩, ⟨n46_ok, ⟨n43_ok, True.intro, True.intro⟩, True.intro⟩⟩⟩
/- foghorn/scramble.For -/
noncomputable def R19 (q_addW : Nat → Nat → Option CV → W → W → (W → Bool) → Bool) (q_remW : Nat → Nat → Option CV → W → W → (W → Bool) → Bool) (q_cmpW : (Nat → Nat → Bool) → Nat → Option CV → W → W → (W → Bool) → Bool) (q_icvW : Nat → Nat → Option CV → W → (W → Bool) → Bool) (q_condW : W → Bool → Bool → Bool) (q_tupW : W → (List W → Bool) → Bool) (q_nthW : Nat → List W → (W → Bool) → Bool) (fu : Nat) (call : CallW) (a0 : W) (h0 : HW) (c0 : Nat) (K : KW) : Bool :=
q_cmpW (cmpF2 .lss) 3 (binC Try.prog .lss 3 (.tmp 4) (.const (.int .i64 (.ofNat 0))) (dec a0) (dec ⟨3, 0, r0, []⟩)) a0 ⟨3, 0, r0, []⟩ fun v1 =>
q_condW v1 (
K ⟨13, 0, r0, [⟨12, 0, ⟨0, 0, 0, .nilp⟩, []⟩, ⟨3, 1, r0, []⟩]⟩ h0 c0) (
q_remW 3 9223372036854775807 (binC Try.prog .rem 3 (.tmp 6) (.const (.int .i64 (.ofNat 32767))) (dec a0) (dec ⟨3, 32767, r0, []⟩)) a0 ⟨3, 32767, r0, []⟩ fun v2 =>
q_icvW 6 4294967295 (convC Try.prog tys ⟨[], 0, decH h0, 0⟩ 3 33 (dec v2)) v2 fun v3 =>
q_addW 6 4294967295 (binC Try.prog .add 33 (.const (.int .u32 (.ofNat 1))) (.tmp 8) (dec ⟨6, 1, r0, []⟩) (dec v3)) ⟨6, 1, r0, []⟩ v3 fun v4 =>
call 21 [⟨3, 15, r0, []⟩, ⟨6, 3, r0, []⟩, v4] h0 c0 fun v5 h6 c7 =>
q_tupW v5 fun l8 => q_nthW 0 l8 fun v9 =>
q_tupW v5 fun l10 => q_nthW 1 l10 fun v11 =>
K ⟨13, 0, r0, [v9, v11]⟩ h6 c7)
theorem R19_eq (Q : PrimW) (fu : Nat) (call : CallW) : curryA 1 (fnK Q Try.prog tys stl fu call e19) = R19 Q.addW Q.remW Q.cmpW Q.icvW Q.condW Q.tupW Q.nthW fu call := by kernel_rfl
noncomputable def n19 : List W → HW → Nat → KW → Bool := appF 1 (R19 addW remW cmpW icvW condW tupW nthW 1000000 d2.fn)
theorem n19_ok : FnGood Try.prog tys stl tab 19 n19 := node_ok d2_ok (by kernel_rfl) rfl g19 (R19_eq real _ _)
/- (foghorn/scramble.Register).after -/
noncomputable def R29 (q_subW : Nat → Nat → Option CV → W → W → (W → Bool) → Bool) (q_bitW : (Nat → Nat → Nat) → Nat → Nat → Option CV → W → W → (W → Bool) → Bool) (q_shlW : Nat → Nat → Nat → Option CV → W → W → (W → Bool) → Bool) (q_shrW : Nat → Nat → Option CV → W → W → (W → Bool) → Bool) (q_fadW : Nat → W → (W → Bool) → Bool) (q_detW : W → Bool → Bool) (q_killVW : W → HW → (HW → Bool) → Bool) (q_loadSW : HW → W → (W → Bool) → Bool) (q_boxW : HW → Nat → W → KW → Bool) (q_samQW : W → W → Bool → Bool) (fu : Nat) (call : CallW) (a0 : W) (a1 : W) (h0 : HW) (c0 : Nat) (K : KW) : Bool :=
q_boxW h0 c0 a0 fun v1 h2 c3 =>
q_fadW 1 v1 fun v4 =>
q_loadSW h2 v4 fun v5 =>
q_bitW Nat.land 6 4294967295 (binC Try.prog .and 33 (.tmp 7) (.tmp 9) (dec a1) (dec v5)) a1 v5 fun v6 =>
q_shrW 6 32 (binC Try.prog .shr 33 (.tmp 5) (.const (.int .u64 (.ofNat 1))) (dec a1) (dec ⟨7, 1, r0, []⟩)) a1 ⟨7, 1, r0, []⟩ fun v7 =>
q_detW v7 (
q_fadW 0 v1 fun v8 =>
q_detW v8 (
q_loadSW h2 v8 fun v9 =>
q_subW 7 18446744073709551615 (binC Try.prog .sub 52 (.tmp 13) (.const (.int .u64 (.ofNat 1))) (dec v9) (dec ⟨7, 1, r0, []⟩)) v9 ⟨7, 1, r0, []⟩ fun v10 =>
q_detW v10 (
call 42 [v6] h2 c3 fun v11 h12 c13 =>
q_loadSW h12 v8 fun v14 =>
q_samQW v14 v9 (
q_shlW 6 4294967295 32 (binC Try.prog .shl 33 (.tmp 11) (.tmp 14) (dec v11) (dec v10)) v11 v10 fun v15 =>
q_bitW Nat.lor 6 4294967295 (binC Try.prog .or 33 (.tmp 6) (.tmp 15) (dec v7) (dec v15)) v7 v15 fun v16 =>
q_killVW v1 h12 fun h17 =>
K v16 h17 c13))))
theorem R29_eq (Q : PrimW) (fu : Nat) (call : CallW) : curryA 2 (fnK Q Try.prog tys stl fu call e29) = R29 Q.subW Q.bitW Q.shlW Q.shrW Q.fadW Q.detW Q.killVW Q.loadSW Q.boxW Q.samQW fu call := by kernel_rfl
noncomputable def n29 : List W → HW → Nat → KW → Bool := appF 2 (R29 subW bitW shlW shrW fadW detW killVW loadSW boxW samQW 1000000 d2.fn)
theorem n29_ok : FnGood Try.prog tys stl tab 29 n29 := node_ok d2_ok (by kernel_rfl) rfl g29 (R29_eq real _ _)
/- (foghorn/scramble.Register).before -/
noncomputable def R30 (q_subW : Nat → Nat → Option CV → W → W → (W → Bool) → Bool) (q_bitW : (Nat → Nat → Nat) → Nat → Nat → Option CV → W → W → (W → Bool) → Bool) (q_shlW : Nat → Nat → Nat → Option CV → W → W → (W → Bool) → Bool) (q_shrW : Nat → Nat → Option CV → W → W → (W → Bool) → Bool) (q_fadW : Nat → W → (W → Bool) → Bool) (q_killVW : W → HW → (HW → Bool) → Bool) (q_loadSW : HW → W → (W → Bool) → Bool) (q_boxW : HW → Nat → W → KW → Bool) (fu : Nat) (call : CallW) (a0 : W) (a1 : W) (h0 : HW) (c0 : Nat) (K : KW) : Bool :=
q_boxW h0 c0 a0 fun v1 h2 c3 =>
q_fadW 0 v1 fun v4 =>
q_loadSW h2 v4 fun v5 =>
q_subW 7 18446744073709551615 (binC Try.prog .sub 52 (.tmp 8) (.const (.int .u64 (.ofNat 1))) (dec v5) (dec ⟨7, 1, r0, []⟩)) v5 ⟨7, 1, r0, []⟩ fun v6 =>
q_shrW 6 32 (binC Try.prog .shr 33 (.tmp 6) (.tmp 9) (dec a1) (dec v6)) a1 v6 fun v7 =>
q_bitW Nat.land 6 4294967295 (binC Try.prog .and 33 (.tmp 10) (.const (.int .u32 (.ofNat 1))) (dec v7) (dec ⟨6, 1, r0, []⟩)) v7 ⟨6, 1, r0, []⟩ fun v8 =>
q_shlW 6 4294967295 32 (binC Try.prog .shl 33 (.tmp 12) (.const (.int .u64 (.ofNat 1))) (dec a1) (dec ⟨7, 1, r0, []⟩)) a1 ⟨7, 1, r0, []⟩ fun v9 =>
q_fadW 0 v1 fun v10 =>
q_loadSW h2 v10 fun v11 =>
call 34 [v11] h2 c3 fun v12 h13 c14 =>
q_bitW Nat.land 6 4294967295 (binC Try.prog .and 33 (.tmp 13) (.tmp 16) (dec v9) (dec v12)) v9 v12 fun v15 =>
q_fadW 1 v1 fun v16 =>
q_loadSW h13 v16 fun v17 =>
q_bitW Nat.land 6 4294967295 (binC Try.prog .and 33 (.tmp 20) (.tmp 22) (dec v15) (dec v17)) v15 v17 fun v18 =>
call 42 [v18] h13 c14 fun v19 h20 c21 =>
q_bitW Nat.xor 6 4294967295 (binC Try.prog .xor 33 (.tmp 19) (.tmp 24) (dec v8) (dec v19)) v8 v19 fun v22 =>
q_bitW Nat.lor 6 4294967295 (binC Try.prog .or 33 (.tmp 18) (.tmp 25) (dec v15) (dec v22)) v15 v22 fun v23 =>
q_killVW v1 h20 fun h24 =>
K v23 h24 c21
theorem R30_eq (Q : PrimW) (fu : Nat) (call : CallW) : curryA 2 (fnK Q Try.prog tys stl fu call e30) = R30 Q.subW Q.bitW Q.shlW Q.shrW Q.fadW Q.killVW Q.loadSW Q.boxW fu call := by kernel_rfl
noncomputable def n30 : List W → HW → Nat → KW → Bool := appF 2 (R30 subW bitW shlW shrW fadW killVW loadSW boxW 1000000 d2.fn)
theorem n30_ok : FnGood Try.prog tys stl tab 30 n30 := node_ok d2_ok (by kernel_rfl) rfl g30 (R30_eq real _ _)
noncomputable def d3 : Disp := (.node 31 n31 (.node 20 n20 (.node 17 n17 (.node 16 n16 .leaf .leaf) (.node 19 n19 .leaf .leaf)) (.node 29 n29 (.node 21 n21 .leaf .leaf) (.node 30 n30 .leaf .leaf))) (.node 42 n42 (.node 33 n33 (.node 32 n32 .leaf .leaf) (.node 34 n34 .leaf .leaf)) (.node 46 n46 (.node 43 n43 .leaf .leaf) .leaf)))
theorem d3_ok : CallSim Try.prog tys stl tab d3.fn := Disp.sim ⟨n31_ok, ⟨n20_ok, ⟨n17_ok, ⟨n16_ok, True.intro, True.intro⟩, ⟨n19_ok, True.intro, True.intro⟩⟩, ⟨n29_ok, ⟨n21_ok, True.intro, True.intro⟩, ⟨n30_ok, True.intro, True.intro⟩⟩⟩, ⟨n42_ok, ⟨n33_ok, ⟨n32_ok, True.intro, True.intro⟩, ⟨n34_ok, True.intro, True.intro⟩⟩, ⟨n46_ok, ⟨n43_ok, True.intro, True.intro⟩, True.intro⟩⟩⟩
/- (*foghorn/scramble.Register).Row -/
noncomputable def R12 (q_share : (α : Type) → α → (α → Bool) → Bool) (q_genW : Option CV → (W → Bool) → Bool) (q_addW : Nat → Nat → Option CV → W → W → (W → Bool) → Bool) (q_bitW : (Nat → Nat → Nat) → Nat → Nat → Option CV → W → W → (W → Bool) → Bool) (q_cmpW : (Nat → Nat → Bool) → Nat → Option CV → W → W → (W → Bool) → Bool) (q_condW : W → Bool → Bool → Bool) (q_guardW : Bool → W → Bool → Bool → Bool) (q_pickW : W → W → W → (W → Bool) → Bool) (q_nilcW : W → (W → Bool) → Bool) (q_fadW : Nat → W → (W → Bool) → Bool) (q_idxSW : Nat → W → W → (W → Bool) → Bool) (q_loadSW : HW → W → (W → Bool) → Bool) (q_loadAW : Nat → HW → W → (W → Bool) → Bool) (q_storeSW : HW → W → W → (HW → Bool) → Bool) (q_makeSW : Nat → Nat → Nat → Kind → List W → Bool → HW → Nat → W → W → KW → Bool) (fu : Nat) (call : CallW) (a0 : W) (a1 : W) (h0 : HW) (c0 : Nat) (K : KW) : Bool :=
q_genW (binC Try.prog .eql 22 (.tmp 8) (.const (.pointer none)) (dec a0) (dec ⟨12, 0, ⟨0, 0, 0, .nilp⟩, []⟩)) fun v1 =>
q_condW v1 (
K ⟨13, 0, r0, [⟨12, 0, ⟨0, 0, 0, .nils⟩, []⟩, ⟨3, 2, r0, []⟩]⟩ h0 c0) (
q_cmpW (cmpF2 .lss) 3 (binC Try.prog .lss 3 (.tmp 10) (.const (.int .i64 (.ofNat 0))) (dec a1) (dec ⟨3, 0, r0, []⟩)) a1 ⟨3, 0, r0, []⟩ fun v2 =>
q_share _ (fun (v4 : W) (h5 : HW) (c6 : Nat) =>
q_share _ (fun (v8 : W) (h9 : HW) (c10 : Nat) =>
q_pickW v2 ⟨8, 1, r0, []⟩ v8 fun v11 =>
q_condW v11 (
K ⟨13, 0, r0, [⟨12, 0, ⟨0, 0, 0, .nils⟩, []⟩, ⟨3, 1, r0, []⟩]⟩ h9 c10) (
q_makeSW 1 1 8 .bools [⟨8, 0, r0, []⟩] true h9 c10 a1 a1 fun v12 h13 c14 =>
@Nat.rec (fun _ => Fun 1) (fun _ _ _ => false) (fun _ f18 v15 h16 c17 =>
q_cmpW (cmpF2 .lss) 3 (binC Try.prog .lss 3 (.tmp 19) (.tmp 18) (dec v15) (dec a1)) v15 a1 fun v19 =>
q_condW v19 (
q_nilcW a0 fun v20 =>
q_fadW 2 v20 fun v21 =>
q_loadSW h16 v21 fun v22 =>
q_bitW Nat.land 6 4294967295 (binC Try.prog .and 33 (.tmp 27) (.const (.int .u32 (.ofNat 1))) (dec v22) (dec ⟨6, 1, r0, []⟩)) v22 ⟨6, 1, r0, []⟩ fun v23 =>
q_cmpW (cmpF2 .neq) 6 (binC Try.prog .neq 33 (.tmp 28) (.const (.int .u32 (.ofNat 0))) (dec v23) (dec ⟨6, 0, r0, []⟩)) v23 ⟨6, 0, r0, []⟩ fun v24 =>
q_idxSW 1 v12 v15 fun v25 =>
q_storeSW h16 v25 v24 fun h26 =>
q_nilcW a0 fun v27 =>
q_loadAW 3 h26 v27 fun v28 =>
q_nilcW a0 fun v29 =>
q_fadW 2 v29 fun v30 =>
q_loadSW h26 v30 fun v31 =>
call 29 [v28, v31] h26 c17 fun v32 h33 c34 =>
q_nilcW a0 fun v35 =>
q_fadW 2 v35 fun v36 =>
q_storeSW h33 v36 v32 fun h37 =>
q_addW 3 9223372036854775807 (binC Try.prog .add 3 (.tmp 19) (.const (.int .i64 (.ofNat 1))) (dec v15) (dec ⟨3, 1, r0, []⟩)) v15 ⟨3, 1, r0, []⟩ fun v38 =>
f18 v38 h37 c34) (
K ⟨13, 0, r0, [v12, ⟨3, 0, r0, []⟩]⟩ h16 c17)) fu ⟨3, 0, r0, []⟩ h13 c14)) fun f7 =>
q_guardW false v2 (q_cmpW (cmpF2 .gtr) 3 (binC Try.prog .gtr 3 (.tmp 13) (.const (.int .i64 (.ofNat 32768))) (dec v4) (dec ⟨3, 32768, r0, []⟩)) v4 ⟨3, 32768, r0, []⟩ fun v39 =>
f7 v39 h5 c6) (f7 wUnd h5 c6)) fun f3 =>
q_guardW false v2 (f3 a1 h0 c0) (f3 wUnd h0 c0))
theorem R12_eq (Q : PrimW) (fu : Nat) (call : CallW) : curryA 2 (fnK Q Try.prog tys stl fu call e12) = R12 Q.share Q.genW Q.addW Q.bitW Q.cmpW Q.condW Q.guardW Q.pickW Q.nilcW Q.fadW Q.idxSW Q.loadSW Q.loadAW Q.storeSW Q.makeSW fu call := by kernel_rfl
noncomputable def n12 : List W → HW → Nat → KW → Bool := appF 2 (R12 (fun _ x f => f x) genW addW bitW cmpW condW guardW pickW nilcW fadW idxSW loadSW loadAW storeSW makeSW 1000000 d3.fn)
theorem n12_ok : FnGood Try.prog tys stl tab 12 n12 := node_ok d3_ok (by kernel_rfl) rfl g12 (R12_eq real _ _)
/- (*foghorn/scramble.Register).Jump -/
noncomputable def R14 (q_share : (α : Type) → α → (α → Bool) → Bool) (q_genW : Option CV → (W → Bool) → Bool) (q_addW : Nat → Nat → Option CV → W → W → (W → Bool) → Bool) (q_bitW : (Nat → Nat → Nat) → Nat → Nat → Option CV → W → W → (W → Bool) → Bool) (q_cmpW : (Nat → Nat → Bool) → Nat → Option CV → W → W → (W → Bool) → Bool) (q_shlW : Nat → Nat → Nat → Option CV → W → W → (W → Bool) → Bool) (q_shrW : Nat → Nat → Option CV → W → W → (W → Bool) → Bool) (q_negW : Nat → Nat → Bool → Option CV → W → (W → Bool) → Bool) (q_icvW : Nat → Nat → Option CV → W → (W → Bool) → Bool) (q_condW : W → Bool → Bool → Bool) (q_nilcW : W → (W → Bool) → Bool) (q_fadW : Nat → W → (W → Bool) → Bool) (q_idxAW : Nat → Nat → W → W → (W → Bool) → Bool) (q_onG : W → List W → (FuncId → List W → Bool) → Bool) (q_killVW : W → HW → (HW → Bool) → Bool) (q_loadSW : HW → W → (W → Bool) → Bool) (q_loadAW : Nat → HW → W → (W → Bool) → Bool) (q_storeSW : HW → W → W → (HW → Bool) → Bool) (q_storeAW : Nat → HW → W → W → (HW → Bool) → Bool) (q_allocW : Trie W → Nat → Bool → HW → Nat → KW → Bool) (fu : Nat) (call : CallW) (a0 : W) (a1 : W) (h0 : HW) (c0 : Nat) (K : KW) : Bool :=
q_genW (binC Try.prog .eql 22 (.tmp 9) (.const (.pointer none)) (dec a0) (dec ⟨12, 0, ⟨0, 0, 0, .nilp⟩, []⟩)) fun v1 =>
q_condW v1 (
q_killVW wUnd h0 fun h2 =>
K ⟨3, 2, r0, []⟩ h2 c0) (
q_nilcW a0 fun v3 =>
q_loadAW 3 h0 v3 fun v4 =>
(fun (v5 : W) =>
q_icvW 7 18446744073709551615 (convC Try.prog tys ⟨[], 0, decH h0, 0⟩ 2 63 (dec a1)) a1 fun v6 =>
q_share _ (fun (v7 : W) (v8 : W) (h9 : HW) (c10 : Nat) =>
q_allocW (allocT tys 65) 32 true h9 c10 fun v12 h13 c14 =>
q_nilcW a0 fun v15 =>
q_fadW 0 v15 fun v16 =>
q_loadSW h13 v16 fun v17 =>
@Nat.rec (fun _ => Fun 1) (fun _ _ _ => false) (fun _ f21 v18 h19 c20 =>
q_cmpW (cmpF2 .lss) 7 (binC Try.prog .lss 52 (.tmp 29) (.tmp 28) (dec v18) (dec v17)) v18 v17 fun v22 =>
q_condW v22 (
q_shlW 6 4294967295 32 (binC Try.prog .shl 33 (.const (.int .u32 (.ofNat 1))) (.tmp 34) (dec ⟨6, 1, r0, []⟩) (dec v18)) ⟨6, 1, r0, []⟩ v18 fun v23 =>
q_onG v7 [v23] fun g24 l25 => call g24 l25 h19 c20 fun v26 h27 c28 =>
q_idxAW 1 32 v12 v18 fun v29 =>
q_storeSW h27 v29 v26 fun h30 =>
q_addW 7 18446744073709551615 (binC Try.prog .add 52 (.tmp 29) (.const (.int .u64 (.ofNat 1))) (dec v18) (dec ⟨7, 1, r0, []⟩)) v18 ⟨7, 1, r0, []⟩ fun v31 =>
f21 v31 h30 c28) (
@Nat.rec (fun _ => Fun 1) (fun _ _ _ => false) (fun _ f35 v32 h33 c34 =>
q_cmpW (cmpF2 .gtr) 7 (binC Try.prog .gtr 63 (.tmp 39) (.const (.int .u64 (.ofNat 0))) (dec v32) (dec ⟨7, 0, r0, []⟩)) v32 ⟨7, 0, r0, []⟩ fun v36 =>
q_condW v36 (
q_share _ (fun  (h37 : HW) (c38 : Nat) =>
q_loadAW 32 h37 v12 fun v40 =>
call 33 [v40] h37 c38 fun v41 h42 c43 =>
q_storeAW 32 h42 v12 v41 fun h44 =>
q_shrW 7 64 (binC Try.prog .shr 63 (.tmp 41) (.const (.int .u64 (.ofNat 1))) (dec v32) (dec ⟨7, 1, r0, []⟩)) v32 ⟨7, 1, r0, []⟩ fun v45 =>
f35 v45 h44 c43) fun f39 =>
q_bitW Nat.land 7 18446744073709551615 (binC Try.prog .and 63 (.tmp 43) (.const (.int .u64 (.ofNat 1))) (dec v32) (dec ⟨7, 1, r0, []⟩)) v32 ⟨7, 1, r0, []⟩ fun v46 =>
q_cmpW (cmpF2 .neq) 7 (binC Try.prog .neq 63 (.tmp 44) (.const (.int .u64 (.ofNat 0))) (dec v46) (dec ⟨7, 0, r0, []⟩)) v46 ⟨7, 0, r0, []⟩ fun v47 =>
q_condW v47 (
q_loadAW 32 h33 v12 fun v48 =>
q_nilcW a0 fun v49 =>
q_fadW 2 v49 fun v50 =>
q_loadSW h33 v50 fun v51 =>
call 32 [v48, v51] h33 c34 fun v52 h53 c54 =>
q_nilcW a0 fun v55 =>
q_fadW 2 v55 fun v56 =>
q_storeSW h53 v56 v52 fun h57 =>
f39 h57 c54) (
f39 h33 c34)) (
q_killVW v12 h33 fun h58 =>
K ⟨3, 0, r0, []⟩ h58 c34)) fu v8 h19 c20)) fu ⟨7, 0, r0, []⟩ h13 c14) fun f11 =>
q_cmpW (cmpF2 .lss) 3 (binC Try.prog .lss 2 (.tmp 17) (.const (.int .i64 (.ofNat 0))) (dec a1) (dec ⟨3, 0, r0, []⟩)) a1 ⟨3, 0, r0, []⟩ fun v59 =>
q_condW v59 (
q_nilcW a0 fun v60 =>
q_loadAW 3 h0 v60 fun v61 =>
(fun (v62 : W) =>
q_negW 7 18446744073709551615 true (two Try.prog (dec v6) (Op.unary .neg)) v6 fun v63 =>
f11 v62 v63 h0 c0) ⟨16, 30, r0, [v61]⟩) (
f11 v5 v6 h0 c0)) ⟨16, 29, r0, [v4]⟩)
theorem R14_eq (Q : PrimW) (fu : Nat) (call : CallW) : curryA 2 (fnK Q Try.prog tys stl fu call e14) = R14 Q.share Q.genW Q.addW Q.bitW Q.cmpW Q.shlW Q.shrW Q.negW Q.icvW Q.condW Q.nilcW Q.fadW Q.idxAW Q.onG Q.killVW Q.loadSW Q.loadAW Q.storeSW Q.storeAW Q.allocW fu call := by kernel_rfl
noncomputable def n14 : List W → HW → Nat → KW → Bool := appF 2 (R14 (fun _ x f => f x) genW addW bitW cmpW shlW shrW negW icvW condW nilcW fadW idxAW onG killVW loadSW loadAW storeSW storeAW allocW 1000000 d3.fn)
theorem n14_ok : FnGood Try.prog tys stl tab 14 n14 := node_ok d3_ok (by kernel_rfl) rfl g14 (R14_eq real _ _)
/- (*foghorn/scramble.Register).Period -/
noncomputable def R15 (q_share : (α : Type) → α → (α → Bool) → Bool) (q_genW : Option CV → (W → Bool) → Bool) (q_addW : Nat → Nat → Option CV → W → W → (W → Bool) → Bool) (q_cmpW : (Nat → Nat → Bool) → Nat → Option CV → W → W → (W → Bool) → Bool) (q_condW : W → Bool → Bool → Bool) (q_guardW : Bool → W → Bool → Bool → Bool) (q_pickW : W → W → W → (W → Bool) → Bool) (q_nilcW : W → (W → Bool) → Bool) (q_fadW : Nat → W → (W → Bool) → Bool) (q_loadSW : HW → W → (W → Bool) → Bool) (q_loadAW : Nat → HW → W → (W → Bool) → Bool) (fu : Nat) (call : CallW) (a0 : W) (a1 : W) (h0 : HW) (c0 : Nat) (K : KW) : Bool :=
q_genW (binC Try.prog .eql 22 (.tmp 8) (.const (.pointer none)) (dec a0) (dec ⟨12, 0, ⟨0, 0, 0, .nilp⟩, []⟩)) fun v1 =>
q_condW v1 (
K ⟨13, 0, r0, [⟨3, 0, r0, []⟩, ⟨3, 2, r0, []⟩]⟩ h0 c0) (
q_cmpW (cmpF2 .lss) 3 (binC Try.prog .lss 3 (.tmp 10) (.const (.int .i64 (.ofNat 1))) (dec a1) (dec ⟨3, 1, r0, []⟩)) a1 ⟨3, 1, r0, []⟩ fun v2 =>
q_share _ (fun (v4 : W) (h5 : HW) (c6 : Nat) =>
q_share _ (fun (v8 : W) (h9 : HW) (c10 : Nat) =>
q_pickW v2 ⟨8, 1, r0, []⟩ v8 fun v11 =>
q_condW v11 (
K ⟨13, 0, r0, [⟨3, 0, r0, []⟩, ⟨3, 1, r0, []⟩]⟩ h9 c10) (
q_nilcW a0 fun v12 =>
q_fadW 2 v12 fun v13 =>
q_loadSW h9 v13 fun v14 =>
@Nat.rec (fun _ => Fun 2) (fun _ _ _ _ => false) (fun _ f19 v15 v16 h17 c18 =>
q_cmpW (cmpF2 .lss) 3 (binC Try.prog .lss 3 (.tmp 21) (.tmp 20) (dec v16) (dec a1)) v16 a1 fun v20 =>
q_condW v20 (
q_nilcW a0 fun v21 =>
q_loadAW 3 h17 v21 fun v22 =>
call 29 [v22, v15] h17 c18 fun v23 h24 c25 =>
q_nilcW a0 fun v26 =>
q_fadW 2 v26 fun v27 =>
q_loadSW h24 v27 fun v28 =>
q_cmpW (cmpF2 .eql) 6 (binC Try.prog .eql 33 (.tmp 29) (.tmp 33) (dec v23) (dec v28)) v23 v28 fun v29 =>
q_condW v29 (
q_addW 3 9223372036854775807 (binC Try.prog .add 3 (.tmp 35) (.const (.int .i64 (.ofNat 1))) (dec v16) (dec ⟨3, 1, r0, []⟩)) v16 ⟨3, 1, r0, []⟩ fun v30 =>
K ⟨13, 0, r0, [v30, ⟨3, 0, r0, []⟩]⟩ h24 c25) (
q_addW 3 9223372036854775807 (binC Try.prog .add 3 (.tmp 21) (.const (.int .i64 (.ofNat 1))) (dec v16) (dec ⟨3, 1, r0, []⟩)) v16 ⟨3, 1, r0, []⟩ fun v31 =>
f19 v23 v31 h24 c25)) (
K ⟨13, 0, r0, [⟨3, 0, r0, []⟩, ⟨3, 6, r0, []⟩]⟩ h17 c18)) fu v14 ⟨3, 0, r0, []⟩ h9 c10)) fun f7 =>
q_guardW false v2 (q_cmpW (cmpF2 .gtr) 3 (binC Try.prog .gtr 3 (.tmp 13) (.const (.int .i64 (.ofNat 1048576))) (dec v4) (dec ⟨3, 1048576, r0, []⟩)) v4 ⟨3, 1048576, r0, []⟩ fun v32 =>
f7 v32 h5 c6) (f7 wUnd h5 c6)) fun f3 =>
q_guardW false v2 (f3 a1 h0 c0) (f3 wUnd h0 c0))
theorem R15_eq (Q : PrimW) (fu : Nat) (call : CallW) : curryA 2 (fnK Q Try.prog tys stl fu call e15) = R15 Q.share Q.genW Q.addW Q.cmpW Q.condW Q.guardW Q.pickW Q.nilcW Q.fadW Q.loadSW Q.loadAW fu call := by kernel_rfl
noncomputable def n15 : List W → HW → Nat → KW → Bool := appF 2 (R15 (fun _ x f => f x) genW addW cmpW condW guardW pickW nilcW fadW loadSW loadAW 1000000 d3.fn)
theorem n15_ok : FnGood Try.prog tys stl tab 15 n15 := node_ok d3_ok (by kernel_rfl) rfl g15 (R15_eq real _ _)
noncomputable def d4 : Disp := (.node 29 n29 (.node 17 n17 (.node 15 n15 (.node 14 n14 (.node 12 n12 .leaf .leaf) .leaf) (.node 16 n16 .leaf .leaf)) (.node 20 n20 (.node 19 n19 .leaf .leaf) (.node 21 n21 .leaf .leaf))) (.node 34 n34 (.node 32 n32 (.node 31 n31 (.node 30 n30 .leaf .leaf) .leaf) (.node 33 n33 .leaf .leaf)) (.node 43 n43 (.node 42 n42 .leaf .leaf) (.node 46 n46 .leaf .leaf))))
theorem d4_ok : CallSim Try.prog tys stl tab d4.fn := Disp.sim ⟨n29_ok, ⟨n17_ok, ⟨n15_ok, ⟨n14_ok, ⟨n12_ok, True.intro, True.intro⟩, True.intro⟩, ⟨n16_ok, True.intro, True.intro⟩⟩, ⟨n20_ok, ⟨n19_ok, True.intro, True.intro⟩, ⟨n21_ok, True.intro, True.intro⟩⟩⟩, ⟨n34_ok, ⟨n32_ok, ⟨n31_ok, ⟨n30_ok, True.intro, True.intro⟩, True.intro⟩, ⟨n33_ok, True.intro, True.intro⟩⟩, ⟨n43_ok, ⟨n42_ok, True.intro, True.intro⟩, ⟨n46_ok, True.intro, True.intro⟩⟩⟩⟩
/- (*foghorn/scramble.Register).Apply -/
noncomputable def R13 (q_cmpW : (Nat → Nat → Bool) → Nat → Option CV → W → W → (W → Bool) → Bool) (q_condW : W → Bool → Bool → Bool) (q_lenW : Option CV → W → (W → Bool) → Bool) (q_tupW : W → (List W → Bool) → Bool) (q_nthW : Nat → List W → (W → Bool) → Bool) (fu : Nat) (call : CallW) (a0 : W) (a1 : W) (h0 : HW) (c0 : Nat) (K : KW) : Bool :=
q_lenW (lenC tys 26 (dec a1)) a1 fun v1 =>
call 12 [a0, v1] h0 c0 fun v2 h3 c4 =>
q_tupW v2 fun l5 => q_nthW 0 l5 fun v6 =>
q_tupW v2 fun l7 => q_nthW 1 l7 fun v8 =>
q_cmpW (cmpF2 .neq) 3 (binC Try.prog .neq 23 (.tmp 15) (.const (.int .i64 (.ofNat 0))) (dec v8) (dec ⟨3, 0, r0, []⟩)) v8 ⟨3, 0, r0, []⟩ fun v9 =>
q_condW v9 (
K ⟨13, 0, r0, [⟨12, 0, ⟨0, 0, 0, .nils⟩, []⟩, v8]⟩ h3 c4) (
call 31 [a1, v6] h3 c4 fun v10 h11 c12 =>
q_tupW v10 fun l13 => q_nthW 0 l13 fun v14 =>
q_tupW v10 fun l15 => q_nthW 1 l15 fun v16 =>
K ⟨13, 0, r0, [v14, v16]⟩ h11 c12)
theorem R13_eq (Q : PrimW) (fu : Nat) (call : CallW) : curryA 2 (fnK Q Try.prog tys stl fu call e13) = R13 Q.cmpW Q.condW Q.lenW Q.tupW Q.nthW fu call := by kernel_rfl
noncomputable def n13 : List W → HW → Nat → KW → Bool := appF 2 (R13 cmpW condW lenW tupW nthW 1000000 d4.fn)
theorem n13_ok : FnGood Try.prog tys stl tab 13 n13 := node_ok d4_ok (by kernel_rfl) rfl g13 (R13_eq real _ _)
/- foghorn/foghornlaw16.works -/
noncomputable def R18 (q_share : (α : Type) → α → (α → Bool) → Bool) (q_genW : Option CV → (W → Bool) → Bool) (q_cmpW : (Nat → Nat → Bool) → Nat → Option CV → W → W → (W → Bool) → Bool) (q_condW : W → Bool → Bool → Bool) (q_guardW : Bool → W → Bool → Bool → Bool) (q_pickW : W → W → W → (W → Bool) → Bool) (q_tupW : W → (List W → Bool) → Bool) (q_nthW : Nat → List W → (W → Bool) → Bool) (q_buildSW : Nat → Nat → Kind → Nat → Bool → HW → Nat → Nat → List W → KW → Bool) (fu : Nat) (call : CallW) (h0 : HW) (c0 : Nat) (K : KW) : Bool :=
call 21 [⟨3, 4, r0, []⟩, ⟨6, 3, r0, []⟩, ⟨6, 1, r0, []⟩] h0 c0 fun v1 h2 c3 =>
q_tupW v1 fun l4 => q_nthW 0 l4 fun v5 =>
q_tupW v1 fun l6 => q_nthW 1 l6 fun v7 =>
q_cmpW (cmpF2 .neq) 3 (binC Try.prog .neq 23 (.tmp 12) (.const (.int .i64 (.ofNat 0))) (dec v7) (dec ⟨3, 0, r0, []⟩)) v7 ⟨3, 0, r0, []⟩ fun v8 =>
q_share _ (fun (v10 : W) (h11 : HW) (c12 : Nat) =>
q_share _ (fun (v14 : W) (h15 : HW) (c16 : Nat) =>
q_pickW v8 ⟨8, 1, r0, []⟩ v14 fun v17 =>
q_condW v17 (
K ⟨8, 0, r0, []⟩ h15 c16) (
call 12 [v5, ⟨3, 5, r0, []⟩] h15 c16 fun v18 h19 c20 =>
q_tupW v18 fun l21 => q_nthW 0 l21 fun v22 =>
q_tupW v18 fun l23 => q_nthW 1 l23 fun v24 =>
call 17 [v5] h19 c20 fun v25 h26 c27 =>
call 19 [⟨3, 5, r0, []⟩] h26 c27 fun v28 h29 c30 =>
q_tupW v28 fun l31 => q_nthW 0 l31 fun v32 =>
q_tupW v28 fun l33 => q_nthW 1 l33 fun v34 =>
q_cmpW (cmpF2 .eql) 3 (binC Try.prog .eql 23 (.tmp 29) (.const (.int .i64 (.ofNat 0))) (dec v24) (dec ⟨3, 0, r0, []⟩)) v24 ⟨3, 0, r0, []⟩ fun v35 =>
q_share _ (fun (v37 : W) (h38 : HW) (c39 : Nat) =>
q_share _ (fun (v41 : W) (h42 : HW) (c43 : Nat) =>
q_share _ (fun (v45 : W) (h46 : HW) (c47 : Nat) =>
q_pickW v35 v45 ⟨8, 0, r0, []⟩ fun v48 =>
q_share _ (fun (v50 : W) (h51 : HW) (c52 : Nat) =>
q_share _ (fun (v54 : W) (h55 : HW) (c56 : Nat) =>
q_pickW v48 v54 ⟨8, 0, r0, []⟩ fun v57 =>
q_share _ (fun (v59 : W) (h60 : HW) (c61 : Nat) =>
q_share _ (fun (v63 : W) (h64 : HW) (c65 : Nat) =>
q_share _ (fun (v67 : W) (h68 : HW) (c69 : Nat) =>
q_share _ (fun (v71 : W) (h72 : HW) (c73 : Nat) =>
q_share _ (fun (v75 : W) (h76 : HW) (c77 : Nat) =>
q_pickW v57 v75 ⟨8, 0, r0, []⟩ fun v78 =>
q_share _ (fun (v80 : W) (h81 : HW) (c82 : Nat) =>
q_share _ (fun (v84 : W) (h85 : HW) (c86 : Nat) =>
q_share _ (fun (v88 : W) (h89 : HW) (c90 : Nat) =>
q_pickW v78 v88 ⟨8, 0, r0, []⟩ fun v91 =>
q_share _ (fun (v93 : W) (h94 : HW) (c95 : Nat) =>
q_share _ (fun (v97 : W) (h98 : HW) (c99 : Nat) =>
q_share _ (fun (v101 : W) (h102 : HW) (c103 : Nat) =>
q_pickW v91 v101 ⟨8, 0, r0, []⟩ fun v104 =>
q_share _ (fun (v106 : W) (h107 : HW) (c108 : Nat) =>
q_share _ (fun (v110 : W) (h111 : HW) (c112 : Nat) =>
q_pickW v104 v110 ⟨8, 0, r0, []⟩ fun v113 =>
q_share _ (fun (v115 : W) (h116 : HW) (c117 : Nat) =>
q_share _ (fun (v119 : W) (h120 : HW) (c121 : Nat) =>
q_pickW v113 v119 ⟨8, 0, r0, []⟩ fun v122 =>
q_share _ (fun (v124 : W) (h125 : HW) (c126 : Nat) =>
q_share _ (fun (v128 : W) (h129 : HW) (c130 : Nat) =>
q_share _ (fun (v132 : W) (h133 : HW) (c134 : Nat) =>
q_pickW v122 v132 ⟨8, 0, r0, []⟩ fun v135 =>
K v135 h133 c134) fun f131 =>
q_guardW true v122 (q_cmpW (cmpF2 .eql) 6 (binC Try.prog .eql 33 (.tmp 67) (.const (.int .u32 (.ofNat 6))) (dec v128) (dec ⟨6, 6, r0, []⟩)) v128 ⟨6, 6, r0, []⟩ fun v136 =>
f131 v136 h129 c130) (f131 wUnd h129 c130)) fun f127 =>
q_guardW true v122 (call 16 [v124] h125 c126 fun v137 h138 c139 =>
f127 v137 h138 c139) (f127 wUnd h125 c126)) fun f123 =>
q_guardW true v122 (f123 v32 h120 c121) (f123 wUnd h120 c121)) fun f118 =>
q_guardW true v113 (q_genW (binC Try.prog .neq 22 (.tmp 62) (.const (.pointer none)) (dec v115) (dec ⟨12, 0, ⟨0, 0, 0, .nilp⟩, []⟩)) fun v140 =>
f118 v140 h116 c117) (f118 wUnd h116 c117)) fun f114 =>
q_guardW true v113 (f114 v32 h111 c112) (f114 wUnd h111 c112)) fun f109 =>
q_guardW true v104 (q_cmpW (cmpF2 .eql) 3 (binC Try.prog .eql 23 (.tmp 58) (.const (.int .i64 (.ofNat 0))) (dec v106) (dec ⟨3, 0, r0, []⟩)) v106 ⟨3, 0, r0, []⟩ fun v141 =>
f109 v141 h107 c108) (f109 wUnd h107 c108)) fun f105 =>
q_guardW true v104 (f105 v34 h102 c103) (f105 wUnd h102 c103)) fun f100 =>
q_guardW true v91 (q_cmpW (cmpF2 .eql) 6 (binC Try.prog .eql 33 (.tmp 54) (.const (.int .u32 (.ofNat 1))) (dec v97) (dec ⟨6, 1, r0, []⟩)) v97 ⟨6, 1, r0, []⟩ fun v142 =>
f100 v142 h98 c99) (f100 wUnd h98 c99)) fun f96 =>
q_guardW true v91 (call 16 [v93] h94 c95 fun v143 h144 c145 =>
f96 v143 h144 c145) (f96 wUnd h94 c95)) fun f92 =>
q_guardW true v91 (f92 v5 h89 c90) (f92 wUnd h89 c90)) fun f87 =>
q_guardW true v78 (q_cmpW (cmpF2 .eql) 3 (binC Try.prog .eql 23 (.tmp 49) (.const (.int .i64 (.ofNat 0))) (dec v84) (dec ⟨3, 0, r0, []⟩)) v84 ⟨3, 0, r0, []⟩ fun v146 =>
f87 v146 h85 c86) (f87 wUnd h85 c86)) fun f83 =>
q_guardW true v78 (call 14 [v80, ⟨12, 0, ⟨0, 0, 0, .int .i64 (.negSucc 4)⟩, []⟩] h81 c82 fun v147 h148 c149 =>
f83 v147 h148 c149) (f83 wUnd h81 c82)) fun f79 =>
q_guardW true v78 (f79 v5 h76 c77) (f79 wUnd h76 c77)) fun f74 =>
q_guardW true v57 (q_cmpW (cmpF2 .eql) 6 (binC Try.prog .eql 33 (.tmp 42) (.tmp 44) (dec v63) (dec v71)) v63 v71 fun v150 =>
f74 v150 h72 c73) (f74 wUnd h72 c73)) fun f70 =>
q_guardW true v57 (call 16 [v67] h68 c69 fun v151 h152 c153 =>
f70 v151 h152 c153) (f70 wUnd h68 c69)) fun f66 =>
q_guardW true v57 (f66 v5 h64 c65) (f66 wUnd h64 c65)) fun f62 =>
q_guardW true v57 (call 16 [v59] h60 c61 fun v154 h155 c156 =>
f62 v154 h155 c156) (f62 wUnd h60 c61)) fun f58 =>
q_guardW true v57 (f58 v25 h55 c56) (f58 wUnd h55 c56)) fun f53 =>
q_guardW true v48 (q_genW (binC Try.prog .neq 22 (.tmp 37) (.const (.pointer none)) (dec v50) (dec ⟨12, 0, ⟨0, 0, 0, .nilp⟩, []⟩)) fun v157 =>
f53 v157 h51 c52) (f53 wUnd h51 c52)) fun f49 =>
q_guardW true v48 (f49 v25 h46 c47) (f49 wUnd h46 c47)) fun f44 =>
q_guardW true v35 (call 20 [v37, v41] h42 c43 fun v158 h159 c160 =>
f44 v158 h159 c160) (f44 wUnd h42 c43)) fun f40 =>
q_guardW true v35 (q_buildSW 1 8 .bools 5 true h38 c39 5 [⟨8, 1, r0, []⟩, ⟨8, 0, r0, []⟩, ⟨8, 0, r0, []⟩, ⟨8, 0, r0, []⟩, ⟨8, 1, r0, []⟩] fun v161 h162 c163 =>
f40 v161 h162 c163) (f40 wUnd h38 c39)) fun f36 =>
q_guardW true v35 (f36 v22 h29 c30) (f36 wUnd h29 c30))) fun f13 =>
q_guardW false v8 (q_genW (binC Try.prog .eql 22 (.tmp 15) (.const (.pointer none)) (dec v10) (dec ⟨12, 0, ⟨0, 0, 0, .nilp⟩, []⟩)) fun v164 =>
f13 v164 h11 c12) (f13 wUnd h11 c12)) fun f9 =>
q_guardW false v8 (f9 v5 h2 c3) (f9 wUnd h2 c3)
theorem R18_eq (Q : PrimW) (fu : Nat) (call : CallW) : curryA 0 (fnK Q Try.prog tys stl fu call e18) = R18 Q.share Q.genW Q.cmpW Q.condW Q.guardW Q.pickW Q.tupW Q.nthW Q.buildSW fu call := by kernel_rfl
noncomputable def n18 : List W → HW → Nat → KW → Bool := appF 0 (R18 (fun _ x f => f x) genW cmpW condW guardW pickW tupW nthW buildSW 1000000 d4.fn)
theorem n18_ok : FnGood Try.prog tys stl tab 18 n18 := node_ok d4_ok (by kernel_rfl) rfl g18 (R18_eq real _ _)
noncomputable def d5 : Disp := (.node 21 n21 (.node 16 n16 (.node 14 n14 (.node 13 n13 (.node 12 n12 .leaf .leaf) .leaf) (.node 15 n15 .leaf .leaf)) (.node 19 n19 (.node 18 n18 (.node 17 n17 .leaf .leaf) .leaf) (.node 20 n20 .leaf .leaf))) (.node 33 n33 (.node 31 n31 (.node 30 n30 (.node 29 n29 .leaf .leaf) .leaf) (.node 32 n32 .leaf .leaf)) (.node 43 n43 (.node 42 n42 (.node 34 n34 .leaf .leaf) .leaf) (.node 46 n46 .leaf .leaf))))
theorem d5_ok : CallSim Try.prog tys stl tab d5.fn := Disp.sim ⟨n21_ok, ⟨n16_ok, ⟨n14_ok, ⟨n13_ok, ⟨n12_ok, True.intro, True.intro⟩, True.intro⟩, ⟨n15_ok, True.intro, True.intro⟩⟩, ⟨n19_ok, ⟨n18_ok, ⟨n17_ok, True.intro, True.intro⟩, True.intro⟩, ⟨n20_ok, True.intro, True.intro⟩⟩⟩, ⟨n33_ok, ⟨n31_ok, ⟨n30_ok, ⟨n29_ok, True.intro, True.intro⟩, True.intro⟩, ⟨n32_ok, True.intro, True.intro⟩⟩, ⟨n43_ok, ⟨n42_ok, ⟨n34_ok, True.intro, True.intro⟩, True.intro⟩, ⟨n46_ok, True.intro, True.intro⟩⟩⟩⟩
/- foghorn/foghornlaw16.ScrambleNames -/
noncomputable def R4 (q_share : (α : Type) → α → (α → Bool) → Bool) (q_genW : Option CV → (W → Bool) → Bool) (q_addW : Nat → Nat → Option CV → W → W → (W → Bool) → Bool) (q_cmpW : (Nat → Nat → Bool) → Nat → Option CV → W → W → (W → Bool) → Bool) (q_notW : Option CV → W → (W → Bool) → Bool) (q_condW : W → Bool → Bool → Bool) (q_guardW : Bool → W → Bool → Bool → Bool) (q_pickW : W → W → W → (W → Bool) → Bool) (q_idxSW : Nat → W → W → (W → Bool) → Bool) (q_lenW : Option CV → W → (W → Bool) → Bool) (q_tupW : W → (List W → Bool) → Bool) (q_nthW : Nat → List W → (W → Bool) → Bool) (q_loadSW : HW → W → (W → Bool) → Bool) (q_makeSW : Nat → Nat → Nat → Kind → List W → Bool → HW → Nat → W → W → KW → Bool) (fu : Nat) (call : CallW) (h0 : HW) (c0 : Nat) (K : KW) : Bool :=
call 18 [] h0 c0 fun v1 h2 c3 =>
q_notW (two Try.prog (dec v1) (Op.unary .not)) v1 fun v4 =>
q_pickW v4 ⟨8, 1, r0, []⟩ ⟨8, 0, r0, []⟩ fun v5 =>
q_pickW v5 ⟨8, 1, r0, []⟩ ⟨8, 0, r0, []⟩ fun v6 =>
q_pickW v6 ⟨8, 1, r0, []⟩ ⟨8, 0, r0, []⟩ fun v7 =>
q_pickW v7 ⟨8, 1, r0, []⟩ ⟨8, 0, r0, []⟩ fun v8 =>
q_pickW v8 ⟨8, 1, r0, []⟩ ⟨8, 0, r0, []⟩ fun v9 =>
q_condW v9 (
K ⟨8, 0, r0, []⟩ h2 c3) (
call 19 [⟨3, 12345, r0, []⟩] h2 c3 fun v10 h11 c12 =>
q_tupW v10 fun l13 => q_nthW 0 l13 fun v14 =>
q_tupW v10 fun l15 => q_nthW 1 l15 fun v16 =>
q_cmpW (cmpF2 .neq) 3 (binC Try.prog .neq 23 (.tmp 34) (.const (.int .i64 (.ofNat 0))) (dec v16) (dec ⟨3, 0, r0, []⟩)) v16 ⟨3, 0, r0, []⟩ fun v17 =>
q_share _ (fun (v19 : W) (h20 : HW) (c21 : Nat) =>
q_share _ (fun (v23 : W) (h24 : HW) (c25 : Nat) =>
q_pickW v17 ⟨8, 1, r0, []⟩ v23 fun v26 =>
q_condW v26 (
K ⟨8, 0, r0, []⟩ h24 c25) (
call 15 [v14, ⟨3, 40000, r0, []⟩] h24 c25 fun v27 h28 c29 =>
q_tupW v27 fun l30 => q_nthW 0 l30 fun v31 =>
q_tupW v27 fun l32 => q_nthW 1 l32 fun v33 =>
call 15 [v14, ⟨3, 32766, r0, []⟩] h28 c29 fun v34 h35 c36 =>
q_tupW v34 fun l37 => q_nthW 0 l37 fun v38 =>
q_tupW v34 fun l39 => q_nthW 1 l39 fun v40 =>
call 15 [v14, ⟨3, 1048577, r0, []⟩] h35 c36 fun v41 h42 c43 =>
q_tupW v41 fun l44 => q_nthW 0 l44 fun v45 =>
q_tupW v41 fun l46 => q_nthW 1 l46 fun v47 =>
call 12 [v14, ⟨3, 32767, r0, []⟩] h42 c43 fun v48 h49 c50 =>
q_tupW v48 fun l51 => q_nthW 0 l51 fun v52 =>
q_tupW v48 fun l53 => q_nthW 1 l53 fun v54 =>
call 12 [v14, ⟨3, 32768, r0, []⟩] h49 c50 fun v55 h56 c57 =>
q_tupW v55 fun l58 => q_nthW 0 l58 fun v59 =>
q_tupW v55 fun l60 => q_nthW 1 l60 fun v61 =>
call 12 [v14, ⟨3, 32769, r0, []⟩] h56 c57 fun v62 h63 c64 =>
q_tupW v62 fun l65 => q_nthW 0 l65 fun v66 =>
q_tupW v62 fun l67 => q_nthW 1 l67 fun v68 =>
@Nat.rec (fun _ => Fun 2) (fun _ _ _ _ => false) (fun _ f73 v69 v70 h71 c72 =>
q_lenW (lenC tys 26 (dec v52)) v52 fun v74 =>
q_cmpW (cmpF2 .lss) 3 (binC Try.prog .lss 3 (.tmp 70) (.tmp 72) (dec v70) (dec v74)) v70 v74 fun v75 =>
q_condW v75 (
q_share _ (fun (v76 : W) (h77 : HW) (c78 : Nat) =>
q_addW 3 9223372036854775807 (binC Try.prog .add 3 (.tmp 74) (.const (.int .i64 (.ofNat 1))) (dec v70) (dec ⟨3, 1, r0, []⟩)) v70 ⟨3, 1, r0, []⟩ fun v80 =>
f73 v76 v80 h77 c78) fun f79 =>
q_idxSW 1 v52 v70 fun v81 =>
q_loadSW h71 v81 fun v82 =>
q_condW v82 (
q_addW 3 9223372036854775807 (binC Try.prog .add 3 (.tmp 80) (.const (.int .i64 (.ofNat 1))) (dec v69) (dec ⟨3, 1, r0, []⟩)) v69 ⟨3, 1, r0, []⟩ fun v83 =>
f79 v83 h71 c72) (
f79 v69 h71 c72)) (
q_cmpW (cmpF2 .neq) 3 (binC Try.prog .neq 23 (.tmp 82) (.const (.int .i64 (.ofNat 0))) (dec v33) (dec ⟨3, 0, r0, []⟩)) v33 ⟨3, 0, r0, []⟩ fun v84 =>
q_share _ (fun (v86 : W) (h87 : HW) (c88 : Nat) =>
q_share _ (fun (v90 : W) (h91 : HW) (c92 : Nat) =>
q_pickW v84 ⟨8, 1, r0, []⟩ v90 fun v93 =>
q_share _ (fun (v95 : W) (h96 : HW) (c97 : Nat) =>
q_share _ (fun (v99 : W) (h100 : HW) (c101 : Nat) =>
q_pickW v93 ⟨8, 1, r0, []⟩ v99 fun v102 =>
q_share _ (fun (v104 : W) (h105 : HW) (c106 : Nat) =>
q_share _ (fun (v108 : W) (h109 : HW) (c110 : Nat) =>
q_pickW v102 ⟨8, 1, r0, []⟩ v108 fun v111 =>
q_share _ (fun (v113 : W) (h114 : HW) (c115 : Nat) =>
q_share _ (fun (v117 : W) (h118 : HW) (c119 : Nat) =>
q_pickW v111 ⟨8, 1, r0, []⟩ v117 fun v120 =>
q_share _ (fun (v122 : W) (h123 : HW) (c124 : Nat) =>
q_share _ (fun (v126 : W) (h127 : HW) (c128 : Nat) =>
q_pickW v120 ⟨8, 1, r0, []⟩ v126 fun v129 =>
q_share _ (fun (v131 : W) (h132 : HW) (c133 : Nat) =>
q_share _ (fun (v135 : W) (h136 : HW) (c137 : Nat) =>
q_pickW v129 ⟨8, 1, r0, []⟩ v135 fun v138 =>
q_share _ (fun (v140 : W) (h141 : HW) (c142 : Nat) =>
q_share _ (fun (v144 : W) (h145 : HW) (c146 : Nat) =>
q_pickW v138 ⟨8, 1, r0, []⟩ v144 fun v147 =>
q_share _ (fun (v149 : W) (h150 : HW) (c151 : Nat) =>
q_share _ (fun (v153 : W) (h154 : HW) (c155 : Nat) =>
q_share _ (fun (v157 : W) (h158 : HW) (c159 : Nat) =>
q_pickW v147 ⟨8, 1, r0, []⟩ v157 fun v160 =>
q_share _ (fun (v162 : W) (h163 : HW) (c164 : Nat) =>
q_share _ (fun (v166 : W) (h167 : HW) (c168 : Nat) =>
q_share _ (fun (v170 : W) (h171 : HW) (c172 : Nat) =>
q_share _ (fun (v174 : W) (h175 : HW) (c176 : Nat) =>
q_share _ (fun (v178 : W) (h179 : HW) (c180 : Nat) =>
q_pickW v160 ⟨8, 1, r0, []⟩ v178 fun v181 =>
q_share _ (fun (v183 : W) (h184 : HW) (c185 : Nat) =>
q_share _ (fun (v187 : W) (h188 : HW) (c189 : Nat) =>
q_share _ (fun (v191 : W) (h192 : HW) (c193 : Nat) =>
q_share _ (fun (v195 : W) (h196 : HW) (c197 : Nat) =>
q_share _ (fun (v199 : W) (h200 : HW) (c201 : Nat) =>
q_share _ (fun (v203 : W) (h204 : HW) (c205 : Nat) =>
q_share _ (fun (v207 : W) (h208 : HW) (c209 : Nat) =>
q_pickW v181 ⟨8, 1, r0, []⟩ v207 fun v210 =>
q_condW v210 (
K ⟨8, 0, r0, []⟩ h208 c209) (
call 21 [⟨3, 32, r0, []⟩, ⟨6, 2147483649, r0, []⟩, ⟨6, 2147483648, r0, []⟩] h208 c209 fun v211 h212 c213 =>
q_tupW v211 fun l214 => q_nthW 0 l214 fun v215 =>
q_tupW v211 fun l216 => q_nthW 1 l216 fun v217 =>
call 21 [⟨3, 31, r0, []⟩, ⟨6, 2147483649, r0, []⟩, ⟨6, 1, r0, []⟩] h212 c213 fun v218 h219 c220 =>
q_tupW v218 fun l221 => q_nthW 0 l221 fun v222 =>
q_tupW v218 fun l223 => q_nthW 1 l223 fun v224 =>
call 21 [⟨3, 31, r0, []⟩, ⟨6, 1, r0, []⟩, ⟨6, 2147483648, r0, []⟩] h219 c220 fun v225 h226 c227 =>
q_tupW v225 fun l228 => q_nthW 0 l228 fun v229 =>
q_tupW v225 fun l230 => q_nthW 1 l230 fun v231 =>
q_makeSW 1 1 8 .bools [⟨8, 0, r0, []⟩] true h226 c227 ⟨3, 32769, r0, []⟩ ⟨3, 32769, r0, []⟩ fun v232 h233 c234 =>
call 13 [v14, v232] h233 c234 fun v235 h236 c237 =>
q_tupW v235 fun l238 => q_nthW 0 l238 fun v239 =>
q_tupW v235 fun l240 => q_nthW 1 l240 fun v241 =>
call 21 [⟨3, 4, r0, []⟩, ⟨6, 3, r0, []⟩, ⟨6, 0, r0, []⟩] h236 c237 fun v242 h243 c244 =>
q_tupW v242 fun l245 => q_nthW 0 l245 fun v246 =>
q_tupW v242 fun l247 => q_nthW 1 l247 fun v248 =>
call 21 [⟨3, 4, r0, []⟩, ⟨6, 3, r0, []⟩, ⟨6, 16, r0, []⟩] h243 c244 fun v249 h250 c251 =>
q_tupW v249 fun l252 => q_nthW 0 l252 fun v253 =>
q_tupW v249 fun l254 => q_nthW 1 l254 fun v255 =>
call 21 [⟨3, 1, r0, []⟩, ⟨6, 1, r0, []⟩, ⟨6, 1, r0, []⟩] h250 c251 fun v256 h257 c258 =>
q_tupW v256 fun l259 => q_nthW 0 l259 fun v260 =>
q_tupW v256 fun l261 => q_nthW 1 l261 fun v262 =>
q_cmpW (cmpF2 .neq) 3 (binC Try.prog .neq 23 (.tmp 163) (.const (.int .i64 (.ofNat 1))) (dec v248) (dec ⟨3, 1, r0, []⟩)) v248 ⟨3, 1, r0, []⟩ fun v263 =>
q_share _ (fun (v265 : W) (h266 : HW) (c267 : Nat) =>
q_share _ (fun (v269 : W) (h270 : HW) (c271 : Nat) =>
q_pickW v263 ⟨8, 1, r0, []⟩ v269 fun v272 =>
q_share _ (fun (v274 : W) (h275 : HW) (c276 : Nat) =>
q_share _ (fun (v278 : W) (h279 : HW) (c280 : Nat) =>
q_pickW v272 ⟨8, 1, r0, []⟩ v278 fun v281 =>
q_condW v281 (
K ⟨8, 0, r0, []⟩ h279 c280) (
q_cmpW (cmpF2 .eql) 3 (binC Try.prog .eql 23 (.tmp 173) (.const (.int .i64 (.ofNat 0))) (dec v217) (dec ⟨3, 0, r0, []⟩)) v217 ⟨3, 0, r0, []⟩ fun v282 =>
q_share _ (fun (v284 : W) (h285 : HW) (c286 : Nat) =>
q_share _ (fun (v288 : W) (h289 : HW) (c290 : Nat) =>
q_pickW v282 v288 ⟨8, 0, r0, []⟩ fun v291 =>
q_share _ (fun (v293 : W) (h294 : HW) (c295 : Nat) =>
q_share _ (fun (v297 : W) (h298 : HW) (c299 : Nat) =>
q_share _ (fun (v301 : W) (h302 : HW) (c303 : Nat) =>
q_pickW v291 v301 ⟨8, 0, r0, []⟩ fun v304 =>
q_share _ (fun (v306 : W) (h307 : HW) (c308 : Nat) =>
q_share _ (fun (v310 : W) (h311 : HW) (c312 : Nat) =>
q_pickW v304 v310 ⟨8, 0, r0, []⟩ fun v313 =>
q_share _ (fun (v315 : W) (h316 : HW) (c317 : Nat) =>
q_share _ (fun (v319 : W) (h320 : HW) (c321 : Nat) =>
q_pickW v313 v319 ⟨8, 0, r0, []⟩ fun v322 =>
q_share _ (fun (v324 : W) (h325 : HW) (c326 : Nat) =>
q_share _ (fun (v328 : W) (h329 : HW) (c330 : Nat) =>
q_pickW v322 v328 ⟨8, 0, r0, []⟩ fun v331 =>
K v331 h329 c330) fun f327 =>
q_guardW true v322 (q_cmpW (cmpF2 .eql) 3 (binC Try.prog .eql 23 (.tmp 193) (.const (.int .i64 (.ofNat 1))) (dec v324) (dec ⟨3, 1, r0, []⟩)) v324 ⟨3, 1, r0, []⟩ fun v332 =>
f327 v332 h325 c326) (f327 wUnd h325 c326)) fun f323 =>
q_guardW true v322 (f323 v241 h320 c321) (f323 wUnd h320 c321)) fun f318 =>
q_guardW true v313 (q_cmpW (cmpF2 .eql) 3 (binC Try.prog .eql 23 (.tmp 189) (.const (.int .i64 (.ofNat 1))) (dec v315) (dec ⟨3, 1, r0, []⟩)) v315 ⟨3, 1, r0, []⟩ fun v333 =>
f318 v333 h316 c317) (f318 wUnd h316 c317)) fun f314 =>
q_guardW true v313 (f314 v231 h311 c312) (f314 wUnd h311 c312)) fun f309 =>
q_guardW true v304 (q_cmpW (cmpF2 .eql) 3 (binC Try.prog .eql 23 (.tmp 185) (.const (.int .i64 (.ofNat 1))) (dec v306) (dec ⟨3, 1, r0, []⟩)) v306 ⟨3, 1, r0, []⟩ fun v334 =>
f309 v334 h307 c308) (f309 wUnd h307 c308)) fun f305 =>
q_guardW true v304 (f305 v224 h302 c303) (f305 wUnd h302 c303)) fun f300 =>
q_guardW true v291 (q_cmpW (cmpF2 .eql) 6 (binC Try.prog .eql 33 (.tmp 181) (.const (.int .u32 (.ofNat 2147483648))) (dec v297) (dec ⟨6, 2147483648, r0, []⟩)) v297 ⟨6, 2147483648, r0, []⟩ fun v335 =>
f300 v335 h298 c299) (f300 wUnd h298 c299)) fun f296 =>
q_guardW true v291 (call 16 [v293] h294 c295 fun v336 h337 c338 =>
f296 v336 h337 c338) (f296 wUnd h294 c295)) fun f292 =>
q_guardW true v291 (f292 v215 h289 c290) (f292 wUnd h289 c290)) fun f287 =>
q_guardW true v282 (q_genW (binC Try.prog .neq 22 (.tmp 176) (.const (.pointer none)) (dec v284) (dec ⟨12, 0, ⟨0, 0, 0, .nilp⟩, []⟩)) fun v339 =>
f287 v339 h285 c286) (f287 wUnd h285 c286)) fun f283 =>
q_guardW true v282 (f283 v215 h279 c280) (f283 wUnd h279 c280))) fun f277 =>
q_guardW false v272 (q_cmpW (cmpF2 .neq) 3 (binC Try.prog .neq 23 (.tmp 170) (.const (.int .i64 (.ofNat 1))) (dec v274) (dec ⟨3, 1, r0, []⟩)) v274 ⟨3, 1, r0, []⟩ fun v340 =>
f277 v340 h275 c276) (f277 wUnd h275 c276)) fun f273 =>
q_guardW false v272 (f273 v262 h270 c271) (f273 wUnd h270 c271)) fun f268 =>
q_guardW false v263 (q_cmpW (cmpF2 .neq) 3 (binC Try.prog .neq 23 (.tmp 166) (.const (.int .i64 (.ofNat 1))) (dec v265) (dec ⟨3, 1, r0, []⟩)) v265 ⟨3, 1, r0, []⟩ fun v341 =>
f268 v341 h266 c267) (f268 wUnd h266 c267)) fun f264 =>
q_guardW false v263 (f264 v255 h257 c258) (f264 wUnd h257 c258))) fun f206 =>
q_guardW false v181 (q_genW (binC Try.prog .neq 4 (.tmp 127) (.tmp 130) (dec v191) (dec v203)) fun v342 =>
f206 v342 h204 c205) (f206 wUnd h204 c205)) fun f202 =>
q_guardW false v181 (q_loadSW h200 v199 fun v343 =>
f202 v343 h200 c201) (f202 wUnd h200 c201)) fun f198 =>
q_guardW false v181 (q_idxSW 1 v195 ⟨3, 0, r0, []⟩ fun v344 =>
f198 v344 h196 c197) (f198 wUnd h196 c197)) fun f194 =>
q_guardW false v181 (f194 v52 h192 c193) (f194 wUnd h192 c193)) fun f190 =>
q_guardW false v181 (q_loadSW h188 v187 fun v345 =>
f190 v345 h188 c189) (f190 wUnd h188 c189)) fun f186 =>
q_guardW false v181 (q_idxSW 1 v183 ⟨3, 32767, r0, []⟩ fun v346 =>
f186 v346 h184 c185) (f186 wUnd h184 c185)) fun f182 =>
q_guardW false v181 (f182 v59 h179 c180) (f182 wUnd h179 c180)) fun f177 =>
q_guardW false v160 (q_notW (two Try.prog (dec v174) (Op.unary .not)) v174 fun v347 =>
f177 v347 h175 c176) (f177 wUnd h175 c176)) fun f173 =>
q_guardW false v160 (call 20 [v166, v170] h171 c172 fun v348 h349 c350 =>
f173 v348 h349 c350) (f173 wUnd h171 c172)) fun f169 =>
q_guardW false v160 (f169 v52 h167 c168) (f169 wUnd h167 c168)) fun f165 =>
q_guardW false v160 (q_genW (sliceC tys 26 (dec v162) none (some (dec ⟨3, 32767, r0, []⟩)) none) fun v351 =>
f165 v351 h163 c164) (f165 wUnd h163 c164)) fun f161 =>
q_guardW false v160 (f161 v59 h158 c159) (f161 wUnd h158 c159)) fun f156 =>
q_guardW false v147 (q_cmpW (cmpF2 .neq) 3 (binC Try.prog .neq 3 (.tmp 114) (.const (.int .i64 (.ofNat 32768))) (dec v153) (dec ⟨3, 32768, r0, []⟩)) v153 ⟨3, 32768, r0, []⟩ fun v352 =>
f156 v352 h154 c155) (f156 wUnd h154 c155)) fun f152 =>
q_guardW false v147 (q_lenW (lenC tys 26 (dec v149)) v149 fun v353 =>
f152 v353 h150 c151) (f152 wUnd h150 c151)) fun f148 =>
q_guardW false v147 (f148 v59 h145 c146) (f148 wUnd h145 c146)) fun f143 =>
q_guardW false v138 (q_cmpW (cmpF2 .neq) 3 (binC Try.prog .neq 3 (.tmp 109) (.const (.int .i64 (.ofNat 16384))) (dec v140) (dec ⟨3, 16384, r0, []⟩)) v140 ⟨3, 16384, r0, []⟩ fun v354 =>
f143 v354 h141 c142) (f143 wUnd h141 c142)) fun f139 =>
q_guardW false v138 (f139 v69 h136 c137) (f139 wUnd h136 c137)) fun f134 =>
q_guardW false v129 (q_cmpW (cmpF2 .neq) 3 (binC Try.prog .neq 3 (.tmp 105) (.const (.int .i64 (.ofNat 32767))) (dec v131) (dec ⟨3, 32767, r0, []⟩)) v131 ⟨3, 32767, r0, []⟩ fun v355 =>
f134 v355 h132 c133) (f134 wUnd h132 c133)) fun f130 =>
q_guardW false v129 (f130 v31 h127 c128) (f130 wUnd h127 c128)) fun f125 =>
q_guardW false v120 (q_cmpW (cmpF2 .neq) 3 (binC Try.prog .neq 23 (.tmp 101) (.const (.int .i64 (.ofNat 1))) (dec v122) (dec ⟨3, 1, r0, []⟩)) v122 ⟨3, 1, r0, []⟩ fun v356 =>
f125 v356 h123 c124) (f125 wUnd h123 c124)) fun f121 =>
q_guardW false v120 (f121 v68 h118 c119) (f121 wUnd h118 c119)) fun f116 =>
q_guardW false v111 (q_cmpW (cmpF2 .neq) 3 (binC Try.prog .neq 23 (.tmp 97) (.const (.int .i64 (.ofNat 0))) (dec v113) (dec ⟨3, 0, r0, []⟩)) v113 ⟨3, 0, r0, []⟩ fun v357 =>
f116 v357 h114 c115) (f116 wUnd h114 c115)) fun f112 =>
q_guardW false v111 (f112 v61 h109 c110) (f112 wUnd h109 c110)) fun f107 =>
q_guardW false v102 (q_cmpW (cmpF2 .neq) 3 (binC Try.prog .neq 23 (.tmp 93) (.const (.int .i64 (.ofNat 0))) (dec v104) (dec ⟨3, 0, r0, []⟩)) v104 ⟨3, 0, r0, []⟩ fun v358 =>
f107 v358 h105 c106) (f107 wUnd h105 c106)) fun f103 =>
q_guardW false v102 (f103 v54 h100 c101) (f103 wUnd h100 c101)) fun f98 =>
q_guardW false v93 (q_cmpW (cmpF2 .neq) 3 (binC Try.prog .neq 23 (.tmp 89) (.const (.int .i64 (.ofNat 1))) (dec v95) (dec ⟨3, 1, r0, []⟩)) v95 ⟨3, 1, r0, []⟩ fun v359 =>
f98 v359 h96 c97) (f98 wUnd h96 c97)) fun f94 =>
q_guardW false v93 (f94 v47 h91 c92) (f94 wUnd h91 c92)) fun f89 =>
q_guardW false v84 (q_cmpW (cmpF2 .neq) 3 (binC Try.prog .neq 23 (.tmp 85) (.const (.int .i64 (.ofNat 6))) (dec v86) (dec ⟨3, 6, r0, []⟩)) v86 ⟨3, 6, r0, []⟩ fun v360 =>
f89 v360 h87 c88) (f89 wUnd h87 c88)) fun f85 =>
q_guardW false v84 (f85 v40 h71 c72) (f85 wUnd h71 c72))) fu ⟨3, 0, r0, []⟩ ⟨3, 0, r0, []⟩ h63 c64)) fun f22 =>
q_guardW false v17 (q_genW (binC Try.prog .eql 22 (.tmp 37) (.const (.pointer none)) (dec v19) (dec ⟨12, 0, ⟨0, 0, 0, .nilp⟩, []⟩)) fun v361 =>
f22 v361 h20 c21) (f22 wUnd h20 c21)) fun f18 =>
q_guardW false v17 (f18 v14 h11 c12) (f18 wUnd h11 c12))
theorem R4_eq (Q : PrimW) (fu : Nat) (call : CallW) : curryA 0 (fnK Q Try.prog tys stl fu call e4) = R4 Q.share Q.genW Q.addW Q.cmpW Q.notW Q.condW Q.guardW Q.pickW Q.idxSW Q.lenW Q.tupW Q.nthW Q.loadSW Q.makeSW fu call := by kernel_rfl
noncomputable def n4 : List W → HW → Nat → KW → Bool := appF 0 (R4 (fun _ x f => f x) genW addW cmpW notW condW guardW pickW idxSW lenW tupW nthW loadSW makeSW 1000000 d5.fn)
theorem n4_ok : FnGood Try.prog tys stl tab 4 n4 := node_ok d5_ok (by kernel_rfl) rfl g4 (R4_eq real _ _)
noncomputable def d6 : Disp := (.node 21 n21 (.node 16 n16 (.node 13 n13 (.node 12 n12 (.node 4 n4 .leaf .leaf) .leaf) (.node 15 n15 (.node 14 n14 .leaf .leaf) .leaf)) (.node 19 n19 (.node 18 n18 (.node 17 n17 .leaf .leaf) .leaf) (.node 20 n20 .leaf .leaf))) (.node 33 n33 (.node 31 n31 (.node 30 n30 (.node 29 n29 .leaf .leaf) .leaf) (.node 32 n32 .leaf .leaf)) (.node 43 n43 (.node 42 n42 (.node 34 n34 .leaf .leaf) .leaf) (.node 46 n46 .leaf .leaf))))
theorem d6_ok : CallSim Try.prog tys stl tab d6.fn := Disp.sim ⟨n21_ok, ⟨n16_ok, ⟨n13_ok, ⟨n12_ok, ⟨n4_ok, True.intro, True.intro⟩, True.intro⟩, ⟨n15_ok, ⟨n14_ok, True.intro, True.intro⟩, True.intro⟩⟩, ⟨n19_ok, ⟨n18_ok, ⟨n17_ok, True.intro, True.intro⟩, True.intro⟩, ⟨n20_ok, True.intro, True.intro⟩⟩⟩, ⟨n33_ok, ⟨n31_ok, ⟨n30_ok, ⟨n29_ok, True.intro, True.intro⟩, True.intro⟩, ⟨n32_ok, True.intro, True.intro⟩⟩, ⟨n43_ok, ⟨n42_ok, ⟨n34_ok, True.intro, True.intro⟩, True.intro⟩, ⟨n46_ok, True.intro, True.intro⟩⟩⟩⟩
noncomputable abbrev dT : Disp := d6
theorem dT_ok : CallSim Try.prog tys stl tab dT.fn := d6_ok

set_option maxHeartbeats 0 in
theorem run4 : lawK dT.fn 4 = true := by kernel_rfl
namespace scrambleNames
open Go.ChangeShapes Go.WideShapes Go.ChangeAt Go.RowKit
theorem own : ownKnob Try.prog.godebug = none := by kernel_rfl
theorem laid : laidOutB Try.prog = true := by kernel_rfl
theorem lifted (os : Os) (started : os.Started) (H : Type) (enc : TypeId × Value → H) :
    ReturnsInHanded {} Try.checked os 4 .any (Rows.scrambleNamesSpec.pre6 enc Try.prog Try.f4 Rows.scrambleNamesRow.domain false) (Rows.scrambleNamesSpec.post enc Try.prog Try.f4 false true false false) := by
  refine returnsInHanded_of_change (C := Try.checked) own started (by kernel_rfl) Try.func4
    (ChangeSpec.witness6 (enc := enc) (C := Try.checked) false ⟨#[], #[], []⟩ 8 (by kernel_rfl) (by kernel_rfl) (by kernel_rfl) (by kernel_rfl)) ?_
  intro W base args ds gs before hval0 hW hcnd _
  have hW' := hW
  obtain ⟨p, q, hA0, hV, rfl, hfz, hnd⟩ := hW
  have hA : DataW.TrodAll enc Try.prog W 0 (fun _ => true) true Try.f4.params.toList args.toList ds p := hA0
  rw [Try.params4] at hA
  obtain ⟨hargs, rfl, rfl⟩ := trodAll_nil hA
  obtain rfl : args = #[] := by cases args; simp_all
  obtain ⟨rfl, rfl⟩ := trodVars_none hV
  clear hA0 hval0
  refine (lawK_true tok mixed fok dT_ok (by kernel_rfl : tab 4 = some e4) rfl run4 W).mono fun e W' ⟨he, hg⟩ => ?_
  subst he
  exact ⟨_, rfl, law_done laid rfl rfl Try.underlying4 (by kernel_rfl) hW' rfl hg⟩

theorem over : Rows.scrambleNamesRow.holds Try.pinned (OpenSpec.ofChange Rows.scrambleNamesSpec) :=
  OpenClaim.holds_of_wide 4 Try.f4 rfl rfl rfl rfl rfl rfl rfl ⟨rfl, rfl, rfl, rfl, rfl⟩ rfl rfl rfl rfl rfl (by kernel_rfl) Try.func4 (by kernel_rfl)
    (of_decide_eq_true (by kernel_rfl)) (by unfold Func.isWrapper; first | (rw [if_pos (by decide +kernel)]; kernel_rfl) | (rw [if_neg (by decide +kernel)]; exact ⟨rfl, rfl⟩))
    (fun os started H enc _ => lifted os started H enc)

theorem proved : Rows.ScrambleNamesSaid := over
end scrambleNames
end Go.Proofs.Ytbfjkddobhafeaa
