/-
  foghornlaw28.AgainNames returns true, whatever the memory it begins in. No condition.
-/
import Derived.Test.YtnnehaigncjeaaaRows
import Derived.Test.YtnnehaigncjeaaaGx
import Derived.WalkKit
import Derived.ProofKit
import Derived.OpenShut
set_option linter.unusedVariables false
set_option maxRecDepth 1000000
namespace Go.Proofs.Ytnnehaigncjeaaa
open Go Go.Fw
def tys : List (Nat × TyI) := [
  (1, ⟨.func, 1, 8, .nilFunc⟩),
  (2, ⟨.int .i64, 1, 8, .int .i64 0⟩),
  (3, ⟨.int .i64, 1, 8, .int .i64 0⟩),
  (4, ⟨.bool, 1, 1, .bool false⟩),
  (5, ⟨.int .u8, 1, 1, .int .u8 0⟩),
  (9, ⟨.str, 1, 16, .string (ByteArray.mk #[])⟩),
  (12, ⟨.int .u64, 1, 8, .int .u64 0⟩),
  (21, ⟨.int .i32, 1, 4, .int .i32 0⟩),
  (22, ⟨.func, 1, 8, .nilFunc⟩),
  (23, ⟨.ptr 44, 1, 8, .pointer none⟩),
  (24, ⟨.ptr 53, 1, 8, .pointer none⟩),
  (25, ⟨.slice 31, 1, 24, .slice none 0 0⟩),
  (26, ⟨.int .i64, 1, 8, .int .i64 0⟩),
  (28, ⟨.func, 1, 8, .nilFunc⟩),
  (29, ⟨.slice 9, 1, 24, .slice none 0 0⟩),
  (30, ⟨.struct [(0, 5), (1, 5), (2, 4), (3, 9)], 4, 24, .agg #[.int .u8 0, .int .u8 0, .bool false, .string (ByteArray.mk #[])]⟩),
  (31, ⟨.struct [(0, 5), (1, 5), (2, 4), (3, 9)], 4, 24, .agg #[.int .u8 0, .int .u8 0, .bool false, .string (ByteArray.mk #[])]⟩),
  (33, ⟨.func, 1, 8, .nilFunc⟩),
  (34, ⟨.func, 1, 8, .nilFunc⟩),
  (35, ⟨.func, 1, 8, .nilFunc⟩),
  (36, ⟨.func, 1, 8, .nilFunc⟩),
  (38, ⟨.func, 1, 8, .nilFunc⟩),
  (40, ⟨.func, 1, 8, .nilFunc⟩),
  (41, ⟨.slice 5, 1, 24, .slice none 0 0⟩),
  (42, ⟨.slice 49, 1, 24, .slice none 0 0⟩),
  (43, ⟨.struct [(0, 3), (1, 2), (2, 2), (3, 5), (4, 42)], 5, 56, .agg #[.int .i64 0, .int .i64 0, .int .i64 0, .int .u8 0, .slice none 0 0]⟩),
  (44, ⟨.struct [(0, 3), (1, 2), (2, 2), (3, 5), (4, 42)], 5, 56, .agg #[.int .i64 0, .int .i64 0, .int .i64 0, .int .u8 0, .slice none 0 0]⟩),
  (45, ⟨.func, 1, 8, .nilFunc⟩),
  (46, ⟨.func, 1, 8, .nilFunc⟩),
  (47, ⟨.func, 1, 8, .nilFunc⟩),
  (48, ⟨.struct [(0, 9), (1, 4), (2, 2), (3, 4)], 4, 40, .agg #[.string (ByteArray.mk #[]), .bool false, .int .i64 0, .bool false]⟩),
  (49, ⟨.struct [(0, 9), (1, 4), (2, 2), (3, 4)], 4, 40, .agg #[.string (ByteArray.mk #[]), .bool false, .int .i64 0, .bool false]⟩),
  (50, ⟨.func, 1, 8, .nilFunc⟩),
  (51, ⟨.map, 1, 8, .map none⟩),
  (52, ⟨.struct [(0, 3), (1, 3), (2, 51)], 3, 24, .agg #[.int .i64 0, .int .i64 0, .map none]⟩),
  (53, ⟨.struct [(0, 3), (1, 3), (2, 51)], 3, 24, .agg #[.int .i64 0, .int .i64 0, .map none]⟩),
  (54, ⟨.struct [(0, 9)], 1, 16, .agg #[.string (ByteArray.mk #[])]⟩),
  (55, ⟨.struct [(0, 9)], 1, 16, .agg #[.string (ByteArray.mk #[])]⟩),
  (57, ⟨.func, 1, 8, .nilFunc⟩),
  (58, ⟨.array 16 5, 16, 16, .agg #[.int .u8 0, .int .u8 0, .int .u8 0, .int .u8 0, .int .u8 0, .int .u8 0, .int .u8 0, .int .u8 0, .int .u8 0, .int .u8 0, .int .u8 0, .int .u8 0, .int .u8 0, .int .u8 0, .int .u8 0, .int .u8 0]⟩),
  (59, ⟨.array 16 5, 16, 16, .agg #[.int .u8 0, .int .u8 0, .int .u8 0, .int .u8 0, .int .u8 0, .int .u8 0, .int .u8 0, .int .u8 0, .int .u8 0, .int .u8 0, .int .u8 0, .int .u8 0, .int .u8 0, .int .u8 0, .int .u8 0, .int .u8 0]⟩),
  (60, ⟨.func, 1, 8, .nilFunc⟩),
  (61, ⟨.func, 1, 8, .nilFunc⟩),
  (62, ⟨.func, 1, 8, .nilFunc⟩),
  (63, ⟨.func, 1, 8, .nilFunc⟩),
  (64, ⟨.ptr 59, 1, 8, .pointer none⟩),
  (65, ⟨.func, 1, 8, .nilFunc⟩),
  (71, ⟨.int .u32, 1, 4, .int .u32 0⟩),
  (74, ⟨.func, 1, 8, .nilFunc⟩),
  (75, ⟨.ptr 5, 1, 8, .pointer none⟩)]


theorem tok : TOk Try.prog tys := tok_of ⟨⟨by kernel_rfl, by kernel_rfl⟩, ⟨by kernel_rfl, by kernel_rfl⟩, ⟨by kernel_rfl, by kernel_rfl⟩, ⟨by kernel_rfl, by kernel_rfl⟩, ⟨by kernel_rfl, by kernel_rfl⟩, ⟨by kernel_rfl, by kernel_rfl⟩, ⟨by kernel_rfl, by kernel_rfl⟩, ⟨by kernel_rfl, by kernel_rfl⟩, ⟨by kernel_rfl, by kernel_rfl⟩, ⟨by kernel_rfl, by kernel_rfl⟩, ⟨by kernel_rfl, by kernel_rfl⟩, ⟨by kernel_rfl, by kernel_rfl⟩, ⟨by kernel_rfl, by kernel_rfl⟩, ⟨by kernel_rfl, by kernel_rfl⟩, ⟨by kernel_rfl, by kernel_rfl⟩, ⟨by kernel_rfl, by kernel_rfl⟩, ⟨by kernel_rfl, by kernel_rfl⟩, ⟨by kernel_rfl, by kernel_rfl⟩, ⟨by kernel_rfl, by kernel_rfl⟩, ⟨by kernel_rfl, by kernel_rfl⟩, ⟨by kernel_rfl, by kernel_rfl⟩, ⟨by kernel_rfl, by kernel_rfl⟩, ⟨by kernel_rfl, by kernel_rfl⟩, ⟨by kernel_rfl, by kernel_rfl⟩, ⟨by kernel_rfl, by kernel_rfl⟩, ⟨by kernel_rfl, by kernel_rfl⟩, ⟨by kernel_rfl, by kernel_rfl⟩, ⟨by kernel_rfl, by kernel_rfl⟩, ⟨by kernel_rfl, by kernel_rfl⟩, ⟨by kernel_rfl, by kernel_rfl⟩, ⟨by kernel_rfl, by kernel_rfl⟩, ⟨by kernel_rfl, by kernel_rfl⟩, ⟨by kernel_rfl, by kernel_rfl⟩, ⟨by kernel_rfl, by kernel_rfl⟩, ⟨by kernel_rfl, by kernel_rfl⟩, ⟨by kernel_rfl, by kernel_rfl⟩, ⟨by kernel_rfl, by kernel_rfl⟩, ⟨by kernel_rfl, by kernel_rfl⟩, ⟨by kernel_rfl, by kernel_rfl⟩, ⟨by kernel_rfl, by kernel_rfl⟩, ⟨by kernel_rfl, by kernel_rfl⟩, ⟨by kernel_rfl, by kernel_rfl⟩, ⟨by kernel_rfl, by kernel_rfl⟩, ⟨by kernel_rfl, by kernel_rfl⟩, ⟨by kernel_rfl, by kernel_rfl⟩, ⟨by kernel_rfl, by kernel_rfl⟩, ⟨by kernel_rfl, by kernel_rfl⟩, ⟨by kernel_rfl, by kernel_rfl⟩, ⟨by kernel_rfl, by kernel_rfl⟩, ⟨by kernel_rfl, by kernel_rfl⟩, True.intro⟩
theorem mixed : Try.prog.follows .mixedOrders = true := by kernel_rfl
def inL : List Nat → Nat → Bool
  | [], _ => false
  | a :: r, n => match Nat.beq a n with | true => true | false => inL r n
def stl : Nat → Bool := inL [9, 10, 21]
/- 3: foghorn/foghornlaw28.AgainNames -/
def p3 : Nat → Option PlanC := fun _ => none
def wl3 : Nat → List Nat := fun
  | 20 => [19]
  | _ => []
def wj3 : Nat → Option (List Nat) := fun _ => none
def kr3 : Nat → List Nat := fun _ => []
noncomputable def e3 : Ent := entOf Try.f3 ⟨p3, wl3, wj3, kr3, [6]⟩
theorem g3 : EntOk Try.prog tys stl 3 e3 := .inr ⟨rfl, Try.func3, by kernel_rfl, by kernel_rfl, by kernel_rfl, by kernel_rfl, by kernel_rfl, rfl⟩
/- 4: foghorn/foghornlaw28.works -/
def p4 : Nat → Option PlanC := fun _ => none
def wl4 : Nat → List Nat := fun _ => []
def wj4 : Nat → Option (List Nat) := fun _ => none
def kr4 : Nat → List Nat := fun _ => []
noncomputable def e4 : Ent := entOf Try.f4 ⟨p4, wl4, wj4, kr4, [9]⟩
theorem g4 : EntOk Try.prog tys stl 4 e4 := .inr ⟨rfl, Try.func4, by kernel_rfl, by kernel_rfl, by kernel_rfl, by kernel_rfl, by kernel_rfl, rfl⟩
/- 5: (*foghorn/again.Sender).Tick -/
def p5 : Nat → Option PlanC := fun
  | 14 => some (.op 1 false (.op 2 false (.op 3 false (.op 4 false (.op 5 false (.op 6 false (.op 7 false (.op 8 false (.op 9 false (.op 10 false (.op 0 true (.op 11 false (.op 12 false (.op 13 false (.done)))))))))))))))
  | _ => none
def wl5 : Nat → List Nat := fun
  | 10 => [7, 30]
  | _ => []
def wj5 : Nat → Option (List Nat) := fun
  | 15 => some [7]
  | _ => none
def kr5 : Nat → List Nat := fun
  | 14 => [58]
  | _ => []
noncomputable def e5 : Ent := entOf Try.f5 ⟨p5, wl5, wj5, kr5, []⟩
theorem g5 : EntOk Try.prog tys stl 5 e5 := .inr ⟨rfl, Try.func5, by kernel_rfl, by kernel_rfl, by kernel_rfl, by kernel_rfl, by kernel_rfl, rfl⟩
/- 6: (*foghorn/again.Receiver).Take -/
def p6 : Nat → Option PlanC := fun
  | 7 => some (.op 0 true (.op 1 true (.op 2 true (.op 4 true (.op 5 true (.op 6 true (.op 8 true (.op 3 false (.op 7 false (.op 9 true (.op 10 false (.op 11 true (.op 12 true (.op 13 true (.op 14 false (.chk [10, 7, 3] (.op 15 false (.op 16 false (.done)))))))))))))))))))
  | 10 => some (.op 0 true (.op 1 true (.op 2 true (.op 4 true (.op 5 true (.op 6 true (.op 3 false (.op 7 false (.op 8 false (.op 9 true (.op 10 true (.op 11 true (.op 12 false (.chk [8, 7, 3] (.op 13 false (.op 14 false (.done)))))))))))))))))
  | 12 => some (.op 0 false (.op 1 false (.op 2 false (.op 3 false (.op 4 false (.op 5 false (.op 6 false (.op 7 false (.op 8 false (.op 9 false (.op 10 false (.op 11 true (.op 12 false (.op 13 false (.done)))))))))))))))
  | _ => none
def wl6 : Nat → List Nat := fun
  | 11 => [4, 10, 11]
  | _ => []
def wj6 : Nat → Option (List Nat) := fun
  | 10 => some [8]
  | _ => none
def kr6 : Nat → List Nat := fun
  | 13 => [91]
  | _ => []
noncomputable def e6 : Ent := entOf Try.f6 ⟨p6, wl6, wj6, kr6, [3, 8]⟩
theorem g6 : EntOk Try.prog tys stl 6 e6 := .inr ⟨rfl, Try.func6, by kernel_rfl, by kernel_rfl, by kernel_rfl, by kernel_rfl, by kernel_rfl, rfl⟩
/- 7: (*foghorn/again.Sender).Offer -/
def p7 : Nat → Option PlanC := fun _ => none
def wl7 : Nat → List Nat := fun _ => []
def wj7 : Nat → Option (List Nat) := fun _ => none
def kr7 : Nat → List Nat := fun
  | 7 => [23]
  | _ => []
noncomputable def e7 : Ent := entOf Try.f7 ⟨p7, wl7, wj7, kr7, []⟩
theorem g7 : EntOk Try.prog tys stl 7 e7 := .inr ⟨rfl, Try.func7, by kernel_rfl, by kernel_rfl, by kernel_rfl, by kernel_rfl, by kernel_rfl, rfl⟩
/- 8: (*foghorn/again.Sender).Hear -/
def p8 : Nat → Option PlanC := fun
  | 5 => some (.op 8 false (.op 0 true (.op 2 true (.op 3 true (.op 4 true (.op 1 false (.op 5 false (.op 6 true (.op 7 false (.op 9 false (.chk [7, 5, 1] (.op 10 false (.op 11 false (.done))))))))))))))
  | _ => none
def wl8 : Nat → List Nat := fun
  | 11 => [32]
  | _ => []
def wj8 : Nat → Option (List Nat) := fun
  | 15 => some []
  | _ => none
def kr8 : Nat → List Nat := fun _ => []
noncomputable def e8 : Ent := entOf Try.f8 ⟨p8, wl8, wj8, kr8, [3]⟩
theorem g8 : EntOk Try.prog tys stl 8 e8 := .inr ⟨rfl, Try.func8, by kernel_rfl, by kernel_rfl, by kernel_rfl, by kernel_rfl, by kernel_rfl, rfl⟩
/- 9: (*foghorn/again.Sender).Left -/
def p9 : Nat → Option PlanC := fun _ => none
def wl9 : Nat → List Nat := fun _ => []
def wj9 : Nat → Option (List Nat) := fun _ => none
def kr9 : Nat → List Nat := fun _ => []
noncomputable def e9 : Ent := entOf Try.f9 ⟨p9, wl9, wj9, kr9, []⟩
theorem g9 : EntOk Try.prog tys stl 9 e9 := .inr ⟨rfl, Try.func9, by kernel_rfl, by kernel_rfl, by kernel_rfl, by kernel_rfl, by kernel_rfl, rfl⟩
/- 10: (*foghorn/again.Receiver).Handed -/
def p10 : Nat → Option PlanC := fun _ => none
def wl10 : Nat → List Nat := fun _ => []
def wj10 : Nat → Option (List Nat) := fun _ => none
def kr10 : Nat → List Nat := fun _ => []
noncomputable def e10 : Ent := entOf Try.f10 ⟨p10, wl10, wj10, kr10, []⟩
theorem g10 : EntOk Try.prog tys stl 10 e10 := .inr ⟨rfl, Try.func10, by kernel_rfl, by kernel_rfl, by kernel_rfl, by kernel_rfl, by kernel_rfl, rfl⟩
/- 11: foghorn/again.NewSender -/
def p11 : Nat → Option PlanC := fun _ => none
def wl11 : Nat → List Nat := fun _ => []
def wj11 : Nat → Option (List Nat) := fun _ => none
def kr11 : Nat → List Nat := fun _ => []
noncomputable def e11 : Ent := entOf Try.f11 ⟨p11, wl11, wj11, kr11, []⟩
theorem g11 : EntOk Try.prog tys stl 11 e11 := .inr ⟨rfl, Try.func11, by kernel_rfl, by kernel_rfl, by kernel_rfl, by kernel_rfl, by kernel_rfl, rfl⟩
/- 12: foghorn/again.NewReceiver -/
def p12 : Nat → Option PlanC := fun _ => none
def wl12 : Nat → List Nat := fun _ => []
def wj12 : Nat → Option (List Nat) := fun _ => none
def kr12 : Nat → List Nat := fun _ => []
noncomputable def e12 : Ent := entOf Try.f12 ⟨p12, wl12, wj12, kr12, []⟩
theorem g12 : EntOk Try.prog tys stl 12 e12 := .inr ⟨rfl, Try.func12, by kernel_rfl, by kernel_rfl, by kernel_rfl, by kernel_rfl, by kernel_rfl, rfl⟩
/- 13: (*foghorn/again.Sender).due -/
def p13 : Nat → Option PlanC := fun _ => none
def wl13 : Nat → List Nat := fun _ => []
def wj13 : Nat → Option (List Nat) := fun _ => none
def kr13 : Nat → List Nat := fun _ => []
noncomputable def e13 : Ent := entOf Try.f13 ⟨p13, wl13, wj13, kr13, []⟩
theorem g13 : EntOk Try.prog tys stl 13 e13 := .inr ⟨rfl, Try.func13, by kernel_rfl, by kernel_rfl, by kernel_rfl, by kernel_rfl, by kernel_rfl, rfl⟩
/- 14: (*foghorn/again.Sender).inWindow -/
def p14 : Nat → Option PlanC := fun _ => none
def wl14 : Nat → List Nat := fun _ => []
def wj14 : Nat → Option (List Nat) := fun _ => none
def kr14 : Nat → List Nat := fun _ => []
noncomputable def e14 : Ent := entOf Try.f14 ⟨p14, wl14, wj14, kr14, []⟩
theorem g14 : EntOk Try.prog tys stl 14 e14 := .inr ⟨rfl, Try.func14, by kernel_rfl, by kernel_rfl, by kernel_rfl, by kernel_rfl, by kernel_rfl, rfl⟩
/- 15: foghorn/again.isData -/
def p15 : Nat → Option PlanC := fun _ => none
def wl15 : Nat → List Nat := fun _ => []
def wj15 : Nat → Option (List Nat) := fun _ => none
def kr15 : Nat → List Nat := fun _ => []
noncomputable def e15 : Ent := entOf Try.f15 ⟨p15, wl15, wj15, kr15, [1]⟩
theorem g15 : EntOk Try.prog tys stl 15 e15 := .inr ⟨rfl, Try.func15, by kernel_rfl, by kernel_rfl, by kernel_rfl, by kernel_rfl, by kernel_rfl, rfl⟩
/- 16: (*foghorn/again.Receiver).answer -/
def p16 : Nat → Option PlanC := fun
  | 5 => some (.op 0 true (.op 1 true (.op 2 true (.op 4 true (.op 5 true (.op 6 true (.op 9 true (.op 3 false (.op 7 false (.op 8 true (.op 10 true (.op 11 false (.op 12 true (.op 13 true (.op 14 true (.op 15 false (.chk [11, 7, 3] (.op 16 false (.op 17 false (.done))))))))))))))))))))
  | _ => none
def wl16 : Nat → List Nat := fun
  | 3 => [12]
  | _ => []
def wj16 : Nat → Option (List Nat) := fun
  | 8 => some []
  | _ => none
def kr16 : Nat → List Nat := fun _ => []
noncomputable def e16 : Ent := entOf Try.f16 ⟨p16, wl16, wj16, kr16, []⟩
theorem g16 : EntOk Try.prog tys stl 16 e16 := .inr ⟨rfl, Try.func16, by kernel_rfl, by kernel_rfl, by kernel_rfl, by kernel_rfl, by kernel_rfl, rfl⟩
/- 17: foghorn/again.isAnswer -/
def p17 : Nat → Option PlanC := fun _ => none
def wl17 : Nat → List Nat := fun _ => []
def wj17 : Nat → Option (List Nat) := fun _ => none
def kr17 : Nat → List Nat := fun _ => []
noncomputable def e17 : Ent := entOf Try.f17 ⟨p17, wl17, wj17, kr17, [1]⟩
theorem g17 : EntOk Try.prog tys stl 17 e17 := .inr ⟨rfl, Try.func17, by kernel_rfl, by kernel_rfl, by kernel_rfl, by kernel_rfl, by kernel_rfl, rfl⟩
/- 18: (*foghorn/again.Sender).sent -/
def p18 : Nat → Option PlanC := fun _ => none
def wl18 : Nat → List Nat := fun
  | 3 => [3, 9]
  | _ => []
def wj18 : Nat → Option (List Nat) := fun
  | 7 => some [3]
  | _ => none
def kr18 : Nat → List Nat := fun _ => []
noncomputable def e18 : Ent := entOf Try.f18 ⟨p18, wl18, wj18, kr18, []⟩
theorem g18 : EntOk Try.prog tys stl 18 e18 := .inr ⟨rfl, Try.func18, by kernel_rfl, by kernel_rfl, by kernel_rfl, by kernel_rfl, by kernel_rfl, rfl⟩
/- 19: (foghorn/again.marks).has -/
def p19 : Nat → Option PlanC := fun _ => none
def wl19 : Nat → List Nat := fun _ => []
def wj19 : Nat → Option (List Nat) := fun _ => none
def kr19 : Nat → List Nat := fun _ => []
noncomputable def e19 : Ent := entOf Try.f19 ⟨p19, wl19, wj19, kr19, [2]⟩
theorem g19 : EntOk Try.prog tys stl 19 e19 := .inr ⟨rfl, Try.func19, by kernel_rfl, by kernel_rfl, by kernel_rfl, by kernel_rfl, by kernel_rfl, rfl⟩
/- 20: (*foghorn/again.Sender).pass -/
def p20 : Nat → Option PlanC := fun _ => none
def wl20 : Nat → List Nat := fun _ => []
def wj20 : Nat → Option (List Nat) := fun
  | 3 => some [2]
  | _ => none
def kr20 : Nat → List Nat := fun _ => []
noncomputable def e20 : Ent := entOf Try.f20 ⟨p20, wl20, wj20, kr20, []⟩
theorem g20 : EntOk Try.prog tys stl 20 e20 := .inr ⟨rfl, Try.func20, by kernel_rfl, by kernel_rfl, by kernel_rfl, by kernel_rfl, by kernel_rfl, rfl⟩
/- 21: foghorn/again.isWindow -/
def p21 : Nat → Option PlanC := fun _ => none
def wl21 : Nat → List Nat := fun _ => []
def wj21 : Nat → Option (List Nat) := fun _ => none
def kr21 : Nat → List Nat := fun _ => []
noncomputable def e21 : Ent := entOf Try.f21 ⟨p21, wl21, wj21, kr21, []⟩
theorem g21 : EntOk Try.prog tys stl 21 e21 := .inr ⟨rfl, Try.func21, by kernel_rfl, by kernel_rfl, by kernel_rfl, by kernel_rfl, by kernel_rfl, rfl⟩
/- 22: (*foghorn/again.Sender).due$1 -/
def p22 : Nat → Option PlanC := fun _ => none
def wl22 : Nat → List Nat := fun _ => []
def wj22 : Nat → Option (List Nat) := fun _ => none
def kr22 : Nat → List Nat := fun _ => []
noncomputable def e22 : Ent := entOf Try.f22 ⟨p22, wl22, wj22, kr22, [3]⟩
theorem g22 : EntOk Try.prog tys stl 22 e22 := .inr ⟨rfl, Try.func22, by kernel_rfl, by kernel_rfl, by kernel_rfl, by kernel_rfl, by kernel_rfl, rfl⟩
/- 23: (*foghorn/again.marks).set -/
def p23 : Nat → Option PlanC := fun _ => none
def wl23 : Nat → List Nat := fun _ => []
def wj23 : Nat → Option (List Nat) := fun _ => none
def kr23 : Nat → List Nat := fun _ => []
noncomputable def e23 : Ent := entOf Try.f23 ⟨p23, wl23, wj23, kr23, []⟩
theorem g23 : EntOk Try.prog tys stl 23 e23 := .inr ⟨rfl, Try.func23, by kernel_rfl, by kernel_rfl, by kernel_rfl, by kernel_rfl, by kernel_rfl, rfl⟩
/- 24: slices.IndexFunc[[]foghorn/again.waiting,foghorn/again.waiting] -/
def p24 : Nat → Option PlanC := fun _ => none
def wl24 : Nat → List Nat := fun
  | 2 => [8]
  | _ => []
def wj24 : Nat → Option (List Nat) := fun _ => none
def kr24 : Nat → List Nat := fun _ => []
noncomputable def e24 : Ent := entOf Try.f24 ⟨p24, wl24, wj24, kr24, []⟩
theorem g24 : EntOk Try.prog tys stl 24 e24 := .inr ⟨rfl, Try.func24, by kernel_rfl, by kernel_rfl, by kernel_rfl, by kernel_rfl, by kernel_rfl, rfl⟩
/- 25: (*foghorn/again.Sender).pass$1 -/
def p25 : Nat → Option PlanC := fun _ => none
def wl25 : Nat → List Nat := fun _ => []
def wj25 : Nat → Option (List Nat) := fun _ => none
def kr25 : Nat → List Nat := fun _ => []
noncomputable def e25 : Ent := entOf Try.f25 ⟨p25, wl25, wj25, kr25, [1]⟩
theorem g25 : EntOk Try.prog tys stl 25 e25 := .inr ⟨rfl, Try.func25, by kernel_rfl, by kernel_rfl, by kernel_rfl, by kernel_rfl, by kernel_rfl, rfl⟩
/- 26: slices.Delete[[]foghorn/again.waiting,foghorn/again.waiting] -/
def p26 : Nat → Option PlanC := fun _ => none
def wl26 : Nat → List Nat := fun _ => []
def wj26 : Nat → Option (List Nat) := fun _ => none
def kr26 : Nat → List Nat := fun _ => []
noncomputable def e26 : Ent := entOf Try.f26 ⟨p26, wl26, wj26, kr26, []⟩
theorem g26 : EntOk Try.prog tys stl 26 e26 := .inr ⟨rfl, Try.func26, by kernel_rfl, by kernel_rfl, by kernel_rfl, by kernel_rfl, by kernel_rfl, rfl⟩
noncomputable def ents : List (Nat × Ent) := [(3, e3), (4, e4), (5, e5), (6, e6), (7, e7), (8, e8), (9, e9), (10, e10), (11, e11), (12, e12), (13, e13), (14, e14), (15, e15), (16, e16), (17, e17), (18, e18), (19, e19), (20, e20), (21, e21), (22, e22), (23, e23), (24, e24), (25, e25), (26, e26)]
theorem goods : EntsOk Try.prog tys stl ents := ⟨g3, g4, g5, g6, g7, g8, g9, g10, g11, g12, g13, g14, g15, g16, g17, g18, g19, g20, g21, g22, g23, g24, g25, g26, True.intro⟩
noncomputable def tab : Nat → Option Ent := (tabOf ents).get
theorem fok : FOk Try.prog tys stl tab := fok_of goods
noncomputable def d0 : Disp := .leaf
theorem d0_ok : CallSim Try.prog tys stl tab d0.fn := Disp.sim True.intro
/- (*foghorn/again.Sender).Offer -/
noncomputable def R7 (q_genW : Option CV → (W → Bool) → Bool) (q_cmpW : (Nat → Nat → Bool) → Nat → Option CV → W → W → (W → Bool) → Bool) (q_condW : W → Bool → Bool → Bool) (q_nilcW : W → (W → Bool) → Bool) (q_fadW : Nat → W → (W → Bool) → Bool) (q_lenW : Option CV → W → (W → Bool) → Bool) (q_killVW : W → HW → (HW → Bool) → Bool) (q_loadSW : HW → W → (W → Bool) → Bool) (q_storeSW : HW → W → W → (HW → Bool) → Bool) (q_buildSW : Nat → Nat → Kind → Nat → Bool → HW → Nat → Nat → List W → KW → Bool) (q_appSW : Nat → Nat → (Kind → Bool) → Bool → HW → Nat → W → W → Bool → KW → Bool) (q_flatW : W → Bool → Bool) (fu : Nat) (call : CallW) (a0 : W) (a1 : W) (h0 : HW) (c0 : Nat) (K : KW) : Bool :=
q_genW (binC Try.prog .eql 23 (.tmp 5) (.const (.pointer none)) (dec a0) (dec ⟨12, 0, ⟨0, 0, 0, .nilp⟩, []⟩)) fun v1 =>
q_condW v1 (
K ⟨3, 2, r0, []⟩ h0 c0) (
q_genW (lenMC Try.prog tys ⟨[], 0, decH h0, 0⟩ 9 (dec a1)) fun v2 =>
q_cmpW (cmpF2 .gtr) 3 (binC Try.prog .gtr 3 (.tmp 8) (.const (.int .i64 (.ofNat 240))) (dec v2) (dec ⟨3, 240, r0, []⟩)) v2 ⟨3, 240, r0, []⟩ fun v3 =>
q_condW v3 (
K ⟨3, 1, r0, []⟩ h0 c0) (
q_nilcW a0 fun v4 =>
q_fadW 4 v4 fun v5 =>
q_loadSW h0 v5 fun v6 =>
q_lenW (lenC tys 42 (dec v6)) v6 fun v7 =>
q_cmpW (cmpF2 .geq) 3 (binC Try.prog .geq 3 (.tmp 14) (.const (.int .i64 (.ofNat 4096))) (dec v7) (dec ⟨3, 4096, r0, []⟩)) v7 ⟨3, 4096, r0, []⟩ fun v8 =>
q_condW v8 (
K ⟨3, 3, r0, []⟩ h0 c0) (
q_nilcW a0 fun v9 =>
q_fadW 4 v9 fun v10 =>
q_loadSW h0 v10 fun v11 =>
q_flatW a1 (
(fun (v12 : W) =>
q_buildSW 4 9 .avs 4 true h0 c0 1 [v12] fun v13 h14 c15 =>
q_appSW 40 4 (appKindOk (elemJ tys 42)) false h14 c15 v11 v13 false fun v16 h17 c18 =>
q_nilcW a0 fun v19 =>
q_fadW 4 v19 fun v20 =>
q_storeSW h17 v20 v16 fun h21 =>
q_killVW v13 h21 fun h22 =>
K ⟨3, 0, r0, []⟩ h22 c18) ⟨15, 0, r0, [a1, ⟨8, 0, r0, []⟩, ⟨3, 0, r0, []⟩, ⟨8, 0, r0, []⟩]⟩))))
theorem R7_eq (Q : PrimW) (fu : Nat) (call : CallW) : curryA 2 (fnK Q Try.prog tys stl fu call e7) = R7 Q.genW Q.cmpW Q.condW Q.nilcW Q.fadW Q.lenW Q.killVW Q.loadSW Q.storeSW Q.buildSW Q.appSW Q.flatW fu call := by kernel_rfl
noncomputable def n7 : List W → HW → Nat → KW → Bool := appF 2 (R7 genW cmpW condW nilcW fadW lenW killVW loadSW storeSW buildSW appSW flatW 1000000 d0.fn)
theorem n7_ok : FnGood Try.prog tys stl tab 7 n7 := node_ok d0_ok (by kernel_rfl) rfl g7 (R7_eq real _ _)
/- (*foghorn/again.Sender).Left -/
noncomputable def R9 (q_genW : Option CV → (W → Bool) → Bool) (q_condW : W → Bool → Bool → Bool) (q_nilcW : W → (W → Bool) → Bool) (q_fadW : Nat → W → (W → Bool) → Bool) (q_lenW : Option CV → W → (W → Bool) → Bool) (q_loadSW : HW → W → (W → Bool) → Bool) (fu : Nat) (call : CallW) (a0 : W) (h0 : HW) (c0 : Nat) (K : KW) : Bool :=
q_genW (binC Try.prog .eql 23 (.tmp 3) (.const (.pointer none)) (dec a0) (dec ⟨12, 0, ⟨0, 0, 0, .nilp⟩, []⟩)) fun v1 =>
q_condW v1 (
K ⟨3, 0, r0, []⟩ h0 c0) (
q_nilcW a0 fun v2 =>
q_fadW 4 v2 fun v3 =>
q_loadSW h0 v3 fun v4 =>
q_lenW (lenC tys 42 (dec v4)) v4 fun v5 =>
K v5 h0 c0)
theorem R9_eq (Q : PrimW) (fu : Nat) (call : CallW) : curryA 1 (fnK Q Try.prog tys stl fu call e9) = R9 Q.genW Q.condW Q.nilcW Q.fadW Q.lenW Q.loadSW fu call := by kernel_rfl
noncomputable def n9 : List W → HW → Nat → KW → Bool := appF 1 (R9 genW condW nilcW fadW lenW loadSW 1000000 d0.fn)
theorem n9_ok : FnGood Try.prog tys stl tab 9 n9 := node_ok d0_ok (by kernel_rfl) rfl g9 (R9_eq real _ _)
/- (*foghorn/again.Receiver).Handed -/
noncomputable def R10 (q_genW : Option CV → (W → Bool) → Bool) (q_condW : W → Bool → Bool → Bool) (q_nilcW : W → (W → Bool) → Bool) (q_fadW : Nat → W → (W → Bool) → Bool) (q_loadSW : HW → W → (W → Bool) → Bool) (fu : Nat) (call : CallW) (a0 : W) (h0 : HW) (c0 : Nat) (K : KW) : Bool :=
q_genW (binC Try.prog .eql 24 (.tmp 3) (.const (.pointer none)) (dec a0) (dec ⟨12, 0, ⟨0, 0, 0, .nilp⟩, []⟩)) fun v1 =>
q_condW v1 (
K ⟨3, 0, r0, []⟩ h0 c0) (
q_nilcW a0 fun v2 =>
q_fadW 1 v2 fun v3 =>
q_loadSW h0 v3 fun v4 =>
K v4 h0 c0)
theorem R10_eq (Q : PrimW) (fu : Nat) (call : CallW) : curryA 1 (fnK Q Try.prog tys stl fu call e10) = R10 Q.genW Q.condW Q.nilcW Q.fadW Q.loadSW fu call := by kernel_rfl
noncomputable def n10 : List W → HW → Nat → KW → Bool := appF 1 (R10 genW condW nilcW fadW loadSW 1000000 d0.fn)
theorem n10_ok : FnGood Try.prog tys stl tab 10 n10 := node_ok d0_ok (by kernel_rfl) rfl g10 (R10_eq real _ _)
/- (*foghorn/again.Sender).due -/
noncomputable def R13 (q_boxW : HW → Nat → W → KW → Bool) (fu : Nat) (call : CallW) (a0 : W) (a1 : W) (h0 : HW) (c0 : Nat) (K : KW) : Bool :=
q_boxW h0 c0 a0 fun v1 h2 c3 =>
q_boxW h2 c3 a1 fun v4 h5 c6 =>
(fun (v7 : W) =>
K v7 h5 c6) ⟨14, 22, r0, [v4, v1]⟩
theorem R13_eq (Q : PrimW) (fu : Nat) (call : CallW) : curryA 2 (fnK Q Try.prog tys stl fu call e13) = R13 Q.boxW fu call := by kernel_rfl
noncomputable def n13 : List W → HW → Nat → KW → Bool := appF 2 (R13 boxW 1000000 d0.fn)
theorem n13_ok : FnGood Try.prog tys stl tab 13 n13 := node_ok d0_ok (by kernel_rfl) rfl g13 (R13_eq real _ _)
/- (*foghorn/again.Sender).inWindow -/
noncomputable def R14 (q_genW : Option CV → (W → Bool) → Bool) (q_nilcW : W → (W → Bool) → Bool) (q_fadW : Nat → W → (W → Bool) → Bool) (q_lenW : Option CV → W → (W → Bool) → Bool) (q_loadSW : HW → W → (W → Bool) → Bool) (fu : Nat) (call : CallW) (a0 : W) (h0 : HW) (c0 : Nat) (K : KW) : Bool :=
q_nilcW a0 fun v1 =>
q_fadW 4 v1 fun v2 =>
q_loadSW h0 v2 fun v3 =>
q_nilcW a0 fun v4 =>
q_fadW 0 v4 fun v5 =>
q_loadSW h0 v5 fun v6 =>
q_nilcW a0 fun v7 =>
q_fadW 4 v7 fun v8 =>
q_loadSW h0 v8 fun v9 =>
q_lenW (lenC tys 42 (dec v9)) v9 fun v10 =>
q_genW (two2 Try.prog (dec v6) (dec v10) fun v u => Builtin.min_ #[3, 3] 3 #[v, u]) fun v11 =>
q_genW (sliceM tys ⟨[], 0, decH h0, 0⟩ 42 (dec v3) none (some (dec v11)) none) fun v12 =>
K v12 h0 c0
theorem R14_eq (Q : PrimW) (fu : Nat) (call : CallW) : curryA 1 (fnK Q Try.prog tys stl fu call e14) = R14 Q.genW Q.nilcW Q.fadW Q.lenW Q.loadSW fu call := by kernel_rfl
noncomputable def n14 : List W → HW → Nat → KW → Bool := appF 1 (R14 genW nilcW fadW lenW loadSW 1000000 d0.fn)
theorem n14_ok : FnGood Try.prog tys stl tab 14 n14 := node_ok d0_ok (by kernel_rfl) rfl g14 (R14_eq real _ _)
/- foghorn/again.isData -/
noncomputable def R15 (q_share : (α : Type) → α → (α → Bool) → Bool) (q_genW : Option CV → (W → Bool) → Bool) (q_cmpW : (Nat → Nat → Bool) → Nat → Option CV → W → W → (W → Bool) → Bool) (q_notW : Option CV → W → (W → Bool) → Bool) (q_guardW : Bool → W → Bool → Bool → Bool) (q_pickW : W → W → W → (W → Bool) → Bool) (q_fadW : Nat → W → (W → Bool) → Bool) (q_killVW : W → HW → (HW → Bool) → Bool) (q_loadSW : HW → W → (W → Bool) → Bool) (q_boxW : HW → Nat → W → KW → Bool) (fu : Nat) (call : CallW) (a0 : W) (h0 : HW) (c0 : Nat) (K : KW) : Bool :=
q_boxW h0 c0 a0 fun v1 h2 c3 =>
q_fadW 0 v1 fun v4 =>
q_loadSW h2 v4 fun v5 =>
q_cmpW (cmpF2 .eql) 4 (binC Try.prog .eql 5 (.tmp 4) (.const (.int .u8 (.ofNat 1))) (dec v5) (dec ⟨4, 1, r0, []⟩)) v5 ⟨4, 1, r0, []⟩ fun v6 =>
q_share _ (fun (v8 : W) (h9 : HW) (c10 : Nat) =>
q_share _ (fun (v12 : W) (h13 : HW) (c14 : Nat) =>
q_share _ (fun (v16 : W) (h17 : HW) (c18 : Nat) =>
q_pickW v6 v16 ⟨8, 0, r0, []⟩ fun v19 =>
q_share _ (fun (v21 : W) (h22 : HW) (c23 : Nat) =>
q_share _ (fun (v25 : W) (h26 : HW) (c27 : Nat) =>
q_share _ (fun (v29 : W) (h30 : HW) (c31 : Nat) =>
q_share _ (fun (v33 : W) (h34 : HW) (c35 : Nat) =>
q_pickW v19 v33 ⟨8, 0, r0, []⟩ fun v36 =>
q_killVW v1 h34 fun h37 =>
K v36 h37 c35) fun f32 =>
q_guardW true v19 (q_cmpW (cmpF2 .leq) 3 (binC Try.prog .leq 3 (.tmp 14) (.const (.int .i64 (.ofNat 240))) (dec v29) (dec ⟨3, 240, r0, []⟩)) v29 ⟨3, 240, r0, []⟩ fun v38 =>
f32 v38 h30 c31) (f32 wUnd h30 c31)) fun f28 =>
q_guardW true v19 (q_genW (lenMC Try.prog tys ⟨[], 0, decH h26, 0⟩ 9 (dec v25)) fun v39 =>
f28 v39 h26 c27) (f28 wUnd h26 c27)) fun f24 =>
q_guardW true v19 (q_loadSW h22 v21 fun v40 =>
f24 v40 h22 c23) (f24 wUnd h22 c23)) fun f20 =>
q_guardW true v19 (q_fadW 3 v1 fun v41 =>
f20 v41 h17 c18) (f20 wUnd h17 c18)) fun f15 =>
q_guardW true v6 (q_notW (two Try.prog (dec v12) (Op.unary .not)) v12 fun v42 =>
f15 v42 h13 c14) (f15 wUnd h13 c14)) fun f11 =>
q_guardW true v6 (q_loadSW h9 v8 fun v43 =>
f11 v43 h9 c10) (f11 wUnd h9 c10)) fun f7 =>
q_guardW true v6 (q_fadW 2 v1 fun v44 =>
f7 v44 h2 c3) (f7 wUnd h2 c3)
theorem R15_eq (Q : PrimW) (fu : Nat) (call : CallW) : curryA 1 (fnK Q Try.prog tys stl fu call e15) = R15 Q.share Q.genW Q.cmpW Q.notW Q.guardW Q.pickW Q.fadW Q.killVW Q.loadSW Q.boxW fu call := by kernel_rfl
noncomputable def n15 : List W → HW → Nat → KW → Bool := appF 1 (R15 (fun _ x f => f x) genW cmpW notW guardW pickW fadW killVW loadSW boxW 1000000 d0.fn)
theorem n15_ok : FnGood Try.prog tys stl tab 15 n15 := node_ok d0_ok (by kernel_rfl) rfl g15 (R15_eq real _ _)
/- foghorn/again.isAnswer -/
noncomputable def R17 (q_share : (α : Type) → α → (α → Bool) → Bool) (q_genW : Option CV → (W → Bool) → Bool) (q_cmpW : (Nat → Nat → Bool) → Nat → Option CV → W → W → (W → Bool) → Bool) (q_notW : Option CV → W → (W → Bool) → Bool) (q_guardW : Bool → W → Bool → Bool → Bool) (q_pickW : W → W → W → (W → Bool) → Bool) (q_fadW : Nat → W → (W → Bool) → Bool) (q_killVW : W → HW → (HW → Bool) → Bool) (q_loadSW : HW → W → (W → Bool) → Bool) (q_boxW : HW → Nat → W → KW → Bool) (fu : Nat) (call : CallW) (a0 : W) (h0 : HW) (c0 : Nat) (K : KW) : Bool :=
q_boxW h0 c0 a0 fun v1 h2 c3 =>
q_fadW 0 v1 fun v4 =>
q_loadSW h2 v4 fun v5 =>
q_cmpW (cmpF2 .eql) 4 (binC Try.prog .eql 5 (.tmp 4) (.const (.int .u8 (.ofNat 2))) (dec v5) (dec ⟨4, 2, r0, []⟩)) v5 ⟨4, 2, r0, []⟩ fun v6 =>
q_share _ (fun (v8 : W) (h9 : HW) (c10 : Nat) =>
q_share _ (fun (v12 : W) (h13 : HW) (c14 : Nat) =>
q_share _ (fun (v16 : W) (h17 : HW) (c18 : Nat) =>
q_pickW v6 v16 ⟨8, 0, r0, []⟩ fun v19 =>
q_share _ (fun (v21 : W) (h22 : HW) (c23 : Nat) =>
q_share _ (fun (v25 : W) (h26 : HW) (c27 : Nat) =>
q_share _ (fun (v29 : W) (h30 : HW) (c31 : Nat) =>
q_share _ (fun (v33 : W) (h34 : HW) (c35 : Nat) =>
q_pickW v19 v33 ⟨8, 0, r0, []⟩ fun v36 =>
q_killVW v1 h34 fun h37 =>
K v36 h37 c35) fun f32 =>
q_guardW true v19 (q_cmpW (cmpF2 .eql) 3 (binC Try.prog .eql 3 (.tmp 14) (.const (.int .i64 (.ofNat 16))) (dec v29) (dec ⟨3, 16, r0, []⟩)) v29 ⟨3, 16, r0, []⟩ fun v38 =>
f32 v38 h30 c31) (f32 wUnd h30 c31)) fun f28 =>
q_guardW true v19 (q_genW (lenMC Try.prog tys ⟨[], 0, decH h26, 0⟩ 9 (dec v25)) fun v39 =>
f28 v39 h26 c27) (f28 wUnd h26 c27)) fun f24 =>
q_guardW true v19 (q_loadSW h22 v21 fun v40 =>
f24 v40 h22 c23) (f24 wUnd h22 c23)) fun f20 =>
q_guardW true v19 (q_fadW 3 v1 fun v41 =>
f20 v41 h17 c18) (f20 wUnd h17 c18)) fun f15 =>
q_guardW true v6 (q_notW (two Try.prog (dec v12) (Op.unary .not)) v12 fun v42 =>
f15 v42 h13 c14) (f15 wUnd h13 c14)) fun f11 =>
q_guardW true v6 (q_loadSW h9 v8 fun v43 =>
f11 v43 h9 c10) (f11 wUnd h9 c10)) fun f7 =>
q_guardW true v6 (q_fadW 2 v1 fun v44 =>
f7 v44 h2 c3) (f7 wUnd h2 c3)
theorem R17_eq (Q : PrimW) (fu : Nat) (call : CallW) : curryA 1 (fnK Q Try.prog tys stl fu call e17) = R17 Q.share Q.genW Q.cmpW Q.notW Q.guardW Q.pickW Q.fadW Q.killVW Q.loadSW Q.boxW fu call := by kernel_rfl
noncomputable def n17 : List W → HW → Nat → KW → Bool := appF 1 (R17 (fun _ x f => f x) genW cmpW notW guardW pickW fadW killVW loadSW boxW 1000000 d0.fn)
theorem n17_ok : FnGood Try.prog tys stl tab 17 n17 := node_ok d0_ok (by kernel_rfl) rfl g17 (R17_eq real _ _)
/- (foghorn/again.marks).has -/
noncomputable def R19 (q_subW : Nat → Nat → Option CV → W → W → (W → Bool) → Bool) (q_quoW : Nat → Nat → Option CV → W → W → (W → Bool) → Bool) (q_remW : Nat → Nat → Option CV → W → W → (W → Bool) → Bool) (q_bitW : (Nat → Nat → Nat) → Nat → Nat → Option CV → W → W → (W → Bool) → Bool) (q_cmpW : (Nat → Nat → Bool) → Nat → Option CV → W → W → (W → Bool) → Bool) (q_shrW : Nat → Nat → Option CV → W → W → (W → Bool) → Bool) (q_idxAW : Nat → Nat → W → W → (W → Bool) → Bool) (q_killVW : W → HW → (HW → Bool) → Bool) (q_loadSW : HW → W → (W → Bool) → Bool) (q_boxW : HW → Nat → W → KW → Bool) (fu : Nat) (call : CallW) (a0 : W) (a1 : W) (h0 : HW) (c0 : Nat) (K : KW) : Bool :=
q_boxW h0 c0 a0 fun v1 h2 c3 =>
q_quoW 3 9223372036854775807 (binC Try.prog .quo 3 (.tmp 5) (.const (.int .i64 (.ofNat 8))) (dec a1) (dec ⟨3, 8, r0, []⟩)) a1 ⟨3, 8, r0, []⟩ fun v4 =>
q_idxAW 1 16 v1 v4 fun v5 =>
q_loadSW h2 v5 fun v6 =>
q_remW 3 9223372036854775807 (binC Try.prog .rem 3 (.tmp 9) (.const (.int .i64 (.ofNat 8))) (dec a1) (dec ⟨3, 8, r0, []⟩)) a1 ⟨3, 8, r0, []⟩ fun v7 =>
q_subW 3 9223372036854775807 (binC Try.prog .sub 3 (.const (.int .i64 (.ofNat 7))) (.tmp 10) (dec ⟨3, 7, r0, []⟩) (dec v7)) ⟨3, 7, r0, []⟩ v7 fun v8 =>
q_shrW 4 8 (binC Try.prog .shr 5 (.tmp 8) (.tmp 11) (dec v6) (dec v8)) v6 v8 fun v9 =>
q_bitW Nat.land 4 255 (binC Try.prog .and 5 (.tmp 12) (.const (.int .u8 (.ofNat 1))) (dec v9) (dec ⟨4, 1, r0, []⟩)) v9 ⟨4, 1, r0, []⟩ fun v10 =>
q_cmpW (cmpF2 .neq) 4 (binC Try.prog .neq 5 (.tmp 13) (.const (.int .u8 (.ofNat 0))) (dec v10) (dec ⟨4, 0, r0, []⟩)) v10 ⟨4, 0, r0, []⟩ fun v11 =>
q_killVW v1 h2 fun h12 =>
K v11 h12 c3
theorem R19_eq (Q : PrimW) (fu : Nat) (call : CallW) : curryA 2 (fnK Q Try.prog tys stl fu call e19) = R19 Q.subW Q.quoW Q.remW Q.bitW Q.cmpW Q.shrW Q.idxAW Q.killVW Q.loadSW Q.boxW fu call := by kernel_rfl
noncomputable def n19 : List W → HW → Nat → KW → Bool := appF 2 (R19 subW quoW remW bitW cmpW shrW idxAW killVW loadSW boxW 1000000 d0.fn)
theorem n19_ok : FnGood Try.prog tys stl tab 19 n19 := node_ok d0_ok (by kernel_rfl) rfl g19 (R19_eq real _ _)
/- foghorn/again.isWindow -/
noncomputable def R21 (q_share : (α : Type) → α → (α → Bool) → Bool) (q_cmpW : (Nat → Nat → Bool) → Nat → Option CV → W → W → (W → Bool) → Bool) (q_guardW : Bool → W → Bool → Bool → Bool) (q_pickW : W → W → W → (W → Bool) → Bool) (fu : Nat) (call : CallW) (a0 : W) (h0 : HW) (c0 : Nat) (K : KW) : Bool :=
q_cmpW (cmpF2 .geq) 3 (binC Try.prog .geq 3 (.tmp 3) (.const (.int .i64 (.ofNat 1))) (dec a0) (dec ⟨3, 1, r0, []⟩)) a0 ⟨3, 1, r0, []⟩ fun v1 =>
q_share _ (fun (v3 : W) (h4 : HW) (c5 : Nat) =>
q_share _ (fun (v7 : W) (h8 : HW) (c9 : Nat) =>
q_pickW v1 v7 ⟨8, 0, r0, []⟩ fun v10 =>
K v10 h8 c9) fun f6 =>
q_guardW true v1 (q_cmpW (cmpF2 .leq) 3 (binC Try.prog .leq 3 (.tmp 6) (.const (.int .i64 (.ofNat 128))) (dec v3) (dec ⟨3, 128, r0, []⟩)) v3 ⟨3, 128, r0, []⟩ fun v11 =>
f6 v11 h4 c5) (f6 wUnd h4 c5)) fun f2 =>
q_guardW true v1 (f2 a0 h0 c0) (f2 wUnd h0 c0)
theorem R21_eq (Q : PrimW) (fu : Nat) (call : CallW) : curryA 1 (fnK Q Try.prog tys stl fu call e21) = R21 Q.share Q.cmpW Q.guardW Q.pickW fu call := by kernel_rfl
noncomputable def n21 : List W → HW → Nat → KW → Bool := appF 1 (R21 (fun _ x f => f x) cmpW guardW pickW 1000000 d0.fn)
theorem n21_ok : FnGood Try.prog tys stl tab 21 n21 := node_ok d0_ok (by kernel_rfl) rfl g21 (R21_eq real _ _)
/- (*foghorn/again.Sender).due$1 -/
noncomputable def R22 (q_share : (α : Type) → α → (α → Bool) → Bool) (q_subW : Nat → Nat → Option CV → W → W → (W → Bool) → Bool) (q_cmpW : (Nat → Nat → Bool) → Nat → Option CV → W → W → (W → Bool) → Bool) (q_notW : Option CV → W → (W → Bool) → Bool) (q_guardW : Bool → W → Bool → Bool → Bool) (q_pickW : W → W → W → (W → Bool) → Bool) (q_nilcW : W → (W → Bool) → Bool) (q_fadW : Nat → W → (W → Bool) → Bool) (q_killVW : W → HW → (HW → Bool) → Bool) (q_loadSW : HW → W → (W → Bool) → Bool) (q_boxW : HW → Nat → W → KW → Bool) (fu : Nat) (call : CallW) (a0 : W) (a1 : W) (a2 : W) (h0 : HW) (c0 : Nat) (K : KW) : Bool :=
q_boxW h0 c0 a0 fun v1 h2 c3 =>
q_fadW 3 v1 fun v4 =>
q_loadSW h2 v4 fun v5 =>
q_notW (two Try.prog (dec v5) (Op.unary .not)) v5 fun v6 =>
q_share _ (fun (v8 : W) (h9 : HW) (c10 : Nat) =>
q_share _ (fun (v12 : W) (h13 : HW) (c14 : Nat) =>
q_share _ (fun (v16 : W) (h17 : HW) (c18 : Nat) =>
q_share _ (fun (v20 : W) (h21 : HW) (c22 : Nat) =>
q_share _ (fun (v24 : W) (h25 : HW) (c26 : Nat) =>
q_share _ (fun (v28 : W) (h29 : HW) (c30 : Nat) =>
q_share _ (fun (v32 : W) (h33 : HW) (c34 : Nat) =>
q_share _ (fun (v36 : W) (h37 : HW) (c38 : Nat) =>
q_share _ (fun (v40 : W) (h41 : HW) (c42 : Nat) =>
q_share _ (fun (v44 : W) (h45 : HW) (c46 : Nat) =>
q_share _ (fun (v48 : W) (h49 : HW) (c50 : Nat) =>
q_share _ (fun (v52 : W) (h53 : HW) (c54 : Nat) =>
q_share _ (fun (v56 : W) (h57 : HW) (c58 : Nat) =>
q_share _ (fun (v60 : W) (h61 : HW) (c62 : Nat) =>
q_pickW v6 v60 ⟨8, 0, r0, []⟩ fun v63 =>
q_killVW v1 h61 fun h64 =>
K v63 h64 c62) fun f59 =>
q_guardW true v6 (q_pickW v20 ⟨8, 1, r0, []⟩ v56 fun v65 =>
f59 v65 h57 c58) (f59 wUnd h57 c58)) fun f55 =>
q_guardW false v20 (q_cmpW (cmpF2 .geq) 3 (binC Try.prog .geq 2 (.tmp 16) (.tmp 20) (dec v36) (dec v52)) v36 v52 fun v66 =>
f55 v66 h53 c54) (f55 wUnd h53 c54)) fun f51 =>
q_guardW false v20 (q_loadSW h49 v48 fun v67 =>
f51 v67 h49 c50) (f51 wUnd h49 c50)) fun f47 =>
q_guardW false v20 (q_fadW 1 v44 fun v68 =>
f47 v68 h45 c46) (f47 wUnd h45 c46)) fun f43 =>
q_guardW false v20 (q_nilcW v40 fun v69 =>
f43 v69 h41 c42) (f43 wUnd h41 c42)) fun f39 =>
q_guardW false v20 (q_loadSW h37 a2 fun v70 =>
f39 v70 h37 c38) (f39 wUnd h37 c38)) fun f35 =>
q_guardW false v20 (q_subW 3 9223372036854775807 (binC Try.prog .sub 2 (.tmp 13) (.tmp 15) (dec v24) (dec v32)) v24 v32 fun v71 =>
f35 v71 h33 c34) (f35 wUnd h33 c34)) fun f31 =>
q_guardW false v20 (q_loadSW h29 v28 fun v72 =>
f31 v72 h29 c30) (f31 wUnd h29 c30)) fun f27 =>
q_guardW false v20 (q_fadW 2 v1 fun v73 =>
f27 v73 h25 c26) (f27 wUnd h25 c26)) fun f23 =>
q_guardW false v20 (q_loadSW h21 a1 fun v74 =>
f23 v74 h21 c22) (f23 wUnd h21 c22)) fun f19 =>
q_guardW true v6 (f19 v16 h17 c18) (f19 wUnd h17 c18)) fun f15 =>
q_guardW true v6 (q_notW (two Try.prog (dec v12) (Op.unary .not)) v12 fun v75 =>
f15 v75 h13 c14) (f15 wUnd h13 c14)) fun f11 =>
q_guardW true v6 (q_loadSW h9 v8 fun v76 =>
f11 v76 h9 c10) (f11 wUnd h9 c10)) fun f7 =>
q_guardW true v6 (q_fadW 1 v1 fun v77 =>
f7 v77 h2 c3) (f7 wUnd h2 c3)
theorem R22_eq (Q : PrimW) (fu : Nat) (call : CallW) : curryA 3 (fnK Q Try.prog tys stl fu call e22) = R22 Q.share Q.subW Q.cmpW Q.notW Q.guardW Q.pickW Q.nilcW Q.fadW Q.killVW Q.loadSW Q.boxW fu call := by kernel_rfl
noncomputable def n22 : List W → HW → Nat → KW → Bool := appF 3 (R22 (fun _ x f => f x) subW cmpW notW guardW pickW nilcW fadW killVW loadSW boxW 1000000 d0.fn)
theorem n22_ok : FnGood Try.prog tys stl tab 22 n22 := node_ok d0_ok (by kernel_rfl) rfl g22 (R22_eq real _ _)
/- (*foghorn/again.marks).set -/
noncomputable def R23 (q_quoW : Nat → Nat → Option CV → W → W → (W → Bool) → Bool) (q_remW : Nat → Nat → Option CV → W → W → (W → Bool) → Bool) (q_bitW : (Nat → Nat → Nat) → Nat → Nat → Option CV → W → W → (W → Bool) → Bool) (q_shrW : Nat → Nat → Option CV → W → W → (W → Bool) → Bool) (q_nilcW : W → (W → Bool) → Bool) (q_idxAW : Nat → Nat → W → W → (W → Bool) → Bool) (q_loadSW : HW → W → (W → Bool) → Bool) (q_storeSW : HW → W → W → (HW → Bool) → Bool) (fu : Nat) (call : CallW) (a0 : W) (a1 : W) (h0 : HW) (c0 : Nat) (K : KW) : Bool :=
q_quoW 3 9223372036854775807 (binC Try.prog .quo 3 (.tmp 5) (.const (.int .i64 (.ofNat 8))) (dec a1) (dec ⟨3, 8, r0, []⟩)) a1 ⟨3, 8, r0, []⟩ fun v1 =>
q_nilcW a0 fun v2 =>
q_idxAW 1 16 v2 v1 fun v3 =>
q_loadSW h0 v3 fun v4 =>
q_remW 3 9223372036854775807 (binC Try.prog .rem 3 (.tmp 10) (.const (.int .i64 (.ofNat 8))) (dec a1) (dec ⟨3, 8, r0, []⟩)) a1 ⟨3, 8, r0, []⟩ fun v5 =>
q_shrW 4 8 (binC Try.prog .shr 5 (.const (.int .u8 (.ofNat 128))) (.tmp 11) (dec ⟨4, 128, r0, []⟩) (dec v5)) ⟨4, 128, r0, []⟩ v5 fun v6 =>
q_bitW Nat.lor 4 255 (binC Try.prog .or 5 (.tmp 9) (.tmp 12) (dec v4) (dec v6)) v4 v6 fun v7 =>
q_nilcW a0 fun v8 =>
q_idxAW 1 16 v8 v1 fun v9 =>
q_storeSW h0 v9 v7 fun h10 =>
K ⟨13, 0, r0, []⟩ h10 c0
theorem R23_eq (Q : PrimW) (fu : Nat) (call : CallW) : curryA 2 (fnK Q Try.prog tys stl fu call e23) = R23 Q.quoW Q.remW Q.bitW Q.shrW Q.nilcW Q.idxAW Q.loadSW Q.storeSW fu call := by kernel_rfl
noncomputable def n23 : List W → HW → Nat → KW → Bool := appF 2 (R23 quoW remW bitW shrW nilcW idxAW loadSW storeSW 1000000 d0.fn)
theorem n23_ok : FnGood Try.prog tys stl tab 23 n23 := node_ok d0_ok (by kernel_rfl) rfl g23 (R23_eq real _ _)
/- (*foghorn/again.Sender).pass$1 -/
noncomputable def R25 (q_notW : Option CV → W → (W → Bool) → Bool) (q_fadW : Nat → W → (W → Bool) → Bool) (q_killVW : W → HW → (HW → Bool) → Bool) (q_loadSW : HW → W → (W → Bool) → Bool) (q_boxW : HW → Nat → W → KW → Bool) (fu : Nat) (call : CallW) (a0 : W) (h0 : HW) (c0 : Nat) (K : KW) : Bool :=
q_boxW h0 c0 a0 fun v1 h2 c3 =>
q_fadW 3 v1 fun v4 =>
q_loadSW h2 v4 fun v5 =>
q_notW (two Try.prog (dec v5) (Op.unary .not)) v5 fun v6 =>
q_killVW v1 h2 fun h7 =>
K v6 h7 c3
theorem R25_eq (Q : PrimW) (fu : Nat) (call : CallW) : curryA 1 (fnK Q Try.prog tys stl fu call e25) = R25 Q.notW Q.fadW Q.killVW Q.loadSW Q.boxW fu call := by kernel_rfl
noncomputable def n25 : List W → HW → Nat → KW → Bool := appF 1 (R25 notW fadW killVW loadSW boxW 1000000 d0.fn)
theorem n25_ok : FnGood Try.prog tys stl tab 25 n25 := node_ok d0_ok (by kernel_rfl) rfl g25 (R25_eq real _ _)
/- slices.Delete[[]foghorn/again.waiting,foghorn/again.waiting] -/
noncomputable def R26 (q_genW : Option CV → (W → Bool) → Bool) (q_cmpW : (Nat → Nat → Bool) → Nat → Option CV → W → W → (W → Bool) → Bool) (q_condW : W → Bool → Bool → Bool) (q_lenW : Option CV → W → (W → Bool) → Bool) (q_appSW : Nat → Nat → (Kind → Bool) → Bool → HW → Nat → W → W → Bool → KW → Bool) (q_clrW : (Nat → List W) → Nat → HW → Nat → W → KW → Bool) (fu : Nat) (call : CallW) (a0 : W) (a1 : W) (a2 : W) (h0 : HW) (c0 : Nat) (K : KW) : Bool :=
q_lenW (lenC tys 42 (dec a0)) a0 fun v1 =>
q_genW (sliceM tys ⟨[], 0, decH h0, 0⟩ 42 (dec a0) (some (dec a1)) (some (dec a2)) (some (dec v1))) fun v2 =>
q_cmpW (cmpF2 .eql) 3 (binC Try.prog .eql 3 (.tmp 14) (.tmp 15) (dec a1) (dec a2)) a1 a2 fun v3 =>
q_condW v3 (
K a0 h0 c0) (
q_lenW (lenC tys 42 (dec a0)) a0 fun v4 =>
q_genW (sliceM tys ⟨[], 0, decH h0, 0⟩ 42 (dec a0) none (some (dec a1)) none) fun v5 =>
q_genW (sliceM tys ⟨[], 0, decH h0, 0⟩ 42 (dec a0) (some (dec a2)) none none) fun v6 =>
q_appSW 40 4 (appKindOk (elemJ tys 42)) false h0 c0 v5 v6 false fun v7 h8 c9 =>
q_lenW (lenC tys 42 (dec v7)) v7 fun v10 =>
q_genW (sliceM tys ⟨[], 0, decH h8, 0⟩ 42 (dec v7) (some (dec v10)) (some (dec v4)) none) fun v11 =>
q_clrW (zsOf tys 42) 4 h8 c9 v11 fun v12 h13 c14 =>
K v7 h13 c14)
theorem R26_eq (Q : PrimW) (fu : Nat) (call : CallW) : curryA 3 (fnK Q Try.prog tys stl fu call e26) = R26 Q.genW Q.cmpW Q.condW Q.lenW Q.appSW Q.clrW fu call := by kernel_rfl
noncomputable def n26 : List W → HW → Nat → KW → Bool := appF 3 (R26 genW cmpW condW lenW appSW clrW 1000000 d0.fn)
theorem n26_ok : FnGood Try.prog tys stl tab 26 n26 := node_ok d0_ok (by kernel_rfl) rfl g26 (R26_eq real _ _)
noncomputable def d1 : Disp := (.node 17 n17 (.node 13 n13 (.node 9 n9 (.node 7 n7 .leaf .leaf) (.node 10 n10 .leaf .leaf)) (.node 15 n15 (.node 14 n14 .leaf .leaf) .leaf)) (.node 23 n23 (.node 21 n21 (.node 19 n19 .leaf .leaf) (.node 22 n22 .leaf .leaf)) (.node 26 n26 (.node 25 n25 .leaf .leaf) .leaf)))
theorem d1_ok : CallSim Try.prog tys stl tab d1.fn := Disp.sim ⟨n17_ok, ⟨n13_ok, ⟨n9_ok, ⟨n7_ok, True.intro, True.intro⟩, ⟨n10_ok, True.intro, True.intro⟩⟩, ⟨n15_ok, ⟨n14_ok, True.intro, True.intro⟩, True.intro⟩⟩, ⟨n23_ok, ⟨n21_ok, ⟨n19_ok, True.intro, True.intro⟩, ⟨n22_ok, True.intro, True.intro⟩⟩, ⟨n26_ok, ⟨n25_ok, True.intro, True.intro⟩, True.intro⟩⟩⟩
/- (*foghorn/again.Sender).Tick -/
noncomputable def R5 (q_share : (α : Type) → α → (α → Bool) → Bool) (q_genW : Option CV → (W → Bool) → Bool) (q_addW : Nat → Nat → Option CV → W → W → (W → Bool) → Bool) (q_cmpW : (Nat → Nat → Bool) → Nat → Option CV → W → W → (W → Bool) → Bool) (q_icvW : Nat → Nat → Option CV → W → (W → Bool) → Bool) (q_condW : W → Bool → Bool → Bool) (q_nilcW : W → (W → Bool) → Bool) (q_fadW : Nat → W → (W → Bool) → Bool) (q_idxSW : Nat → W → W → (W → Bool) → Bool) (q_lenW : Option CV → W → (W → Bool) → Bool) (q_onG : W → List W → (FuncId → List W → Bool) → Bool) (q_killVW : W → HW → (HW → Bool) → Bool) (q_loadSW : HW → W → (W → Bool) → Bool) (q_loadAW : Nat → HW → W → (W → Bool) → Bool) (q_storeSW : HW → W → W → (HW → Bool) → Bool) (q_storeAW : Nat → HW → W → W → (HW → Bool) → Bool) (q_allocW : Trie W → Nat → Bool → HW → Nat → KW → Bool) (q_buildSW : Nat → Nat → Kind → Nat → Bool → HW → Nat → Nat → List W → KW → Bool) (q_appSW : Nat → Nat → (Kind → Bool) → Bool → HW → Nat → W → W → Bool → KW → Bool) (q_flatW : W → Bool → Bool) (fu : Nat) (call : CallW) (a0 : W) (a1 : W) (h0 : HW) (c0 : Nat) (K : KW) : Bool :=
q_genW (binC Try.prog .eql 23 (.tmp 11) (.const (.pointer none)) (dec a0) (dec ⟨12, 0, ⟨0, 0, 0, .nilp⟩, []⟩)) fun v1 =>
q_condW v1 (
K ⟨13, 0, r0, [⟨12, 0, ⟨0, 0, 0, .nils⟩, []⟩, ⟨3, 2, r0, []⟩]⟩ h0 c0) (
q_nilcW a0 fun v2 =>
q_fadW 2 v2 fun v3 =>
q_loadSW h0 v3 fun v4 =>
q_cmpW (cmpF2 .lss) 3 (binC Try.prog .lss 2 (.tmp 13) (.tmp 17) (dec a1) (dec v4)) a1 v4 fun v5 =>
q_condW v5 (
K ⟨13, 0, r0, [⟨12, 0, ⟨0, 0, 0, .nils⟩, []⟩, ⟨3, 1, r0, []⟩]⟩ h0 c0) (
q_nilcW a0 fun v6 =>
q_fadW 2 v6 fun v7 =>
q_storeSW h0 v7 a1 fun h8 =>
call 13 [a0, a1] h8 c0 fun v9 h10 c11 =>
call 14 [a0] h10 c11 fun v12 h13 c14 =>
q_lenW (lenC tys 42 (dec v12)) v12 fun v15 =>
@Nat.rec (fun _ => Fun 2) (fun _ _ _ _ => false) (fun _ f20 v16 v17 h18 c19 =>
q_cmpW (cmpF2 .lss) 3 (binC Try.prog .lss 3 (.tmp 30) (.tmp 29) (dec v17) (dec v15)) v17 v15 fun v21 =>
q_condW v21 (
q_share _ (fun (v22 : W) (h23 : HW) (c24 : Nat) =>
q_addW 3 9223372036854775807 (binC Try.prog .add 3 (.tmp 30) (.const (.int .i64 (.ofNat 1))) (dec v17) (dec ⟨3, 1, r0, []⟩)) v17 ⟨3, 1, r0, []⟩ fun v26 =>
f20 v22 v26 h23 c24) fun f25 =>
q_idxSW 4 v12 v17 fun v27 =>
q_loadAW 4 h18 v27 fun v28 =>
q_allocW (allocT tys 49) 4 true h18 c19 fun v29 h30 c31 =>
q_storeAW 4 h30 v29 v28 fun h32 =>
q_loadAW 4 h32 v29 fun v33 =>
q_onG v9 [v33] fun g34 l35 => call g34 l35 h32 c31 fun v36 h37 c38 =>
q_condW v36 (
q_idxSW 4 v12 v17 fun v39 =>
q_fadW 1 v39 fun v40 =>
q_storeSW h37 v40 ⟨8, 1, r0, []⟩ fun h41 =>
q_idxSW 4 v12 v17 fun v42 =>
q_fadW 2 v42 fun v43 =>
q_storeSW h41 v43 a1 fun h44 =>
q_nilcW a0 fun v45 =>
q_fadW 3 v45 fun v46 =>
q_loadSW h44 v46 fun v47 =>
q_icvW 4 255 (convC Try.prog tys ⟨[], 0, decH h44, 0⟩ 3 5 (dec v17)) v17 fun v48 =>
q_addW 4 255 (binC Try.prog .add 5 (.tmp 51) (.tmp 53) (dec v47) (dec v48)) v47 v48 fun v49 =>
q_fadW 0 v29 fun v50 =>
q_loadSW h44 v50 fun v51 =>
q_flatW ⟨4, 1, r0, []⟩ (
q_flatW v49 (
q_flatW v51 (
(fun (v52 : W) =>
q_buildSW 4 9 .avs 4 true h44 c38 1 [v52] fun v53 h54 c55 =>
q_appSW 24 4 (appKindOk (elemJ tys 25)) false h54 c55 v16 v53 false fun v56 h57 c58 =>
q_killVW v53 h57 fun h59 =>
f25 v56 h59 c58) ⟨15, 0, r0, [⟨4, 1, r0, []⟩, v49, ⟨8, 0, r0, []⟩, v51]⟩)))) (
f25 v16 h37 c38)) (
K ⟨13, 0, r0, [v16, ⟨3, 0, r0, []⟩]⟩ h18 c19)) fu ⟨12, 0, ⟨0, 0, 0, .nils⟩, []⟩ ⟨3, 0, r0, []⟩ h13 c14))
theorem R5_eq (Q : PrimW) (fu : Nat) (call : CallW) : curryA 2 (fnK Q Try.prog tys stl fu call e5) = R5 Q.share Q.genW Q.addW Q.cmpW Q.icvW Q.condW Q.nilcW Q.fadW Q.idxSW Q.lenW Q.onG Q.killVW Q.loadSW Q.loadAW Q.storeSW Q.storeAW Q.allocW Q.buildSW Q.appSW Q.flatW fu call := by kernel_rfl
noncomputable def n5 : List W → HW → Nat → KW → Bool := appF 2 (R5 (fun _ x f => f x) genW addW cmpW icvW condW nilcW fadW idxSW lenW onG killVW loadSW loadAW storeSW storeAW allocW buildSW appSW flatW 1000000 d1.fn)
theorem n5_ok : FnGood Try.prog tys stl tab 5 n5 := node_ok d1_ok (by kernel_rfl) rfl g5 (R5_eq real _ _)
/- foghorn/again.NewSender -/
noncomputable def R11 (q_share : (α : Type) → α → (α → Bool) → Bool) (q_cmpW : (Nat → Nat → Bool) → Nat → Option CV → W → W → (W → Bool) → Bool) (q_notW : Option CV → W → (W → Bool) → Bool) (q_condW : W → Bool → Bool → Bool) (q_guardW : Bool → W → Bool → Bool → Bool) (q_pickW : W → W → W → (W → Bool) → Bool) (q_boxW : HW → Nat → W → KW → Bool) (q_flatW : W → Bool → Bool) (fu : Nat) (call : CallW) (a0 : W) (a1 : W) (h0 : HW) (c0 : Nat) (K : KW) : Bool :=
call 21 [a0] h0 c0 fun v1 h2 c3 =>
q_notW (two Try.prog (dec v1) (Op.unary .not)) v1 fun v4 =>
q_share _ (fun (v6 : W) (h7 : HW) (c8 : Nat) =>
q_share _ (fun (v10 : W) (h11 : HW) (c12 : Nat) =>
q_pickW v4 ⟨8, 1, r0, []⟩ v10 fun v13 =>
q_condW v13 (
K ⟨13, 0, r0, [⟨12, 0, ⟨0, 0, 0, .nilp⟩, []⟩, ⟨3, 1, r0, []⟩]⟩ h11 c12) (
q_flatW a0 (
q_flatW a1 (
(fun (v14 : W) =>
q_boxW h11 c12 v14 fun v15 h16 c17 =>
K ⟨13, 0, r0, [v15, ⟨3, 0, r0, []⟩]⟩ h16 c17) ⟨15, 0, r0, [a0, a1, ⟨3, 0, r0, []⟩, ⟨4, 0, r0, []⟩, ⟨12, 0, ⟨0, 0, 0, .nils⟩, []⟩]⟩)))) fun f9 =>
q_guardW false v4 (q_cmpW (cmpF2 .lss) 3 (binC Try.prog .lss 2 (.tmp 10) (.const (.int .i64 (.ofNat 1))) (dec v6) (dec ⟨3, 1, r0, []⟩)) v6 ⟨3, 1, r0, []⟩ fun v18 =>
f9 v18 h7 c8) (f9 wUnd h7 c8)) fun f5 =>
q_guardW false v4 (f5 a1 h2 c3) (f5 wUnd h2 c3)
theorem R11_eq (Q : PrimW) (fu : Nat) (call : CallW) : curryA 2 (fnK Q Try.prog tys stl fu call e11) = R11 Q.share Q.cmpW Q.notW Q.condW Q.guardW Q.pickW Q.boxW Q.flatW fu call := by kernel_rfl
noncomputable def n11 : List W → HW → Nat → KW → Bool := appF 2 (R11 (fun _ x f => f x) cmpW notW condW guardW pickW boxW flatW 1000000 d1.fn)
theorem n11_ok : FnGood Try.prog tys stl tab 11 n11 := node_ok d1_ok (by kernel_rfl) rfl g11 (R11_eq real _ _)
/- foghorn/again.NewReceiver -/
noncomputable def R12 (q_notW : Option CV → W → (W → Bool) → Bool) (q_condW : W → Bool → Bool → Bool) (q_boxW : HW → Nat → W → KW → Bool) (q_flatW : W → Bool → Bool) (q_newOW : CO → W → HW → Nat → KW → Bool) (fu : Nat) (call : CallW) (a0 : W) (h0 : HW) (c0 : Nat) (K : KW) : Bool :=
call 21 [a0] h0 c0 fun v1 h2 c3 =>
q_notW (two Try.prog (dec v1) (Op.unary .not)) v1 fun v4 =>
q_condW v4 (
K ⟨13, 0, r0, [⟨12, 0, ⟨0, 0, 0, .nilp⟩, []⟩, ⟨3, 1, r0, []⟩]⟩ h2 c3) (
q_newOW (.map [] 0) ⟨12, 0, ⟨0, 0, 0, .map c3⟩, []⟩ h2 c3 fun v5 h6 c7 =>
q_flatW a0 (
q_flatW v5 (
(fun (v8 : W) =>
q_boxW h6 c7 v8 fun v9 h10 c11 =>
K ⟨13, 0, r0, [v9, ⟨3, 0, r0, []⟩]⟩ h10 c11) ⟨15, 0, r0, [a0, ⟨3, 0, r0, []⟩, v5]⟩)))
theorem R12_eq (Q : PrimW) (fu : Nat) (call : CallW) : curryA 1 (fnK Q Try.prog tys stl fu call e12) = R12 Q.notW Q.condW Q.boxW Q.flatW Q.newOW fu call := by kernel_rfl
noncomputable def n12 : List W → HW → Nat → KW → Bool := appF 1 (R12 notW condW boxW flatW newOW 1000000 d1.fn)
theorem n12_ok : FnGood Try.prog tys stl tab 12 n12 := node_ok d1_ok (by kernel_rfl) rfl g12 (R12_eq real _ _)
/- (*foghorn/again.Receiver).answer -/
noncomputable def R16 (q_share : (α : Type) → α → (α → Bool) → Bool) (q_genW : Option CV → (W → Bool) → Bool) (q_addW : Nat → Nat → Option CV → W → W → (W → Bool) → Bool) (q_subW : Nat → Nat → Option CV → W → W → (W → Bool) → Bool) (q_cmpW : (Nat → Nat → Bool) → Nat → Option CV → W → W → (W → Bool) → Bool) (q_icvW : Nat → Nat → Option CV → W → (W → Bool) → Bool) (q_condW : W → Bool → Bool → Bool) (q_nilcW : W → (W → Bool) → Bool) (q_fadW : Nat → W → (W → Bool) → Bool) (q_tupW : W → (List W → Bool) → Bool) (q_nthW : Nat → List W → (W → Bool) → Bool) (q_detW : W → Bool → Bool) (q_loadSW : HW → W → (W → Bool) → Bool) (q_loadAW : Nat → HW → W → (W → Bool) → Bool) (q_storeAW : Nat → HW → W → W → (HW → Bool) → Bool) (q_allocW : Trie W → Nat → Bool → HW → Nat → KW → Bool) (q_flatW : W → Bool → Bool) (q_samQW : W → W → Bool → Bool) (fu : Nat) (call : CallW) (a0 : W) (h0 : HW) (c0 : Nat) (K : KW) : Bool :=
q_allocW (allocT tys 31) 4 true h0 c0 fun v1 h2 c3 =>
q_allocW (allocT tys 59) 16 true h2 c3 fun v4 h5 c6 =>
q_nilcW a0 fun v7 =>
q_fadW 0 v7 fun v8 =>
q_loadSW h5 v8 fun v9 =>
q_subW 3 9223372036854775807 (binC Try.prog .sub 3 (.tmp 10) (.const (.int .i64 (.ofNat 1))) (dec v9) (dec ⟨3, 1, r0, []⟩)) v9 ⟨3, 1, r0, []⟩ fun v10 =>
@Nat.rec (fun _ => Fun 1) (fun _ _ _ => false) (fun _ f14 v11 h12 c13 =>
q_cmpW (cmpF2 .lss) 3 (binC Try.prog .lss 3 (.tmp 12) (.tmp 11) (dec v11) (dec v10)) v11 v10 fun v15 =>
q_condW v15 (
q_share _ (fun  (h16 : HW) (c17 : Nat) =>
q_addW 3 9223372036854775807 (binC Try.prog .add 3 (.tmp 12) (.const (.int .i64 (.ofNat 1))) (dec v11) (dec ⟨3, 1, r0, []⟩)) v11 ⟨3, 1, r0, []⟩ fun v19 =>
f14 v19 h16 c17) fun f18 =>
q_nilcW a0 fun v20 =>
q_detW v20 (
q_fadW 2 v20 fun v21 =>
q_detW v21 (
q_nilcW a0 fun v22 =>
q_detW v22 (
q_fadW 1 v22 fun v23 =>
q_detW v23 (
q_loadSW h12 v21 fun v24 =>
q_loadSW h12 v23 fun v25 =>
q_addW 3 9223372036854775807 (binC Try.prog .add 3 (.tmp 23) (.const (.int .i64 (.ofNat 1))) (dec v25) (dec ⟨3, 1, r0, []⟩)) v25 ⟨3, 1, r0, []⟩ fun v26 =>
q_detW v26 (
q_addW 3 9223372036854775807 (binC Try.prog .add 3 (.tmp 24) (.tmp 25) (dec v26) (dec v11)) v26 v11 fun v27 =>
q_detW v27 (
q_genW (lookupC Try.prog tys ⟨[], 0, decH h12, 0⟩ 51 (dec v24) (dec v27) true) fun v28 =>
q_tupW v28 fun l29 => q_nthW 0 l29 fun v30 =>
q_detW v30 (
q_tupW v28 fun l31 => q_nthW 1 l31 fun v32 =>
q_detW v32 (
q_allocW (allocT tys 55) 1 true h12 c13 fun v33 h34 c35 =>
q_genW (lookupC Try.prog tys ⟨[], 0, decH h34, 0⟩ 51 (dec v24) (dec v27) true) fun v36 =>
q_samQW v36 v28 (
q_loadSW h34 v23 fun v37 =>
q_samQW v37 v25 (
q_loadSW h34 v21 fun v38 =>
q_samQW v38 v24 (
q_storeAW 1 h34 v33 v30 fun h39 =>
q_condW v32 (
call 23 [v4, v11] h39 c35 fun v40 h41 c42 =>
f18 h41 c42) (
f18 h39 c35))))))))))))) (
q_nilcW a0 fun v43 =>
q_fadW 1 v43 fun v44 =>
q_loadSW h12 v44 fun v45 =>
q_icvW 4 255 (convC Try.prog tys ⟨[], 0, decH h12, 0⟩ 3 5 (dec v45)) v45 fun v46 =>
q_genW (sliceM tys ⟨[], 0, decH h12, 0⟩ 59 (dec v4) none none none) fun v47 =>
q_genW (convC Try.prog tys ⟨[], 0, decH h12, 0⟩ 41 9 (dec v47)) fun v48 =>
q_flatW ⟨4, 2, r0, []⟩ (
q_flatW v46 (
q_flatW v48 (
(fun (v49 : W) =>
q_storeAW 4 h12 v1 v49 fun h50 =>
q_loadAW 4 h50 v1 fun v51 =>
K v51 h50 c13) ⟨15, 0, r0, [⟨4, 2, r0, []⟩, v46, ⟨8, 0, r0, []⟩, v48]⟩))))) fu ⟨3, 0, r0, []⟩ h5 c6
theorem R16_eq (Q : PrimW) (fu : Nat) (call : CallW) : curryA 1 (fnK Q Try.prog tys stl fu call e16) = R16 Q.share Q.genW Q.addW Q.subW Q.cmpW Q.icvW Q.condW Q.nilcW Q.fadW Q.tupW Q.nthW Q.detW Q.loadSW Q.loadAW Q.storeAW Q.allocW Q.flatW Q.samQW fu call := by kernel_rfl
noncomputable def n16 : List W → HW → Nat → KW → Bool := appF 1 (R16 (fun _ x f => f x) genW addW subW cmpW icvW condW nilcW fadW tupW nthW detW loadSW loadAW storeAW allocW flatW samQW 1000000 d1.fn)
theorem n16_ok : FnGood Try.prog tys stl tab 16 n16 := node_ok d1_ok (by kernel_rfl) rfl g16 (R16_eq real _ _)
/- (*foghorn/again.Sender).sent -/
noncomputable def R18 (q_share : (α : Type) → α → (α → Bool) → Bool) (q_addW : Nat → Nat → Option CV → W → W → (W → Bool) → Bool) (q_cmpW : (Nat → Nat → Bool) → Nat → Option CV → W → W → (W → Bool) → Bool) (q_condW : W → Bool → Bool → Bool) (q_fadW : Nat → W → (W → Bool) → Bool) (q_idxSW : Nat → W → W → (W → Bool) → Bool) (q_lenW : Option CV → W → (W → Bool) → Bool) (q_loadSW : HW → W → (W → Bool) → Bool) (q_loadAW : Nat → HW → W → (W → Bool) → Bool) (q_storeAW : Nat → HW → W → W → (HW → Bool) → Bool) (q_allocW : Trie W → Nat → Bool → HW → Nat → KW → Bool) (fu : Nat) (call : CallW) (a0 : W) (h0 : HW) (c0 : Nat) (K : KW) : Bool :=
call 14 [a0] h0 c0 fun v1 h2 c3 =>
q_lenW (lenC tys 42 (dec v1)) v1 fun v4 =>
@Nat.rec (fun _ => Fun 2) (fun _ _ _ _ => false) (fun _ f9 v5 v6 h7 c8 =>
q_cmpW (cmpF2 .lss) 3 (binC Try.prog .lss 3 (.tmp 9) (.tmp 8) (dec v6) (dec v4)) v6 v4 fun v10 =>
q_condW v10 (
q_share _ (fun (v11 : W) (h12 : HW) (c13 : Nat) =>
q_addW 3 9223372036854775807 (binC Try.prog .add 3 (.tmp 9) (.const (.int .i64 (.ofNat 1))) (dec v6) (dec ⟨3, 1, r0, []⟩)) v6 ⟨3, 1, r0, []⟩ fun v15 =>
f9 v11 v15 h12 c13) fun f14 =>
q_idxSW 4 v1 v6 fun v16 =>
q_loadAW 4 h7 v16 fun v17 =>
q_allocW (allocT tys 49) 4 true h7 c8 fun v18 h19 c20 =>
q_storeAW 4 h19 v18 v17 fun h21 =>
q_fadW 1 v18 fun v22 =>
q_loadSW h21 v22 fun v23 =>
q_condW v23 (
q_addW 3 9223372036854775807 (binC Try.prog .add 3 (.tmp 15) (.const (.int .i64 (.ofNat 1))) (dec v5) (dec ⟨3, 1, r0, []⟩)) v5 ⟨3, 1, r0, []⟩ fun v24 =>
f14 v24 h21 c20) (
f14 v5 h21 c20)) (
K v5 h7 c8)) fu ⟨3, 0, r0, []⟩ ⟨3, 0, r0, []⟩ h2 c3
theorem R18_eq (Q : PrimW) (fu : Nat) (call : CallW) : curryA 1 (fnK Q Try.prog tys stl fu call e18) = R18 Q.share Q.addW Q.cmpW Q.condW Q.fadW Q.idxSW Q.lenW Q.loadSW Q.loadAW Q.storeAW Q.allocW fu call := by kernel_rfl
noncomputable def n18 : List W → HW → Nat → KW → Bool := appF 1 (R18 (fun _ x f => f x) addW cmpW condW fadW idxSW lenW loadSW loadAW storeAW allocW 1000000 d1.fn)
theorem n18_ok : FnGood Try.prog tys stl tab 18 n18 := node_ok d1_ok (by kernel_rfl) rfl g18 (R18_eq real _ _)
/- slices.IndexFunc[[]foghorn/again.waiting,foghorn/again.waiting] -/
noncomputable def R24 (q_addW : Nat → Nat → Option CV → W → W → (W → Bool) → Bool) (q_cmpW : (Nat → Nat → Bool) → Nat → Option CV → W → W → (W → Bool) → Bool) (q_condW : W → Bool → Bool → Bool) (q_idxSW : Nat → W → W → (W → Bool) → Bool) (q_lenW : Option CV → W → (W → Bool) → Bool) (q_onG : W → List W → (FuncId → List W → Bool) → Bool) (q_loadAW : Nat → HW → W → (W → Bool) → Bool) (fu : Nat) (call : CallW) (a0 : W) (a1 : W) (h0 : HW) (c0 : Nat) (K : KW) : Bool :=
q_lenW (lenC tys 42 (dec a0)) a0 fun v1 =>
@Nat.rec (fun _ => Fun 1) (fun _ _ _ => false) (fun _ f5 v2 h3 c4 =>
q_cmpW (cmpF2 .lss) 3 (binC Try.prog .lss 3 (.tmp 8) (.tmp 7) (dec v2) (dec v1)) v2 v1 fun v6 =>
q_condW v6 (
q_idxSW 4 a0 v2 fun v7 =>
q_loadAW 4 h3 v7 fun v8 =>
q_onG a1 [v8] fun g9 l10 => call g9 l10 h3 c4 fun v11 h12 c13 =>
q_condW v11 (
K v2 h12 c13) (
q_addW 3 9223372036854775807 (binC Try.prog .add 3 (.tmp 8) (.const (.int .i64 (.ofNat 1))) (dec v2) (dec ⟨3, 1, r0, []⟩)) v2 ⟨3, 1, r0, []⟩ fun v14 =>
f5 v14 h12 c13)) (
K ⟨12, 0, ⟨0, 0, 0, .int .i64 (.negSucc 0)⟩, []⟩ h3 c4)) fu ⟨3, 0, r0, []⟩ h0 c0
theorem R24_eq (Q : PrimW) (fu : Nat) (call : CallW) : curryA 2 (fnK Q Try.prog tys stl fu call e24) = R24 Q.addW Q.cmpW Q.condW Q.idxSW Q.lenW Q.onG Q.loadAW fu call := by kernel_rfl
noncomputable def n24 : List W → HW → Nat → KW → Bool := appF 2 (R24 addW cmpW condW idxSW lenW onG loadAW 1000000 d1.fn)
theorem n24_ok : FnGood Try.prog tys stl tab 24 n24 := node_ok d1_ok (by kernel_rfl) rfl g24 (R24_eq real _ _)
noncomputable def d2 : Disp := (.node 16 n16 (.node 11 n11 (.node 9 n9 (.node 7 n7 (.node 5 n5 .leaf .leaf) .leaf) (.node 10 n10 .leaf .leaf)) (.node 14 n14 (.node 13 n13 (.node 12 n12 .leaf .leaf) .leaf) (.node 15 n15 .leaf .leaf))) (.node 22 n22 (.node 19 n19 (.node 18 n18 (.node 17 n17 .leaf .leaf) .leaf) (.node 21 n21 .leaf .leaf)) (.node 25 n25 (.node 24 n24 (.node 23 n23 .leaf .leaf) .leaf) (.node 26 n26 .leaf .leaf))))
theorem d2_ok : CallSim Try.prog tys stl tab d2.fn := Disp.sim ⟨n16_ok, ⟨n11_ok, ⟨n9_ok, ⟨n7_ok, ⟨n5_ok, True.intro, True.intro⟩, True.intro⟩, ⟨n10_ok, True.intro, True.intro⟩⟩, ⟨n14_ok, ⟨n13_ok, ⟨n12_ok, True.intro, True.intro⟩, True.intro⟩, ⟨n15_ok, True.intro, True.intro⟩⟩⟩, ⟨n22_ok, ⟨n19_ok, ⟨n18_ok, ⟨n17_ok, True.intro, True.intro⟩, True.intro⟩, ⟨n21_ok, True.intro, True.intro⟩⟩, ⟨n25_ok, ⟨n24_ok, ⟨n23_ok, True.intro, True.intro⟩, True.intro⟩, ⟨n26_ok, True.intro, True.intro⟩⟩⟩⟩
/- (*foghorn/again.Receiver).Take -/
noncomputable def R6 (q_share : (α : Type) → α → (α → Bool) → Bool) (q_genW : Option CV → (W → Bool) → Bool) (q_addW : Nat → Nat → Option CV → W → W → (W → Bool) → Bool) (q_subW : Nat → Nat → Option CV → W → W → (W → Bool) → Bool) (q_cmpW : (Nat → Nat → Bool) → Nat → Option CV → W → W → (W → Bool) → Bool) (q_notW : Option CV → W → (W → Bool) → Bool) (q_icvW : Nat → Nat → Option CV → W → (W → Bool) → Bool) (q_condW : W → Bool → Bool → Bool) (q_nilcW : W → (W → Bool) → Bool) (q_fadW : Nat → W → (W → Bool) → Bool) (q_tupW : W → (List W → Bool) → Bool) (q_nthW : Nat → List W → (W → Bool) → Bool) (q_detW : W → Bool → Bool) (q_killVW : W → HW → (HW → Bool) → Bool) (q_loadSW : HW → W → (W → Bool) → Bool) (q_loadAW : Nat → HW → W → (W → Bool) → Bool) (q_storeSW : HW → W → W → (HW → Bool) → Bool) (q_storeAW : Nat → HW → W → W → (HW → Bool) → Bool) (q_allocW : Trie W → Nat → Bool → HW → Nat → KW → Bool) (q_boxW : HW → Nat → W → KW → Bool) (q_buildSW : Nat → Nat → Kind → Nat → Bool → HW → Nat → Nat → List W → KW → Bool) (q_appSW : Nat → Nat → (Kind → Bool) → Bool → HW → Nat → W → W → Bool → KW → Bool) (q_flatW : W → Bool → Bool) (q_updOW : Option (TypeDesc × Nat) → HW → Nat → W → W → W → KW → Bool) (q_remOW : Option (TypeDesc × Nat) → HW → Nat → W → W → KW → Bool) (q_samQW : W → W → Bool → Bool) (fu : Nat) (call : CallW) (a0 : W) (a1 : W) (h0 : HW) (c0 : Nat) (K : KW) : Bool :=
q_boxW h0 c0 a1 fun v1 h2 c3 =>
q_allocW (allocT tys 31) 4 true h2 c3 fun v4 h5 c6 =>
q_genW (binC Try.prog .eql 24 (.tmp 12) (.const (.pointer none)) (dec a0) (dec ⟨12, 0, ⟨0, 0, 0, .nilp⟩, []⟩)) fun v7 =>
q_condW v7 (
(fun (v8 : W) =>
q_storeAW 4 h5 v4 v8 fun h9 =>
q_loadAW 4 h9 v4 fun v10 =>
q_killVW v1 h9 fun h11 =>
q_killVW wUnd h11 fun h12 =>
K ⟨13, 0, r0, [⟨12, 0, ⟨0, 0, 0, .nils⟩, []⟩, v10, ⟨3, 2, r0, []⟩]⟩ h12 c6) ⟨15, 0, r0, [⟨4, 0, r0, []⟩, ⟨4, 0, r0, []⟩, ⟨8, 0, r0, []⟩, ⟨12, 0, ⟨0, 0, 0, .str ⟨⟨[]⟩⟩⟩, []⟩]⟩) (
q_loadAW 4 h5 v1 fun v13 =>
call 15 [v13] h5 c6 fun v14 h15 c16 =>
q_notW (two Try.prog (dec v14) (Op.unary .not)) v14 fun v17 =>
q_condW v17 (
(fun (v18 : W) =>
q_storeAW 4 h15 v4 v18 fun h19 =>
q_loadAW 4 h19 v4 fun v20 =>
q_killVW v1 h19 fun h21 =>
q_killVW wUnd h21 fun h22 =>
K ⟨13, 0, r0, [⟨12, 0, ⟨0, 0, 0, .nils⟩, []⟩, v20, ⟨3, 4, r0, []⟩]⟩ h22 c16) ⟨15, 0, r0, [⟨4, 0, r0, []⟩, ⟨4, 0, r0, []⟩, ⟨8, 0, r0, []⟩, ⟨12, 0, ⟨0, 0, 0, .str ⟨⟨[]⟩⟩⟩, []⟩]⟩) (
q_share _ (fun (v23 : W) (h24 : HW) (c25 : Nat) =>
q_nilcW a0 fun v27 =>
q_detW v27 (
q_fadW 2 v27 fun v28 =>
q_detW v28 (
q_nilcW a0 fun v29 =>
q_detW v29 (
q_fadW 1 v29 fun v30 =>
q_detW v30 (
q_loadSW h24 v28 fun v31 =>
q_loadSW h24 v30 fun v32 =>
q_genW (lookupC Try.prog tys ⟨[], 0, decH h24, 0⟩ 51 (dec v31) (dec v32) true) fun v33 =>
q_tupW v33 fun l34 => q_nthW 0 l34 fun v35 =>
q_detW v35 (
q_tupW v33 fun l36 => q_nthW 1 l36 fun v37 =>
q_detW v37 (
q_allocW (allocT tys 55) 1 true h24 c25 fun v38 h39 c40 =>
q_genW (lookupC Try.prog tys ⟨[], 0, decH h39, 0⟩ 51 (dec v31) (dec v32) true) fun v41 =>
q_samQW v41 v33 (
q_loadSW h39 v30 fun v42 =>
q_samQW v42 v32 (
q_loadSW h39 v28 fun v43 =>
q_samQW v43 v31 (
q_storeAW 1 h39 v38 v35 fun h44 =>
@Nat.rec (fun _ => Fun 3) (fun _ _ _ _ _ => false) (fun _ f50 v45 v46 v47 h48 c49 =>
q_condW v47 (
q_fadW 0 v46 fun v51 =>
q_loadSW h48 v51 fun v52 =>
q_buildSW 1 99 .strs 1 true h48 c49 1 [v52] fun v53 h54 c55 =>
q_appSW 16 1 (appKindOk (elemJ tys 29)) false h54 c55 v45 v53 false fun v56 h57 c58 =>
q_killVW v53 h57 fun h59 =>
q_nilcW a0 fun v60 =>
q_fadW 2 v60 fun v61 =>
q_loadSW h59 v61 fun v62 =>
q_nilcW a0 fun v63 =>
q_fadW 1 v63 fun v64 =>
q_loadSW h59 v64 fun v65 =>
q_remOW (mapTyC Try.prog 51) h59 c58 v62 v65 fun v66 h67 c68 =>
q_nilcW a0 fun v69 =>
q_fadW 1 v69 fun v70 =>
q_loadSW h67 v70 fun v71 =>
q_addW 3 9223372036854775807 (binC Try.prog .add 3 (.tmp 104) (.const (.int .i64 (.ofNat 1))) (dec v71) (dec ⟨3, 1, r0, []⟩)) v71 ⟨3, 1, r0, []⟩ fun v72 =>
q_nilcW a0 fun v73 =>
q_fadW 1 v73 fun v74 =>
q_storeSW h67 v74 v72 fun h75 =>
q_loadAW 1 h75 v46 fun v76 =>
q_allocW (allocT tys 55) 1 true h75 c68 fun v77 h78 c79 =>
q_storeAW 1 h78 v77 v76 fun h80 =>
q_nilcW a0 fun v81 =>
q_fadW 2 v81 fun v82 =>
q_loadSW h80 v82 fun v83 =>
q_nilcW a0 fun v84 =>
q_fadW 1 v84 fun v85 =>
q_loadSW h80 v85 fun v86 =>
q_genW (lookupC Try.prog tys ⟨[], 0, decH h80, 0⟩ 51 (dec v83) (dec v86) true) fun v87 =>
q_tupW v87 fun l88 => q_nthW 0 l88 fun v89 =>
q_tupW v87 fun l90 => q_nthW 1 l90 fun v91 =>
q_detW v91 (
q_storeAW 1 h80 v77 v89 fun h92 =>
f50 v56 v77 v91 h92 c79)) (
call 16 [a0] h48 c49 fun v93 h94 c95 =>
q_storeAW 4 h94 v4 v93 fun h96 =>
q_loadAW 4 h96 v4 fun v97 =>
q_killVW v1 h96 fun h98 =>
q_killVW v23 h98 fun h99 =>
K ⟨13, 0, r0, [v45, v97, ⟨3, 0, r0, []⟩]⟩ h99 c95)) fu ⟨12, 0, ⟨0, 0, 0, .nils⟩, []⟩ v38 v37 h44 c40)))))))))) fun f26 =>
q_fadW 1 v1 fun v100 =>
q_loadSW h15 v100 fun v101 =>
q_nilcW a0 fun v102 =>
q_fadW 1 v102 fun v103 =>
q_loadSW h15 v103 fun v104 =>
q_icvW 4 255 (convC Try.prog tys ⟨[], 0, decH h15, 0⟩ 3 5 (dec v104)) v104 fun v105 =>
q_subW 4 255 (binC Try.prog .sub 5 (.tmp 20) (.tmp 25) (dec v101) (dec v105)) v101 v105 fun v106 =>
q_icvW 3 9223372036854775807 (convC Try.prog tys ⟨[], 0, decH h15, 0⟩ 5 3 (dec v106)) v106 fun v107 =>
q_nilcW a0 fun v108 =>
q_fadW 0 v108 fun v109 =>
q_loadSW h15 v109 fun v110 =>
q_cmpW (cmpF2 .lss) 3 (binC Try.prog .lss 3 (.tmp 28) (.tmp 32) (dec v107) (dec v110)) v107 v110 fun v111 =>
q_condW v111 (
q_nilcW a0 fun v112 =>
q_detW v112 (
q_fadW 2 v112 fun v113 =>
q_detW v113 (
q_nilcW a0 fun v114 =>
q_detW v114 (
q_fadW 1 v114 fun v115 =>
q_detW v115 (
q_loadSW h15 v113 fun v116 =>
q_loadSW h15 v115 fun v117 =>
q_addW 3 9223372036854775807 (binC Try.prog .add 3 (.tmp 42) (.tmp 43) (dec v117) (dec v107)) v117 v107 fun v118 =>
q_detW v118 (
q_genW (lookupC Try.prog tys ⟨[], 0, decH h15, 0⟩ 51 (dec v116) (dec v118) true) fun v119 =>
q_tupW v119 fun l120 => q_nthW 0 l120 fun v121 =>
q_detW v121 (
q_tupW v119 fun l122 => q_nthW 1 l122 fun v123 =>
q_detW v123 (
q_allocW (allocT tys 55) 1 true h15 c16 fun v124 h125 c126 =>
q_genW (lookupC Try.prog tys ⟨[], 0, decH h125, 0⟩ 51 (dec v116) (dec v118) true) fun v127 =>
q_samQW v127 v119 (
q_loadSW h125 v115 fun v128 =>
q_samQW v128 v117 (
q_loadSW h125 v113 fun v129 =>
q_samQW v129 v116 (
q_storeAW 1 h125 v124 v121 fun h130 =>
q_notW (two Try.prog (dec v123) (Op.unary .not)) v123 fun v131 =>
q_condW v131 (
q_nilcW a0 fun v132 =>
q_fadW 2 v132 fun v133 =>
q_loadSW h130 v133 fun v134 =>
q_nilcW a0 fun v135 =>
q_fadW 1 v135 fun v136 =>
q_loadSW h130 v136 fun v137 =>
q_addW 3 9223372036854775807 (binC Try.prog .add 3 (.tmp 57) (.tmp 58) (dec v137) (dec v107)) v137 v107 fun v138 =>
q_fadW 3 v1 fun v139 =>
q_loadSW h130 v139 fun v140 =>
q_flatW v140 (
(fun (v141 : W) =>
q_updOW (mapTyC Try.prog 51) h130 c126 v134 v138 v141 fun v142 h143 c144 =>
f26 v124 h143 c144) ⟨15, 0, r0, [v140]⟩)) (
f26 v124 h130 c126)))))))))))) (
f26 wUnd h15 c16)))
theorem R6_eq (Q : PrimW) (fu : Nat) (call : CallW) : curryA 2 (fnK Q Try.prog tys stl fu call e6) = R6 Q.share Q.genW Q.addW Q.subW Q.cmpW Q.notW Q.icvW Q.condW Q.nilcW Q.fadW Q.tupW Q.nthW Q.detW Q.killVW Q.loadSW Q.loadAW Q.storeSW Q.storeAW Q.allocW Q.boxW Q.buildSW Q.appSW Q.flatW Q.updOW Q.remOW Q.samQW fu call := by kernel_rfl
noncomputable def n6 : List W → HW → Nat → KW → Bool := appF 2 (R6 (fun _ x f => f x) genW addW subW cmpW notW icvW condW nilcW fadW tupW nthW detW killVW loadSW loadAW storeSW storeAW allocW boxW buildSW appSW flatW updOW remOW samQW 1000000 d2.fn)
theorem n6_ok : FnGood Try.prog tys stl tab 6 n6 := node_ok d2_ok (by kernel_rfl) rfl g6 (R6_eq real _ _)
/- (*foghorn/again.Sender).pass -/
noncomputable def R20 (q_share : (α : Type) → α → (α → Bool) → Bool) (q_addW : Nat → Nat → Option CV → W → W → (W → Bool) → Bool) (q_cmpW : (Nat → Nat → Bool) → Nat → Option CV → W → W → (W → Bool) → Bool) (q_icvW : Nat → Nat → Option CV → W → (W → Bool) → Bool) (q_condW : W → Bool → Bool → Bool) (q_nilcW : W → (W → Bool) → Bool) (q_fadW : Nat → W → (W → Bool) → Bool) (q_lenW : Option CV → W → (W → Bool) → Bool) (q_loadSW : HW → W → (W → Bool) → Bool) (q_storeSW : HW → W → W → (HW → Bool) → Bool) (fu : Nat) (call : CallW) (a0 : W) (h0 : HW) (c0 : Nat) (K : KW) : Bool :=
q_nilcW a0 fun v1 =>
q_fadW 4 v1 fun v2 =>
q_loadSW h0 v2 fun v3 =>
call 24 [v3, ⟨14, 25, r0, []⟩] h0 c0 fun v4 h5 c6 =>
q_share _ (fun (v7 : W) (h8 : HW) (c9 : Nat) =>
q_nilcW a0 fun v11 =>
q_fadW 4 v11 fun v12 =>
q_loadSW h8 v12 fun v13 =>
call 26 [v13, ⟨3, 0, r0, []⟩, v7] h8 c9 fun v14 h15 c16 =>
q_nilcW a0 fun v17 =>
q_fadW 4 v17 fun v18 =>
q_storeSW h15 v18 v14 fun h19 =>
q_nilcW a0 fun v20 =>
q_fadW 3 v20 fun v21 =>
q_loadSW h19 v21 fun v22 =>
q_icvW 4 255 (convC Try.prog tys ⟨[], 0, decH h19, 0⟩ 3 5 (dec v7)) v7 fun v23 =>
q_addW 4 255 (binC Try.prog .add 5 (.tmp 27) (.tmp 29) (dec v22) (dec v23)) v22 v23 fun v24 =>
q_nilcW a0 fun v25 =>
q_fadW 3 v25 fun v26 =>
q_storeSW h19 v26 v24 fun h27 =>
K ⟨13, 0, r0, []⟩ h27 c16) fun f10 =>
q_cmpW (cmpF2 .lss) 3 (binC Try.prog .lss 3 (.tmp 8) (.const (.int .i64 (.ofNat 0))) (dec v4) (dec ⟨3, 0, r0, []⟩)) v4 ⟨3, 0, r0, []⟩ fun v28 =>
q_condW v28 (
q_nilcW a0 fun v29 =>
q_fadW 4 v29 fun v30 =>
q_loadSW h5 v30 fun v31 =>
q_lenW (lenC tys 42 (dec v31)) v31 fun v32 =>
f10 v32 h5 c6) (
f10 v4 h5 c6)
theorem R20_eq (Q : PrimW) (fu : Nat) (call : CallW) : curryA 1 (fnK Q Try.prog tys stl fu call e20) = R20 Q.share Q.addW Q.cmpW Q.icvW Q.condW Q.nilcW Q.fadW Q.lenW Q.loadSW Q.storeSW fu call := by kernel_rfl
noncomputable def n20 : List W → HW → Nat → KW → Bool := appF 1 (R20 (fun _ x f => f x) addW cmpW icvW condW nilcW fadW lenW loadSW storeSW 1000000 d2.fn)
theorem n20_ok : FnGood Try.prog tys stl tab 20 n20 := node_ok d2_ok (by kernel_rfl) rfl g20 (R20_eq real _ _)
noncomputable def d3 : Disp := (.node 16 n16 (.node 11 n11 (.node 7 n7 (.node 6 n6 (.node 5 n5 .leaf .leaf) .leaf) (.node 10 n10 (.node 9 n9 .leaf .leaf) .leaf)) (.node 14 n14 (.node 13 n13 (.node 12 n12 .leaf .leaf) .leaf) (.node 15 n15 .leaf .leaf))) (.node 22 n22 (.node 19 n19 (.node 18 n18 (.node 17 n17 .leaf .leaf) .leaf) (.node 21 n21 (.node 20 n20 .leaf .leaf) .leaf)) (.node 25 n25 (.node 24 n24 (.node 23 n23 .leaf .leaf) .leaf) (.node 26 n26 .leaf .leaf))))
theorem d3_ok : CallSim Try.prog tys stl tab d3.fn := Disp.sim ⟨n16_ok, ⟨n11_ok, ⟨n7_ok, ⟨n6_ok, ⟨n5_ok, True.intro, True.intro⟩, True.intro⟩, ⟨n10_ok, ⟨n9_ok, True.intro, True.intro⟩, True.intro⟩⟩, ⟨n14_ok, ⟨n13_ok, ⟨n12_ok, True.intro, True.intro⟩, True.intro⟩, ⟨n15_ok, True.intro, True.intro⟩⟩⟩, ⟨n22_ok, ⟨n19_ok, ⟨n18_ok, ⟨n17_ok, True.intro, True.intro⟩, True.intro⟩, ⟨n21_ok, ⟨n20_ok, True.intro, True.intro⟩, True.intro⟩⟩, ⟨n25_ok, ⟨n24_ok, ⟨n23_ok, True.intro, True.intro⟩, True.intro⟩, ⟨n26_ok, True.intro, True.intro⟩⟩⟩⟩
/- (*foghorn/again.Sender).Hear -/
noncomputable def R8 (q_share : (α : Type) → α → (α → Bool) → Bool) (q_genW : Option CV → (W → Bool) → Bool) (q_addW : Nat → Nat → Option CV → W → W → (W → Bool) → Bool) (q_subW : Nat → Nat → Option CV → W → W → (W → Bool) → Bool) (q_cmpW : (Nat → Nat → Bool) → Nat → Option CV → W → W → (W → Bool) → Bool) (q_notW : Option CV → W → (W → Bool) → Bool) (q_icvW : Nat → Nat → Option CV → W → (W → Bool) → Bool) (q_condW : W → Bool → Bool → Bool) (q_guardW : Bool → W → Bool → Bool → Bool) (q_pickW : W → W → W → (W → Bool) → Bool) (q_nilcW : W → (W → Bool) → Bool) (q_fadW : Nat → W → (W → Bool) → Bool) (q_idxSW : Nat → W → W → (W → Bool) → Bool) (q_detW : W → Bool → Bool) (q_killVW : W → HW → (HW → Bool) → Bool) (q_loadSW : HW → W → (W → Bool) → Bool) (q_loadAW : Nat → HW → W → (W → Bool) → Bool) (q_storeSW : HW → W → W → (HW → Bool) → Bool) (q_allocW : Trie W → Nat → Bool → HW → Nat → KW → Bool) (q_boxW : HW → Nat → W → KW → Bool) (q_samQW : W → W → Bool → Bool) (q_cpTW : Nat → HW → Nat → W → W → KW → Bool) (fu : Nat) (call : CallW) (a0 : W) (a1 : W) (h0 : HW) (c0 : Nat) (K : KW) : Bool :=
q_boxW h0 c0 a1 fun v1 h2 c3 =>
q_genW (binC Try.prog .eql 23 (.tmp 9) (.const (.pointer none)) (dec a0) (dec ⟨12, 0, ⟨0, 0, 0, .nilp⟩, []⟩)) fun v4 =>
q_condW v4 (
q_killVW v1 h2 fun h5 =>
K ⟨3, 2, r0, []⟩ h5 c3) (
q_loadAW 4 h2 v1 fun v6 =>
call 17 [v6] h2 c3 fun v7 h8 c9 =>
q_notW (two Try.prog (dec v7) (Op.unary .not)) v7 fun v10 =>
q_condW v10 (
q_killVW v1 h8 fun h11 =>
K ⟨3, 4, r0, []⟩ h11 c9) (
q_fadW 1 v1 fun v12 =>
q_detW v12 (
q_nilcW a0 fun v13 =>
q_detW v13 (
q_fadW 3 v13 fun v14 =>
q_detW v14 (
q_loadSW h8 v12 fun v15 =>
q_loadSW h8 v14 fun v16 =>
q_subW 4 255 (binC Try.prog .sub 5 (.tmp 15) (.tmp 19) (dec v15) (dec v16)) v15 v16 fun v17 =>
q_detW v17 (
q_icvW 3 9223372036854775807 (convC Try.prog tys ⟨[], 0, decH h8, 0⟩ 5 3 (dec v17)) v17 fun v18 =>
call 18 [a0] h8 c9 fun v19 h20 c21 =>
q_icvW 3 9223372036854775807 (convC Try.prog tys ⟨[], 0, decH h20, 0⟩ 5 3 (dec v17)) v17 fun v22 =>
q_samQW v22 v18 (
q_loadSW h20 v14 fun v23 =>
q_samQW v23 v16 (
q_loadSW h20 v12 fun v24 =>
q_samQW v24 v15 (
q_cmpW (cmpF2 .gtr) 3 (binC Try.prog .gtr 3 (.tmp 24) (.tmp 25) (dec v18) (dec v19)) v18 v19 fun v25 =>
q_condW v25 (
q_killVW v1 h20 fun h26 =>
K ⟨3, 0, r0, []⟩ h26 c21) (
q_allocW (allocT tys 59) 16 true h20 c21 fun v27 h28 c29 =>
q_genW (sliceM tys ⟨[], 0, decH h28, 0⟩ 59 (dec v27) none none none) fun v30 =>
q_fadW 3 v1 fun v31 =>
q_loadSW h28 v31 fun v32 =>
q_cpTW 1 h28 c29 v30 v32 fun v33 h34 c35 =>
@Nat.rec (fun _ => Fun 1) (fun _ _ _ => false) (fun _ f39 v36 h37 c38 =>
q_cmpW (cmpF2 .lss) 3 (binC Try.prog .lss 3 (.tmp 32) (.tmp 31) (dec v36) (dec v19)) v36 v19 fun v40 =>
q_condW v40 (
q_share _ (fun  (h41 : HW) (c42 : Nat) =>
q_addW 3 9223372036854775807 (binC Try.prog .add 3 (.tmp 32) (.const (.int .i64 (.ofNat 1))) (dec v36) (dec ⟨3, 1, r0, []⟩)) v36 ⟨3, 1, r0, []⟩ fun v44 =>
f39 v44 h41 c42) fun f43 =>
q_cmpW (cmpF2 .lss) 3 (binC Try.prog .lss 3 (.tmp 35) (.tmp 36) (dec v36) (dec v18)) v36 v18 fun v45 =>
q_share _ (fun (v47 : W) (h48 : HW) (c49 : Nat) =>
q_share _ (fun (v51 : W) (h52 : HW) (c53 : Nat) =>
q_share _ (fun (v55 : W) (h56 : HW) (c57 : Nat) =>
q_share _ (fun (v59 : W) (h60 : HW) (c61 : Nat) =>
q_share _ (fun (v63 : W) (h64 : HW) (c65 : Nat) =>
q_share _ (fun (v67 : W) (h68 : HW) (c69 : Nat) =>
q_share _ (fun (v71 : W) (h72 : HW) (c73 : Nat) =>
q_share _ (fun (v75 : W) (h76 : HW) (c77 : Nat) =>
q_share _ (fun (v79 : W) (h80 : HW) (c81 : Nat) =>
q_share _ (fun (v83 : W) (h84 : HW) (c85 : Nat) =>
q_share _ (fun (v87 : W) (h88 : HW) (c89 : Nat) =>
q_pickW v45 ⟨8, 1, r0, []⟩ v87 fun v90 =>
q_condW v90 (
q_nilcW a0 fun v91 =>
q_fadW 4 v91 fun v92 =>
q_loadSW h88 v92 fun v93 =>
q_idxSW 4 v93 v36 fun v94 =>
q_fadW 3 v94 fun v95 =>
q_storeSW h88 v95 ⟨8, 1, r0, []⟩ fun h96 =>
f43 h96 c89) (
f43 h88 c89)) fun f86 =>
q_guardW false v45 (q_pickW v59 v83 ⟨8, 0, r0, []⟩ fun v97 =>
f86 v97 h84 c85) (f86 wUnd h84 c85)) fun f82 =>
q_guardW true v59 (call 19 [v63, v79] h80 c81 fun v98 h99 c100 =>
f82 v98 h99 c100) (f82 wUnd h80 c81)) fun f78 =>
q_guardW true v59 (q_subW 3 9223372036854775807 (binC Try.prog .sub 3 (.tmp 46) (.const (.int .i64 (.ofNat 1))) (dec v75) (dec ⟨3, 1, r0, []⟩)) v75 ⟨3, 1, r0, []⟩ fun v101 =>
f78 v101 h76 c77) (f78 wUnd h76 c77)) fun f74 =>
q_guardW true v59 (q_subW 3 9223372036854775807 (binC Try.prog .sub 3 (.tmp 44) (.tmp 45) (dec v67) (dec v71)) v67 v71 fun v102 =>
f74 v102 h72 c73) (f74 wUnd h72 c73)) fun f70 =>
q_guardW true v59 (f70 v18 h68 c69) (f70 wUnd h68 c69)) fun f66 =>
q_guardW true v59 (f66 v36 h64 c65) (f66 wUnd h64 c65)) fun f62 =>
q_guardW true v59 (q_loadAW 16 h60 v27 fun v103 =>
f62 v103 h60 c61) (f62 wUnd h60 c61)) fun f58 =>
q_guardW false v45 (f58 v55 h56 c57) (f58 wUnd h56 c57)) fun f54 =>
q_guardW false v45 (q_cmpW (cmpF2 .gtr) 3 (binC Try.prog .gtr 3 (.tmp 39) (.tmp 40) (dec v47) (dec v51)) v47 v51 fun v104 =>
f54 v104 h52 c53) (f54 wUnd h52 c53)) fun f50 =>
q_guardW false v45 (f50 v18 h48 c49) (f50 wUnd h48 c49)) fun f46 =>
q_guardW false v45 (f46 v36 h37 c38) (f46 wUnd h37 c38)) (
call 20 [a0] h37 c38 fun v105 h106 c107 =>
q_killVW v1 h106 fun h108 =>
K ⟨3, 0, r0, []⟩ h108 c107)) fu ⟨3, 0, r0, []⟩ h34 c35))))))))))
theorem R8_eq (Q : PrimW) (fu : Nat) (call : CallW) : curryA 2 (fnK Q Try.prog tys stl fu call e8) = R8 Q.share Q.genW Q.addW Q.subW Q.cmpW Q.notW Q.icvW Q.condW Q.guardW Q.pickW Q.nilcW Q.fadW Q.idxSW Q.detW Q.killVW Q.loadSW Q.loadAW Q.storeSW Q.allocW Q.boxW Q.samQW Q.cpTW fu call := by kernel_rfl
noncomputable def n8 : List W → HW → Nat → KW → Bool := appF 2 (R8 (fun _ x f => f x) genW addW subW cmpW notW icvW condW guardW pickW nilcW fadW idxSW detW killVW loadSW loadAW storeSW allocW boxW samQW cpTW 1000000 d3.fn)
theorem n8_ok : FnGood Try.prog tys stl tab 8 n8 := node_ok d3_ok (by kernel_rfl) rfl g8 (R8_eq real _ _)
noncomputable def d4 : Disp := (.node 16 n16 (.node 10 n10 (.node 7 n7 (.node 6 n6 (.node 5 n5 .leaf .leaf) .leaf) (.node 9 n9 (.node 8 n8 .leaf .leaf) .leaf)) (.node 13 n13 (.node 12 n12 (.node 11 n11 .leaf .leaf) .leaf) (.node 15 n15 (.node 14 n14 .leaf .leaf) .leaf))) (.node 22 n22 (.node 19 n19 (.node 18 n18 (.node 17 n17 .leaf .leaf) .leaf) (.node 21 n21 (.node 20 n20 .leaf .leaf) .leaf)) (.node 25 n25 (.node 24 n24 (.node 23 n23 .leaf .leaf) .leaf) (.node 26 n26 .leaf .leaf))))
theorem d4_ok : CallSim Try.prog tys stl tab d4.fn := Disp.sim ⟨n16_ok, ⟨n10_ok, ⟨n7_ok, ⟨n6_ok, ⟨n5_ok, True.intro, True.intro⟩, True.intro⟩, ⟨n9_ok, ⟨n8_ok, True.intro, True.intro⟩, True.intro⟩⟩, ⟨n13_ok, ⟨n12_ok, ⟨n11_ok, True.intro, True.intro⟩, True.intro⟩, ⟨n15_ok, ⟨n14_ok, True.intro, True.intro⟩, True.intro⟩⟩⟩, ⟨n22_ok, ⟨n19_ok, ⟨n18_ok, ⟨n17_ok, True.intro, True.intro⟩, True.intro⟩, ⟨n21_ok, ⟨n20_ok, True.intro, True.intro⟩, True.intro⟩⟩, ⟨n25_ok, ⟨n24_ok, ⟨n23_ok, True.intro, True.intro⟩, True.intro⟩, ⟨n26_ok, True.intro, True.intro⟩⟩⟩⟩
/- foghorn/foghornlaw28.works -/
noncomputable def R4 (q_share : (α : Type) → α → (α → Bool) → Bool) (q_genW : Option CV → (W → Bool) → Bool) (q_cmpW : (Nat → Nat → Bool) → Nat → Option CV → W → W → (W → Bool) → Bool) (q_condW : W → Bool → Bool → Bool) (q_guardW : Bool → W → Bool → Bool → Bool) (q_pickW : W → W → W → (W → Bool) → Bool) (q_fadW : Nat → W → (W → Bool) → Bool) (q_idxSW : Nat → W → W → (W → Bool) → Bool) (q_lenW : Option CV → W → (W → Bool) → Bool) (q_tupW : W → (List W → Bool) → Bool) (q_nthW : Nat → List W → (W → Bool) → Bool) (q_killVW : W → HW → (HW → Bool) → Bool) (q_loadSW : HW → W → (W → Bool) → Bool) (q_loadAW : Nat → HW → W → (W → Bool) → Bool) (q_storeAW : Nat → HW → W → W → (HW → Bool) → Bool) (q_allocW : Trie W → Nat → Bool → HW → Nat → KW → Bool) (fu : Nat) (call : CallW) (h0 : HW) (c0 : Nat) (K : KW) : Bool :=
call 11 [⟨3, 2, r0, []⟩, ⟨3, 5, r0, []⟩] h0 c0 fun v1 h2 c3 =>
q_tupW v1 fun l4 => q_nthW 0 l4 fun v5 =>
q_tupW v1 fun l6 => q_nthW 1 l6 fun v7 =>
call 12 [⟨3, 2, r0, []⟩] h2 c3 fun v8 h9 c10 =>
q_tupW v8 fun l11 => q_nthW 0 l11 fun v12 =>
q_tupW v8 fun l13 => q_nthW 1 l13 fun v14 =>
q_cmpW (cmpF2 .neq) 3 (binC Try.prog .neq 26 (.tmp 19) (.const (.int .i64 (.ofNat 0))) (dec v7) (dec ⟨3, 0, r0, []⟩)) v7 ⟨3, 0, r0, []⟩ fun v15 =>
q_share _ (fun (v17 : W) (h18 : HW) (c19 : Nat) =>
q_share _ (fun (v21 : W) (h22 : HW) (c23 : Nat) =>
q_pickW v15 ⟨8, 1, r0, []⟩ v21 fun v24 =>
q_share _ (fun (v26 : W) (h27 : HW) (c28 : Nat) =>
q_share _ (fun (v30 : W) (h31 : HW) (c32 : Nat) =>
q_pickW v24 ⟨8, 1, r0, []⟩ v30 fun v33 =>
q_share _ (fun (v35 : W) (h36 : HW) (c37 : Nat) =>
q_share _ (fun (v39 : W) (h40 : HW) (c41 : Nat) =>
q_pickW v33 ⟨8, 1, r0, []⟩ v39 fun v42 =>
q_condW v42 (
q_killVW wUnd h40 fun h43 =>
K ⟨8, 0, r0, []⟩ h43 c41) (
call 7 [v5, ⟨12, 0, ⟨0, 0, 0, .str ⟨⟨[97]⟩⟩⟩, []⟩] h40 c41 fun v44 h45 c46 =>
call 5 [v5, ⟨3, 0, r0, []⟩] h45 c46 fun v47 h48 c49 =>
q_tupW v47 fun l50 => q_nthW 0 l50 fun v51 =>
q_tupW v47 fun l52 => q_nthW 1 l52 fun v53 =>
q_cmpW (cmpF2 .neq) 3 (binC Try.prog .neq 26 (.tmp 40) (.const (.int .i64 (.ofNat 0))) (dec v44) (dec ⟨3, 0, r0, []⟩)) v44 ⟨3, 0, r0, []⟩ fun v54 =>
q_share _ (fun (v56 : W) (h57 : HW) (c58 : Nat) =>
q_share _ (fun (v60 : W) (h61 : HW) (c62 : Nat) =>
q_pickW v54 ⟨8, 1, r0, []⟩ v60 fun v63 =>
q_share _ (fun (v65 : W) (h66 : HW) (c67 : Nat) =>
q_share _ (fun (v69 : W) (h70 : HW) (c71 : Nat) =>
q_share _ (fun (v73 : W) (h74 : HW) (c75 : Nat) =>
q_pickW v63 ⟨8, 1, r0, []⟩ v73 fun v76 =>
q_share _ (fun (v78 : W) (h79 : HW) (c80 : Nat) =>
q_share _ (fun (v82 : W) (h83 : HW) (c84 : Nat) =>
q_share _ (fun (v86 : W) (h87 : HW) (c88 : Nat) =>
q_share _ (fun (v90 : W) (h91 : HW) (c92 : Nat) =>
q_share _ (fun (v94 : W) (h95 : HW) (c96 : Nat) =>
q_pickW v76 ⟨8, 1, r0, []⟩ v94 fun v97 =>
q_share _ (fun (v99 : W) (h100 : HW) (c101 : Nat) =>
q_share _ (fun (v103 : W) (h104 : HW) (c105 : Nat) =>
q_share _ (fun (v107 : W) (h108 : HW) (c109 : Nat) =>
q_share _ (fun (v111 : W) (h112 : HW) (c113 : Nat) =>
q_share _ (fun (v115 : W) (h116 : HW) (c117 : Nat) =>
q_pickW v97 ⟨8, 1, r0, []⟩ v115 fun v118 =>
q_condW v118 (
q_killVW wUnd h116 fun h119 =>
K ⟨8, 0, r0, []⟩ h119 c117) (
q_idxSW 4 v51 ⟨3, 0, r0, []⟩ fun v120 =>
q_loadAW 4 h116 v120 fun v121 =>
call 6 [v12, v121] h116 c117 fun v122 h123 c124 =>
q_tupW v122 fun l125 => q_nthW 0 l125 fun v126 =>
q_tupW v122 fun l127 => q_nthW 1 l127 fun v128 =>
q_tupW v122 fun l129 => q_nthW 2 l129 fun v130 =>
q_allocW (allocT tys 31) 4 true h123 c124 fun v131 h132 c133 =>
q_storeAW 4 h132 v131 v128 fun h134 =>
q_cmpW (cmpF2 .eql) 3 (binC Try.prog .eql 26 (.tmp 74) (.const (.int .i64 (.ofNat 0))) (dec v130) (dec ⟨3, 0, r0, []⟩)) v130 ⟨3, 0, r0, []⟩ fun v135 =>
q_share _ (fun (v137 : W) (h138 : HW) (c139 : Nat) =>
q_share _ (fun (v141 : W) (h142 : HW) (c143 : Nat) =>
q_share _ (fun (v145 : W) (h146 : HW) (c147 : Nat) =>
q_pickW v135 v145 ⟨8, 0, r0, []⟩ fun v148 =>
q_share _ (fun (v150 : W) (h151 : HW) (c152 : Nat) =>
q_share _ (fun (v154 : W) (h155 : HW) (c156 : Nat) =>
q_share _ (fun (v158 : W) (h159 : HW) (c160 : Nat) =>
q_share _ (fun (v162 : W) (h163 : HW) (c164 : Nat) =>
q_pickW v148 v162 ⟨8, 0, r0, []⟩ fun v165 =>
q_share _ (fun (v167 : W) (h168 : HW) (c169 : Nat) =>
q_share _ (fun (v171 : W) (h172 : HW) (c173 : Nat) =>
q_share _ (fun (v175 : W) (h176 : HW) (c177 : Nat) =>
q_pickW v165 v175 ⟨8, 0, r0, []⟩ fun v178 =>
q_share _ (fun (v180 : W) (h181 : HW) (c182 : Nat) =>
q_share _ (fun (v184 : W) (h185 : HW) (c186 : Nat) =>
q_share _ (fun (v188 : W) (h189 : HW) (c190 : Nat) =>
q_pickW v178 v188 ⟨8, 0, r0, []⟩ fun v191 =>
q_share _ (fun (v193 : W) (h194 : HW) (c195 : Nat) =>
q_share _ (fun (v197 : W) (h198 : HW) (c199 : Nat) =>
q_share _ (fun (v201 : W) (h202 : HW) (c203 : Nat) =>
q_share _ (fun (v205 : W) (h206 : HW) (c207 : Nat) =>
q_pickW v191 v205 ⟨8, 0, r0, []⟩ fun v208 =>
q_share _ (fun (v210 : W) (h211 : HW) (c212 : Nat) =>
q_share _ (fun (v214 : W) (h215 : HW) (c216 : Nat) =>
q_share _ (fun (v218 : W) (h219 : HW) (c220 : Nat) =>
q_pickW v208 v218 ⟨8, 0, r0, []⟩ fun v221 =>
q_share _ (fun (v223 : W) (h224 : HW) (c225 : Nat) =>
q_share _ (fun (v227 : W) (h228 : HW) (c229 : Nat) =>
q_share _ (fun (v231 : W) (h232 : HW) (c233 : Nat) =>
q_pickW v221 v231 ⟨8, 0, r0, []⟩ fun v234 =>
q_killVW v131 h232 fun h235 =>
K v234 h235 c233) fun f230 =>
q_guardW true v221 (q_cmpW (cmpF2 .eql) 3 (binC Try.prog .eql 3 (.tmp 110) (.const (.int .i64 (.ofNat 1))) (dec v227) (dec ⟨3, 1, r0, []⟩)) v227 ⟨3, 1, r0, []⟩ fun v236 =>
f230 v236 h228 c229) (f230 wUnd h228 c229)) fun f226 =>
q_guardW true v221 (call 10 [v223] h224 c225 fun v237 h238 c239 =>
f226 v237 h238 c239) (f226 wUnd h224 c225)) fun f222 =>
q_guardW true v221 (f222 v12 h219 c220) (f222 wUnd h219 c220)) fun f217 =>
q_guardW true v208 (q_cmpW (cmpF2 .eql) 3 (binC Try.prog .eql 3 (.tmp 105) (.const (.int .i64 (.ofNat 0))) (dec v214) (dec ⟨3, 0, r0, []⟩)) v214 ⟨3, 0, r0, []⟩ fun v240 =>
f217 v240 h215 c216) (f217 wUnd h215 c216)) fun f213 =>
q_guardW true v208 (call 9 [v210] h211 c212 fun v241 h242 c243 =>
f213 v241 h242 c243) (f213 wUnd h211 c212)) fun f209 =>
q_guardW true v208 (f209 v5 h206 c207) (f209 wUnd h206 c207)) fun f204 =>
q_guardW true v191 (q_cmpW (cmpF2 .eql) 3 (binC Try.prog .eql 26 (.tmp 100) (.const (.int .i64 (.ofNat 0))) (dec v201) (dec ⟨3, 0, r0, []⟩)) v201 ⟨3, 0, r0, []⟩ fun v244 =>
f204 v244 h202 c203) (f204 wUnd h202 c203)) fun f200 =>
q_guardW true v191 (call 8 [v193, v197] h198 c199 fun v245 h246 c247 =>
f200 v245 h246 c247) (f200 wUnd h198 c199)) fun f196 =>
q_guardW true v191 (q_loadAW 4 h194 v131 fun v248 =>
f196 v248 h194 c195) (f196 wUnd h194 c195)) fun f192 =>
q_guardW true v191 (f192 v5 h189 c190) (f192 wUnd h189 c190)) fun f187 =>
q_guardW true v178 (q_cmpW (cmpF2 .eql) 4 (binC Try.prog .eql 5 (.tmp 94) (.const (.int .u8 (.ofNat 2))) (dec v184) (dec ⟨4, 2, r0, []⟩)) v184 ⟨4, 2, r0, []⟩ fun v249 =>
f187 v249 h185 c186) (f187 wUnd h185 c186)) fun f183 =>
q_guardW true v178 (q_loadSW h181 v180 fun v250 =>
f183 v250 h181 c182) (f183 wUnd h181 c182)) fun f179 =>
q_guardW true v178 (q_fadW 0 v131 fun v251 =>
f179 v251 h176 c177) (f179 wUnd h176 c177)) fun f174 =>
q_guardW true v165 (q_cmpW (cmpF2 .eql) 4 (binC Try.prog .eql 5 (.tmp 89) (.const (.int .u8 (.ofNat 1))) (dec v171) (dec ⟨4, 1, r0, []⟩)) v171 ⟨4, 1, r0, []⟩ fun v252 =>
f174 v252 h172 c173) (f174 wUnd h172 c173)) fun f170 =>
q_guardW true v165 (q_loadSW h168 v167 fun v253 =>
f170 v253 h168 c169) (f170 wUnd h168 c169)) fun f166 =>
q_guardW true v165 (q_fadW 1 v131 fun v254 =>
f166 v254 h163 c164) (f166 wUnd h163 c164)) fun f161 =>
q_guardW true v148 (q_genW (binC Try.prog .eql 9 (.tmp 84) (.const (.string ⟨⟨[97]⟩⟩)) (dec v158) (dec ⟨12, 0, ⟨0, 0, 0, .str ⟨⟨[97]⟩⟩⟩, []⟩)) fun v255 =>
f161 v255 h159 c160) (f161 wUnd h159 c160)) fun f157 =>
q_guardW true v148 (q_loadSW h155 v154 fun v256 =>
f157 v256 h155 c156) (f157 wUnd h155 c156)) fun f153 =>
q_guardW true v148 (q_idxSW 1 v150 ⟨3, 0, r0, []⟩ fun v257 =>
f153 v257 h151 c152) (f153 wUnd h151 c152)) fun f149 =>
q_guardW true v148 (f149 v126 h146 c147) (f149 wUnd h146 c147)) fun f144 =>
q_guardW true v135 (q_cmpW (cmpF2 .eql) 3 (binC Try.prog .eql 3 (.tmp 78) (.const (.int .i64 (.ofNat 1))) (dec v141) (dec ⟨3, 1, r0, []⟩)) v141 ⟨3, 1, r0, []⟩ fun v258 =>
f144 v258 h142 c143) (f144 wUnd h142 c143)) fun f140 =>
q_guardW true v135 (q_lenW (lenC tys 29 (dec v137)) v137 fun v259 =>
f140 v259 h138 c139) (f140 wUnd h138 c139)) fun f136 =>
q_guardW true v135 (f136 v126 h134 c133) (f136 wUnd h134 c133))) fun f114 =>
q_guardW false v97 (q_cmpW (cmpF2 .neq) 4 (binC Try.prog .neq 5 (.tmp 62) (.const (.int .u8 (.ofNat 1))) (dec v111) (dec ⟨4, 1, r0, []⟩)) v111 ⟨4, 1, r0, []⟩ fun v260 =>
f114 v260 h112 c113) (f114 wUnd h112 c113)) fun f110 =>
q_guardW false v97 (q_loadSW h108 v107 fun v261 =>
f110 v261 h108 c109) (f110 wUnd h108 c109)) fun f106 =>
q_guardW false v97 (q_fadW 0 v103 fun v262 =>
f106 v262 h104 c105) (f106 wUnd h104 c105)) fun f102 =>
q_guardW false v97 (q_idxSW 4 v99 ⟨3, 0, r0, []⟩ fun v263 =>
f102 v263 h100 c101) (f102 wUnd h100 c101)) fun f98 =>
q_guardW false v97 (f98 v51 h95 c96) (f98 wUnd h95 c96)) fun f93 =>
q_guardW false v76 (q_genW (binC Try.prog .neq 9 (.tmp 55) (.const (.string ⟨⟨[97]⟩⟩)) (dec v90) (dec ⟨12, 0, ⟨0, 0, 0, .str ⟨⟨[97]⟩⟩⟩, []⟩)) fun v264 =>
f93 v264 h91 c92) (f93 wUnd h91 c92)) fun f89 =>
q_guardW false v76 (q_loadSW h87 v86 fun v265 =>
f89 v265 h87 c88) (f89 wUnd h87 c88)) fun f85 =>
q_guardW false v76 (q_fadW 3 v82 fun v266 =>
f85 v266 h83 c84) (f85 wUnd h83 c84)) fun f81 =>
q_guardW false v76 (q_idxSW 4 v78 ⟨3, 0, r0, []⟩ fun v267 =>
f81 v267 h79 c80) (f81 wUnd h79 c80)) fun f77 =>
q_guardW false v76 (f77 v51 h74 c75) (f77 wUnd h74 c75)) fun f72 =>
q_guardW false v63 (q_cmpW (cmpF2 .neq) 3 (binC Try.prog .neq 3 (.tmp 48) (.const (.int .i64 (.ofNat 1))) (dec v69) (dec ⟨3, 1, r0, []⟩)) v69 ⟨3, 1, r0, []⟩ fun v268 =>
f72 v268 h70 c71) (f72 wUnd h70 c71)) fun f68 =>
q_guardW false v63 (q_lenW (lenC tys 25 (dec v65)) v65 fun v269 =>
f68 v269 h66 c67) (f68 wUnd h66 c67)) fun f64 =>
q_guardW false v63 (f64 v51 h61 c62) (f64 wUnd h61 c62)) fun f59 =>
q_guardW false v54 (q_cmpW (cmpF2 .neq) 3 (binC Try.prog .neq 26 (.tmp 43) (.const (.int .i64 (.ofNat 0))) (dec v56) (dec ⟨3, 0, r0, []⟩)) v56 ⟨3, 0, r0, []⟩ fun v270 =>
f59 v270 h57 c58) (f59 wUnd h57 c58)) fun f55 =>
q_guardW false v54 (f55 v53 h48 c49) (f55 wUnd h48 c49))) fun f38 =>
q_guardW false v33 (q_genW (binC Try.prog .eql 24 (.tmp 30) (.const (.pointer none)) (dec v35) (dec ⟨12, 0, ⟨0, 0, 0, .nilp⟩, []⟩)) fun v271 =>
f38 v271 h36 c37) (f38 wUnd h36 c37)) fun f34 =>
q_guardW false v33 (f34 v12 h31 c32) (f34 wUnd h31 c32)) fun f29 =>
q_guardW false v24 (q_genW (binC Try.prog .eql 23 (.tmp 26) (.const (.pointer none)) (dec v26) (dec ⟨12, 0, ⟨0, 0, 0, .nilp⟩, []⟩)) fun v272 =>
f29 v272 h27 c28) (f29 wUnd h27 c28)) fun f25 =>
q_guardW false v24 (f25 v5 h22 c23) (f25 wUnd h22 c23)) fun f20 =>
q_guardW false v15 (q_cmpW (cmpF2 .neq) 3 (binC Try.prog .neq 26 (.tmp 22) (.const (.int .i64 (.ofNat 0))) (dec v17) (dec ⟨3, 0, r0, []⟩)) v17 ⟨3, 0, r0, []⟩ fun v273 =>
f20 v273 h18 c19) (f20 wUnd h18 c19)) fun f16 =>
q_guardW false v15 (f16 v14 h9 c10) (f16 wUnd h9 c10)
theorem R4_eq (Q : PrimW) (fu : Nat) (call : CallW) : curryA 0 (fnK Q Try.prog tys stl fu call e4) = R4 Q.share Q.genW Q.cmpW Q.condW Q.guardW Q.pickW Q.fadW Q.idxSW Q.lenW Q.tupW Q.nthW Q.killVW Q.loadSW Q.loadAW Q.storeAW Q.allocW fu call := by kernel_rfl
noncomputable def n4 : List W → HW → Nat → KW → Bool := appF 0 (R4 (fun _ x f => f x) genW cmpW condW guardW pickW fadW idxSW lenW tupW nthW killVW loadSW loadAW storeAW allocW 1000000 d4.fn)
theorem n4_ok : FnGood Try.prog tys stl tab 4 n4 := node_ok d4_ok (by kernel_rfl) rfl g4 (R4_eq real _ _)
noncomputable def d5 : Disp := (.node 15 n15 (.node 9 n9 (.node 6 n6 (.node 5 n5 (.node 4 n4 .leaf .leaf) .leaf) (.node 8 n8 (.node 7 n7 .leaf .leaf) .leaf)) (.node 12 n12 (.node 11 n11 (.node 10 n10 .leaf .leaf) .leaf) (.node 14 n14 (.node 13 n13 .leaf .leaf) .leaf))) (.node 21 n21 (.node 18 n18 (.node 17 n17 (.node 16 n16 .leaf .leaf) .leaf) (.node 20 n20 (.node 19 n19 .leaf .leaf) .leaf)) (.node 24 n24 (.node 23 n23 (.node 22 n22 .leaf .leaf) .leaf) (.node 26 n26 (.node 25 n25 .leaf .leaf) .leaf))))
theorem d5_ok : CallSim Try.prog tys stl tab d5.fn := Disp.sim ⟨n15_ok, ⟨n9_ok, ⟨n6_ok, ⟨n5_ok, ⟨n4_ok, True.intro, True.intro⟩, True.intro⟩, ⟨n8_ok, ⟨n7_ok, True.intro, True.intro⟩, True.intro⟩⟩, ⟨n12_ok, ⟨n11_ok, ⟨n10_ok, True.intro, True.intro⟩, True.intro⟩, ⟨n14_ok, ⟨n13_ok, True.intro, True.intro⟩, True.intro⟩⟩⟩, ⟨n21_ok, ⟨n18_ok, ⟨n17_ok, ⟨n16_ok, True.intro, True.intro⟩, True.intro⟩, ⟨n20_ok, ⟨n19_ok, True.intro, True.intro⟩, True.intro⟩⟩, ⟨n24_ok, ⟨n23_ok, ⟨n22_ok, True.intro, True.intro⟩, True.intro⟩, ⟨n26_ok, ⟨n25_ok, True.intro, True.intro⟩, True.intro⟩⟩⟩⟩
/- foghorn/foghornlaw28.AgainNames -/
noncomputable def R3 (q_share : (α : Type) → α → (α → Bool) → Bool) (q_genW : Option CV → (W → Bool) → Bool) (q_addW : Nat → Nat → Option CV → W → W → (W → Bool) → Bool) (q_cmpW : (Nat → Nat → Bool) → Nat → Option CV → W → W → (W → Bool) → Bool) (q_notW : Option CV → W → (W → Bool) → Bool) (q_condW : W → Bool → Bool → Bool) (q_guardW : Bool → W → Bool → Bool → Bool) (q_pickW : W → W → W → (W → Bool) → Bool) (q_fadW : Nat → W → (W → Bool) → Bool) (q_lenW : Option CV → W → (W → Bool) → Bool) (q_tupW : W → (List W → Bool) → Bool) (q_nthW : Nat → List W → (W → Bool) → Bool) (q_killVW : W → HW → (HW → Bool) → Bool) (q_loadSW : HW → W → (W → Bool) → Bool) (q_storeAW : Nat → HW → W → W → (HW → Bool) → Bool) (q_makeSW : Nat → Nat → Nat → Kind → List W → Bool → HW → Nat → W → W → KW → Bool) (q_allocW : Trie W → Nat → Bool → HW → Nat → KW → Bool) (q_flatW : W → Bool → Bool) (fu : Nat) (call : CallW) (h0 : HW) (c0 : Nat) (K : KW) : Bool :=
call 4 [] h0 c0 fun v1 h2 c3 =>
q_notW (two Try.prog (dec v1) (Op.unary .not)) v1 fun v4 =>
q_pickW v4 ⟨8, 1, r0, []⟩ ⟨8, 0, r0, []⟩ fun v5 =>
q_pickW v5 ⟨8, 1, r0, []⟩ ⟨8, 0, r0, []⟩ fun v6 =>
q_pickW v6 ⟨8, 1, r0, []⟩ ⟨8, 0, r0, []⟩ fun v7 =>
q_pickW v7 ⟨8, 1, r0, []⟩ ⟨8, 0, r0, []⟩ fun v8 =>
q_pickW v8 ⟨8, 1, r0, []⟩ ⟨8, 0, r0, []⟩ fun v9 =>
q_pickW v9 ⟨8, 1, r0, []⟩ ⟨8, 0, r0, []⟩ fun v10 =>
q_pickW v10 ⟨8, 1, r0, []⟩ ⟨8, 0, r0, []⟩ fun v11 =>
q_pickW v11 ⟨8, 1, r0, []⟩ ⟨8, 0, r0, []⟩ fun v12 =>
q_condW v12 (
q_killVW wUnd h2 fun h13 =>
K ⟨8, 0, r0, []⟩ h13 c3) (
call 5 [⟨12, 0, ⟨0, 0, 0, .nilp⟩, []⟩, ⟨3, 0, r0, []⟩] h2 c3 fun v14 h15 c16 =>
q_tupW v14 fun l17 => q_nthW 0 l17 fun v18 =>
q_tupW v14 fun l19 => q_nthW 1 l19 fun v20 =>
(fun (v21 : W) =>
call 6 [⟨12, 0, ⟨0, 0, 0, .nilp⟩, []⟩, v21] h15 c16 fun v22 h23 c24 =>
q_tupW v22 fun l25 => q_nthW 0 l25 fun v26 =>
q_tupW v22 fun l27 => q_nthW 1 l27 fun v28 =>
q_tupW v22 fun l29 => q_nthW 2 l29 fun v30 =>
q_allocW (allocT tys 31) 4 true h23 c24 fun v31 h32 c33 =>
q_storeAW 4 h32 v31 v28 fun h34 =>
q_cmpW (cmpF2 .neq) 3 (binC Try.prog .neq 26 (.tmp 52) (.const (.int .i64 (.ofNat 2))) (dec v20) (dec ⟨3, 2, r0, []⟩)) v20 ⟨3, 2, r0, []⟩ fun v35 =>
q_share _ (fun (v37 : W) (h38 : HW) (c39 : Nat) =>
q_share _ (fun (v41 : W) (h42 : HW) (c43 : Nat) =>
q_pickW v35 ⟨8, 1, r0, []⟩ v41 fun v44 =>
q_share _ (fun (v46 : W) (h47 : HW) (c48 : Nat) =>
q_share _ (fun (v50 : W) (h51 : HW) (c52 : Nat) =>
q_share _ (fun (v54 : W) (h55 : HW) (c56 : Nat) =>
q_pickW v44 ⟨8, 1, r0, []⟩ v54 fun v57 =>
q_share _ (fun (v59 : W) (h60 : HW) (c61 : Nat) =>
q_share _ (fun (v63 : W) (h64 : HW) (c65 : Nat) =>
q_share _ (fun (v67 : W) (h68 : HW) (c69 : Nat) =>
q_pickW v57 ⟨8, 1, r0, []⟩ v67 fun v70 =>
q_share _ (fun (v72 : W) (h73 : HW) (c74 : Nat) =>
q_share _ (fun (v76 : W) (h77 : HW) (c78 : Nat) =>
q_share _ (fun (v80 : W) (h81 : HW) (c82 : Nat) =>
q_pickW v70 ⟨8, 1, r0, []⟩ v80 fun v83 =>
q_share _ (fun (v85 : W) (h86 : HW) (c87 : Nat) =>
q_share _ (fun (v89 : W) (h90 : HW) (c91 : Nat) =>
q_share _ (fun (v93 : W) (h94 : HW) (c95 : Nat) =>
q_share _ (fun (v97 : W) (h98 : HW) (c99 : Nat) =>
q_pickW v83 ⟨8, 1, r0, []⟩ v97 fun v100 =>
q_share _ (fun (v102 : W) (h103 : HW) (c104 : Nat) =>
q_share _ (fun (v106 : W) (h107 : HW) (c108 : Nat) =>
q_share _ (fun (v110 : W) (h111 : HW) (c112 : Nat) =>
q_pickW v100 ⟨8, 1, r0, []⟩ v110 fun v113 =>
q_share _ (fun (v115 : W) (h116 : HW) (c117 : Nat) =>
q_share _ (fun (v119 : W) (h120 : HW) (c121 : Nat) =>
q_share _ (fun (v123 : W) (h124 : HW) (c125 : Nat) =>
q_pickW v113 ⟨8, 1, r0, []⟩ v123 fun v126 =>
q_condW v126 (
q_killVW v31 h124 fun h127 =>
K ⟨8, 0, r0, []⟩ h127 c125) (
call 11 [⟨3, 128, r0, []⟩, ⟨3, 4611686018427387904, r0, []⟩] h124 c125 fun v128 h129 c130 =>
q_tupW v128 fun l131 => q_nthW 0 l131 fun v132 =>
q_tupW v128 fun l133 => q_nthW 1 l133 fun v134 =>
call 11 [⟨3, 129, r0, []⟩, ⟨3, 1, r0, []⟩] h129 c130 fun v135 h136 c137 =>
q_tupW v135 fun l138 => q_nthW 0 l138 fun v139 =>
q_tupW v135 fun l140 => q_nthW 1 l140 fun v141 =>
call 11 [⟨3, 1, r0, []⟩, ⟨3, 0, r0, []⟩] h136 c137 fun v142 h143 c144 =>
q_tupW v142 fun l145 => q_nthW 0 l145 fun v146 =>
q_tupW v142 fun l147 => q_nthW 1 l147 fun v148 =>
call 12 [⟨3, 129, r0, []⟩] h143 c144 fun v149 h150 c151 =>
q_tupW v149 fun l152 => q_nthW 0 l152 fun v153 =>
q_tupW v149 fun l154 => q_nthW 1 l154 fun v155 =>
call 12 [⟨3, 128, r0, []⟩] h150 c151 fun v156 h157 c158 =>
q_tupW v156 fun l159 => q_nthW 0 l159 fun v160 =>
q_tupW v156 fun l161 => q_nthW 1 l161 fun v162 =>
q_cmpW (cmpF2 .neq) 3 (binC Try.prog .neq 26 (.tmp 109) (.const (.int .i64 (.ofNat 0))) (dec v134) (dec ⟨3, 0, r0, []⟩)) v134 ⟨3, 0, r0, []⟩ fun v163 =>
q_share _ (fun (v165 : W) (h166 : HW) (c167 : Nat) =>
q_share _ (fun (v169 : W) (h170 : HW) (c171 : Nat) =>
q_pickW v163 ⟨8, 1, r0, []⟩ v169 fun v172 =>
q_share _ (fun (v174 : W) (h175 : HW) (c176 : Nat) =>
q_share _ (fun (v178 : W) (h179 : HW) (c180 : Nat) =>
q_pickW v172 ⟨8, 1, r0, []⟩ v178 fun v181 =>
q_share _ (fun (v183 : W) (h184 : HW) (c185 : Nat) =>
q_share _ (fun (v187 : W) (h188 : HW) (c189 : Nat) =>
q_pickW v181 ⟨8, 1, r0, []⟩ v187 fun v190 =>
q_share _ (fun (v192 : W) (h193 : HW) (c194 : Nat) =>
q_share _ (fun (v196 : W) (h197 : HW) (c198 : Nat) =>
q_pickW v190 ⟨8, 1, r0, []⟩ v196 fun v199 =>
q_share _ (fun (v201 : W) (h202 : HW) (c203 : Nat) =>
q_share _ (fun (v205 : W) (h206 : HW) (c207 : Nat) =>
q_pickW v199 ⟨8, 1, r0, []⟩ v205 fun v208 =>
q_share _ (fun (v210 : W) (h211 : HW) (c212 : Nat) =>
q_share _ (fun (v214 : W) (h215 : HW) (c216 : Nat) =>
q_pickW v208 ⟨8, 1, r0, []⟩ v214 fun v217 =>
q_condW v217 (
q_killVW v31 h215 fun h218 =>
K ⟨8, 0, r0, []⟩ h218 c216) (
q_makeSW 1 1 4 (.ints .u8) [⟨4, 0, r0, []⟩] true h215 c216 ⟨3, 241, r0, []⟩ ⟨3, 241, r0, []⟩ fun v219 h220 c221 =>
q_genW (convC Try.prog tys ⟨[], 0, decH h220, 0⟩ 41 9 (dec v219)) fun v222 =>
call 7 [v132, v222] h220 c221 fun v223 h224 c225 =>
q_cmpW (cmpF2 .neq) 3 (binC Try.prog .neq 26 (.tmp 139) (.const (.int .i64 (.ofNat 1))) (dec v223) (dec ⟨3, 1, r0, []⟩)) v223 ⟨3, 1, r0, []⟩ fun v226 =>
q_share _ (fun (v228 : W) (h229 : HW) (c230 : Nat) =>
q_share _ (fun (v232 : W) (h233 : HW) (c234 : Nat) =>
q_share _ (fun (v236 : W) (h237 : HW) (c238 : Nat) =>
q_share _ (fun (v240 : W) (h241 : HW) (c242 : Nat) =>
q_share _ (fun (v244 : W) (h245 : HW) (c246 : Nat) =>
q_pickW v226 ⟨8, 1, r0, []⟩ v244 fun v247 =>
q_condW v247 (
q_killVW v31 h245 fun h248 =>
K ⟨8, 0, r0, []⟩ h248 c246) (
@Nat.rec (fun _ => Fun 1) (fun _ _ _ => false) (fun _ f252 v249 h250 c251 =>
q_cmpW (cmpF2 .lss) 3 (binC Try.prog .lss 3 (.tmp 148) (.const (.int .i64 (.ofNat 4096))) (dec v249) (dec ⟨3, 4096, r0, []⟩)) v249 ⟨3, 4096, r0, []⟩ fun v253 =>
q_condW v253 (
call 7 [v132, ⟨12, 0, ⟨0, 0, 0, .str ⟨⟨[]⟩⟩⟩, []⟩] h250 c251 fun v254 h255 c256 =>
q_cmpW (cmpF2 .neq) 3 (binC Try.prog .neq 26 (.tmp 153) (.const (.int .i64 (.ofNat 0))) (dec v254) (dec ⟨3, 0, r0, []⟩)) v254 ⟨3, 0, r0, []⟩ fun v257 =>
q_condW v257 (
q_killVW v31 h255 fun h258 =>
K ⟨8, 0, r0, []⟩ h258 c256) (
q_addW 3 9223372036854775807 (binC Try.prog .add 3 (.tmp 150) (.const (.int .i64 (.ofNat 1))) (dec v249) (dec ⟨3, 1, r0, []⟩)) v249 ⟨3, 1, r0, []⟩ fun v259 =>
f252 v259 h255 c256)) (
call 5 [v132, ⟨3, 5, r0, []⟩] h250 c251 fun v260 h261 c262 =>
q_tupW v260 fun l263 => q_nthW 0 l263 fun v264 =>
q_tupW v260 fun l265 => q_nthW 1 l265 fun v266 =>
call 5 [v132, ⟨3, 5, r0, []⟩] h261 c262 fun v267 h268 c269 =>
q_tupW v267 fun l270 => q_nthW 0 l270 fun v271 =>
q_tupW v267 fun l272 => q_nthW 1 l272 fun v273 =>
call 5 [v132, ⟨3, 4, r0, []⟩] h268 c269 fun v274 h275 c276 =>
q_tupW v274 fun l277 => q_nthW 0 l277 fun v278 =>
q_tupW v274 fun l279 => q_nthW 1 l279 fun v280 =>
q_flatW ⟨4, 1, r0, []⟩ (
q_flatW v222 (
(fun (v281 : W) =>
call 6 [v160, v281] h275 c276 fun v282 h283 c284 =>
q_tupW v282 fun l285 => q_nthW 0 l285 fun v286 =>
q_tupW v282 fun l287 => q_nthW 1 l287 fun v288 =>
q_tupW v282 fun l289 => q_nthW 2 l289 fun v290 =>
q_flatW ⟨4, 1, r0, []⟩ (
q_flatW ⟨8, 1, r0, []⟩ (
(fun (v291 : W) =>
call 6 [v160, v291] h283 c284 fun v292 h293 c294 =>
q_tupW v292 fun l295 => q_nthW 0 l295 fun v296 =>
q_tupW v292 fun l297 => q_nthW 1 l297 fun v298 =>
q_tupW v292 fun l299 => q_nthW 2 l299 fun v300 =>
call 7 [v132, ⟨12, 0, ⟨0, 0, 0, .str ⟨⟨[]⟩⟩⟩, []⟩] h293 c294 fun v301 h302 c303 =>
q_cmpW (cmpF2 .eql) 3 (binC Try.prog .eql 26 (.tmp 186) (.const (.int .i64 (.ofNat 3))) (dec v301) (dec ⟨3, 3, r0, []⟩)) v301 ⟨3, 3, r0, []⟩ fun v304 =>
q_share _ (fun (v306 : W) (h307 : HW) (c308 : Nat) =>
q_share _ (fun (v310 : W) (h311 : HW) (c312 : Nat) =>
q_share _ (fun (v314 : W) (h315 : HW) (c316 : Nat) =>
q_pickW v304 v314 ⟨8, 0, r0, []⟩ fun v317 =>
q_share _ (fun (v319 : W) (h320 : HW) (c321 : Nat) =>
q_share _ (fun (v323 : W) (h324 : HW) (c325 : Nat) =>
q_pickW v317 v323 ⟨8, 0, r0, []⟩ fun v326 =>
q_share _ (fun (v328 : W) (h329 : HW) (c330 : Nat) =>
q_share _ (fun (v332 : W) (h333 : HW) (c334 : Nat) =>
q_share _ (fun (v336 : W) (h337 : HW) (c338 : Nat) =>
q_pickW v326 v336 ⟨8, 0, r0, []⟩ fun v339 =>
q_share _ (fun (v341 : W) (h342 : HW) (c343 : Nat) =>
q_share _ (fun (v345 : W) (h346 : HW) (c347 : Nat) =>
q_pickW v339 v345 ⟨8, 0, r0, []⟩ fun v348 =>
q_share _ (fun (v350 : W) (h351 : HW) (c352 : Nat) =>
q_share _ (fun (v354 : W) (h355 : HW) (c356 : Nat) =>
q_share _ (fun (v358 : W) (h359 : HW) (c360 : Nat) =>
q_pickW v348 v358 ⟨8, 0, r0, []⟩ fun v361 =>
q_share _ (fun (v363 : W) (h364 : HW) (c365 : Nat) =>
q_share _ (fun (v367 : W) (h368 : HW) (c369 : Nat) =>
q_pickW v361 v367 ⟨8, 0, r0, []⟩ fun v370 =>
q_share _ (fun (v372 : W) (h373 : HW) (c374 : Nat) =>
q_share _ (fun (v376 : W) (h377 : HW) (c378 : Nat) =>
q_pickW v370 v376 ⟨8, 0, r0, []⟩ fun v379 =>
q_share _ (fun (v381 : W) (h382 : HW) (c383 : Nat) =>
q_share _ (fun (v385 : W) (h386 : HW) (c387 : Nat) =>
q_pickW v379 v385 ⟨8, 0, r0, []⟩ fun v388 =>
q_share _ (fun (v390 : W) (h391 : HW) (c392 : Nat) =>
q_share _ (fun (v394 : W) (h395 : HW) (c396 : Nat) =>
q_share _ (fun (v398 : W) (h399 : HW) (c400 : Nat) =>
q_share _ (fun (v402 : W) (h403 : HW) (c404 : Nat) =>
q_share _ (fun (v406 : W) (h407 : HW) (c408 : Nat) =>
q_share _ (fun (v410 : W) (h411 : HW) (c412 : Nat) =>
q_pickW v388 v410 ⟨8, 0, r0, []⟩ fun v413 =>
q_killVW v31 h411 fun h414 =>
K v413 h414 c412) fun f409 =>
q_guardW true v388 (q_cmpW (cmpF2 .eql) 3 (binC Try.prog .eql 26 (.tmp 228) (.const (.int .i64 (.ofNat 4))) (dec v406) (dec ⟨3, 4, r0, []⟩)) v406 ⟨3, 4, r0, []⟩ fun v415 =>
f409 v415 h407 c408) (f409 wUnd h407 c408)) fun f405 =>
q_guardW true v388 (call 8 [v390, v402] h403 c404 fun v416 h417 c418 =>
f405 v416 h417 c418) (f405 wUnd h403 c404)) fun f401 =>
q_guardW true v388 (q_flatW ⟨4, 2, r0, []⟩ (
q_flatW v398 (
(fun (v419 : W) =>
f401 v419 h399 c400) ⟨15, 0, r0, [⟨4, 2, r0, []⟩, ⟨4, 0, r0, []⟩, ⟨8, 0, r0, []⟩, v398]⟩))) (f401 wUnd h399 c400)) fun f397 =>
q_guardW true v388 (q_genW (sliceM tys ⟨[], 0, decH h395, 0⟩ 9 (dec v394) none (some (dec ⟨3, 15, r0, []⟩)) none) fun v420 =>
f397 v420 h395 c396) (f397 wUnd h395 c396)) fun f393 =>
q_guardW true v388 (f393 v222 h391 c392) (f393 wUnd h391 c392)) fun f389 =>
q_guardW true v388 (f389 v132 h386 c387) (f389 wUnd h386 c387)) fun f384 =>
q_guardW true v379 (q_cmpW (cmpF2 .eql) 3 (binC Try.prog .eql 26 (.tmp 220) (.const (.int .i64 (.ofNat 4))) (dec v381) (dec ⟨3, 4, r0, []⟩)) v381 ⟨3, 4, r0, []⟩ fun v421 =>
f384 v421 h382 c383) (f384 wUnd h382 c383)) fun f380 =>
q_guardW true v379 (f380 v300 h377 c378) (f380 wUnd h377 c378)) fun f375 =>
q_guardW true v370 (q_cmpW (cmpF2 .eql) 3 (binC Try.prog .eql 26 (.tmp 216) (.const (.int .i64 (.ofNat 4))) (dec v372) (dec ⟨3, 4, r0, []⟩)) v372 ⟨3, 4, r0, []⟩ fun v422 =>
f375 v422 h373 c374) (f375 wUnd h373 c374)) fun f371 =>
q_guardW true v370 (f371 v290 h368 c369) (f371 wUnd h368 c369)) fun f366 =>
q_guardW true v361 (q_cmpW (cmpF2 .eql) 3 (binC Try.prog .eql 26 (.tmp 212) (.const (.int .i64 (.ofNat 1))) (dec v363) (dec ⟨3, 1, r0, []⟩)) v363 ⟨3, 1, r0, []⟩ fun v423 =>
f366 v423 h364 c365) (f366 wUnd h364 c365)) fun f362 =>
q_guardW true v361 (f362 v280 h359 c360) (f362 wUnd h359 c360)) fun f357 =>
q_guardW true v348 (q_cmpW (cmpF2 .eql) 3 (binC Try.prog .eql 3 (.tmp 208) (.const (.int .i64 (.ofNat 0))) (dec v354) (dec ⟨3, 0, r0, []⟩)) v354 ⟨3, 0, r0, []⟩ fun v424 =>
f357 v424 h355 c356) (f357 wUnd h355 c356)) fun f353 =>
q_guardW true v348 (q_lenW (lenC tys 25 (dec v350)) v350 fun v425 =>
f353 v425 h351 c352) (f353 wUnd h351 c352)) fun f349 =>
q_guardW true v348 (f349 v271 h346 c347) (f349 wUnd h346 c347)) fun f344 =>
q_guardW true v339 (q_cmpW (cmpF2 .eql) 3 (binC Try.prog .eql 26 (.tmp 203) (.const (.int .i64 (.ofNat 0))) (dec v341) (dec ⟨3, 0, r0, []⟩)) v341 ⟨3, 0, r0, []⟩ fun v426 =>
f344 v426 h342 c343) (f344 wUnd h342 c343)) fun f340 =>
q_guardW true v339 (f340 v273 h337 c338) (f340 wUnd h337 c338)) fun f335 =>
q_guardW true v326 (q_cmpW (cmpF2 .eql) 3 (binC Try.prog .eql 3 (.tmp 199) (.const (.int .i64 (.ofNat 128))) (dec v332) (dec ⟨3, 128, r0, []⟩)) v332 ⟨3, 128, r0, []⟩ fun v427 =>
f335 v427 h333 c334) (f335 wUnd h333 c334)) fun f331 =>
q_guardW true v326 (q_lenW (lenC tys 25 (dec v328)) v328 fun v428 =>
f331 v428 h329 c330) (f331 wUnd h329 c330)) fun f327 =>
q_guardW true v326 (f327 v264 h324 c325) (f327 wUnd h324 c325)) fun f322 =>
q_guardW true v317 (q_cmpW (cmpF2 .eql) 3 (binC Try.prog .eql 26 (.tmp 194) (.const (.int .i64 (.ofNat 0))) (dec v319) (dec ⟨3, 0, r0, []⟩)) v319 ⟨3, 0, r0, []⟩ fun v429 =>
f322 v429 h320 c321) (f322 wUnd h320 c321)) fun f318 =>
q_guardW true v317 (f318 v266 h315 c316) (f318 wUnd h315 c316)) fun f313 =>
q_guardW true v304 (q_cmpW (cmpF2 .eql) 3 (binC Try.prog .eql 3 (.tmp 190) (.const (.int .i64 (.ofNat 4096))) (dec v310) (dec ⟨3, 4096, r0, []⟩)) v310 ⟨3, 4096, r0, []⟩ fun v430 =>
f313 v430 h311 c312) (f313 wUnd h311 c312)) fun f309 =>
q_guardW true v304 (call 9 [v306] h307 c308 fun v431 h432 c433 =>
f309 v431 h432 c433) (f309 wUnd h307 c308)) fun f305 =>
q_guardW true v304 (f305 v132 h302 c303) (f305 wUnd h302 c303)) ⟨15, 0, r0, [⟨4, 1, r0, []⟩, ⟨4, 0, r0, []⟩, ⟨8, 1, r0, []⟩, ⟨12, 0, ⟨0, 0, 0, .str ⟨⟨[]⟩⟩⟩, []⟩]⟩))) ⟨15, 0, r0, [⟨4, 1, r0, []⟩, ⟨4, 0, r0, []⟩, ⟨8, 0, r0, []⟩, v222]⟩)))) fu ⟨3, 1, r0, []⟩ h245 c246)) fun f243 =>
q_guardW false v226 (q_cmpW (cmpF2 .neq) 3 (binC Try.prog .neq 26 (.tmp 145) (.const (.int .i64 (.ofNat 0))) (dec v240) (dec ⟨3, 0, r0, []⟩)) v240 ⟨3, 0, r0, []⟩ fun v434 =>
f243 v434 h241 c242) (f243 wUnd h241 c242)) fun f239 =>
q_guardW false v226 (call 7 [v228, v236] h237 c238 fun v435 h436 c437 =>
f239 v435 h436 c437) (f239 wUnd h237 c238)) fun f235 =>
q_guardW false v226 (q_genW (sliceM tys ⟨[], 0, decH h233, 0⟩ 9 (dec v232) none (some (dec ⟨3, 240, r0, []⟩)) none) fun v438 =>
f235 v438 h233 c234) (f235 wUnd h233 c234)) fun f231 =>
q_guardW false v226 (f231 v222 h229 c230) (f231 wUnd h229 c230)) fun f227 =>
q_guardW false v226 (f227 v132 h224 c225) (f227 wUnd h224 c225))) fun f213 =>
q_guardW false v208 (q_genW (binC Try.prog .eql 24 (.tmp 132) (.const (.pointer none)) (dec v210) (dec ⟨12, 0, ⟨0, 0, 0, .nilp⟩, []⟩)) fun v439 =>
f213 v439 h211 c212) (f213 wUnd h211 c212)) fun f209 =>
q_guardW false v208 (f209 v160 h206 c207) (f209 wUnd h206 c207)) fun f204 =>
q_guardW false v199 (q_genW (binC Try.prog .eql 23 (.tmp 128) (.const (.pointer none)) (dec v201) (dec ⟨12, 0, ⟨0, 0, 0, .nilp⟩, []⟩)) fun v440 =>
f204 v440 h202 c203) (f204 wUnd h202 c203)) fun f200 =>
q_guardW false v199 (f200 v132 h197 c198) (f200 wUnd h197 c198)) fun f195 =>
q_guardW false v190 (q_cmpW (cmpF2 .neq) 3 (binC Try.prog .neq 26 (.tmp 124) (.const (.int .i64 (.ofNat 0))) (dec v192) (dec ⟨3, 0, r0, []⟩)) v192 ⟨3, 0, r0, []⟩ fun v441 =>
f195 v441 h193 c194) (f195 wUnd h193 c194)) fun f191 =>
q_guardW false v190 (f191 v162 h188 c189) (f191 wUnd h188 c189)) fun f186 =>
q_guardW false v181 (q_cmpW (cmpF2 .neq) 3 (binC Try.prog .neq 26 (.tmp 120) (.const (.int .i64 (.ofNat 1))) (dec v183) (dec ⟨3, 1, r0, []⟩)) v183 ⟨3, 1, r0, []⟩ fun v442 =>
f186 v442 h184 c185) (f186 wUnd h184 c185)) fun f182 =>
q_guardW false v181 (f182 v155 h179 c180) (f182 wUnd h179 c180)) fun f177 =>
q_guardW false v172 (q_cmpW (cmpF2 .neq) 3 (binC Try.prog .neq 26 (.tmp 116) (.const (.int .i64 (.ofNat 1))) (dec v174) (dec ⟨3, 1, r0, []⟩)) v174 ⟨3, 1, r0, []⟩ fun v443 =>
f177 v443 h175 c176) (f177 wUnd h175 c176)) fun f173 =>
q_guardW false v172 (f173 v148 h170 c171) (f173 wUnd h170 c171)) fun f168 =>
q_guardW false v163 (q_cmpW (cmpF2 .neq) 3 (binC Try.prog .neq 26 (.tmp 112) (.const (.int .i64 (.ofNat 1))) (dec v165) (dec ⟨3, 1, r0, []⟩)) v165 ⟨3, 1, r0, []⟩ fun v444 =>
f168 v444 h166 c167) (f168 wUnd h166 c167)) fun f164 =>
q_guardW false v163 (f164 v141 h157 c158) (f164 wUnd h157 c158))) fun f122 =>
q_guardW false v113 (q_cmpW (cmpF2 .neq) 3 (binC Try.prog .neq 3 (.tmp 86) (.const (.int .i64 (.ofNat 0))) (dec v119) (dec ⟨3, 0, r0, []⟩)) v119 ⟨3, 0, r0, []⟩ fun v445 =>
f122 v445 h120 c121) (f122 wUnd h120 c121)) fun f118 =>
q_guardW false v113 (call 10 [v115] h116 c117 fun v446 h447 c448 =>
f118 v446 h447 c448) (f118 wUnd h116 c117)) fun f114 =>
q_guardW false v113 (f114 ⟨12, 0, ⟨0, 0, 0, .nilp⟩, []⟩ h111 c112) (f114 wUnd h111 c112)) fun f109 =>
q_guardW false v100 (q_cmpW (cmpF2 .neq) 3 (binC Try.prog .neq 3 (.tmp 81) (.const (.int .i64 (.ofNat 0))) (dec v106) (dec ⟨3, 0, r0, []⟩)) v106 ⟨3, 0, r0, []⟩ fun v449 =>
f109 v449 h107 c108) (f109 wUnd h107 c108)) fun f105 =>
q_guardW false v100 (call 9 [v102] h103 c104 fun v450 h451 c452 =>
f105 v450 h451 c452) (f105 wUnd h103 c104)) fun f101 =>
q_guardW false v100 (f101 ⟨12, 0, ⟨0, 0, 0, .nilp⟩, []⟩ h98 c99) (f101 wUnd h98 c99)) fun f96 =>
q_guardW false v83 (q_cmpW (cmpF2 .neq) 3 (binC Try.prog .neq 26 (.tmp 76) (.const (.int .i64 (.ofNat 2))) (dec v93) (dec ⟨3, 2, r0, []⟩)) v93 ⟨3, 2, r0, []⟩ fun v453 =>
f96 v453 h94 c95) (f96 wUnd h94 c95)) fun f92 =>
q_guardW false v83 (call 8 [v85, v89] h90 c91 fun v454 h455 c456 =>
f92 v454 h455 c456) (f92 wUnd h90 c91)) fun f88 =>
q_guardW false v83 ((fun (v457 : W) =>
f88 v457 h86 c87) ⟨15, 0, r0, [⟨4, 0, r0, []⟩, ⟨4, 0, r0, []⟩, ⟨8, 0, r0, []⟩, ⟨12, 0, ⟨0, 0, 0, .str ⟨⟨[]⟩⟩⟩, []⟩]⟩) (f88 wUnd h86 c87)) fun f84 =>
q_guardW false v83 (f84 ⟨12, 0, ⟨0, 0, 0, .nilp⟩, []⟩ h81 c82) (f84 wUnd h81 c82)) fun f79 =>
q_guardW false v70 (q_cmpW (cmpF2 .neq) 3 (binC Try.prog .neq 26 (.tmp 70) (.const (.int .i64 (.ofNat 2))) (dec v76) (dec ⟨3, 2, r0, []⟩)) v76 ⟨3, 2, r0, []⟩ fun v458 =>
f79 v458 h77 c78) (f79 wUnd h77 c78)) fun f75 =>
q_guardW false v70 (call 7 [v72, ⟨12, 0, ⟨0, 0, 0, .str ⟨⟨[]⟩⟩⟩, []⟩] h73 c74 fun v459 h460 c461 =>
f75 v459 h460 c461) (f75 wUnd h73 c74)) fun f71 =>
q_guardW false v70 (f71 ⟨12, 0, ⟨0, 0, 0, .nilp⟩, []⟩ h68 c69) (f71 wUnd h68 c69)) fun f66 =>
q_guardW false v57 (q_cmpW (cmpF2 .neq) 4 (binC Try.prog .neq 5 (.tmp 65) (.const (.int .u8 (.ofNat 0))) (dec v63) (dec ⟨4, 0, r0, []⟩)) v63 ⟨4, 0, r0, []⟩ fun v462 =>
f66 v462 h64 c65) (f66 wUnd h64 c65)) fun f62 =>
q_guardW false v57 (q_loadSW h60 v59 fun v463 =>
f62 v463 h60 c61) (f62 wUnd h60 c61)) fun f58 =>
q_guardW false v57 (q_fadW 0 v31 fun v464 =>
f58 v464 h55 c56) (f58 wUnd h55 c56)) fun f53 =>
q_guardW false v44 (q_cmpW (cmpF2 .neq) 3 (binC Try.prog .neq 3 (.tmp 60) (.const (.int .i64 (.ofNat 0))) (dec v50) (dec ⟨3, 0, r0, []⟩)) v50 ⟨3, 0, r0, []⟩ fun v465 =>
f53 v465 h51 c52) (f53 wUnd h51 c52)) fun f49 =>
q_guardW false v44 (q_lenW (lenC tys 29 (dec v46)) v46 fun v466 =>
f49 v466 h47 c48) (f49 wUnd h47 c48)) fun f45 =>
q_guardW false v44 (f45 v26 h42 c43) (f45 wUnd h42 c43)) fun f40 =>
q_guardW false v35 (q_cmpW (cmpF2 .neq) 3 (binC Try.prog .neq 26 (.tmp 55) (.const (.int .i64 (.ofNat 2))) (dec v37) (dec ⟨3, 2, r0, []⟩)) v37 ⟨3, 2, r0, []⟩ fun v467 =>
f40 v467 h38 c39) (f40 wUnd h38 c39)) fun f36 =>
q_guardW false v35 (f36 v30 h34 c33) (f36 wUnd h34 c33)) ⟨15, 0, r0, [⟨4, 0, r0, []⟩, ⟨4, 0, r0, []⟩, ⟨8, 0, r0, []⟩, ⟨12, 0, ⟨0, 0, 0, .str ⟨⟨[]⟩⟩⟩, []⟩]⟩)
theorem R3_eq (Q : PrimW) (fu : Nat) (call : CallW) : curryA 0 (fnK Q Try.prog tys stl fu call e3) = R3 Q.share Q.genW Q.addW Q.cmpW Q.notW Q.condW Q.guardW Q.pickW Q.fadW Q.lenW Q.tupW Q.nthW Q.killVW Q.loadSW Q.storeAW Q.makeSW Q.allocW Q.flatW fu call := by kernel_rfl
noncomputable def n3 : List W → HW → Nat → KW → Bool := appF 0 (R3 (fun _ x f => f x) genW addW cmpW notW condW guardW pickW fadW lenW tupW nthW killVW loadSW storeAW makeSW allocW flatW 1000000 d5.fn)
theorem n3_ok : FnGood Try.prog tys stl tab 3 n3 := node_ok d5_ok (by kernel_rfl) rfl g3 (R3_eq real _ _)
noncomputable def d6 : Disp := (.node 15 n15 (.node 9 n9 (.node 6 n6 (.node 4 n4 (.node 3 n3 .leaf .leaf) (.node 5 n5 .leaf .leaf)) (.node 8 n8 (.node 7 n7 .leaf .leaf) .leaf)) (.node 12 n12 (.node 11 n11 (.node 10 n10 .leaf .leaf) .leaf) (.node 14 n14 (.node 13 n13 .leaf .leaf) .leaf))) (.node 21 n21 (.node 18 n18 (.node 17 n17 (.node 16 n16 .leaf .leaf) .leaf) (.node 20 n20 (.node 19 n19 .leaf .leaf) .leaf)) (.node 24 n24 (.node 23 n23 (.node 22 n22 .leaf .leaf) .leaf) (.node 26 n26 (.node 25 n25 .leaf .leaf) .leaf))))
theorem d6_ok : CallSim Try.prog tys stl tab d6.fn := Disp.sim ⟨n15_ok, ⟨n9_ok, ⟨n6_ok, ⟨n4_ok, ⟨n3_ok, True.intro, True.intro⟩, ⟨n5_ok, True.intro, True.intro⟩⟩, ⟨n8_ok, ⟨n7_ok, True.intro, True.intro⟩, True.intro⟩⟩, ⟨n12_ok, ⟨n11_ok, ⟨n10_ok, True.intro, True.intro⟩, True.intro⟩, ⟨n14_ok, ⟨n13_ok, True.intro, True.intro⟩, True.intro⟩⟩⟩, ⟨n21_ok, ⟨n18_ok, ⟨n17_ok, ⟨n16_ok, True.intro, True.intro⟩, True.intro⟩, ⟨n20_ok, ⟨n19_ok, True.intro, True.intro⟩, True.intro⟩⟩, ⟨n24_ok, ⟨n23_ok, ⟨n22_ok, True.intro, True.intro⟩, True.intro⟩, ⟨n26_ok, ⟨n25_ok, True.intro, True.intro⟩, True.intro⟩⟩⟩⟩
noncomputable abbrev dT : Disp := d6
theorem dT_ok : CallSim Try.prog tys stl tab dT.fn := d6_ok

set_option maxHeartbeats 0 in
theorem run3 : lawK dT.fn 3 = true := by kernel_rfl
namespace againNames
open Go.ChangeShapes Go.WideShapes Go.ChangeAt Go.RowKit
theorem own : ownKnob Try.prog.godebug = none := by kernel_rfl
theorem laid : laidOutB Try.prog = true := by kernel_rfl
theorem lifted (os : Os) (started : os.Started) (H : Type) (enc : TypeId × Value → H) :
    ReturnsInHanded {} Try.checked os 3 .any (Rows.againNamesSpec.pre6 enc Try.prog Try.f3 Rows.againNamesRow.domain false) (Rows.againNamesSpec.post enc Try.prog Try.f3 false true false false) := by
  refine returnsInHanded_of_change (C := Try.checked) own started (by kernel_rfl) Try.func3
    (ChangeSpec.witness6 (enc := enc) (C := Try.checked) false ⟨#[], #[], []⟩ 8 (by kernel_rfl) (by kernel_rfl) (by kernel_rfl) (by kernel_rfl)) ?_
  intro W base args ds gs before hval0 hW hcnd _
  have hW' := hW
  obtain ⟨p, q, hA0, hV, rfl, hfz, hnd⟩ := hW
  have hA : DataW.TrodAll enc Try.prog W 0 (fun _ => true) true Try.f3.params.toList args.toList ds p := hA0
  rw [Try.params3] at hA
  obtain ⟨hargs, rfl, rfl⟩ := trodAll_nil hA
  obtain rfl : args = #[] := by cases args; simp_all
  obtain ⟨rfl, rfl⟩ := trodVars_none hV
  clear hA0 hval0
  refine (lawK_true tok mixed fok dT_ok (by kernel_rfl : tab 3 = some e3) rfl run3 W).mono fun e W' ⟨he, hg⟩ => ?_
  subst he
  exact ⟨_, rfl, law_done laid rfl rfl Try.underlying4 (by kernel_rfl) hW' rfl hg⟩

theorem over : Rows.againNamesRow.holds Try.pinned (OpenSpec.ofChange Rows.againNamesSpec) :=
  OpenClaim.holds_of_wide 3 Try.f3 rfl rfl rfl rfl rfl rfl rfl ⟨rfl, rfl, rfl, rfl, rfl⟩ rfl rfl rfl rfl rfl (by kernel_rfl) Try.func3 (by kernel_rfl)
    (of_decide_eq_true (by kernel_rfl)) (by unfold Func.isWrapper; first | (rw [if_pos (by decide +kernel)]; kernel_rfl) | (rw [if_neg (by decide +kernel)]; exact ⟨rfl, rfl⟩))
    (fun os started H enc _ => lifted os started H enc)

theorem proved : Rows.AgainNamesSaid := over
end againNames
end Go.Proofs.Ytnnehaigncjeaaa
