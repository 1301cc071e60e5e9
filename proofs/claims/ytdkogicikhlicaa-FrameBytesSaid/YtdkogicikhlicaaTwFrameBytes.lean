/-
  The functions that the run goes through, as tables, and the run of a function without arguments. No condition.
-/
import Derived.Test.YtdkogicikhlicaaRows
import Derived.Test.YtdkogicikhlicaaGx
set_option linter.unusedVariables false
set_option maxRecDepth 1000000
namespace Go.Proofs.Ytdkogicikhlicaa
open Go Go.Fw
def tys : List (Nat × TyI) := [
  (1, ⟨.func, 1, 8, .nilFunc⟩),
  (2, ⟨.int .i64, 1, 8, .int .i64 0⟩),
  (3, ⟨.int .i64, 1, 8, .int .i64 0⟩),
  (4, ⟨.bool, 1, 1, .bool false⟩),
  (5, ⟨.int .u8, 1, 1, .int .u8 0⟩),
  (9, ⟨.str, 1, 16, .string (ByteArray.mk #[])⟩),
  (12, ⟨.int .u64, 1, 8, .int .u64 0⟩),
  (21, ⟨.int .i32, 1, 4, .int .i32 0⟩),
  (22, ⟨.struct [(0, 5), (1, 5), (2, 4), (3, 9)], 4, 24, .agg #[.int .u8 0, .int .u8 0, .bool false, .string (ByteArray.mk #[])]⟩),
  (23, ⟨.struct [(0, 5), (1, 5), (2, 4), (3, 9)], 4, 24, .agg #[.int .u8 0, .int .u8 0, .bool false, .string (ByteArray.mk #[])]⟩),
  (24, ⟨.int .i64, 1, 8, .int .i64 0⟩),
  (26, ⟨.func, 1, 8, .nilFunc⟩),
  (28, ⟨.func, 1, 8, .nilFunc⟩),
  (29, ⟨.func, 1, 8, .nilFunc⟩),
  (30, ⟨.func, 1, 8, .nilFunc⟩),
  (31, ⟨.slice 37, 1, 24, .slice none 0 0⟩),
  (32, ⟨.func, 1, 8, .nilFunc⟩),
  (33, ⟨.func, 1, 8, .nilFunc⟩),
  (34, ⟨.func, 1, 8, .nilFunc⟩),
  (35, ⟨.func, 1, 8, .nilFunc⟩),
  (36, ⟨.struct [(0, 3), (1, 23)], 5, 32, .agg #[.int .i64 0, .int .u8 0, .int .u8 0, .bool false, .string (ByteArray.mk #[])]⟩),
  (37, ⟨.struct [(0, 3), (1, 23)], 5, 32, .agg #[.int .i64 0, .int .u8 0, .int .u8 0, .bool false, .string (ByteArray.mk #[])]⟩),
  (38, ⟨.func, 1, 8, .nilFunc⟩),
  (39, ⟨.slice 23, 1, 24, .slice none 0 0⟩),
  (41, ⟨.func, 1, 8, .nilFunc⟩),
  (42, ⟨.func, 1, 8, .nilFunc⟩),
  (43, ⟨.func, 1, 8, .nilFunc⟩),
  (44, ⟨.func, 1, 8, .nilFunc⟩),
  (45, ⟨.func, 1, 8, .nilFunc⟩),
  (46, ⟨.slice 3, 1, 24, .slice none 0 0⟩),
  (47, ⟨.func, 1, 8, .nilFunc⟩),
  (48, ⟨.func, 1, 8, .nilFunc⟩),
  (49, ⟨.int .u64, 1, 8, .int .u64 0⟩),
  (50, ⟨.func, 1, 8, .nilFunc⟩),
  (51, ⟨.int .u32, 1, 4, .int .u32 0⟩),
  (52, ⟨.slice 5, 1, 24, .slice none 0 0⟩),
  (53, ⟨.func, 1, 8, .nilFunc⟩),
  (54, ⟨.func, 1, 8, .nilFunc⟩),
  (55, ⟨.array 5 5, 5, 5, .agg #[.int .u8 0, .int .u8 0, .int .u8 0, .int .u8 0, .int .u8 0]⟩),
  (56, ⟨.array 5 5, 5, 5, .agg #[.int .u8 0, .int .u8 0, .int .u8 0, .int .u8 0, .int .u8 0]⟩),
  (57, ⟨.func, 1, 8, .nilFunc⟩),
  (58, ⟨.func, 1, 8, .nilFunc⟩),
  (59, ⟨.int .u64, 1, 8, .int .u64 0⟩),
  (60, ⟨.func, 1, 8, .nilFunc⟩),
  (62, ⟨.func, 1, 8, .nilFunc⟩),
  (64, ⟨.func, 1, 8, .nilFunc⟩),
  (65, ⟨.func, 1, 8, .nilFunc⟩),
  (66, ⟨.func, 1, 8, .nilFunc⟩),
  (67, ⟨.func, 1, 8, .nilFunc⟩),
  (68, ⟨.int .u16, 1, 2, .int .u16 0⟩),
  (69, ⟨.func, 1, 8, .nilFunc⟩),
  (70, ⟨.func, 1, 8, .nilFunc⟩),
  (71, ⟨.func, 1, 8, .nilFunc⟩),
  (72, ⟨.func, 1, 8, .nilFunc⟩),
  (73, ⟨.func, 1, 8, .nilFunc⟩),
  (74, ⟨.func, 1, 8, .nilFunc⟩),
  (75, ⟨.func, 1, 8, .nilFunc⟩),
  (76, ⟨.func, 1, 8, .nilFunc⟩),
  (82, ⟨.func, 1, 8, .nilFunc⟩),
  (85, ⟨.func, 1, 8, .nilFunc⟩),
  (86, ⟨.ptr 5, 1, 8, .pointer none⟩)]


theorem tok : TOk Try.prog tys := tok_of ⟨⟨by kernel_rfl, by kernel_rfl⟩, ⟨by kernel_rfl, by kernel_rfl⟩, ⟨by kernel_rfl, by kernel_rfl⟩, ⟨by kernel_rfl, by kernel_rfl⟩, ⟨by kernel_rfl, by kernel_rfl⟩, ⟨by kernel_rfl, by kernel_rfl⟩, ⟨by kernel_rfl, by kernel_rfl⟩, ⟨by kernel_rfl, by kernel_rfl⟩, ⟨by kernel_rfl, by kernel_rfl⟩, ⟨by kernel_rfl, by kernel_rfl⟩, ⟨by kernel_rfl, by kernel_rfl⟩, ⟨by kernel_rfl, by kernel_rfl⟩, ⟨by kernel_rfl, by kernel_rfl⟩, ⟨by kernel_rfl, by kernel_rfl⟩, ⟨by kernel_rfl, by kernel_rfl⟩, ⟨by kernel_rfl, by kernel_rfl⟩, ⟨by kernel_rfl, by kernel_rfl⟩, ⟨by kernel_rfl, by kernel_rfl⟩, ⟨by kernel_rfl, by kernel_rfl⟩, ⟨by kernel_rfl, by kernel_rfl⟩, ⟨by kernel_rfl, by kernel_rfl⟩, ⟨by kernel_rfl, by kernel_rfl⟩, ⟨by kernel_rfl, by kernel_rfl⟩, ⟨by kernel_rfl, by kernel_rfl⟩, ⟨by kernel_rfl, by kernel_rfl⟩, ⟨by kernel_rfl, by kernel_rfl⟩, ⟨by kernel_rfl, by kernel_rfl⟩, ⟨by kernel_rfl, by kernel_rfl⟩, ⟨by kernel_rfl, by kernel_rfl⟩, ⟨by kernel_rfl, by kernel_rfl⟩, ⟨by kernel_rfl, by kernel_rfl⟩, ⟨by kernel_rfl, by kernel_rfl⟩, ⟨by kernel_rfl, by kernel_rfl⟩, ⟨by kernel_rfl, by kernel_rfl⟩, ⟨by kernel_rfl, by kernel_rfl⟩, ⟨by kernel_rfl, by kernel_rfl⟩, ⟨by kernel_rfl, by kernel_rfl⟩, ⟨by kernel_rfl, by kernel_rfl⟩, ⟨by kernel_rfl, by kernel_rfl⟩, ⟨by kernel_rfl, by kernel_rfl⟩, ⟨by kernel_rfl, by kernel_rfl⟩, ⟨by kernel_rfl, by kernel_rfl⟩, ⟨by kernel_rfl, by kernel_rfl⟩, ⟨by kernel_rfl, by kernel_rfl⟩, ⟨by kernel_rfl, by kernel_rfl⟩, ⟨by kernel_rfl, by kernel_rfl⟩, ⟨by kernel_rfl, by kernel_rfl⟩, ⟨by kernel_rfl, by kernel_rfl⟩, ⟨by kernel_rfl, by kernel_rfl⟩, ⟨by kernel_rfl, by kernel_rfl⟩, ⟨by kernel_rfl, by kernel_rfl⟩, ⟨by kernel_rfl, by kernel_rfl⟩, ⟨by kernel_rfl, by kernel_rfl⟩, ⟨by kernel_rfl, by kernel_rfl⟩, ⟨by kernel_rfl, by kernel_rfl⟩, ⟨by kernel_rfl, by kernel_rfl⟩, ⟨by kernel_rfl, by kernel_rfl⟩, ⟨by kernel_rfl, by kernel_rfl⟩, ⟨by kernel_rfl, by kernel_rfl⟩, ⟨by kernel_rfl, by kernel_rfl⟩, ⟨by kernel_rfl, by kernel_rfl⟩, True.intro⟩
theorem mixed : Try.prog.follows .mixedOrders = true := by kernel_rfl
def inL : List Nat → Nat → Bool
  | [], _ => false
  | a :: r, n => match Nat.beq a n with | true => true | false => inL r n
def stl : Nat → Bool := inL [37, 38, 39, 40, 41]
/- 9: foghorn/frame.Pack -/
def p9 : Nat → Option PlanC := fun
  | 4 => some (.op 2 false (.op 3 false (.op 0 false (.op 1 false (.op 4 false (.chk [1, 0] (.op 5 false (.op 6 false (.op 7 false (.done))))))))))
  | _ => none
def wl9 : Nat → List Nat := fun _ => []
def wj9 : Nat → Option (List Nat) := fun _ => none
def kr9 : Nat → List Nat := fun _ => []
noncomputable def e9 : Ent := entOf Try.f9 ⟨p9, wl9, wj9, kr9, [1]⟩
theorem g9 : EntOk Try.prog tys stl 9 e9 := .inr ⟨rfl, Try.func9, by kernel_rfl, by kernel_rfl, by kernel_rfl, by kernel_rfl, by kernel_rfl, rfl⟩
/- 11: foghorn/frame.Parse -/
def p11 : Nat → Option PlanC := fun _ => none
def wl11 : Nat → List Nat := fun _ => []
def wj11 : Nat → Option (List Nat) := fun _ => none
def kr11 : Nat → List Nat := fun _ => []
noncomputable def e11 : Ent := entOf Try.f11 ⟨p11, wl11, wj11, kr11, []⟩
theorem g11 : EntOk Try.prog tys stl 11 e11 := .inr ⟨rfl, Try.func11, by kernel_rfl, by kernel_rfl, by kernel_rfl, by kernel_rfl, by kernel_rfl, rfl⟩
/- 15: foghorn/frame.Scan -/
def p15 : Nat → Option PlanC := fun _ => none
def wl15 : Nat → List Nat := fun _ => []
def wj15 : Nat → Option (List Nat) := fun _ => none
def kr15 : Nat → List Nat := fun _ => []
noncomputable def e15 : Ent := entOf Try.f15 ⟨p15, wl15, wj15, kr15, []⟩
theorem g15 : EntOk Try.prog tys stl 15 e15 := .inr ⟨rfl, Try.func15, by kernel_rfl, by kernel_rfl, by kernel_rfl, by kernel_rfl, by kernel_rfl, rfl⟩
/- 16: foghorn/frame.Pieces -/
def p16 : Nat → Option PlanC := fun _ => none
def wl16 : Nat → List Nat := fun
  | 4 => [1, 2, 10]
  | _ => []
def wj16 : Nat → Option (List Nat) := fun _ => none
def kr16 : Nat → List Nat := fun
  | 6 => [44]
  | 8 => [53]
  | _ => []
noncomputable def e16 : Ent := entOf Try.f16 ⟨p16, wl16, wj16, kr16, []⟩
theorem g16 : EntOk Try.prog tys stl 16 e16 := .inr ⟨rfl, Try.func16, by kernel_rfl, by kernel_rfl, by kernel_rfl, by kernel_rfl, by kernel_rfl, rfl⟩
/- 19: foghorn/frame.Join -/
def p19 : Nat → Option PlanC := fun _ => none
def wl19 : Nat → List Nat := fun
  | 2 => [14]
  | 11 => [6, 27]
  | 21 => [9, 73]
  | _ => []
def wj19 : Nat → Option (List Nat) := fun _ => none
def kr19 : Nat → List Nat := fun _ => []
noncomputable def e19 : Ent := entOf Try.f19 ⟨p19, wl19, wj19, kr19, []⟩
theorem g19 : EntOk Try.prog tys stl 19 e19 := .inr ⟨rfl, Try.func19, by kernel_rfl, by kernel_rfl, by kernel_rfl, by kernel_rfl, by kernel_rfl, rfl⟩
/- 21: foghorn/foghornlaw25.works -/
def p21 : Nat → Option PlanC := fun _ => none
def wl21 : Nat → List Nat := fun _ => []
def wj21 : Nat → Option (List Nat) := fun _ => none
def kr21 : Nat → List Nat := fun _ => []
noncomputable def e21 : Ent := entOf Try.f21 ⟨p21, wl21, wj21, kr21, [3]⟩
theorem g21 : EntOk Try.prog tys stl 21 e21 := .inr ⟨rfl, Try.func21, by kernel_rfl, by kernel_rfl, by kernel_rfl, by kernel_rfl, by kernel_rfl, rfl⟩
/- 24: foghorn/frame.mayBe -/
def p24 : Nat → Option PlanC := fun _ => none
def wl24 : Nat → List Nat := fun _ => []
def wj24 : Nat → Option (List Nat) := fun _ => none
def kr24 : Nat → List Nat := fun _ => []
noncomputable def e24 : Ent := entOf Try.f24 ⟨p24, wl24, wj24, kr24, [1]⟩
theorem g24 : EntOk Try.prog tys stl 24 e24 := .inr ⟨rfl, Try.func24, by kernel_rfl, by kernel_rfl, by kernel_rfl, by kernel_rfl, by kernel_rfl, rfl⟩
/- 25: foghorn/frame.headOf -/
def p25 : Nat → Option PlanC := fun _ => none
def wl25 : Nat → List Nat := fun _ => []
def wj25 : Nat → Option (List Nat) := fun
  | 4 => some []
  | _ => none
def kr25 : Nat → List Nat := fun _ => []
noncomputable def e25 : Ent := entOf Try.f25 ⟨p25, wl25, wj25, kr25, [1, 3]⟩
theorem g25 : EntOk Try.prog tys stl 25 e25 := .inr ⟨rfl, Try.func25, by kernel_rfl, by kernel_rfl, by kernel_rfl, by kernel_rfl, by kernel_rfl, rfl⟩
/- 26: foghorn/sums.Sealed -/
def p26 : Nat → Option PlanC := fun _ => none
def wl26 : Nat → List Nat := fun _ => []
def wj26 : Nat → Option (List Nat) := fun _ => none
def kr26 : Nat → List Nat := fun _ => []
noncomputable def e26 : Ent := entOf Try.f26 ⟨p26, wl26, wj26, kr26, []⟩
theorem g26 : EntOk Try.prog tys stl 26 e26 := .inr ⟨rfl, Try.func26, by kernel_rfl, by kernel_rfl, by kernel_rfl, by kernel_rfl, by kernel_rfl, rfl⟩
/- 29: (foghorn/frame.head).frame -/
def p29 : Nat → Option PlanC := fun
  | 3 => some (.op 1 false (.op 0 false (.op 2 false (.chk [0] (.op 3 false (.op 4 false (.op 5 false (.op 6 false (.op 7 false (.op 8 false (.op 9 false (.op 10 false (.op 11 false (.op 12 false (.op 13 false (.op 14 false (.op 15 false (.done))))))))))))))))))
  | _ => none
def wl29 : Nat → List Nat := fun _ => []
def wj29 : Nat → Option (List Nat) := fun _ => none
def kr29 : Nat → List Nat := fun _ => []
noncomputable def e29 : Ent := entOf Try.f29 ⟨p29, wl29, wj29, kr29, [1]⟩
theorem g29 : EntOk Try.prog tys stl 29 e29 := .inr ⟨rfl, Try.func29, by kernel_rfl, by kernel_rfl, by kernel_rfl, by kernel_rfl, by kernel_rfl, rfl⟩
/- 30: foghorn/sums.Opened -/
def p30 : Nat → Option PlanC := fun _ => none
def wl30 : Nat → List Nat := fun _ => []
def wj30 : Nat → Option (List Nat) := fun _ => none
def kr30 : Nat → List Nat := fun _ => []
noncomputable def e30 : Ent := entOf Try.f30 ⟨p30, wl30, wj30, kr30, []⟩
theorem g30 : EntOk Try.prog tys stl 30 e30 := .inr ⟨rfl, Try.func30, by kernel_rfl, by kernel_rfl, by kernel_rfl, by kernel_rfl, by kernel_rfl, rfl⟩
/- 31: foghorn/frame.Scan$1 -/
def p31 : Nat → Option PlanC := fun _ => none
def wl31 : Nat → List Nat := fun
  | 1 => [3]
  | _ => []
def wj31 : Nat → Option (List Nat) := fun _ => none
def kr31 : Nat → List Nat := fun _ => []
noncomputable def e31 : Ent := entOf Try.f31 ⟨p31, wl31, wj31, kr31, []⟩
theorem g31 : EntOk Try.prog tys stl 31 e31 := .inr ⟨rfl, Try.func31, by kernel_rfl, by kernel_rfl, by kernel_rfl, by kernel_rfl, by kernel_rfl, rfl⟩
/- 32: (foghorn/frame.head).summed -/
def p32 : Nat → Option PlanC := fun _ => none
def wl32 : Nat → List Nat := fun _ => []
def wj32 : Nat → Option (List Nat) := fun _ => none
def kr32 : Nat → List Nat := fun _ => []
noncomputable def e32 : Ent := entOf Try.f32 ⟨p32, wl32, wj32, kr32, []⟩
theorem g32 : EntOk Try.prog tys stl 32 e32 := .inr ⟨rfl, Try.func32, by kernel_rfl, by kernel_rfl, by kernel_rfl, by kernel_rfl, by kernel_rfl, rfl⟩
/- 33: foghorn/sums.Bytes32 -/
def p33 : Nat → Option PlanC := fun _ => none
def wl33 : Nat → List Nat := fun _ => []
def wj33 : Nat → Option (List Nat) := fun _ => none
def kr33 : Nat → List Nat := fun _ => []
noncomputable def e33 : Ent := entOf Try.f33 ⟨p33, wl33, wj33, kr33, []⟩
theorem g33 : EntOk Try.prog tys stl 33 e33 := .inr ⟨rfl, Try.func33, by kernel_rfl, by kernel_rfl, by kernel_rfl, by kernel_rfl, by kernel_rfl, rfl⟩
/- 34: foghorn/sums.Bytes16 -/
def p34 : Nat → Option PlanC := fun _ => none
def wl34 : Nat → List Nat := fun _ => []
def wj34 : Nat → Option (List Nat) := fun _ => none
def kr34 : Nat → List Nat := fun _ => []
noncomputable def e34 : Ent := entOf Try.f34 ⟨p34, wl34, wj34, kr34, []⟩
theorem g34 : EntOk Try.prog tys stl 34 e34 := .inr ⟨rfl, Try.func34, by kernel_rfl, by kernel_rfl, by kernel_rfl, by kernel_rfl, by kernel_rfl, rfl⟩
/- 35: foghorn/sums.ofBytes[uint32] -/
def p35 : Nat → Option PlanC := fun _ => none
def wl35 : Nat → List Nat := fun
  | 3 => [5, 12]
  | 6 => [5, 8]
  | _ => []
def wj35 : Nat → Option (List Nat) := fun _ => none
def kr35 : Nat → List Nat := fun _ => []
noncomputable def e35 : Ent := entOf Try.f35 ⟨p35, wl35, wj35, kr35, []⟩
theorem g35 : EntOk Try.prog tys stl 35 e35 := .inr ⟨rfl, Try.func35, by kernel_rfl, by kernel_rfl, by kernel_rfl, by kernel_rfl, by kernel_rfl, rfl⟩
/- 36: foghorn/sums.ofBytes[uint16] -/
def p36 : Nat → Option PlanC := fun _ => none
def wl36 : Nat → List Nat := fun
  | 3 => [5, 12]
  | 6 => [5, 8]
  | _ => []
def wj36 : Nat → Option (List Nat) := fun _ => none
def kr36 : Nat → List Nat := fun _ => []
noncomputable def e36 : Ent := entOf Try.f36 ⟨p36, wl36, wj36, kr36, []⟩
theorem g36 : EntOk Try.prog tys stl 36 e36 := .inr ⟨rfl, Try.func36, by kernel_rfl, by kernel_rfl, by kernel_rfl, by kernel_rfl, by kernel_rfl, rfl⟩
/- 37: foghorn/sums.next[uint32] -/
def p37 : Nat → Option PlanC := fun _ => none
def wl37 : Nat → List Nat := fun _ => []
def wj37 : Nat → Option (List Nat) := fun
  | 5 => some [0]
  | _ => none
def kr37 : Nat → List Nat := fun _ => []
noncomputable def e37 : Ent := entOf Try.f37 ⟨p37, wl37, wj37, kr37, []⟩
theorem g37 : EntOk Try.prog tys stl 37 e37 := .inr ⟨rfl, Try.func37, by kernel_rfl, by kernel_rfl, by kernel_rfl, by kernel_rfl, by kernel_rfl, rfl⟩
/- 38: foghorn/sums.next[uint16] -/
def p38 : Nat → Option PlanC := fun _ => none
def wl38 : Nat → List Nat := fun _ => []
def wj38 : Nat → Option (List Nat) := fun
  | 5 => some [0]
  | _ => none
def kr38 : Nat → List Nat := fun _ => []
noncomputable def e38 : Ent := entOf Try.f38 ⟨p38, wl38, wj38, kr38, []⟩
theorem g38 : EntOk Try.prog tys stl 38 e38 := .inr ⟨rfl, Try.func38, by kernel_rfl, by kernel_rfl, by kernel_rfl, by kernel_rfl, by kernel_rfl, rfl⟩
/- 39: foghorn/sums.wide[uint32] -/
def p39 : Nat → Option PlanC := fun _ => none
def wl39 : Nat → List Nat := fun _ => []
def wj39 : Nat → Option (List Nat) := fun _ => none
def kr39 : Nat → List Nat := fun _ => []
noncomputable def e39 : Ent := entOf Try.f39 ⟨p39, wl39, wj39, kr39, []⟩
theorem g39 : EntOk Try.prog tys stl 39 e39 := .inr ⟨rfl, Try.func39, by kernel_rfl, by kernel_rfl, by kernel_rfl, by kernel_rfl, by kernel_rfl, rfl⟩
/- 40: foghorn/sums.wide[uint16] -/
def p40 : Nat → Option PlanC := fun _ => none
def wl40 : Nat → List Nat := fun _ => []
def wj40 : Nat → Option (List Nat) := fun _ => none
def kr40 : Nat → List Nat := fun _ => []
noncomputable def e40 : Ent := entOf Try.f40 ⟨p40, wl40, wj40, kr40, []⟩
theorem g40 : EntOk Try.prog tys stl 40 e40 := .inr ⟨rfl, Try.func40, by kernel_rfl, by kernel_rfl, by kernel_rfl, by kernel_rfl, by kernel_rfl, rfl⟩
/- 41: math/bits.Len32 -/
def p41 : Nat → Option PlanC := fun _ => none
def wl41 : Nat → List Nat := fun _ => []
def wj41 : Nat → Option (List Nat) := fun
  | 4 => some [0, 2]
  | 7 => some [0, 2]
  | _ => none
def kr41 : Nat → List Nat := fun _ => []
noncomputable def e41 : Ent := entOf Try.f41 ⟨p41, wl41, wj41, kr41, []⟩
theorem g41 : EntOk Try.prog tys stl 41 e41 := .inr ⟨rfl, Try.func41, by kernel_rfl, by kernel_rfl, by kernel_rfl, by kernel_rfl, by kernel_rfl, rfl⟩
noncomputable def ents : List (Nat × Ent) := [(9, e9), (11, e11), (15, e15), (16, e16), (19, e19), (21, e21), (24, e24), (25, e25), (26, e26), (29, e29), (30, e30), (31, e31), (32, e32), (33, e33), (34, e34), (35, e35), (36, e36), (37, e37), (38, e38), (39, e39), (40, e40), (41, e41)]
theorem goods : EntsOk Try.prog tys stl ents := ⟨g9, g11, g15, g16, g19, g21, g24, g25, g26, g29, g30, g31, g32, g33, g34, g35, g36, g37, g38, g39, g40, g41, True.intro⟩
noncomputable def tab : Nat → Option Ent := (tabOf ents).get
theorem fok : FOk Try.prog tys stl tab := fok_of goods
noncomputable def d0 : Disp := .leaf
theorem d0_ok : CallSim Try.prog tys stl tab d0.fn := Disp.sim True.intro
/- foghorn/frame.Pack -/
noncomputable def R9 (q_genW : Option CV → (W → Bool) → Bool) (q_notW : Option CV → W → (W → Bool) → Bool) (q_condW : W → Bool → Bool → Bool) (q_fadW : Nat → W → (W → Bool) → Bool) (q_killVW : W → HW → (HW → Bool) → Bool) (q_loadSW : HW → W → (W → Bool) → Bool) (q_loadAW : Nat → HW → W → (W → Bool) → Bool) (q_storeAW : Nat → HW → W → W → (HW → Bool) → Bool) (q_allocW : Trie W → Nat → Bool → HW → Nat → KW → Bool) (q_boxW : HW → Nat → W → KW → Bool) (q_samQW : W → W → Bool → Bool) (fu : Nat) (call : CallW) (a0 : W) (h0 : HW) (c0 : Nat) (K : KW) : Bool :=
q_boxW h0 c0 a0 fun v1 h2 c3 =>
q_loadAW 4 h2 v1 fun v4 =>
call 24 [v4] h2 c3 fun v5 h6 c7 =>
q_notW (two Try.prog (dec v5) (Op.unary .not)) v5 fun v8 =>
q_condW v8 (
q_killVW v1 h6 fun h9 =>
K ⟨13, 0, r0, [⟨12, 0, ⟨0, 0, 0, .str ⟨⟨[]⟩⟩⟩, []⟩, ⟨3, 1, r0, []⟩]⟩ h9 c7) (
q_loadAW 4 h6 v1 fun v10 =>
call 25 [v10] h6 c7 fun v11 h12 c13 =>
q_allocW (allocT tys 56) 5 true h12 c13 fun v14 h15 c16 =>
q_storeAW 5 h15 v14 v11 fun h17 =>
q_fadW 3 v1 fun v18 =>
q_loadSW h17 v18 fun v19 =>
q_genW (sliceM tys ⟨[], 0, decH h17, 0⟩ 56 (dec v14) none none none) fun v20 =>
q_genW (convC Try.prog tys ⟨[], 0, decH h17, 0⟩ 52 9 (dec v20)) fun v21 =>
call 26 [v19] h17 c16 fun v22 h23 c24 =>
q_genW (convC Try.prog tys ⟨[], 0, decH h23, 0⟩ 52 9 (dec v20)) fun v25 =>
q_samQW v25 v21 (
q_genW (sliceM tys ⟨[], 0, decH h23, 0⟩ 56 (dec v14) none none none) fun v26 =>
q_samQW v26 v20 (
q_genW (binC Try.prog .add 9 (.tmp 11) (.tmp 14) (dec v21) (dec v22)) fun v27 =>
q_killVW v1 h23 fun h28 =>
K ⟨13, 0, r0, [v27, ⟨3, 0, r0, []⟩]⟩ h28 c24)))
theorem R9_eq (Q : PrimW) (fu : Nat) (call : CallW) : curryA 1 (fnK Q Try.prog tys stl fu call e9) = R9 Q.genW Q.notW Q.condW Q.fadW Q.killVW Q.loadSW Q.loadAW Q.storeAW Q.allocW Q.boxW Q.samQW fu call := by kernel_rfl
noncomputable def n9 (call : CallW) : List W → HW → Nat → KW → Bool := appF 1 (R9 genW notW condW fadW killVW loadSW loadAW storeAW allocW boxW samQW 1000000 call)
theorem n9_ok {call : CallW} (h : CallSim Try.prog tys stl tab call) : FnGood Try.prog tys stl tab 9 (n9 call) := node_ok h (by kernel_rfl) rfl g9 (R9_eq real _ _)
/- foghorn/frame.Parse -/
noncomputable def R11 (q_share : (α : Type) → α → (α → Bool) → Bool) (q_genW : Option CV → (W → Bool) → Bool) (q_addW : Nat → Nat → Option CV → W → W → (W → Bool) → Bool) (q_cmpW : (Nat → Nat → Bool) → Nat → Option CV → W → W → (W → Bool) → Bool) (q_notW : Option CV → W → (W → Bool) → Bool) (q_condW : W → Bool → Bool → Bool) (q_guardW : Bool → W → Bool → Bool → Bool) (q_pickW : W → W → W → (W → Bool) → Bool) (q_fadW : Nat → W → (W → Bool) → Bool) (q_tupW : W → (List W → Bool) → Bool) (q_nthW : Nat → List W → (W → Bool) → Bool) (q_loadAW : Nat → HW → W → (W → Bool) → Bool) (q_storeSW : HW → W → W → (HW → Bool) → Bool) (q_storeAW : Nat → HW → W → W → (HW → Bool) → Bool) (q_allocW : Trie W → Nat → Bool → HW → Nat → KW → Bool) (q_cpTW : Nat → HW → Nat → W → W → KW → Bool) (fu : Nat) (call : CallW) (a0 : W) (h0 : HW) (c0 : Nat) (K : KW) : Bool :=
q_allocW (allocT tys 23) 4 true h0 c0 fun v1 h2 c3 =>
q_genW (lenMC Try.prog tys ⟨[], 0, decH h2, 0⟩ 9 (dec a0)) fun v4 =>
q_cmpW (cmpF2 .lss) 3 (binC Try.prog .lss 3 (.tmp 9) (.const (.int .i64 (.ofNat 9))) (dec v4) (dec ⟨3, 9, r0, []⟩)) v4 ⟨3, 9, r0, []⟩ fun v5 =>
q_condW v5 (
(fun (v6 : W) =>
q_storeAW 4 h2 v1 v6 fun h7 =>
q_loadAW 4 h7 v1 fun v8 =>
K ⟨13, 0, r0, [v8, ⟨3, 0, r0, []⟩, ⟨3, 4, r0, []⟩]⟩ h7 c3) ⟨15, 0, r0, [⟨4, 0, r0, []⟩, ⟨4, 0, r0, []⟩, ⟨8, 0, r0, []⟩, ⟨12, 0, ⟨0, 0, 0, .str ⟨⟨[]⟩⟩⟩, []⟩]⟩) (
q_allocW (allocT tys 56) 5 true h2 c3 fun v9 h10 c11 =>
q_genW (sliceM tys ⟨[], 0, decH h10, 0⟩ 56 (dec v9) none none none) fun v12 =>
q_cpTW 1 h10 c11 v12 a0 fun v13 h14 c15 =>
q_loadAW 5 h14 v9 fun v16 =>
call 29 [v16] h14 c15 fun v17 h18 c19 =>
q_tupW v17 fun l20 => q_nthW 0 l20 fun v21 =>
q_tupW v17 fun l22 => q_nthW 1 l22 fun v23 =>
q_tupW v17 fun l24 => q_nthW 2 l24 fun v25 =>
q_storeAW 4 h18 v1 v21 fun h26 =>
q_notW (two Try.prog (dec v25) (Op.unary .not)) v25 fun v27 =>
q_share _ (fun (v29 : W) (h30 : HW) (c31 : Nat) =>
q_share _ (fun (v33 : W) (h34 : HW) (c35 : Nat) =>
q_share _ (fun (v37 : W) (h38 : HW) (c39 : Nat) =>
q_share _ (fun (v41 : W) (h42 : HW) (c43 : Nat) =>
q_share _ (fun (v45 : W) (h46 : HW) (c47 : Nat) =>
q_pickW v27 ⟨8, 1, r0, []⟩ v45 fun v48 =>
q_condW v48 (
(fun (v49 : W) =>
q_storeAW 4 h46 v1 v49 fun h50 =>
q_loadAW 4 h50 v1 fun v51 =>
K ⟨13, 0, r0, [v51, ⟨3, 0, r0, []⟩, ⟨3, 4, r0, []⟩]⟩ h50 c47) ⟨15, 0, r0, [⟨4, 0, r0, []⟩, ⟨4, 0, r0, []⟩, ⟨8, 0, r0, []⟩, ⟨12, 0, ⟨0, 0, 0, .str ⟨⟨[]⟩⟩⟩, []⟩]⟩) (
q_addW 3 9223372036854775807 (binC Try.prog .add 3 (.tmp 33) (.const (.int .i64 (.ofNat 9))) (dec v23) (dec ⟨3, 9, r0, []⟩)) v23 ⟨3, 9, r0, []⟩ fun v52 =>
q_genW (sliceM tys ⟨[], 0, decH h46, 0⟩ 9 (dec a0) (some (dec ⟨3, 5, r0, []⟩)) (some (dec v52)) none) fun v53 =>
call 30 [v53] h46 c47 fun v54 h55 c56 =>
q_tupW v54 fun l57 => q_nthW 0 l57 fun v58 =>
q_tupW v54 fun l59 => q_nthW 1 l59 fun v60 =>
q_fadW 3 v1 fun v61 =>
q_storeSW h55 v61 v58 fun h62 =>
q_notW (two Try.prog (dec v60) (Op.unary .not)) v60 fun v63 =>
q_condW v63 (
(fun (v64 : W) =>
q_storeAW 4 h62 v1 v64 fun h65 =>
q_loadAW 4 h65 v1 fun v66 =>
K ⟨13, 0, r0, [v66, ⟨3, 0, r0, []⟩, ⟨3, 4, r0, []⟩]⟩ h65 c56) ⟨15, 0, r0, [⟨4, 0, r0, []⟩, ⟨4, 0, r0, []⟩, ⟨8, 0, r0, []⟩, ⟨12, 0, ⟨0, 0, 0, .str ⟨⟨[]⟩⟩⟩, []⟩]⟩) (
q_loadAW 4 h62 v1 fun v67 =>
q_addW 3 9223372036854775807 (binC Try.prog .add 3 (.tmp 44) (.const (.int .i64 (.ofNat 9))) (dec v23) (dec ⟨3, 9, r0, []⟩)) v23 ⟨3, 9, r0, []⟩ fun v68 =>
q_storeAW 4 h62 v1 v67 fun h69 =>
q_loadAW 4 h69 v1 fun v70 =>
K ⟨13, 0, r0, [v70, v68, ⟨3, 0, r0, []⟩]⟩ h69 c56))) fun f44 =>
q_guardW false v27 (q_cmpW (cmpF2 .lss) 3 (binC Try.prog .lss 3 (.tmp 25) (.tmp 27) (dec v33) (dec v41)) v33 v41 fun v71 =>
f44 v71 h42 c43) (f44 wUnd h42 c43)) fun f40 =>
q_guardW false v27 (q_addW 3 9223372036854775807 (binC Try.prog .add 3 (.tmp 26) (.const (.int .i64 (.ofNat 9))) (dec v37) (dec ⟨3, 9, r0, []⟩)) v37 ⟨3, 9, r0, []⟩ fun v72 =>
f40 v72 h38 c39) (f40 wUnd h38 c39)) fun f36 =>
q_guardW false v27 (f36 v23 h34 c35) (f36 wUnd h34 c35)) fun f32 =>
q_guardW false v27 (q_genW (lenMC Try.prog tys ⟨[], 0, decH h30, 0⟩ 9 (dec v29)) fun v73 =>
f32 v73 h30 c31) (f32 wUnd h30 c31)) fun f28 =>
q_guardW false v27 (f28 a0 h26 c19) (f28 wUnd h26 c19))
theorem R11_eq (Q : PrimW) (fu : Nat) (call : CallW) : curryA 1 (fnK Q Try.prog tys stl fu call e11) = R11 Q.share Q.genW Q.addW Q.cmpW Q.notW Q.condW Q.guardW Q.pickW Q.fadW Q.tupW Q.nthW Q.loadAW Q.storeSW Q.storeAW Q.allocW Q.cpTW fu call := by kernel_rfl
noncomputable def n11 (call : CallW) : List W → HW → Nat → KW → Bool := appF 1 (R11 (fun _ x f => f x) genW addW cmpW notW condW guardW pickW fadW tupW nthW loadAW storeSW storeAW allocW cpTW 1000000 call)
theorem n11_ok {call : CallW} (h : CallSim Try.prog tys stl tab call) : FnGood Try.prog tys stl tab 11 (n11 call) := node_ok h (by kernel_rfl) rfl g11 (R11_eq real _ _)
/- foghorn/frame.Scan -/
noncomputable def R15 (q_boxW : HW → Nat → W → KW → Bool) (fu : Nat) (call : CallW) (a0 : W) (h0 : HW) (c0 : Nat) (K : KW) : Bool :=
q_boxW h0 c0 a0 fun v1 h2 c3 =>
(fun (v4 : W) =>
K v4 h2 c3) ⟨14, 31, r0, [v1]⟩
theorem R15_eq (Q : PrimW) (fu : Nat) (call : CallW) : curryA 1 (fnK Q Try.prog tys stl fu call e15) = R15 Q.boxW fu call := by kernel_rfl
noncomputable def n15 (call : CallW) : List W → HW → Nat → KW → Bool := appF 1 (R15 boxW 1000000 call)
theorem n15_ok {call : CallW} (h : CallSim Try.prog tys stl tab call) : FnGood Try.prog tys stl tab 15 (n15 call) := node_ok h (by kernel_rfl) rfl g15 (R15_eq real _ _)
/- foghorn/frame.Pieces -/
noncomputable def R16 (q_share : (α : Type) → α → (α → Bool) → Bool) (q_genW : Option CV → (W → Bool) → Bool) (q_addW : Nat → Nat → Option CV → W → W → (W → Bool) → Bool) (q_cmpW : (Nat → Nat → Bool) → Nat → Option CV → W → W → (W → Bool) → Bool) (q_condW : W → Bool → Bool → Bool) (q_guardW : Bool → W → Bool → Bool → Bool) (q_pickW : W → W → W → (W → Bool) → Bool) (q_killVW : W → HW → (HW → Bool) → Bool) (q_buildSW : Nat → Nat → Kind → Nat → Bool → HW → Nat → Nat → List W → KW → Bool) (q_appSW : Nat → Nat → (Kind → Bool) → Bool → HW → Nat → W → W → Bool → KW → Bool) (q_flatW : W → Bool → Bool) (fu : Nat) (call : CallW) (a0 : W) (a1 : W) (a2 : W) (a3 : W) (h0 : HW) (c0 : Nat) (K : KW) : Bool :=
q_cmpW (cmpF2 .lss) 4 (binC Try.prog .lss 5 (.tmp 11) (.const (.int .u8 (.ofNat 1))) (dec a0) (dec ⟨4, 1, r0, []⟩)) a0 ⟨4, 1, r0, []⟩ fun v1 =>
q_share _ (fun (v3 : W) (h4 : HW) (c5 : Nat) =>
q_share _ (fun (v7 : W) (h8 : HW) (c9 : Nat) =>
q_pickW v1 ⟨8, 1, r0, []⟩ v7 fun v10 =>
q_share _ (fun (v12 : W) (h13 : HW) (c14 : Nat) =>
q_share _ (fun (v16 : W) (h17 : HW) (c18 : Nat) =>
q_share _ (fun (v20 : W) (h21 : HW) (c22 : Nat) =>
q_pickW v10 ⟨8, 1, r0, []⟩ v20 fun v23 =>
q_share _ (fun (v25 : W) (h26 : HW) (c27 : Nat) =>
q_share _ (fun (v29 : W) (h30 : HW) (c31 : Nat) =>
q_pickW v23 ⟨8, 1, r0, []⟩ v29 fun v32 =>
q_share _ (fun (v34 : W) (h35 : HW) (c36 : Nat) =>
q_share _ (fun (v38 : W) (h39 : HW) (c40 : Nat) =>
q_pickW v32 ⟨8, 1, r0, []⟩ v38 fun v41 =>
q_condW v41 (
K ⟨13, 0, r0, [⟨12, 0, ⟨0, 0, 0, .nils⟩, []⟩, ⟨3, 1, r0, []⟩]⟩ h39 c40) (
@Nat.rec (fun _ => Fun 3) (fun _ _ _ _ _ => false) (fun _ f47 v42 v43 v44 h45 c46 =>
q_genW (lenMC Try.prog tys ⟨[], 0, decH h45, 0⟩ 9 (dec v43)) fun v48 =>
q_cmpW (cmpF2 .gtr) 3 (binC Try.prog .gtr 3 (.tmp 31) (.tmp 32) (dec v48) (dec a3)) v48 a3 fun v49 =>
q_condW v49 (
q_genW (sliceM tys ⟨[], 0, decH h45, 0⟩ 9 (dec v43) none (some (dec a3)) none) fun v50 =>
q_flatW a0 (
q_flatW v42 (
q_flatW ⟨8, 1, r0, []⟩ (
q_flatW v50 (
(fun (v51 : W) =>
q_buildSW 4 9 .avs 4 true h45 c46 1 [v51] fun v52 h53 c54 =>
q_appSW 24 4 (appKindOk (elemJ tys 39)) false h53 c54 v44 v52 false fun v55 h56 c57 =>
q_killVW v52 h56 fun h58 =>
q_addW 4 255 (binC Try.prog .add 5 (.tmp 46) (.const (.int .u8 (.ofNat 1))) (dec v42) (dec ⟨4, 1, r0, []⟩)) v42 ⟨4, 1, r0, []⟩ fun v59 =>
q_genW (sliceM tys ⟨[], 0, decH h58, 0⟩ 9 (dec v43) (some (dec a3)) none none) fun v60 =>
f47 v59 v60 v55 h58 c57) ⟨15, 0, r0, [a0, v42, ⟨8, 1, r0, []⟩, v50]⟩))))) (
q_flatW a0 (
q_flatW v42 (
q_flatW v43 (
(fun (v61 : W) =>
q_buildSW 4 9 .avs 4 true h45 c46 1 [v61] fun v62 h63 c64 =>
q_appSW 24 4 (appKindOk (elemJ tys 39)) false h63 c64 v44 v62 false fun v65 h66 c67 =>
q_killVW v62 h66 fun h68 =>
K ⟨13, 0, r0, [v65, ⟨3, 0, r0, []⟩]⟩ h68 c67) ⟨15, 0, r0, [a0, v42, ⟨8, 0, r0, []⟩, v43]⟩))))) fu a1 a2 ⟨12, 0, ⟨0, 0, 0, .nils⟩, []⟩ h39 c40)) fun f37 =>
q_guardW false v32 (q_cmpW (cmpF2 .gtr) 3 (binC Try.prog .gtr 3 (.tmp 27) (.const (.int .i64 (.ofNat 240))) (dec v34) (dec ⟨3, 240, r0, []⟩)) v34 ⟨3, 240, r0, []⟩ fun v69 =>
f37 v69 h35 c36) (f37 wUnd h35 c36)) fun f33 =>
q_guardW false v32 (f33 a3 h30 c31) (f33 wUnd h30 c31)) fun f28 =>
q_guardW false v23 (q_cmpW (cmpF2 .lss) 3 (binC Try.prog .lss 3 (.tmp 23) (.const (.int .i64 (.ofNat 1))) (dec v25) (dec ⟨3, 1, r0, []⟩)) v25 ⟨3, 1, r0, []⟩ fun v70 =>
f28 v70 h26 c27) (f28 wUnd h26 c27)) fun f24 =>
q_guardW false v23 (f24 a3 h21 c22) (f24 wUnd h21 c22)) fun f19 =>
q_guardW false v10 (q_cmpW (cmpF2 .gtr) 3 (binC Try.prog .gtr 3 (.tmp 19) (.const (.int .i64 (.ofNat 32768))) (dec v16) (dec ⟨3, 32768, r0, []⟩)) v16 ⟨3, 32768, r0, []⟩ fun v71 =>
f19 v71 h17 c18) (f19 wUnd h17 c18)) fun f15 =>
q_guardW false v10 (q_genW (lenMC Try.prog tys ⟨[], 0, decH h13, 0⟩ 9 (dec v12)) fun v72 =>
f15 v72 h13 c14) (f15 wUnd h13 c14)) fun f11 =>
q_guardW false v10 (f11 a2 h8 c9) (f11 wUnd h8 c9)) fun f6 =>
q_guardW false v1 (q_cmpW (cmpF2 .gtr) 4 (binC Try.prog .gtr 5 (.tmp 14) (.const (.int .u8 (.ofNat 15))) (dec v3) (dec ⟨4, 15, r0, []⟩)) v3 ⟨4, 15, r0, []⟩ fun v73 =>
f6 v73 h4 c5) (f6 wUnd h4 c5)) fun f2 =>
q_guardW false v1 (f2 a0 h0 c0) (f2 wUnd h0 c0)
theorem R16_eq (Q : PrimW) (fu : Nat) (call : CallW) : curryA 4 (fnK Q Try.prog tys stl fu call e16) = R16 Q.share Q.genW Q.addW Q.cmpW Q.condW Q.guardW Q.pickW Q.killVW Q.buildSW Q.appSW Q.flatW fu call := by kernel_rfl
noncomputable def n16 (call : CallW) : List W → HW → Nat → KW → Bool := appF 4 (R16 (fun _ x f => f x) genW addW cmpW condW guardW pickW killVW buildSW appSW flatW 1000000 call)
theorem n16_ok {call : CallW} (h : CallSim Try.prog tys stl tab call) : FnGood Try.prog tys stl tab 16 (n16 call) := node_ok h (by kernel_rfl) rfl g16 (R16_eq real _ _)
/- foghorn/frame.Join -/
noncomputable def R19 (q_share : (α : Type) → α → (α → Bool) → Bool) (q_genW : Option CV → (W → Bool) → Bool) (q_addW : Nat → Nat → Option CV → W → W → (W → Bool) → Bool) (q_subW : Nat → Nat → Option CV → W → W → (W → Bool) → Bool) (q_cmpW : (Nat → Nat → Bool) → Nat → Option CV → W → W → (W → Bool) → Bool) (q_notW : Option CV → W → (W → Bool) → Bool) (q_icvW : Nat → Nat → Option CV → W → (W → Bool) → Bool) (q_condW : W → Bool → Bool → Bool) (q_guardW : Bool → W → Bool → Bool → Bool) (q_pickW : W → W → W → (W → Bool) → Bool) (q_fadW : Nat → W → (W → Bool) → Bool) (q_idxSW : Nat → W → W → (W → Bool) → Bool) (q_lenW : Option CV → W → (W → Bool) → Bool) (q_loadSW : HW → W → (W → Bool) → Bool) (q_loadAW : Nat → HW → W → (W → Bool) → Bool) (q_storeAW : Nat → HW → W → W → (HW → Bool) → Bool) (q_makeSW : Nat → Nat → Nat → Kind → List W → Bool → HW → Nat → W → W → KW → Bool) (q_allocW : Trie W → Nat → Bool → HW → Nat → KW → Bool) (q_appTW : Nat → (Kind → Bool) → HW → Nat → W → W → KW → Bool) (fu : Nat) (call : CallW) (a0 : W) (h0 : HW) (c0 : Nat) (K : KW) : Bool :=
q_lenW (lenC tys 39 (dec a0)) a0 fun v1 =>
@Nat.rec (fun _ => Fun 1) (fun _ _ _ => false) (fun _ f5 v2 h3 c4 =>
q_cmpW (cmpF2 .lss) 3 (binC Try.prog .lss 3 (.tmp 14) (.tmp 13) (dec v2) (dec v1)) v2 v1 fun v6 =>
q_condW v6 (
q_idxSW 4 a0 v2 fun v7 =>
q_loadAW 4 h3 v7 fun v8 =>
q_allocW (allocT tys 23) 4 true h3 c4 fun v9 h10 c11 =>
q_storeAW 4 h10 v9 v8 fun h12 =>
q_loadAW 4 h12 v9 fun v13 =>
call 24 [v13] h12 c11 fun v14 h15 c16 =>
q_notW (two Try.prog (dec v14) (Op.unary .not)) v14 fun v17 =>
q_condW v17 (
K ⟨13, 0, r0, [⟨12, 0, ⟨0, 0, 0, .str ⟨⟨[]⟩⟩⟩, []⟩, ⟨3, 1, r0, []⟩]⟩ h15 c16) (
q_addW 3 9223372036854775807 (binC Try.prog .add 3 (.tmp 14) (.const (.int .i64 (.ofNat 1))) (dec v2) (dec ⟨3, 1, r0, []⟩)) v2 ⟨3, 1, r0, []⟩ fun v18 =>
f5 v18 h15 c16)) (
q_lenW (lenC tys 39 (dec a0)) a0 fun v19 =>
q_cmpW (cmpF2 .eql) 3 (binC Try.prog .eql 3 (.tmp 23) (.const (.int .i64 (.ofNat 0))) (dec v19) (dec ⟨3, 0, r0, []⟩)) v19 ⟨3, 0, r0, []⟩ fun v20 =>
q_condW v20 (
K ⟨13, 0, r0, [⟨12, 0, ⟨0, 0, 0, .str ⟨⟨[]⟩⟩⟩, []⟩, ⟨3, 4, r0, []⟩]⟩ h3 c4) (
q_lenW (lenC tys 39 (dec a0)) a0 fun v21 =>
@Nat.rec (fun _ => Fun 2) (fun _ _ _ _ => false) (fun _ f26 v22 v23 h24 c25 =>
q_cmpW (cmpF2 .lss) 3 (binC Try.prog .lss 3 (.tmp 27) (.tmp 26) (dec v23) (dec v21)) v23 v21 fun v27 =>
q_condW v27 (
q_idxSW 4 a0 v23 fun v28 =>
q_loadAW 4 h24 v28 fun v29 =>
q_allocW (allocT tys 23) 4 true h24 c25 fun v30 h31 c32 =>
q_storeAW 4 h31 v30 v29 fun h33 =>
q_fadW 0 v30 fun v34 =>
q_loadSW h33 v34 fun v35 =>
q_idxSW 4 a0 ⟨3, 0, r0, []⟩ fun v36 =>
q_fadW 0 v36 fun v37 =>
q_loadSW h33 v37 fun v38 =>
q_cmpW (cmpF2 .neq) 4 (binC Try.prog .neq 5 (.tmp 33) (.tmp 37) (dec v35) (dec v38)) v35 v38 fun v39 =>
q_share _ (fun (v41 : W) (h42 : HW) (c43 : Nat) =>
q_share _ (fun (v45 : W) (h46 : HW) (c47 : Nat) =>
q_share _ (fun (v49 : W) (h50 : HW) (c51 : Nat) =>
q_share _ (fun (v53 : W) (h54 : HW) (c55 : Nat) =>
q_share _ (fun (v57 : W) (h58 : HW) (c59 : Nat) =>
q_share _ (fun (v61 : W) (h62 : HW) (c63 : Nat) =>
q_share _ (fun (v65 : W) (h66 : HW) (c67 : Nat) =>
q_share _ (fun (v69 : W) (h70 : HW) (c71 : Nat) =>
q_share _ (fun (v73 : W) (h74 : HW) (c75 : Nat) =>
q_share _ (fun (v77 : W) (h78 : HW) (c79 : Nat) =>
q_pickW v39 ⟨8, 1, r0, []⟩ v77 fun v80 =>
q_share _ (fun (v82 : W) (h83 : HW) (c84 : Nat) =>
q_share _ (fun (v86 : W) (h87 : HW) (c88 : Nat) =>
q_share _ (fun (v90 : W) (h91 : HW) (c92 : Nat) =>
q_share _ (fun (v94 : W) (h95 : HW) (c96 : Nat) =>
q_share _ (fun (v98 : W) (h99 : HW) (c100 : Nat) =>
q_share _ (fun (v102 : W) (h103 : HW) (c104 : Nat) =>
q_share _ (fun (v106 : W) (h107 : HW) (c108 : Nat) =>
q_share _ (fun (v110 : W) (h111 : HW) (c112 : Nat) =>
q_pickW v80 ⟨8, 1, r0, []⟩ v110 fun v113 =>
q_condW v113 (
K ⟨13, 0, r0, [⟨12, 0, ⟨0, 0, 0, .str ⟨⟨[]⟩⟩⟩, []⟩, ⟨3, 4, r0, []⟩]⟩ h111 c112) (
q_fadW 3 v30 fun v114 =>
q_loadSW h111 v114 fun v115 =>
q_genW (lenMC Try.prog tys ⟨[], 0, decH h111, 0⟩ 9 (dec v115)) fun v116 =>
q_addW 3 9223372036854775807 (binC Try.prog .add 3 (.tmp 61) (.tmp 64) (dec v22) (dec v116)) v22 v116 fun v117 =>
q_addW 3 9223372036854775807 (binC Try.prog .add 3 (.tmp 27) (.const (.int .i64 (.ofNat 1))) (dec v23) (dec ⟨3, 1, r0, []⟩)) v23 ⟨3, 1, r0, []⟩ fun v118 =>
f26 v117 v118 h111 c112)) fun f109 =>
q_guardW false v80 (q_genW (binC Try.prog .neq 4 (.tmp 53) (.tmp 58) (dec v86) (dec v106)) fun v119 =>
f109 v119 h107 c108) (f109 wUnd h107 c108)) fun f105 =>
q_guardW false v80 (q_cmpW (cmpF2 .lss) 3 (binC Try.prog .lss 3 (.tmp 54) (.tmp 57) (dec v90) (dec v102)) v90 v102 fun v120 =>
f105 v120 h103 c104) (f105 wUnd h103 c104)) fun f101 =>
q_guardW false v80 (q_subW 3 9223372036854775807 (binC Try.prog .sub 3 (.tmp 56) (.const (.int .i64 (.ofNat 1))) (dec v98) (dec ⟨3, 1, r0, []⟩)) v98 ⟨3, 1, r0, []⟩ fun v121 =>
f101 v121 h99 c100) (f101 wUnd h99 c100)) fun f97 =>
q_guardW false v80 (q_lenW (lenC tys 39 (dec v94)) v94 fun v122 =>
f97 v122 h95 c96) (f97 wUnd h95 c96)) fun f93 =>
q_guardW false v80 (f93 a0 h91 c92) (f93 wUnd h91 c92)) fun f89 =>
q_guardW false v80 (f89 v23 h87 c88) (f89 wUnd h87 c88)) fun f85 =>
q_guardW false v80 (q_loadSW h83 v82 fun v123 =>
f85 v123 h83 c84) (f85 wUnd h83 c84)) fun f81 =>
q_guardW false v80 (q_fadW 2 v30 fun v124 =>
f81 v124 h78 c79) (f81 wUnd h78 c79)) fun f76 =>
q_guardW false v39 (q_cmpW (cmpF2 .neq) 4 (binC Try.prog .neq 5 (.tmp 41) (.tmp 48) (dec v45) (dec v73)) v45 v73 fun v125 =>
f76 v125 h74 c75) (f76 wUnd h74 c75)) fun f72 =>
q_guardW false v39 (q_addW 4 255 (binC Try.prog .add 5 (.tmp 45) (.tmp 47) (dec v61) (dec v69)) v61 v69 fun v126 =>
f72 v126 h70 c71) (f72 wUnd h70 c71)) fun f68 =>
q_guardW false v39 (q_icvW 4 255 (convC Try.prog tys ⟨[], 0, decH h66, 0⟩ 3 5 (dec v65)) v65 fun v127 =>
f68 v127 h66 c67) (f68 wUnd h66 c67)) fun f64 =>
q_guardW false v39 (f64 v23 h62 c63) (f64 wUnd h62 c63)) fun f60 =>
q_guardW false v39 (q_loadSW h58 v57 fun v128 =>
f60 v128 h58 c59) (f60 wUnd h58 c59)) fun f56 =>
q_guardW false v39 (q_fadW 1 v53 fun v129 =>
f56 v129 h54 c55) (f56 wUnd h54 c55)) fun f52 =>
q_guardW false v39 (q_idxSW 4 v49 ⟨3, 0, r0, []⟩ fun v130 =>
f52 v130 h50 c51) (f52 wUnd h50 c51)) fun f48 =>
q_guardW false v39 (f48 a0 h46 c47) (f48 wUnd h46 c47)) fun f44 =>
q_guardW false v39 (q_loadSW h42 v41 fun v131 =>
f44 v131 h42 c43) (f44 wUnd h42 c43)) fun f40 =>
q_guardW false v39 (q_fadW 1 v30 fun v132 =>
f40 v132 h33 c32) (f40 wUnd h33 c32)) (
q_cmpW (cmpF2 .gtr) 3 (binC Try.prog .gtr 3 (.tmp 67) (.const (.int .i64 (.ofNat 32768))) (dec v22) (dec ⟨3, 32768, r0, []⟩)) v22 ⟨3, 32768, r0, []⟩ fun v133 =>
q_condW v133 (
K ⟨13, 0, r0, [⟨12, 0, ⟨0, 0, 0, .str ⟨⟨[]⟩⟩⟩, []⟩, ⟨3, 1, r0, []⟩]⟩ h24 c25) (
q_makeSW 1 1 4 (.ints .u8) [⟨4, 0, r0, []⟩] true h24 c25 ⟨3, 0, r0, []⟩ v22 fun v134 h135 c136 =>
q_lenW (lenC tys 39 (dec a0)) a0 fun v137 =>
@Nat.rec (fun _ => Fun 2) (fun _ _ _ _ => false) (fun _ f142 v138 v139 h140 c141 =>
q_cmpW (cmpF2 .lss) 3 (binC Try.prog .lss 3 (.tmp 73) (.tmp 72) (dec v139) (dec v137)) v139 v137 fun v143 =>
q_condW v143 (
q_idxSW 4 a0 v139 fun v144 =>
q_loadAW 4 h140 v144 fun v145 =>
q_allocW (allocT tys 23) 4 true h140 c141 fun v146 h147 c148 =>
q_storeAW 4 h147 v146 v145 fun h149 =>
q_fadW 3 v146 fun v150 =>
q_loadSW h149 v150 fun v151 =>
q_appTW 1 (appKindOk (elemJ tys 52)) h149 c148 v138 v151 fun v152 h153 c154 =>
q_addW 3 9223372036854775807 (binC Try.prog .add 3 (.tmp 73) (.const (.int .i64 (.ofNat 1))) (dec v139) (dec ⟨3, 1, r0, []⟩)) v139 ⟨3, 1, r0, []⟩ fun v155 =>
f142 v152 v155 h153 c154) (
q_genW (convC Try.prog tys ⟨[], 0, decH h140, 0⟩ 52 9 (dec v138)) fun v156 =>
K ⟨13, 0, r0, [v156, ⟨3, 0, r0, []⟩]⟩ h140 c141)) fu v134 ⟨3, 0, r0, []⟩ h135 c136))) fu ⟨3, 0, r0, []⟩ ⟨3, 0, r0, []⟩ h3 c4))) fu ⟨3, 0, r0, []⟩ h0 c0
theorem R19_eq (Q : PrimW) (fu : Nat) (call : CallW) : curryA 1 (fnK Q Try.prog tys stl fu call e19) = R19 Q.share Q.genW Q.addW Q.subW Q.cmpW Q.notW Q.icvW Q.condW Q.guardW Q.pickW Q.fadW Q.idxSW Q.lenW Q.loadSW Q.loadAW Q.storeAW Q.makeSW Q.allocW Q.appTW fu call := by kernel_rfl
noncomputable def n19 (call : CallW) : List W → HW → Nat → KW → Bool := appF 1 (R19 (fun _ x f => f x) genW addW subW cmpW notW icvW condW guardW pickW fadW idxSW lenW loadSW loadAW storeAW makeSW allocW appTW 1000000 call)
theorem n19_ok {call : CallW} (h : CallSim Try.prog tys stl tab call) : FnGood Try.prog tys stl tab 19 (n19 call) := node_ok h (by kernel_rfl) rfl g19 (R19_eq real _ _)
/- foghorn/foghornlaw25.works -/
noncomputable def R21 (q_share : (α : Type) → α → (α → Bool) → Bool) (q_genW : Option CV → (W → Bool) → Bool) (q_cmpW : (Nat → Nat → Bool) → Nat → Option CV → W → W → (W → Bool) → Bool) (q_guardW : Bool → W → Bool → Bool → Bool) (q_pickW : W → W → W → (W → Bool) → Bool) (q_fadW : Nat → W → (W → Bool) → Bool) (q_lenW : Option CV → W → (W → Bool) → Bool) (q_tupW : W → (List W → Bool) → Bool) (q_nthW : Nat → List W → (W → Bool) → Bool) (q_killVW : W → HW → (HW → Bool) → Bool) (q_loadSW : HW → W → (W → Bool) → Bool) (q_storeAW : Nat → HW → W → W → (HW → Bool) → Bool) (q_allocW : Trie W → Nat → Bool → HW → Nat → KW → Bool) (q_flatW : W → Bool → Bool) (fu : Nat) (call : CallW) (h0 : HW) (c0 : Nat) (K : KW) : Bool :=
q_flatW ⟨4, 1, r0, []⟩ (
q_flatW ⟨4, 7, r0, []⟩ (
q_flatW ⟨12, 0, ⟨0, 0, 0, .str ⟨⟨[97]⟩⟩⟩, []⟩ (
(fun (v1 : W) =>
call 9 [v1] h0 c0 fun v2 h3 c4 =>
q_tupW v2 fun l5 => q_nthW 0 l5 fun v6 =>
q_tupW v2 fun l7 => q_nthW 1 l7 fun v8 =>
q_genW (binC Try.prog .add 9 (.tmp 16) (.const (.string ⟨⟨[120]⟩⟩)) (dec v6) (dec ⟨12, 0, ⟨0, 0, 0, .str ⟨⟨[120]⟩⟩⟩, []⟩)) fun v9 =>
call 11 [v9] h3 c4 fun v10 h11 c12 =>
q_tupW v10 fun l13 => q_nthW 0 l13 fun v14 =>
q_tupW v10 fun l15 => q_nthW 1 l15 fun v16 =>
q_tupW v10 fun l17 => q_nthW 2 l17 fun v18 =>
q_allocW (allocT tys 23) 4 true h11 c12 fun v19 h20 c21 =>
q_storeAW 4 h20 v19 v14 fun h22 =>
call 16 [⟨4, 2, r0, []⟩, ⟨4, 255, r0, []⟩, ⟨12, 0, ⟨0, 0, 0, .str ⟨⟨[104, 101, 108, 108, 111]⟩⟩⟩, []⟩, ⟨3, 2, r0, []⟩] h22 c21 fun v23 h24 c25 =>
q_tupW v23 fun l26 => q_nthW 0 l26 fun v27 =>
q_tupW v23 fun l28 => q_nthW 1 l28 fun v29 =>
call 19 [v27] h24 c25 fun v30 h31 c32 =>
q_tupW v30 fun l33 => q_nthW 0 l33 fun v34 =>
q_tupW v30 fun l35 => q_nthW 1 l35 fun v36 =>
q_cmpW (cmpF2 .eql) 3 (binC Try.prog .eql 24 (.tmp 31) (.const (.int .i64 (.ofNat 0))) (dec v8) (dec ⟨3, 0, r0, []⟩)) v8 ⟨3, 0, r0, []⟩ fun v37 =>
q_share _ (fun (v39 : W) (h40 : HW) (c41 : Nat) =>
q_share _ (fun (v43 : W) (h44 : HW) (c45 : Nat) =>
q_pickW v37 v43 ⟨8, 0, r0, []⟩ fun v46 =>
q_share _ (fun (v48 : W) (h49 : HW) (c50 : Nat) =>
q_share _ (fun (v52 : W) (h53 : HW) (c54 : Nat) =>
q_pickW v46 v52 ⟨8, 0, r0, []⟩ fun v55 =>
q_share _ (fun (v57 : W) (h58 : HW) (c59 : Nat) =>
q_share _ (fun (v61 : W) (h62 : HW) (c63 : Nat) =>
q_pickW v55 v61 ⟨8, 0, r0, []⟩ fun v64 =>
q_share _ (fun (v66 : W) (h67 : HW) (c68 : Nat) =>
q_share _ (fun (v70 : W) (h71 : HW) (c72 : Nat) =>
q_share _ (fun (v74 : W) (h75 : HW) (c76 : Nat) =>
q_pickW v64 v74 ⟨8, 0, r0, []⟩ fun v77 =>
q_share _ (fun (v79 : W) (h80 : HW) (c81 : Nat) =>
q_share _ (fun (v83 : W) (h84 : HW) (c85 : Nat) =>
q_share _ (fun (v87 : W) (h88 : HW) (c89 : Nat) =>
q_pickW v77 v87 ⟨8, 0, r0, []⟩ fun v90 =>
q_share _ (fun (v92 : W) (h93 : HW) (c94 : Nat) =>
q_share _ (fun (v96 : W) (h97 : HW) (c98 : Nat) =>
q_pickW v90 v96 ⟨8, 0, r0, []⟩ fun v99 =>
q_share _ (fun (v101 : W) (h102 : HW) (c103 : Nat) =>
q_share _ (fun (v105 : W) (h106 : HW) (c107 : Nat) =>
q_share _ (fun (v109 : W) (h110 : HW) (c111 : Nat) =>
q_pickW v99 v109 ⟨8, 0, r0, []⟩ fun v112 =>
q_share _ (fun (v114 : W) (h115 : HW) (c116 : Nat) =>
q_share _ (fun (v118 : W) (h119 : HW) (c120 : Nat) =>
q_share _ (fun (v122 : W) (h123 : HW) (c124 : Nat) =>
q_pickW v112 v122 ⟨8, 0, r0, []⟩ fun v125 =>
q_share _ (fun (v127 : W) (h128 : HW) (c129 : Nat) =>
q_share _ (fun (v131 : W) (h132 : HW) (c133 : Nat) =>
q_share _ (fun (v135 : W) (h136 : HW) (c137 : Nat) =>
q_pickW v125 v135 ⟨8, 0, r0, []⟩ fun v138 =>
q_share _ (fun (v140 : W) (h141 : HW) (c142 : Nat) =>
q_share _ (fun (v144 : W) (h145 : HW) (c146 : Nat) =>
q_pickW v138 v144 ⟨8, 0, r0, []⟩ fun v147 =>
q_share _ (fun (v149 : W) (h150 : HW) (c151 : Nat) =>
q_share _ (fun (v153 : W) (h154 : HW) (c155 : Nat) =>
q_share _ (fun (v157 : W) (h158 : HW) (c159 : Nat) =>
q_pickW v147 v157 ⟨8, 0, r0, []⟩ fun v160 =>
q_killVW v19 h158 fun h161 =>
K v160 h161 c159) fun f156 =>
q_guardW true v147 (q_genW (binC Try.prog .neq 34 (.tmp 80) (.const .nilFunc) (dec v153) (dec ⟨12, 0, ⟨0, 0, 0, .nilf⟩, []⟩)) fun v162 =>
f156 v162 h154 c155) (f156 wUnd h154 c155)) fun f152 =>
q_guardW true v147 (call 15 [v149] h150 c151 fun v163 h164 c165 =>
f152 v163 h164 c165) (f152 wUnd h150 c151)) fun f148 =>
q_guardW true v147 (f148 v6 h145 c146) (f148 wUnd h145 c146)) fun f143 =>
q_guardW true v138 (q_genW (binC Try.prog .eql 9 (.tmp 75) (.const (.string ⟨⟨[104, 101, 108, 108, 111]⟩⟩)) (dec v140) (dec ⟨12, 0, ⟨0, 0, 0, .str ⟨⟨[104, 101, 108, 108, 111]⟩⟩⟩, []⟩)) fun v166 =>
f143 v166 h141 c142) (f143 wUnd h141 c142)) fun f139 =>
q_guardW true v138 (f139 v34 h136 c137) (f139 wUnd h136 c137)) fun f134 =>
q_guardW true v125 (q_cmpW (cmpF2 .eql) 3 (binC Try.prog .eql 3 (.tmp 71) (.const (.int .i64 (.ofNat 3))) (dec v131) (dec ⟨3, 3, r0, []⟩)) v131 ⟨3, 3, r0, []⟩ fun v167 =>
f134 v167 h132 c133) (f134 wUnd h132 c133)) fun f130 =>
q_guardW true v125 (q_lenW (lenC tys 39 (dec v127)) v127 fun v168 =>
f130 v168 h128 c129) (f130 wUnd h128 c129)) fun f126 =>
q_guardW true v125 (f126 v27 h123 c124) (f126 wUnd h123 c124)) fun f121 =>
q_guardW true v112 (q_cmpW (cmpF2 .eql) 4 (binC Try.prog .eql 5 (.tmp 66) (.const (.int .u8 (.ofNat 7))) (dec v118) (dec ⟨4, 7, r0, []⟩)) v118 ⟨4, 7, r0, []⟩ fun v169 =>
f121 v169 h119 c120) (f121 wUnd h119 c120)) fun f117 =>
q_guardW true v112 (q_loadSW h115 v114 fun v170 =>
f117 v170 h115 c116) (f117 wUnd h115 c116)) fun f113 =>
q_guardW true v112 (q_fadW 1 v19 fun v171 =>
f113 v171 h110 c111) (f113 wUnd h110 c111)) fun f108 =>
q_guardW true v99 (q_genW (binC Try.prog .eql 9 (.tmp 61) (.const (.string ⟨⟨[97]⟩⟩)) (dec v105) (dec ⟨12, 0, ⟨0, 0, 0, .str ⟨⟨[97]⟩⟩⟩, []⟩)) fun v172 =>
f108 v172 h106 c107) (f108 wUnd h106 c107)) fun f104 =>
q_guardW true v99 (q_loadSW h102 v101 fun v173 =>
f104 v173 h102 c103) (f104 wUnd h102 c103)) fun f100 =>
q_guardW true v99 (q_fadW 3 v19 fun v174 =>
f100 v174 h97 c98) (f100 wUnd h97 c98)) fun f95 =>
q_guardW true v90 (q_cmpW (cmpF2 .eql) 3 (binC Try.prog .eql 3 (.tmp 56) (.const (.int .i64 (.ofNat 10))) (dec v92) (dec ⟨3, 10, r0, []⟩)) v92 ⟨3, 10, r0, []⟩ fun v175 =>
f95 v175 h93 c94) (f95 wUnd h93 c94)) fun f91 =>
q_guardW true v90 (f91 v16 h88 c89) (f91 wUnd h88 c89)) fun f86 =>
q_guardW true v77 (q_genW (binC Try.prog .eql 9 (.tmp 52) (.const (.string ⟨⟨[16, 7, 1]⟩⟩)) (dec v83) (dec ⟨12, 0, ⟨0, 0, 0, .str ⟨⟨[16, 7, 1]⟩⟩⟩, []⟩)) fun v176 =>
f86 v176 h84 c85) (f86 wUnd h84 c85)) fun f82 =>
q_guardW true v77 (q_genW (sliceM tys ⟨[], 0, decH h80, 0⟩ 9 (dec v79) none (some (dec ⟨3, 3, r0, []⟩)) none) fun v177 =>
f82 v177 h80 c81) (f82 wUnd h80 c81)) fun f78 =>
q_guardW true v77 (f78 v6 h75 c76) (f78 wUnd h75 c76)) fun f73 =>
q_guardW true v64 (q_cmpW (cmpF2 .eql) 3 (binC Try.prog .eql 3 (.tmp 47) (.const (.int .i64 (.ofNat 10))) (dec v70) (dec ⟨3, 10, r0, []⟩)) v70 ⟨3, 10, r0, []⟩ fun v178 =>
f73 v178 h71 c72) (f73 wUnd h71 c72)) fun f69 =>
q_guardW true v64 (q_genW (lenMC Try.prog tys ⟨[], 0, decH h67, 0⟩ 9 (dec v66)) fun v179 =>
f69 v179 h67 c68) (f69 wUnd h67 c68)) fun f65 =>
q_guardW true v64 (f65 v6 h62 c63) (f65 wUnd h62 c63)) fun f60 =>
q_guardW true v55 (q_cmpW (cmpF2 .eql) 3 (binC Try.prog .eql 24 (.tmp 42) (.const (.int .i64 (.ofNat 0))) (dec v57) (dec ⟨3, 0, r0, []⟩)) v57 ⟨3, 0, r0, []⟩ fun v180 =>
f60 v180 h58 c59) (f60 wUnd h58 c59)) fun f56 =>
q_guardW true v55 (f56 v36 h53 c54) (f56 wUnd h53 c54)) fun f51 =>
q_guardW true v46 (q_cmpW (cmpF2 .eql) 3 (binC Try.prog .eql 24 (.tmp 38) (.const (.int .i64 (.ofNat 0))) (dec v48) (dec ⟨3, 0, r0, []⟩)) v48 ⟨3, 0, r0, []⟩ fun v181 =>
f51 v181 h49 c50) (f51 wUnd h49 c50)) fun f47 =>
q_guardW true v46 (f47 v29 h44 c45) (f47 wUnd h44 c45)) fun f42 =>
q_guardW true v37 (q_cmpW (cmpF2 .eql) 3 (binC Try.prog .eql 24 (.tmp 34) (.const (.int .i64 (.ofNat 0))) (dec v39) (dec ⟨3, 0, r0, []⟩)) v39 ⟨3, 0, r0, []⟩ fun v182 =>
f42 v182 h40 c41) (f42 wUnd h40 c41)) fun f38 =>
q_guardW true v37 (f38 v18 h31 c32) (f38 wUnd h31 c32)) ⟨15, 0, r0, [⟨4, 1, r0, []⟩, ⟨4, 7, r0, []⟩, ⟨8, 0, r0, []⟩, ⟨12, 0, ⟨0, 0, 0, .str ⟨⟨[97]⟩⟩⟩, []⟩]⟩)))
theorem R21_eq (Q : PrimW) (fu : Nat) (call : CallW) : curryA 0 (fnK Q Try.prog tys stl fu call e21) = R21 Q.share Q.genW Q.cmpW Q.guardW Q.pickW Q.fadW Q.lenW Q.tupW Q.nthW Q.killVW Q.loadSW Q.storeAW Q.allocW Q.flatW fu call := by kernel_rfl
noncomputable def n21 (call : CallW) : List W → HW → Nat → KW → Bool := appF 0 (R21 (fun _ x f => f x) genW cmpW guardW pickW fadW lenW tupW nthW killVW loadSW storeAW allocW flatW 1000000 call)
theorem n21_ok {call : CallW} (h : CallSim Try.prog tys stl tab call) : FnGood Try.prog tys stl tab 21 (n21 call) := node_ok h (by kernel_rfl) rfl g21 (R21_eq real _ _)
/- foghorn/frame.mayBe -/
noncomputable def R24 (q_share : (α : Type) → α → (α → Bool) → Bool) (q_genW : Option CV → (W → Bool) → Bool) (q_cmpW : (Nat → Nat → Bool) → Nat → Option CV → W → W → (W → Bool) → Bool) (q_guardW : Bool → W → Bool → Bool → Bool) (q_pickW : W → W → W → (W → Bool) → Bool) (q_fadW : Nat → W → (W → Bool) → Bool) (q_killVW : W → HW → (HW → Bool) → Bool) (q_loadSW : HW → W → (W → Bool) → Bool) (q_boxW : HW → Nat → W → KW → Bool) (fu : Nat) (call : CallW) (a0 : W) (h0 : HW) (c0 : Nat) (K : KW) : Bool :=
q_boxW h0 c0 a0 fun v1 h2 c3 =>
q_fadW 0 v1 fun v4 =>
q_loadSW h2 v4 fun v5 =>
q_cmpW (cmpF2 .geq) 4 (binC Try.prog .geq 5 (.tmp 4) (.const (.int .u8 (.ofNat 1))) (dec v5) (dec ⟨4, 1, r0, []⟩)) v5 ⟨4, 1, r0, []⟩ fun v6 =>
q_share _ (fun (v8 : W) (h9 : HW) (c10 : Nat) =>
q_share _ (fun (v12 : W) (h13 : HW) (c14 : Nat) =>
q_share _ (fun (v16 : W) (h17 : HW) (c18 : Nat) =>
q_pickW v6 v16 ⟨8, 0, r0, []⟩ fun v19 =>
q_share _ (fun (v21 : W) (h22 : HW) (c23 : Nat) =>
q_share _ (fun (v25 : W) (h26 : HW) (c27 : Nat) =>
q_share _ (fun (v29 : W) (h30 : HW) (c31 : Nat) =>
q_share _ (fun (v33 : W) (h34 : HW) (c35 : Nat) =>
q_pickW v19 v33 ⟨8, 0, r0, []⟩ fun v36 =>
q_killVW v1 h34 fun h37 =>
K v36 h37 c35) fun f32 =>
q_guardW true v19 (q_cmpW (cmpF2 .leq) 3 (binC Try.prog .leq 3 (.tmp 14) (.const (.int .i64 (.ofNat 240))) (dec v29) (dec ⟨3, 240, r0, []⟩)) v29 ⟨3, 240, r0, []⟩ fun v38 =>
f32 v38 h30 c31) (f32 wUnd h30 c31)) fun f28 =>
q_guardW true v19 (q_genW (lenMC Try.prog tys ⟨[], 0, decH h26, 0⟩ 9 (dec v25)) fun v39 =>
f28 v39 h26 c27) (f28 wUnd h26 c27)) fun f24 =>
q_guardW true v19 (q_loadSW h22 v21 fun v40 =>
f24 v40 h22 c23) (f24 wUnd h22 c23)) fun f20 =>
q_guardW true v19 (q_fadW 3 v1 fun v41 =>
f20 v41 h17 c18) (f20 wUnd h17 c18)) fun f15 =>
q_guardW true v6 (q_cmpW (cmpF2 .leq) 4 (binC Try.prog .leq 5 (.tmp 8) (.const (.int .u8 (.ofNat 15))) (dec v12) (dec ⟨4, 15, r0, []⟩)) v12 ⟨4, 15, r0, []⟩ fun v42 =>
f15 v42 h13 c14) (f15 wUnd h13 c14)) fun f11 =>
q_guardW true v6 (q_loadSW h9 v8 fun v43 =>
f11 v43 h9 c10) (f11 wUnd h9 c10)) fun f7 =>
q_guardW true v6 (q_fadW 0 v1 fun v44 =>
f7 v44 h2 c3) (f7 wUnd h2 c3)
theorem R24_eq (Q : PrimW) (fu : Nat) (call : CallW) : curryA 1 (fnK Q Try.prog tys stl fu call e24) = R24 Q.share Q.genW Q.cmpW Q.guardW Q.pickW Q.fadW Q.killVW Q.loadSW Q.boxW fu call := by kernel_rfl
noncomputable def n24 (call : CallW) : List W → HW → Nat → KW → Bool := appF 1 (R24 (fun _ x f => f x) genW cmpW guardW pickW fadW killVW loadSW boxW 1000000 call)
theorem n24_ok {call : CallW} (h : CallSim Try.prog tys stl tab call) : FnGood Try.prog tys stl tab 24 (n24 call) := node_ok h (by kernel_rfl) rfl g24 (R24_eq real _ _)
/- foghorn/frame.headOf -/
noncomputable def R25 (q_share : (α : Type) → α → (α → Bool) → Bool) (q_genW : Option CV → (W → Bool) → Bool) (q_bitW : (Nat → Nat → Nat) → Nat → Nat → Option CV → W → W → (W → Bool) → Bool) (q_shlW : Nat → Nat → Nat → Option CV → W → W → (W → Bool) → Bool) (q_icvW : Nat → Nat → Option CV → W → (W → Bool) → Bool) (q_condW : W → Bool → Bool → Bool) (q_fadW : Nat → W → (W → Bool) → Bool) (q_idxAW : Nat → Nat → W → W → (W → Bool) → Bool) (q_killVW : W → HW → (HW → Bool) → Bool) (q_loadSW : HW → W → (W → Bool) → Bool) (q_loadAW : Nat → HW → W → (W → Bool) → Bool) (q_storeSW : HW → W → W → (HW → Bool) → Bool) (q_storeAW : Nat → HW → W → W → (HW → Bool) → Bool) (q_allocW : Trie W → Nat → Bool → HW → Nat → KW → Bool) (q_boxW : HW → Nat → W → KW → Bool) (q_flatW : W → Bool → Bool) (fu : Nat) (call : CallW) (a0 : W) (h0 : HW) (c0 : Nat) (K : KW) : Bool :=
q_boxW h0 c0 a0 fun v1 h2 c3 =>
q_allocW (allocT tys 56) 5 true h2 c3 fun v4 h5 c6 =>
q_fadW 0 v1 fun v7 =>
q_loadSW h5 v7 fun v8 =>
q_shlW 4 255 8 (binC Try.prog .shl 5 (.tmp 5) (.const (.int .u64 (.ofNat 4))) (dec v8) (dec ⟨7, 4, r0, []⟩)) v8 ⟨7, 4, r0, []⟩ fun v9 =>
q_fadW 1 v1 fun v10 =>
q_loadSW h5 v10 fun v11 =>
q_fadW 3 v1 fun v12 =>
q_loadSW h5 v12 fun v13 =>
q_genW (lenMC Try.prog tys ⟨[], 0, decH h5, 0⟩ 9 (dec v13)) fun v14 =>
q_icvW 4 255 (convC Try.prog tys ⟨[], 0, decH h5, 0⟩ 3 5 (dec v14)) v14 fun v15 =>
q_flatW v9 (
q_flatW v11 (
q_flatW v15 (
(fun (v16 : W) =>
q_allocW (allocT tys 56) 5 true h5 c6 fun v17 h18 c19 =>
q_storeAW 5 h18 v17 v16 fun h20 =>
q_share _ (fun  (h21 : HW) (c22 : Nat) =>
q_loadAW 5 h21 v17 fun v24 =>
call 32 [v24] h21 c22 fun v25 h26 c27 =>
q_storeAW 5 h26 v4 v25 fun h28 =>
q_loadAW 5 h28 v4 fun v29 =>
q_killVW v1 h28 fun h30 =>
q_killVW v17 h30 fun h31 =>
K v29 h31 c27) fun f23 =>
q_fadW 2 v1 fun v32 =>
q_loadSW h20 v32 fun v33 =>
q_condW v33 (
q_idxAW 1 5 v17 ⟨3, 0, r0, []⟩ fun v34 =>
q_loadSW h20 v34 fun v35 =>
q_bitW Nat.lor 4 255 (binC Try.prog .or 5 (.tmp 17) (.const (.int .u8 (.ofNat 1))) (dec v35) (dec ⟨4, 1, r0, []⟩)) v35 ⟨4, 1, r0, []⟩ fun v36 =>
q_idxAW 1 5 v17 ⟨3, 0, r0, []⟩ fun v37 =>
q_storeSW h20 v37 v36 fun h38 =>
f23 h38 c19) (
f23 h20 c19)) ⟨15, 0, r0, [v9, v11, v15, ⟨4, 0, r0, []⟩, ⟨4, 0, r0, []⟩]⟩)))
theorem R25_eq (Q : PrimW) (fu : Nat) (call : CallW) : curryA 1 (fnK Q Try.prog tys stl fu call e25) = R25 Q.share Q.genW Q.bitW Q.shlW Q.icvW Q.condW Q.fadW Q.idxAW Q.killVW Q.loadSW Q.loadAW Q.storeSW Q.storeAW Q.allocW Q.boxW Q.flatW fu call := by kernel_rfl
noncomputable def n25 (call : CallW) : List W → HW → Nat → KW → Bool := appF 1 (R25 (fun _ x f => f x) genW bitW shlW icvW condW fadW idxAW killVW loadSW loadAW storeSW storeAW allocW boxW flatW 1000000 call)
theorem n25_ok {call : CallW} (h : CallSim Try.prog tys stl tab call) : FnGood Try.prog tys stl tab 25 (n25 call) := node_ok h (by kernel_rfl) rfl g25 (R25_eq real _ _)
/- foghorn/sums.Sealed -/
noncomputable def R26 (q_genW : Option CV → (W → Bool) → Bool) (q_shrW : Nat → Nat → Option CV → W → W → (W → Bool) → Bool) (q_icvW : Nat → Nat → Option CV → W → (W → Bool) → Bool) (q_buildSW : Nat → Nat → Kind → Nat → Bool → HW → Nat → Nat → List W → KW → Bool) (fu : Nat) (call : CallW) (a0 : W) (h0 : HW) (c0 : Nat) (K : KW) : Bool :=
call 33 [a0] h0 c0 fun v1 h2 c3 =>
q_shrW 6 32 (binC Try.prog .shr 51 (.tmp 7) (.const (.int .u64 (.ofNat 24))) (dec v1) (dec ⟨7, 24, r0, []⟩)) v1 ⟨7, 24, r0, []⟩ fun v4 =>
q_icvW 4 255 (convC Try.prog tys ⟨[], 0, decH h2, 0⟩ 51 5 (dec v4)) v4 fun v5 =>
q_shrW 6 32 (binC Try.prog .shr 51 (.tmp 10) (.const (.int .u64 (.ofNat 16))) (dec v1) (dec ⟨7, 16, r0, []⟩)) v1 ⟨7, 16, r0, []⟩ fun v6 =>
q_icvW 4 255 (convC Try.prog tys ⟨[], 0, decH h2, 0⟩ 51 5 (dec v6)) v6 fun v7 =>
q_shrW 6 32 (binC Try.prog .shr 51 (.tmp 13) (.const (.int .u64 (.ofNat 8))) (dec v1) (dec ⟨7, 8, r0, []⟩)) v1 ⟨7, 8, r0, []⟩ fun v8 =>
q_icvW 4 255 (convC Try.prog tys ⟨[], 0, decH h2, 0⟩ 51 5 (dec v8)) v8 fun v9 =>
q_icvW 4 255 (convC Try.prog tys ⟨[], 0, decH h2, 0⟩ 51 5 (dec v1)) v1 fun v10 =>
q_buildSW 1 4 (.ints .u8) 4 true h2 c3 4 [v5, v7, v9, v10] fun v11 h12 c13 =>
q_genW (convC Try.prog tys ⟨[], 0, decH h12, 0⟩ 52 9 (dec v11)) fun v14 =>
q_genW (binC Try.prog .add 9 (.tmp 6) (.tmp 19) (dec a0) (dec v14)) fun v15 =>
K v15 h12 c13
theorem R26_eq (Q : PrimW) (fu : Nat) (call : CallW) : curryA 1 (fnK Q Try.prog tys stl fu call e26) = R26 Q.genW Q.shrW Q.icvW Q.buildSW fu call := by kernel_rfl
noncomputable def n26 (call : CallW) : List W → HW → Nat → KW → Bool := appF 1 (R26 genW shrW icvW buildSW 1000000 call)
theorem n26_ok {call : CallW} (h : CallSim Try.prog tys stl tab call) : FnGood Try.prog tys stl tab 26 (n26 call) := node_ok h (by kernel_rfl) rfl g26 (R26_eq real _ _)
/- (foghorn/frame.head).frame -/
noncomputable def R29 (q_share : (α : Type) → α → (α → Bool) → Bool) (q_genW : Option CV → (W → Bool) → Bool) (q_bitW : (Nat → Nat → Nat) → Nat → Nat → Option CV → W → W → (W → Bool) → Bool) (q_cmpW : (Nat → Nat → Bool) → Nat → Option CV → W → W → (W → Bool) → Bool) (q_shrW : Nat → Nat → Option CV → W → W → (W → Bool) → Bool) (q_icvW : Nat → Nat → Option CV → W → (W → Bool) → Bool) (q_condW : W → Bool → Bool → Bool) (q_guardW : Bool → W → Bool → Bool → Bool) (q_pickW : W → W → W → (W → Bool) → Bool) (q_idxAW : Nat → Nat → W → W → (W → Bool) → Bool) (q_killVW : W → HW → (HW → Bool) → Bool) (q_loadSW : HW → W → (W → Bool) → Bool) (q_loadAW : Nat → HW → W → (W → Bool) → Bool) (q_storeAW : Nat → HW → W → W → (HW → Bool) → Bool) (q_allocW : Trie W → Nat → Bool → HW → Nat → KW → Bool) (q_boxW : HW → Nat → W → KW → Bool) (q_flatW : W → Bool → Bool) (q_samQW : W → W → Bool → Bool) (fu : Nat) (call : CallW) (a0 : W) (h0 : HW) (c0 : Nat) (K : KW) : Bool :=
q_boxW h0 c0 a0 fun v1 h2 c3 =>
q_allocW (allocT tys 23) 4 true h2 c3 fun v4 h5 c6 =>
q_idxAW 1 5 v1 ⟨3, 2, r0, []⟩ fun v7 =>
q_loadSW h5 v7 fun v8 =>
q_icvW 3 9223372036854775807 (convC Try.prog tys ⟨[], 0, decH h5, 0⟩ 5 3 (dec v8)) v8 fun v9 =>
q_idxAW 1 5 v1 ⟨3, 0, r0, []⟩ fun v10 =>
q_loadSW h5 v10 fun v11 =>
q_shrW 4 8 (binC Try.prog .shr 5 (.tmp 11) (.const (.int .u64 (.ofNat 4))) (dec v11) (dec ⟨7, 4, r0, []⟩)) v11 ⟨7, 4, r0, []⟩ fun v12 =>
q_idxAW 1 5 v1 ⟨3, 0, r0, []⟩ fun v13 =>
q_loadSW h5 v13 fun v14 =>
q_bitW Nat.land 4 255 (binC Try.prog .and 5 (.tmp 14) (.const (.int .u8 (.ofNat 15))) (dec v14) (dec ⟨4, 15, r0, []⟩)) v14 ⟨4, 15, r0, []⟩ fun v15 =>
q_loadAW 5 h5 v1 fun v16 =>
q_loadAW 5 h5 v1 fun v17 =>
call 32 [v16] h5 c6 fun v18 h19 c20 =>
q_loadAW 5 h19 v1 fun v21 =>
q_samQW v21 v17 (
q_genW (binC Try.prog .neq 56 (.tmp 16) (.tmp 18) (dec v17) (dec v18)) fun v22 =>
q_share _ (fun (v24 : W) (h25 : HW) (c26 : Nat) =>
q_share _ (fun (v28 : W) (h29 : HW) (c30 : Nat) =>
q_pickW v22 ⟨8, 1, r0, []⟩ v28 fun v31 =>
q_share _ (fun (v33 : W) (h34 : HW) (c35 : Nat) =>
q_share _ (fun (v37 : W) (h38 : HW) (c39 : Nat) =>
q_pickW v31 ⟨8, 1, r0, []⟩ v37 fun v40 =>
q_share _ (fun (v42 : W) (h43 : HW) (c44 : Nat) =>
q_share _ (fun (v46 : W) (h47 : HW) (c48 : Nat) =>
q_pickW v40 ⟨8, 1, r0, []⟩ v46 fun v49 =>
q_condW v49 (
(fun (v50 : W) =>
q_storeAW 4 h47 v4 v50 fun h51 =>
q_loadAW 4 h51 v4 fun v52 =>
q_killVW v1 h51 fun h53 =>
K ⟨13, 0, r0, [v52, ⟨3, 0, r0, []⟩, ⟨8, 0, r0, []⟩]⟩ h53 c48) ⟨15, 0, r0, [⟨4, 0, r0, []⟩, ⟨4, 0, r0, []⟩, ⟨8, 0, r0, []⟩, ⟨12, 0, ⟨0, 0, 0, .str ⟨⟨[]⟩⟩⟩, []⟩]⟩) (
q_idxAW 1 5 v1 ⟨3, 1, r0, []⟩ fun v54 =>
q_loadSW h47 v54 fun v55 =>
q_cmpW (cmpF2 .eql) 4 (binC Try.prog .eql 5 (.tmp 36) (.const (.int .u8 (.ofNat 1))) (dec v15) (dec ⟨4, 1, r0, []⟩)) v15 ⟨4, 1, r0, []⟩ fun v56 =>
q_flatW v12 (
q_flatW v55 (
q_flatW v56 (
(fun (v57 : W) =>
q_storeAW 4 h47 v4 v57 fun h58 =>
q_loadAW 4 h58 v4 fun v59 =>
q_killVW v1 h58 fun h60 =>
K ⟨13, 0, r0, [v59, v9, ⟨8, 1, r0, []⟩]⟩ h60 c48) ⟨15, 0, r0, [v12, v55, v56, ⟨12, 0, ⟨0, 0, 0, .str ⟨⟨[]⟩⟩⟩, []⟩]⟩))))) fun f45 =>
q_guardW false v40 (q_cmpW (cmpF2 .gtr) 3 (binC Try.prog .gtr 3 (.tmp 29) (.const (.int .i64 (.ofNat 240))) (dec v42) (dec ⟨3, 240, r0, []⟩)) v42 ⟨3, 240, r0, []⟩ fun v61 =>
f45 v61 h43 c44) (f45 wUnd h43 c44)) fun f41 =>
q_guardW false v40 (f41 v9 h38 c39) (f41 wUnd h38 c39)) fun f36 =>
q_guardW false v31 (q_cmpW (cmpF2 .gtr) 4 (binC Try.prog .gtr 5 (.tmp 25) (.const (.int .u8 (.ofNat 1))) (dec v33) (dec ⟨4, 1, r0, []⟩)) v33 ⟨4, 1, r0, []⟩ fun v62 =>
f36 v62 h34 c35) (f36 wUnd h34 c35)) fun f32 =>
q_guardW false v31 (f32 v15 h29 c30) (f32 wUnd h29 c30)) fun f27 =>
q_guardW false v22 (q_cmpW (cmpF2 .lss) 4 (binC Try.prog .lss 5 (.tmp 21) (.const (.int .u8 (.ofNat 1))) (dec v24) (dec ⟨4, 1, r0, []⟩)) v24 ⟨4, 1, r0, []⟩ fun v63 =>
f27 v63 h25 c26) (f27 wUnd h25 c26)) fun f23 =>
q_guardW false v22 (f23 v12 h19 c20) (f23 wUnd h19 c20))
theorem R29_eq (Q : PrimW) (fu : Nat) (call : CallW) : curryA 1 (fnK Q Try.prog tys stl fu call e29) = R29 Q.share Q.genW Q.bitW Q.cmpW Q.shrW Q.icvW Q.condW Q.guardW Q.pickW Q.idxAW Q.killVW Q.loadSW Q.loadAW Q.storeAW Q.allocW Q.boxW Q.flatW Q.samQW fu call := by kernel_rfl
noncomputable def n29 (call : CallW) : List W → HW → Nat → KW → Bool := appF 1 (R29 (fun _ x f => f x) genW bitW cmpW shrW icvW condW guardW pickW idxAW killVW loadSW loadAW storeAW allocW boxW flatW samQW 1000000 call)
theorem n29_ok {call : CallW} (h : CallSim Try.prog tys stl tab call) : FnGood Try.prog tys stl tab 29 (n29 call) := node_ok h (by kernel_rfl) rfl g29 (R29_eq real _ _)
/- foghorn/sums.Opened -/
noncomputable def R30 (q_genW : Option CV → (W → Bool) → Bool) (q_subW : Nat → Nat → Option CV → W → W → (W → Bool) → Bool) (q_cmpW : (Nat → Nat → Bool) → Nat → Option CV → W → W → (W → Bool) → Bool) (q_condW : W → Bool → Bool → Bool) (fu : Nat) (call : CallW) (a0 : W) (h0 : HW) (c0 : Nat) (K : KW) : Bool :=
q_genW (lenMC Try.prog tys ⟨[], 0, decH h0, 0⟩ 9 (dec a0)) fun v1 =>
q_cmpW (cmpF2 .lss) 3 (binC Try.prog .lss 3 (.tmp 6) (.const (.int .i64 (.ofNat 4))) (dec v1) (dec ⟨3, 4, r0, []⟩)) v1 ⟨3, 4, r0, []⟩ fun v2 =>
q_condW v2 (
K ⟨13, 0, r0, [⟨12, 0, ⟨0, 0, 0, .str ⟨⟨[]⟩⟩⟩, []⟩, ⟨8, 0, r0, []⟩]⟩ h0 c0) (
q_genW (lenMC Try.prog tys ⟨[], 0, decH h0, 0⟩ 9 (dec a0)) fun v3 =>
q_subW 3 9223372036854775807 (binC Try.prog .sub 3 (.tmp 10) (.const (.int .i64 (.ofNat 4))) (dec v3) (dec ⟨3, 4, r0, []⟩)) v3 ⟨3, 4, r0, []⟩ fun v4 =>
q_genW (sliceM tys ⟨[], 0, decH h0, 0⟩ 9 (dec a0) none (some (dec v4)) none) fun v5 =>
call 26 [v5] h0 c0 fun v6 h7 c8 =>
q_genW (binC Try.prog .neq 9 (.tmp 14) (.tmp 15) (dec v6) (dec a0)) fun v9 =>
q_condW v9 (
K ⟨13, 0, r0, [⟨12, 0, ⟨0, 0, 0, .str ⟨⟨[]⟩⟩⟩, []⟩, ⟨8, 0, r0, []⟩]⟩ h7 c8) (
K ⟨13, 0, r0, [v5, ⟨8, 1, r0, []⟩]⟩ h7 c8))
theorem R30_eq (Q : PrimW) (fu : Nat) (call : CallW) : curryA 1 (fnK Q Try.prog tys stl fu call e30) = R30 Q.genW Q.subW Q.cmpW Q.condW fu call := by kernel_rfl
noncomputable def n30 (call : CallW) : List W → HW → Nat → KW → Bool := appF 1 (R30 genW subW cmpW condW 1000000 call)
theorem n30_ok {call : CallW} (h : CallSim Try.prog tys stl tab call) : FnGood Try.prog tys stl tab 30 (n30 call) := node_ok h (by kernel_rfl) rfl g30 (R30_eq real _ _)
/- foghorn/frame.Scan$1 -/
noncomputable def R31 (q_genW : Option CV → (W → Bool) → Bool) (q_addW : Nat → Nat → Option CV → W → W → (W → Bool) → Bool) (q_cmpW : (Nat → Nat → Bool) → Nat → Option CV → W → W → (W → Bool) → Bool) (q_notW : Option CV → W → (W → Bool) → Bool) (q_condW : W → Bool → Bool → Bool) (q_tupW : W → (List W → Bool) → Bool) (q_nthW : Nat → List W → (W → Bool) → Bool) (q_onG : W → List W → (FuncId → List W → Bool) → Bool) (q_loadSW : HW → W → (W → Bool) → Bool) (q_loadAW : Nat → HW → W → (W → Bool) → Bool) (q_storeAW : Nat → HW → W → W → (HW → Bool) → Bool) (q_allocW : Trie W → Nat → Bool → HW → Nat → KW → Bool) (fu : Nat) (call : CallW) (a0 : W) (a1 : W) (h0 : HW) (c0 : Nat) (K : KW) : Bool :=
@Nat.rec (fun _ => Fun 1) (fun _ _ _ => false) (fun _ f4 v1 h2 c3 =>
q_loadSW h2 a1 fun v5 =>
q_genW (lenMC Try.prog tys ⟨[], 0, decH h2, 0⟩ 9 (dec v5)) fun v6 =>
q_cmpW (cmpF2 .lss) 3 (binC Try.prog .lss 3 (.tmp 7) (.tmp 9) (dec v1) (dec v6)) v1 v6 fun v7 =>
q_condW v7 (
q_loadSW h2 a1 fun v8 =>
q_genW (sliceM tys ⟨[], 0, decH h2, 0⟩ 9 (dec v8) (some (dec v1)) none none) fun v9 =>
call 11 [v9] h2 c3 fun v10 h11 c12 =>
q_tupW v10 fun l13 => q_nthW 0 l13 fun v14 =>
q_tupW v10 fun l15 => q_nthW 1 l15 fun v16 =>
q_tupW v10 fun l17 => q_nthW 2 l17 fun v18 =>
q_allocW (allocT tys 23) 4 true h11 c12 fun v19 h20 c21 =>
q_storeAW 4 h20 v19 v14 fun h22 =>
q_cmpW (cmpF2 .neq) 3 (binC Try.prog .neq 24 (.tmp 19) (.const (.int .i64 (.ofNat 0))) (dec v18) (dec ⟨3, 0, r0, []⟩)) v18 ⟨3, 0, r0, []⟩ fun v23 =>
q_condW v23 (
q_addW 3 9223372036854775807 (binC Try.prog .add 3 (.tmp 21) (.const (.int .i64 (.ofNat 1))) (dec v1) (dec ⟨3, 1, r0, []⟩)) v1 ⟨3, 1, r0, []⟩ fun v24 =>
f4 v24 h22 c21) (
q_loadAW 4 h22 v19 fun v25 =>
q_onG a0 [v1, v25] fun g26 l27 => call g26 l27 h22 c21 fun v28 h29 c30 =>
q_notW (two Try.prog (dec v28) (Op.unary .not)) v28 fun v31 =>
q_condW v31 (
K ⟨13, 0, r0, []⟩ h29 c30) (
q_addW 3 9223372036854775807 (binC Try.prog .add 3 (.tmp 28) (.tmp 29) (dec v1) (dec v16)) v1 v16 fun v32 =>
f4 v32 h29 c30))) (
K ⟨13, 0, r0, []⟩ h2 c3)) fu ⟨3, 0, r0, []⟩ h0 c0
theorem R31_eq (Q : PrimW) (fu : Nat) (call : CallW) : curryA 2 (fnK Q Try.prog tys stl fu call e31) = R31 Q.genW Q.addW Q.cmpW Q.notW Q.condW Q.tupW Q.nthW Q.onG Q.loadSW Q.loadAW Q.storeAW Q.allocW fu call := by kernel_rfl
noncomputable def n31 (call : CallW) : List W → HW → Nat → KW → Bool := appF 2 (R31 genW addW cmpW notW condW tupW nthW onG loadSW loadAW storeAW allocW 1000000 call)
theorem n31_ok {call : CallW} (h : CallSim Try.prog tys stl tab call) : FnGood Try.prog tys stl tab 31 (n31 call) := node_ok h (by kernel_rfl) rfl g31 (R31_eq real _ _)
/- (foghorn/frame.head).summed -/
noncomputable def R32 (q_genW : Option CV → (W → Bool) → Bool) (q_shrW : Nat → Nat → Option CV → W → W → (W → Bool) → Bool) (q_icvW : Nat → Nat → Option CV → W → (W → Bool) → Bool) (q_idxAW : Nat → Nat → W → W → (W → Bool) → Bool) (q_loadAW : Nat → HW → W → (W → Bool) → Bool) (q_storeSW : HW → W → W → (HW → Bool) → Bool) (q_storeAW : Nat → HW → W → W → (HW → Bool) → Bool) (q_allocW : Trie W → Nat → Bool → HW → Nat → KW → Bool) (q_boxW : HW → Nat → W → KW → Bool) (fu : Nat) (call : CallW) (a0 : W) (h0 : HW) (c0 : Nat) (K : KW) : Bool :=
q_boxW h0 c0 a0 fun v1 h2 c3 =>
q_allocW (allocT tys 56) 5 true h2 c3 fun v4 h5 c6 =>
q_genW (sliceM tys ⟨[], 0, decH h5, 0⟩ 56 (dec v1) none (some (dec ⟨3, 3, r0, []⟩)) none) fun v7 =>
q_genW (convC Try.prog tys ⟨[], 0, decH h5, 0⟩ 52 9 (dec v7)) fun v8 =>
call 34 [v8] h5 c6 fun v9 h10 c11 =>
q_shrW 5 16 (binC Try.prog .shr 68 (.tmp 7) (.const (.int .u64 (.ofNat 8))) (dec v9) (dec ⟨7, 8, r0, []⟩)) v9 ⟨7, 8, r0, []⟩ fun v12 =>
q_icvW 4 255 (convC Try.prog tys ⟨[], 0, decH h10, 0⟩ 68 5 (dec v12)) v12 fun v13 =>
q_icvW 4 255 (convC Try.prog tys ⟨[], 0, decH h10, 0⟩ 68 5 (dec v9)) v9 fun v14 =>
q_idxAW 1 5 v1 ⟨3, 3, r0, []⟩ fun v15 =>
q_storeSW h10 v15 v13 fun h16 =>
q_idxAW 1 5 v1 ⟨3, 4, r0, []⟩ fun v17 =>
q_storeSW h16 v17 v14 fun h18 =>
q_loadAW 5 h18 v1 fun v19 =>
q_storeAW 5 h18 v4 v19 fun h20 =>
q_loadAW 5 h20 v4 fun v21 =>
K v21 h20 c11
theorem R32_eq (Q : PrimW) (fu : Nat) (call : CallW) : curryA 1 (fnK Q Try.prog tys stl fu call e32) = R32 Q.genW Q.shrW Q.icvW Q.idxAW Q.loadAW Q.storeSW Q.storeAW Q.allocW Q.boxW fu call := by kernel_rfl
noncomputable def n32 (call : CallW) : List W → HW → Nat → KW → Bool := appF 1 (R32 genW shrW icvW idxAW loadAW storeSW storeAW allocW boxW 1000000 call)
theorem n32_ok {call : CallW} (h : CallSim Try.prog tys stl tab call) : FnGood Try.prog tys stl tab 32 (n32 call) := node_ok h (by kernel_rfl) rfl g32 (R32_eq real _ _)
/- foghorn/sums.Bytes32 -/
noncomputable def R33 (fu : Nat) (call : CallW) (a0 : W) (h0 : HW) (c0 : Nat) (K : KW) : Bool :=
call 35 [⟨6, 79764919, r0, []⟩, a0] h0 c0 fun v1 h2 c3 =>
K v1 h2 c3
theorem R33_eq (Q : PrimW) (fu : Nat) (call : CallW) : curryA 1 (fnK Q Try.prog tys stl fu call e33) = R33 fu call := by kernel_rfl
noncomputable def n33 (call : CallW) : List W → HW → Nat → KW → Bool := appF 1 (R33 1000000 call)
theorem n33_ok {call : CallW} (h : CallSim Try.prog tys stl tab call) : FnGood Try.prog tys stl tab 33 (n33 call) := node_ok h (by kernel_rfl) rfl g33 (R33_eq real _ _)
/- foghorn/sums.Bytes16 -/
noncomputable def R34 (fu : Nat) (call : CallW) (a0 : W) (h0 : HW) (c0 : Nat) (K : KW) : Bool :=
call 36 [⟨5, 4129, r0, []⟩, a0] h0 c0 fun v1 h2 c3 =>
K v1 h2 c3
theorem R34_eq (Q : PrimW) (fu : Nat) (call : CallW) : curryA 1 (fnK Q Try.prog tys stl fu call e34) = R34 fu call := by kernel_rfl
noncomputable def n34 (call : CallW) : List W → HW → Nat → KW → Bool := appF 1 (R34 1000000 call)
theorem n34_ok {call : CallW} (h : CallSim Try.prog tys stl tab call) : FnGood Try.prog tys stl tab 34 (n34 call) := node_ok h (by kernel_rfl) rfl g34 (R34_eq real _ _)
/- foghorn/sums.ofBytes[uint32] -/
noncomputable def R35 (q_addW : Nat → Nat → Option CV → W → W → (W → Bool) → Bool) (q_subW : Nat → Nat → Option CV → W → W → (W → Bool) → Bool) (q_bitW : (Nat → Nat → Nat) → Nat → Nat → Option CV → W → W → (W → Bool) → Bool) (q_cmpW : (Nat → Nat → Bool) → Nat → Option CV → W → W → (W → Bool) → Bool) (q_shrW : Nat → Nat → Option CV → W → W → (W → Bool) → Bool) (q_condW : W → Bool → Bool → Bool) (q_idxSW : Nat → W → W → (W → Bool) → Bool) (q_lenW : Option CV → W → (W → Bool) → Bool) (q_loadSW : HW → W → (W → Bool) → Bool) (q_bytW : Bool → HW → Nat → W → KW → Bool) (fu : Nat) (call : CallW) (a0 : W) (a1 : W) (h0 : HW) (c0 : Nat) (K : KW) : Bool :=
q_bytW (bytOk tys 9 52) h0 c0 a1 fun v1 h2 c3 =>
q_lenW (lenC tys 52 (dec v1)) v1 fun v4 =>
@Nat.rec (fun _ => Fun 2) (fun _ _ _ _ => false) (fun _ f9 v5 v6 h7 c8 =>
q_cmpW (cmpF2 .lss) 3 (binC Try.prog .lss 3 (.tmp 12) (.tmp 11) (dec v6) (dec v4)) v6 v4 fun v10 =>
q_condW v10 (
q_idxSW 1 v1 v6 fun v11 =>
q_loadSW h7 v11 fun v12 =>
@Nat.rec (fun _ => Fun 2) (fun _ _ _ _ => false) (fun _ f17 v13 v14 h15 c16 =>
q_cmpW (cmpF2 .geq) 3 (binC Try.prog .geq 3 (.tmp 16) (.const (.int .i64 (.ofNat 0))) (dec v14) (dec ⟨3, 0, r0, []⟩)) v14 ⟨3, 0, r0, []⟩ fun v18 =>
q_condW v18 (
q_shrW 4 8 (binC Try.prog .shr 5 (.tmp 22) (.tmp 23) (dec v12) (dec v14)) v12 v14 fun v19 =>
q_bitW Nat.land 4 255 (binC Try.prog .and 5 (.tmp 24) (.const (.int .u8 (.ofNat 1))) (dec v19) (dec ⟨4, 1, r0, []⟩)) v19 ⟨4, 1, r0, []⟩ fun v20 =>
q_cmpW (cmpF2 .neq) 4 (binC Try.prog .neq 5 (.tmp 25) (.const (.int .u8 (.ofNat 0))) (dec v20) (dec ⟨4, 0, r0, []⟩)) v20 ⟨4, 0, r0, []⟩ fun v21 =>
call 37 [v13, a0, v21] h15 c16 fun v22 h23 c24 =>
q_subW 3 9223372036854775807 (binC Try.prog .sub 3 (.tmp 18) (.const (.int .i64 (.ofNat 1))) (dec v14) (dec ⟨3, 1, r0, []⟩)) v14 ⟨3, 1, r0, []⟩ fun v25 =>
f17 v22 v25 h23 c24) (
q_addW 3 9223372036854775807 (binC Try.prog .add 3 (.tmp 12) (.const (.int .i64 (.ofNat 1))) (dec v6) (dec ⟨3, 1, r0, []⟩)) v6 ⟨3, 1, r0, []⟩ fun v26 =>
f9 v13 v26 h15 c16)) fu v5 ⟨3, 7, r0, []⟩ h7 c8) (
K v5 h7 c8)) fu ⟨6, 0, r0, []⟩ ⟨3, 0, r0, []⟩ h2 c3
theorem R35_eq (Q : PrimW) (fu : Nat) (call : CallW) : curryA 2 (fnK Q Try.prog tys stl fu call e35) = R35 Q.addW Q.subW Q.bitW Q.cmpW Q.shrW Q.condW Q.idxSW Q.lenW Q.loadSW Q.bytW fu call := by kernel_rfl
noncomputable def n35 (call : CallW) : List W → HW → Nat → KW → Bool := appF 2 (R35 addW subW bitW cmpW shrW condW idxSW lenW loadSW bytW 1000000 call)
theorem n35_ok {call : CallW} (h : CallSim Try.prog tys stl tab call) : FnGood Try.prog tys stl tab 35 (n35 call) := node_ok h (by kernel_rfl) rfl g35 (R35_eq real _ _)
/- foghorn/sums.ofBytes[uint16] -/
noncomputable def R36 (q_addW : Nat → Nat → Option CV → W → W → (W → Bool) → Bool) (q_subW : Nat → Nat → Option CV → W → W → (W → Bool) → Bool) (q_bitW : (Nat → Nat → Nat) → Nat → Nat → Option CV → W → W → (W → Bool) → Bool) (q_cmpW : (Nat → Nat → Bool) → Nat → Option CV → W → W → (W → Bool) → Bool) (q_shrW : Nat → Nat → Option CV → W → W → (W → Bool) → Bool) (q_condW : W → Bool → Bool → Bool) (q_idxSW : Nat → W → W → (W → Bool) → Bool) (q_lenW : Option CV → W → (W → Bool) → Bool) (q_loadSW : HW → W → (W → Bool) → Bool) (q_bytW : Bool → HW → Nat → W → KW → Bool) (fu : Nat) (call : CallW) (a0 : W) (a1 : W) (h0 : HW) (c0 : Nat) (K : KW) : Bool :=
q_bytW (bytOk tys 9 52) h0 c0 a1 fun v1 h2 c3 =>
q_lenW (lenC tys 52 (dec v1)) v1 fun v4 =>
@Nat.rec (fun _ => Fun 2) (fun _ _ _ _ => false) (fun _ f9 v5 v6 h7 c8 =>
q_cmpW (cmpF2 .lss) 3 (binC Try.prog .lss 3 (.tmp 12) (.tmp 11) (dec v6) (dec v4)) v6 v4 fun v10 =>
q_condW v10 (
q_idxSW 1 v1 v6 fun v11 =>
q_loadSW h7 v11 fun v12 =>
@Nat.rec (fun _ => Fun 2) (fun _ _ _ _ => false) (fun _ f17 v13 v14 h15 c16 =>
q_cmpW (cmpF2 .geq) 3 (binC Try.prog .geq 3 (.tmp 16) (.const (.int .i64 (.ofNat 0))) (dec v14) (dec ⟨3, 0, r0, []⟩)) v14 ⟨3, 0, r0, []⟩ fun v18 =>
q_condW v18 (
q_shrW 4 8 (binC Try.prog .shr 5 (.tmp 22) (.tmp 23) (dec v12) (dec v14)) v12 v14 fun v19 =>
q_bitW Nat.land 4 255 (binC Try.prog .and 5 (.tmp 24) (.const (.int .u8 (.ofNat 1))) (dec v19) (dec ⟨4, 1, r0, []⟩)) v19 ⟨4, 1, r0, []⟩ fun v20 =>
q_cmpW (cmpF2 .neq) 4 (binC Try.prog .neq 5 (.tmp 25) (.const (.int .u8 (.ofNat 0))) (dec v20) (dec ⟨4, 0, r0, []⟩)) v20 ⟨4, 0, r0, []⟩ fun v21 =>
call 38 [v13, a0, v21] h15 c16 fun v22 h23 c24 =>
q_subW 3 9223372036854775807 (binC Try.prog .sub 3 (.tmp 18) (.const (.int .i64 (.ofNat 1))) (dec v14) (dec ⟨3, 1, r0, []⟩)) v14 ⟨3, 1, r0, []⟩ fun v25 =>
f17 v22 v25 h23 c24) (
q_addW 3 9223372036854775807 (binC Try.prog .add 3 (.tmp 12) (.const (.int .i64 (.ofNat 1))) (dec v6) (dec ⟨3, 1, r0, []⟩)) v6 ⟨3, 1, r0, []⟩ fun v26 =>
f9 v13 v26 h15 c16)) fu v5 ⟨3, 7, r0, []⟩ h7 c8) (
K v5 h7 c8)) fu ⟨5, 0, r0, []⟩ ⟨3, 0, r0, []⟩ h2 c3
theorem R36_eq (Q : PrimW) (fu : Nat) (call : CallW) : curryA 2 (fnK Q Try.prog tys stl fu call e36) = R36 Q.addW Q.subW Q.bitW Q.cmpW Q.shrW Q.condW Q.idxSW Q.lenW Q.loadSW Q.bytW fu call := by kernel_rfl
noncomputable def n36 (call : CallW) : List W → HW → Nat → KW → Bool := appF 2 (R36 addW subW bitW cmpW shrW condW idxSW lenW loadSW bytW 1000000 call)
theorem n36_ok {call : CallW} (h : CallSim Try.prog tys stl tab call) : FnGood Try.prog tys stl tab 36 (n36 call) := node_ok h (by kernel_rfl) rfl g36 (R36_eq real _ _)
/- foghorn/sums.next[uint32] -/
noncomputable def R37 (q_share : (α : Type) → α → (α → Bool) → Bool) (q_genW : Option CV → (W → Bool) → Bool) (q_subW : Nat → Nat → Option CV → W → W → (W → Bool) → Bool) (q_bitW : (Nat → Nat → Nat) → Nat → Nat → Option CV → W → W → (W → Bool) → Bool) (q_cmpW : (Nat → Nat → Bool) → Nat → Option CV → W → W → (W → Bool) → Bool) (q_shlW : Nat → Nat → Nat → Option CV → W → W → (W → Bool) → Bool) (q_shrW : Nat → Nat → Option CV → W → W → (W → Bool) → Bool) (q_condW : W → Bool → Bool → Bool) (fu : Nat) (call : CallW) (a0 : W) (a1 : W) (a2 : W) (h0 : HW) (c0 : Nat) (K : KW) : Bool :=
call 39 [a0] h0 c0 fun v1 h2 c3 =>
q_subW 3 9223372036854775807 (binC Try.prog .sub 3 (.tmp 10) (.const (.int .i64 (.ofNat 1))) (dec v1) (dec ⟨3, 1, r0, []⟩)) v1 ⟨3, 1, r0, []⟩ fun v4 =>
q_shrW 6 32 (binC Try.prog .shr 51 (.tmp 8) (.tmp 11) (dec a0) (dec v4)) a0 v4 fun v5 =>
q_cmpW (cmpF2 .neq) 6 (binC Try.prog .neq 51 (.tmp 12) (.const (.int .u32 (.ofNat 0))) (dec v5) (dec ⟨6, 0, r0, []⟩)) v5 ⟨6, 0, r0, []⟩ fun v6 =>
q_shlW 6 4294967295 32 (binC Try.prog .shl 51 (.tmp 14) (.const (.int .u64 (.ofNat 1))) (dec a0) (dec ⟨7, 1, r0, []⟩)) a0 ⟨7, 1, r0, []⟩ fun v7 =>
q_share _ (fun (v8 : W) (h9 : HW) (c10 : Nat) =>
K v8 h9 c10) fun f11 =>
q_genW (binC Try.prog .neq 4 (.tmp 16) (.tmp 17) (dec v6) (dec a2)) fun v12 =>
q_condW v12 (
q_bitW Nat.xor 6 4294967295 (binC Try.prog .xor 51 (.tmp 19) (.tmp 20) (dec v7) (dec a1)) v7 a1 fun v13 =>
f11 v13 h2 c3) (
f11 v7 h2 c3)
theorem R37_eq (Q : PrimW) (fu : Nat) (call : CallW) : curryA 3 (fnK Q Try.prog tys stl fu call e37) = R37 Q.share Q.genW Q.subW Q.bitW Q.cmpW Q.shlW Q.shrW Q.condW fu call := by kernel_rfl
noncomputable def n37 (call : CallW) : List W → HW → Nat → KW → Bool := appF 3 (R37 (fun _ x f => f x) genW subW bitW cmpW shlW shrW condW 1000000 call)
theorem n37_ok {call : CallW} (h : CallSim Try.prog tys stl tab call) : FnGood Try.prog tys stl tab 37 (n37 call) := node_ok h (by kernel_rfl) rfl g37 (R37_eq real _ _)
/- foghorn/sums.next[uint16] -/
noncomputable def R38 (q_share : (α : Type) → α → (α → Bool) → Bool) (q_genW : Option CV → (W → Bool) → Bool) (q_subW : Nat → Nat → Option CV → W → W → (W → Bool) → Bool) (q_bitW : (Nat → Nat → Nat) → Nat → Nat → Option CV → W → W → (W → Bool) → Bool) (q_cmpW : (Nat → Nat → Bool) → Nat → Option CV → W → W → (W → Bool) → Bool) (q_shlW : Nat → Nat → Nat → Option CV → W → W → (W → Bool) → Bool) (q_shrW : Nat → Nat → Option CV → W → W → (W → Bool) → Bool) (q_condW : W → Bool → Bool → Bool) (fu : Nat) (call : CallW) (a0 : W) (a1 : W) (a2 : W) (h0 : HW) (c0 : Nat) (K : KW) : Bool :=
call 40 [a0] h0 c0 fun v1 h2 c3 =>
q_subW 3 9223372036854775807 (binC Try.prog .sub 3 (.tmp 10) (.const (.int .i64 (.ofNat 1))) (dec v1) (dec ⟨3, 1, r0, []⟩)) v1 ⟨3, 1, r0, []⟩ fun v4 =>
q_shrW 5 16 (binC Try.prog .shr 68 (.tmp 8) (.tmp 11) (dec a0) (dec v4)) a0 v4 fun v5 =>
q_cmpW (cmpF2 .neq) 5 (binC Try.prog .neq 68 (.tmp 12) (.const (.int .u16 (.ofNat 0))) (dec v5) (dec ⟨5, 0, r0, []⟩)) v5 ⟨5, 0, r0, []⟩ fun v6 =>
q_shlW 5 65535 16 (binC Try.prog .shl 68 (.tmp 14) (.const (.int .u64 (.ofNat 1))) (dec a0) (dec ⟨7, 1, r0, []⟩)) a0 ⟨7, 1, r0, []⟩ fun v7 =>
q_share _ (fun (v8 : W) (h9 : HW) (c10 : Nat) =>
K v8 h9 c10) fun f11 =>
q_genW (binC Try.prog .neq 4 (.tmp 16) (.tmp 17) (dec v6) (dec a2)) fun v12 =>
q_condW v12 (
q_bitW Nat.xor 5 65535 (binC Try.prog .xor 68 (.tmp 19) (.tmp 20) (dec v7) (dec a1)) v7 a1 fun v13 =>
f11 v13 h2 c3) (
f11 v7 h2 c3)
theorem R38_eq (Q : PrimW) (fu : Nat) (call : CallW) : curryA 3 (fnK Q Try.prog tys stl fu call e38) = R38 Q.share Q.genW Q.subW Q.bitW Q.cmpW Q.shlW Q.shrW Q.condW fu call := by kernel_rfl
noncomputable def n38 (call : CallW) : List W → HW → Nat → KW → Bool := appF 3 (R38 (fun _ x f => f x) genW subW bitW cmpW shlW shrW condW 1000000 call)
theorem n38_ok {call : CallW} (h : CallSim Try.prog tys stl tab call) : FnGood Try.prog tys stl tab 38 (n38 call) := node_ok h (by kernel_rfl) rfl g38 (R38_eq real _ _)
/- foghorn/sums.wide[uint32] -/
noncomputable def R39 (q_genW : Option CV → (W → Bool) → Bool) (q_icvW : Nat → Nat → Option CV → W → (W → Bool) → Bool) (fu : Nat) (call : CallW) (a0 : W) (h0 : HW) (c0 : Nat) (K : KW) : Bool :=
q_icvW 6 4294967295 (convC Try.prog tys ⟨[], 0, decH h0, 0⟩ 3 51 (dec ⟨3, 0, r0, []⟩)) ⟨3, 0, r0, []⟩ fun v1 =>
q_genW (two Try.prog (dec v1) (Op.unary .xor)) fun v2 =>
call 41 [v2] h0 c0 fun v3 h4 c5 =>
K v3 h4 c5
theorem R39_eq (Q : PrimW) (fu : Nat) (call : CallW) : curryA 1 (fnK Q Try.prog tys stl fu call e39) = R39 Q.genW Q.icvW fu call := by kernel_rfl
noncomputable def n39 (call : CallW) : List W → HW → Nat → KW → Bool := appF 1 (R39 genW icvW 1000000 call)
theorem n39_ok {call : CallW} (h : CallSim Try.prog tys stl tab call) : FnGood Try.prog tys stl tab 39 (n39 call) := node_ok h (by kernel_rfl) rfl g39 (R39_eq real _ _)
/- foghorn/sums.wide[uint16] -/
noncomputable def R40 (q_genW : Option CV → (W → Bool) → Bool) (q_icvW : Nat → Nat → Option CV → W → (W → Bool) → Bool) (fu : Nat) (call : CallW) (a0 : W) (h0 : HW) (c0 : Nat) (K : KW) : Bool :=
q_icvW 5 65535 (convC Try.prog tys ⟨[], 0, decH h0, 0⟩ 3 68 (dec ⟨3, 0, r0, []⟩)) ⟨3, 0, r0, []⟩ fun v1 =>
q_genW (two Try.prog (dec v1) (Op.unary .xor)) fun v2 =>
q_icvW 6 4294967295 (convC Try.prog tys ⟨[], 0, decH h0, 0⟩ 68 51 (dec v2)) v2 fun v3 =>
call 41 [v3] h0 c0 fun v4 h5 c6 =>
K v4 h5 c6
theorem R40_eq (Q : PrimW) (fu : Nat) (call : CallW) : curryA 1 (fnK Q Try.prog tys stl fu call e40) = R40 Q.genW Q.icvW fu call := by kernel_rfl
noncomputable def n40 (call : CallW) : List W → HW → Nat → KW → Bool := appF 1 (R40 genW icvW 1000000 call)
theorem n40_ok {call : CallW} (h : CallSim Try.prog tys stl tab call) : FnGood Try.prog tys stl tab 40 (n40 call) := node_ok h (by kernel_rfl) rfl g40 (R40_eq real _ _)
/- math/bits.Len32 -/
noncomputable def R41 (q_share : (α : Type) → α → (α → Bool) → Bool) (q_genW : Option CV → (W → Bool) → Bool) (q_addW : Nat → Nat → Option CV → W → W → (W → Bool) → Bool) (q_cmpW : (Nat → Nat → Bool) → Nat → Option CV → W → W → (W → Bool) → Bool) (q_shrW : Nat → Nat → Option CV → W → W → (W → Bool) → Bool) (q_icvW : Nat → Nat → Option CV → W → (W → Bool) → Bool) (q_condW : W → Bool → Bool → Bool) (fu : Nat) (call : CallW) (a0 : W) (h0 : HW) (c0 : Nat) (K : KW) : Bool :=
q_share _ (fun (v1 : W) (v2 : W) (h3 : HW) (c4 : Nat) =>
q_share _ (fun (v6 : W) (v7 : W) (h8 : HW) (c9 : Nat) =>
q_icvW 4 255 (convC Try.prog tys ⟨[], 0, decH h8, 0⟩ 51 5 (dec v6)) v6 fun v11 =>
q_genW (two2 Try.prog (dec ⟨12, 0, ⟨0, 0, 0, .str ⟨⟨[0, 1, 2, 2, 3, 3, 3, 3, 4, 4, 4, 4, 4, 4, 4, 4, 5, 5, 5, 5, 5, 5, 5, 5, 5, 5, 5, 5, 5, 5, 5, 5, 6, 6, 6, 6, 6, 6, 6, 6, 6, 6, 6, 6, 6, 6, 6, 6, 6, 6, 6, 6, 6, 6, 6, 6, 6, 6, 6, 6, 6, 6, 6, 6, 7, 7, 7, 7, 7, 7, 7, 7, 7, 7, 7, 7, 7, 7, 7, 7, 7, 7, 7, 7, 7, 7, 7, 7, 7, 7, 7, 7, 7, 7, 7, 7, 7, 7, 7, 7, 7, 7, 7, 7, 7, 7, 7, 7, 7, 7, 7, 7, 7, 7, 7, 7, 7, 7, 7, 7, 7, 7, 7, 7, 7, 7, 7, 7, 8, 8, 8, 8, 8, 8, 8, 8, 8, 8, 8, 8, 8, 8, 8, 8, 8, 8, 8, 8, 8, 8, 8, 8, 8, 8, 8, 8, 8, 8, 8, 8, 8, 8, 8, 8, 8, 8, 8, 8, 8, 8, 8, 8, 8, 8, 8, 8, 8, 8, 8, 8, 8, 8, 8, 8, 8, 8, 8, 8, 8, 8, 8, 8, 8, 8, 8, 8, 8, 8, 8, 8, 8, 8, 8, 8, 8, 8, 8, 8, 8, 8, 8, 8, 8, 8, 8, 8, 8, 8, 8, 8, 8, 8, 8, 8, 8, 8, 8, 8, 8, 8, 8, 8, 8, 8, 8, 8, 8, 8, 8, 8, 8, 8, 8, 8, 8, 8, 8, 8, 8, 8, 8, 8, 8, 8, 8, 8]⟩⟩⟩, []⟩) (dec v11) (Instr.index 9)) fun v12 =>
q_icvW 3 9223372036854775807 (convC Try.prog tys ⟨[], 0, decH h8, 0⟩ 5 3 (dec v12)) v12 fun v13 =>
q_addW 3 9223372036854775807 (binC Try.prog .add 3 (.tmp 13) (.tmp 17) (dec v7) (dec v13)) v7 v13 fun v14 =>
K v14 h8 c9) fun f10 =>
q_cmpW (cmpF2 .geq) 6 (binC Try.prog .geq 51 (.tmp 7) (.const (.int .u32 (.ofNat 256))) (dec v1) (dec ⟨6, 256, r0, []⟩)) v1 ⟨6, 256, r0, []⟩ fun v15 =>
q_condW v15 (
q_shrW 6 32 (binC Try.prog .shr 51 (.tmp 9) (.const (.int .u64 (.ofNat 8))) (dec v1) (dec ⟨7, 8, r0, []⟩)) v1 ⟨7, 8, r0, []⟩ fun v16 =>
q_addW 3 9223372036854775807 (binC Try.prog .add 3 (.tmp 11) (.const (.int .i64 (.ofNat 8))) (dec v2) (dec ⟨3, 8, r0, []⟩)) v2 ⟨3, 8, r0, []⟩ fun v17 =>
f10 v16 v17 h3 c4) (
f10 v1 v2 h3 c4)) fun f5 =>
q_cmpW (cmpF2 .geq) 6 (binC Try.prog .geq 51 (.tmp 3) (.const (.int .u32 (.ofNat 65536))) (dec a0) (dec ⟨6, 65536, r0, []⟩)) a0 ⟨6, 65536, r0, []⟩ fun v18 =>
q_condW v18 (
q_shrW 6 32 (binC Try.prog .shr 51 (.tmp 5) (.const (.int .u64 (.ofNat 16))) (dec a0) (dec ⟨7, 16, r0, []⟩)) a0 ⟨7, 16, r0, []⟩ fun v19 =>
f5 v19 ⟨3, 16, r0, []⟩ h0 c0) (
f5 a0 ⟨3, 0, r0, []⟩ h0 c0)
theorem R41_eq (Q : PrimW) (fu : Nat) (call : CallW) : curryA 1 (fnK Q Try.prog tys stl fu call e41) = R41 Q.share Q.genW Q.addW Q.cmpW Q.shrW Q.icvW Q.condW fu call := by kernel_rfl
noncomputable def n41 (call : CallW) : List W → HW → Nat → KW → Bool := appF 1 (R41 (fun _ x f => f x) genW addW cmpW shrW icvW condW 1000000 call)
theorem n41_ok {call : CallW} (h : CallSim Try.prog tys stl tab call) : FnGood Try.prog tys stl tab 41 (n41 call) := node_ok h (by kernel_rfl) rfl g41 (R41_eq real _ _)
noncomputable def dS (call : CallW) : Disp := (.node 31 (n31 call) (.node 21 (n21 call) (.node 15 (n15 call) (.node 11 (n11 call) (.node 9 (n9 call) .leaf .leaf) .leaf) (.node 19 (n19 call) (.node 16 (n16 call) .leaf .leaf) .leaf)) (.node 26 (n26 call) (.node 25 (n25 call) (.node 24 (n24 call) .leaf .leaf) .leaf) (.node 30 (n30 call) (.node 29 (n29 call) .leaf .leaf) .leaf))) (.node 37 (n37 call) (.node 34 (n34 call) (.node 33 (n33 call) (.node 32 (n32 call) .leaf .leaf) .leaf) (.node 36 (n36 call) (.node 35 (n35 call) .leaf .leaf) .leaf)) (.node 40 (n40 call) (.node 39 (n39 call) (.node 38 (n38 call) .leaf .leaf) .leaf) (.node 41 (n41 call) .leaf .leaf))))
theorem dS_ok {call : CallW} (h : CallSim Try.prog tys stl tab call) : CallSim Try.prog tys stl tab (dS call).fn := Disp.sim (t := dS call) ⟨n31_ok h, ⟨n21_ok h, ⟨n15_ok h, ⟨n11_ok h, ⟨n9_ok h, True.intro, True.intro⟩, True.intro⟩, ⟨n19_ok h, ⟨n16_ok h, True.intro, True.intro⟩, True.intro⟩⟩, ⟨n26_ok h, ⟨n25_ok h, ⟨n24_ok h, True.intro, True.intro⟩, True.intro⟩, ⟨n30_ok h, ⟨n29_ok h, True.intro, True.intro⟩, True.intro⟩⟩⟩, ⟨n37_ok h, ⟨n34_ok h, ⟨n33_ok h, ⟨n32_ok h, True.intro, True.intro⟩, True.intro⟩, ⟨n36_ok h, ⟨n35_ok h, True.intro, True.intro⟩, True.intro⟩⟩, ⟨n40_ok h, ⟨n39_ok h, ⟨n38_ok h, True.intro, True.intro⟩, True.intro⟩, ⟨n41_ok h, True.intro, True.intro⟩⟩⟩⟩
noncomputable def dR (m : Nat) : Disp := @Nat.rec (fun _ => Disp) .leaf (fun _ ih => dS ih.fn) m
theorem dR_ok : ∀ m, CallSim Try.prog tys stl tab (dR m).fn
  | 0 => d0_ok
  | m + 1 => dS_ok (dR_ok m)
noncomputable abbrev dT : Disp := dR 200
theorem dT_ok : CallSim Try.prog tys stl tab dT.fn := dR_ok _
set_option maxHeartbeats 0 in
theorem run21 : lawK dT.fn 21 = true := by kernel_rfl
theorem awake_f : Fits Try.prog 21 ⟨[], [], [⟨Unit, fun _ => True, fun _ => .bool true, fun _ => []⟩]⟩ :=
  lawK_fits tok mixed fok dT_ok (by kernel_rfl : tab 21 = some e21) rfl run21
set_option maxHeartbeats 0 in
theorem runw32 : dT.fn 39 [wAny] .nil 0 (fun w _ _ => isI 3 32 w) = true := by kernel_rfl
theorem wide32_T : Fits Try.prog 39 ⟨[.any], [], [⟨Unit, fun _ => True, fun _ => .int .i64 32, fun _ => []⟩]⟩ :=
  call_fits tok mixed fok dT_ok (by kernel_rfl : tab 39 = some e39) rfl (args := [wAny]) (axs := [.any]) (fun τ => by simp [Rels, Rel, dec_any]) (res := .int .i64 32) rfl (K := fun w _ _ => isI 3 32 w) (fun w hp c h => isI_res rfl h) runw32
set_option maxHeartbeats 0 in
theorem runw16 : dT.fn 40 [wAny] .nil 0 (fun w _ _ => isI 3 16 w) = true := by kernel_rfl
theorem wide16_T : Fits Try.prog 40 ⟨[.any], [], [⟨Unit, fun _ => True, fun _ => .int .i64 16, fun _ => []⟩]⟩ :=
  call_fits tok mixed fok dT_ok (by kernel_rfl : tab 40 = some e40) rfl (args := [wAny]) (axs := [.any]) (fun τ => by simp [Rels, Rel, dec_any]) (res := .int .i64 16) rfl (K := fun w _ _ => isI 3 16 w) (fun w hp c h => isI_res rfl h) runw16
end Go.Proofs.Ytdkogicikhlicaa
