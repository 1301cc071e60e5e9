/-
  The functions that the run goes through, as tables, and the run of a function without arguments. No condition.
-/
import Derived.Test.YthcaoofpjjffiaaRows
import Derived.Test.YthcaoofpjjffiaaGx
set_option linter.unusedVariables false
set_option maxRecDepth 1000000
namespace Go.Proofs.Ythcaoofpjjffiaa
open Go Go.Fw
def tys : List (Nat × TyI) := [
  (1, ⟨.func, 1, 8, .nilFunc⟩),
  (2, ⟨.int .i64, 1, 8, .int .i64 0⟩),
  (3, ⟨.int .i64, 1, 8, .int .i64 0⟩),
  (4, ⟨.bool, 1, 1, .bool false⟩),
  (5, ⟨.int .u8, 1, 1, .int .u8 0⟩),
  (9, ⟨.str, 1, 16, .string (ByteArray.mk #[])⟩),
  (12, ⟨.int .u64, 1, 8, .int .u64 0⟩),
  (21, ⟨.int .i32, 1, 4, .int .i32 0⟩),
  (22, ⟨.slice 4, 1, 24, .slice none 0 0⟩),
  (23, ⟨.func, 1, 8, .nilFunc⟩),
  (24, ⟨.int .i64, 1, 8, .int .i64 0⟩),
  (26, ⟨.func, 1, 8, .nilFunc⟩),
  (27, ⟨.slice 36, 1, 24, .slice none 0 0⟩),
  (29, ⟨.func, 1, 8, .nilFunc⟩),
  (30, ⟨.slice 40, 1, 24, .slice none 0 0⟩),
  (32, ⟨.func, 1, 8, .nilFunc⟩),
  (33, ⟨.func, 1, 8, .nilFunc⟩),
  (34, ⟨.func, 1, 8, .nilFunc⟩),
  (35, ⟨.struct [(0, 3), (1, 3), (2, 3)], 3, 24, .agg #[.int .i64 0, .int .i64 0, .int .i64 0]⟩),
  (36, ⟨.struct [(0, 3), (1, 3), (2, 3)], 3, 24, .agg #[.int .i64 0, .int .i64 0, .int .i64 0]⟩),
  (37, ⟨.func, 1, 8, .nilFunc⟩),
  (38, ⟨.func, 1, 8, .nilFunc⟩),
  (39, ⟨.func, 1, 8, .nilFunc⟩),
  (40, ⟨.struct [(0, 3), (1, 3), (2, 3)], 3, 24, .agg #[.int .i64 0, .int .i64 0, .int .i64 0]⟩),
  (41, ⟨.float .f64, 1, 8, .float .f64 0⟩),
  (43, ⟨.func, 1, 8, .nilFunc⟩),
  (44, ⟨.cpx .f64, 1, 16, .complex .f64 0 0⟩),
  (45, ⟨.slice 44, 1, 24, .slice none 0 0⟩),
  (47, ⟨.func, 1, 8, .nilFunc⟩),
  (48, ⟨.func, 1, 8, .nilFunc⟩),
  (50, ⟨.func, 1, 8, .nilFunc⟩),
  (51, ⟨.func, 1, 8, .nilFunc⟩),
  (52, ⟨.func, 1, 8, .nilFunc⟩),
  (53, ⟨.struct [(0, 3), (1, 3), (2, 3), (3, 51), (4, 52)], 5, 40, .agg #[.int .i64 0, .int .i64 0, .int .i64 0, .nilFunc, .nilFunc]⟩),
  (54, ⟨.struct [(0, 3), (1, 3), (2, 3), (3, 51), (4, 52)], 5, 40, .agg #[.int .i64 0, .int .i64 0, .int .i64 0, .nilFunc, .nilFunc]⟩),
  (56, ⟨.func, 1, 8, .nilFunc⟩),
  (57, ⟨.func, 1, 8, .nilFunc⟩),
  (58, ⟨.func, 1, 8, .nilFunc⟩),
  (59, ⟨.func, 1, 8, .nilFunc⟩),
  (60, ⟨.func, 1, 8, .nilFunc⟩),
  (61, ⟨.func, 1, 8, .nilFunc⟩),
  (62, ⟨.func, 1, 8, .nilFunc⟩),
  (63, ⟨.int .u64, 1, 8, .int .u64 0⟩),
  (64, ⟨.func, 1, 8, .nilFunc⟩),
  (65, ⟨.func, 1, 8, .nilFunc⟩),
  (66, ⟨.func, 1, 8, .nilFunc⟩),
  (67, ⟨.func, 1, 8, .nilFunc⟩),
  (68, ⟨.func, 1, 8, .nilFunc⟩),
  (69, ⟨.func, 1, 8, .nilFunc⟩),
  (70, ⟨.int .u64, 1, 8, .int .u64 0⟩),
  (72, ⟨.func, 1, 8, .nilFunc⟩),
  (73, ⟨.func, 1, 8, .nilFunc⟩),
  (74, ⟨.func, 1, 8, .nilFunc⟩),
  (80, ⟨.func, 1, 8, .nilFunc⟩),
  (81, ⟨.int .u32, 1, 4, .int .u32 0⟩),
  (84, ⟨.func, 1, 8, .nilFunc⟩),
  (85, ⟨.ptr 5, 1, 8, .pointer none⟩)]


theorem tok : TOk Try.prog tys := tok_of ⟨⟨by kernel_rfl, by kernel_rfl⟩, ⟨by kernel_rfl, by kernel_rfl⟩, ⟨by kernel_rfl, by kernel_rfl⟩, ⟨by kernel_rfl, by kernel_rfl⟩, ⟨by kernel_rfl, by kernel_rfl⟩, ⟨by kernel_rfl, by kernel_rfl⟩, ⟨by kernel_rfl, by kernel_rfl⟩, ⟨by kernel_rfl, by kernel_rfl⟩, ⟨by kernel_rfl, by kernel_rfl⟩, ⟨by kernel_rfl, by kernel_rfl⟩, ⟨by kernel_rfl, by kernel_rfl⟩, ⟨by kernel_rfl, by kernel_rfl⟩, ⟨by kernel_rfl, by kernel_rfl⟩, ⟨by kernel_rfl, by kernel_rfl⟩, ⟨by kernel_rfl, by kernel_rfl⟩, ⟨by kernel_rfl, by kernel_rfl⟩, ⟨by kernel_rfl, by kernel_rfl⟩, ⟨by kernel_rfl, by kernel_rfl⟩, ⟨by kernel_rfl, by kernel_rfl⟩, ⟨by kernel_rfl, by kernel_rfl⟩, ⟨by kernel_rfl, by kernel_rfl⟩, ⟨by kernel_rfl, by kernel_rfl⟩, ⟨by kernel_rfl, by kernel_rfl⟩, ⟨by kernel_rfl, by kernel_rfl⟩, ⟨by kernel_rfl, by kernel_rfl⟩, ⟨by kernel_rfl, by kernel_rfl⟩, ⟨by kernel_rfl, by kernel_rfl⟩, ⟨by kernel_rfl, by kernel_rfl⟩, ⟨by kernel_rfl, by kernel_rfl⟩, ⟨by kernel_rfl, by kernel_rfl⟩, ⟨by kernel_rfl, by kernel_rfl⟩, ⟨by kernel_rfl, by kernel_rfl⟩, ⟨by kernel_rfl, by kernel_rfl⟩, ⟨by kernel_rfl, by kernel_rfl⟩, ⟨by kernel_rfl, by kernel_rfl⟩, ⟨by kernel_rfl, by kernel_rfl⟩, ⟨by kernel_rfl, by kernel_rfl⟩, ⟨by kernel_rfl, by kernel_rfl⟩, ⟨by kernel_rfl, by kernel_rfl⟩, ⟨by kernel_rfl, by kernel_rfl⟩, ⟨by kernel_rfl, by kernel_rfl⟩, ⟨by kernel_rfl, by kernel_rfl⟩, ⟨by kernel_rfl, by kernel_rfl⟩, ⟨by kernel_rfl, by kernel_rfl⟩, ⟨by kernel_rfl, by kernel_rfl⟩, ⟨by kernel_rfl, by kernel_rfl⟩, ⟨by kernel_rfl, by kernel_rfl⟩, ⟨by kernel_rfl, by kernel_rfl⟩, ⟨by kernel_rfl, by kernel_rfl⟩, ⟨by kernel_rfl, by kernel_rfl⟩, ⟨by kernel_rfl, by kernel_rfl⟩, ⟨by kernel_rfl, by kernel_rfl⟩, ⟨by kernel_rfl, by kernel_rfl⟩, ⟨by kernel_rfl, by kernel_rfl⟩, ⟨by kernel_rfl, by kernel_rfl⟩, ⟨by kernel_rfl, by kernel_rfl⟩, ⟨by kernel_rfl, by kernel_rfl⟩, True.intro⟩
theorem mixed : Try.prog.follows .mixedOrders = true := by kernel_rfl
def inL : List Nat → Nat → Bool
  | [], _ => false
  | a :: r, n => match Nat.beq a n with | true => true | false => inL r n
def stl : Nat → Bool := inL [13, 17, 18, 20, 21, 22, 25, 26, 27, 28, 33, 34, 35, 37, 38, 41, 42, 43, 44]
/- 6: foghorn/meter.Errors -/
def p6 : Nat → Option PlanC := fun _ => none
def wl6 : Nat → List Nat := fun
  | 4 => [4, 5, 14]
  | _ => []
def wj6 : Nat → Option (List Nat) := fun
  | 9 => some [5]
  | 10 => some [4, 5]
  | _ => none
def kr6 : Nat → List Nat := fun _ => []
noncomputable def e6 : Ent := entOf Try.f6 ⟨p6, wl6, wj6, kr6, []⟩
theorem g6 : EntOk Try.prog tys stl 6 e6 := .inr ⟨rfl, Try.func6, by kernel_rfl, by kernel_rfl, by kernel_rfl, by kernel_rfl, by kernel_rfl, rfl⟩
/- 12: foghorn/foghornlaw30.awake -/
def p12 : Nat → Option PlanC := fun _ => none
def wl12 : Nat → List Nat := fun _ => []
def wj12 : Nat → Option (List Nat) := fun _ => none
def kr12 : Nat → List Nat := fun _ => []
noncomputable def e12 : Ent := entOf Try.f12 ⟨p12, wl12, wj12, kr12, []⟩
theorem g12 : EntOk Try.prog tys stl 12 e12 := .inr ⟨rfl, Try.func12, by kernel_rfl, by kernel_rfl, by kernel_rfl, by kernel_rfl, by kernel_rfl, rfl⟩
/- 13: foghorn/meter.arePair -/
def p13 : Nat → Option PlanC := fun _ => none
def wl13 : Nat → List Nat := fun _ => []
def wj13 : Nat → Option (List Nat) := fun _ => none
def kr13 : Nat → List Nat := fun _ => []
noncomputable def e13 : Ent := entOf Try.f13 ⟨p13, wl13, wj13, kr13, []⟩
theorem g13 : EntOk Try.prog tys stl 13 e13 := .inr ⟨rfl, Try.func13, by kernel_rfl, by kernel_rfl, by kernel_rfl, by kernel_rfl, by kernel_rfl, rfl⟩
/- 15: foghorn/meter.Nearest -/
def p15 : Nat → Option PlanC := fun _ => none
def wl15 : Nat → List Nat := fun _ => []
def wj15 : Nat → Option (List Nat) := fun _ => none
def kr15 : Nat → List Nat := fun _ => []
noncomputable def e15 : Ent := entOf Try.f15 ⟨p15, wl15, wj15, kr15, []⟩
theorem g15 : EntOk Try.prog tys stl 15 e15 := .inr ⟨rfl, Try.func15, by kernel_rfl, by kernel_rfl, by kernel_rfl, by kernel_rfl, by kernel_rfl, rfl⟩
/- 16: foghorn/points.All -/
def p16 : Nat → Option PlanC := fun _ => none
def wl16 : Nat → List Nat := fun
  | 6 => [19]
  | _ => []
def wj16 : Nat → Option (List Nat) := fun _ => none
def kr16 : Nat → List Nat := fun _ => []
noncomputable def e16 : Ent := entOf Try.f16 ⟨p16, wl16, wj16, kr16, [4]⟩
theorem g16 : EntOk Try.prog tys stl 16 e16 := .inr ⟨rfl, Try.func16, by kernel_rfl, by kernel_rfl, by kernel_rfl, by kernel_rfl, by kernel_rfl, rfl⟩
/- 17: foghorn/meter.isOn -/
def p17 : Nat → Option PlanC := fun _ => none
def wl17 : Nat → List Nat := fun _ => []
def wj17 : Nat → Option (List Nat) := fun _ => none
def kr17 : Nat → List Nat := fun _ => []
noncomputable def e17 : Ent := entOf Try.f17 ⟨p17, wl17, wj17, kr17, []⟩
theorem g17 : EntOk Try.prog tys stl 17 e17 := .inr ⟨rfl, Try.func17, by kernel_rfl, by kernel_rfl, by kernel_rfl, by kernel_rfl, by kernel_rfl, rfl⟩
/- 18: foghorn/meter.nearest -/
def p18 : Nat → Option PlanC := fun _ => none
def wl18 : Nat → List Nat := fun
  | 3 => [4, 5, 6, 14]
  | _ => []
def wj18 : Nat → Option (List Nat) := fun
  | 9 => some [4, 5, 6]
  | _ => none
def kr18 : Nat → List Nat := fun _ => []
noncomputable def e18 : Ent := entOf Try.f18 ⟨p18, wl18, wj18, kr18, []⟩
theorem g18 : EntOk Try.prog tys stl 18 e18 := .inr ⟨rfl, Try.func18, by kernel_rfl, by kernel_rfl, by kernel_rfl, by kernel_rfl, by kernel_rfl, rfl⟩
/- 19: foghorn/points.of -/
def p19 : Nat → Option PlanC := fun _ => none
def wl19 : Nat → List Nat := fun _ => []
def wj19 : Nat → Option (List Nat) := fun _ => none
def kr19 : Nat → List Nat := fun _ => []
noncomputable def e19 : Ent := entOf Try.f19 ⟨p19, wl19, wj19, kr19, []⟩
theorem g19 : EntOk Try.prog tys stl 19 e19 := .inr ⟨rfl, Try.func19, by kernel_rfl, by kernel_rfl, by kernel_rfl, by kernel_rfl, by kernel_rfl, rfl⟩
/- 20: foghorn/grid.On -/
def p20 : Nat → Option PlanC := fun _ => none
def wl20 : Nat → List Nat := fun _ => []
def wj20 : Nat → Option (List Nat) := fun _ => none
def kr20 : Nat → List Nat := fun _ => []
noncomputable def e20 : Ent := entOf Try.f20 ⟨p20, wl20, wj20, kr20, []⟩
theorem g20 : EntOk Try.prog tys stl 20 e20 := .inr ⟨rfl, Try.func20, by kernel_rfl, by kernel_rfl, by kernel_rfl, by kernel_rfl, by kernel_rfl, rfl⟩
/- 21: math.Inf -/
def p21 : Nat → Option PlanC := fun _ => none
def wl21 : Nat → List Nat := fun _ => []
def wj21 : Nat → Option (List Nat) := fun
  | 5 => some [3]
  | _ => none
def kr21 : Nat → List Nat := fun _ => []
noncomputable def e21 : Ent := entOf Try.f21 ⟨p21, wl21, wj21, kr21, []⟩
theorem g21 : EntOk Try.prog tys stl 21 e21 := .inr ⟨rfl, Try.func21, by kernel_rfl, by kernel_rfl, by kernel_rfl, by kernel_rfl, by kernel_rfl, rfl⟩
/- 22: foghorn/plane.Apart -/
def p22 : Nat → Option PlanC := fun _ => none
def wl22 : Nat → List Nat := fun _ => []
def wj22 : Nat → Option (List Nat) := fun _ => none
def kr22 : Nat → List Nat := fun _ => []
noncomputable def e22 : Ent := entOf Try.f22 ⟨p22, wl22, wj22, kr22, []⟩
theorem g22 : EntOk Try.prog tys stl 22 e22 := .inr ⟨rfl, Try.func22, by kernel_rfl, by kernel_rfl, by kernel_rfl, by kernel_rfl, by kernel_rfl, rfl⟩
/- 23: foghorn/points.square -/
def p23 : Nat → Option PlanC := fun _ => none
def wl23 : Nat → List Nat := fun _ => []
def wj23 : Nat → Option (List Nat) := fun _ => none
def kr23 : Nat → List Nat := fun _ => []
noncomputable def e23 : Ent := entOf Try.f23 ⟨p23, wl23, wj23, kr23, []⟩
theorem g23 : EntOk Try.prog tys stl 23 e23 := .inr ⟨rfl, Try.func23, by kernel_rfl, by kernel_rfl, by kernel_rfl, by kernel_rfl, by kernel_rfl, rfl⟩
/- 24: foghorn/points.cross -/
def p24 : Nat → Option PlanC := fun _ => none
def wl24 : Nat → List Nat := fun _ => []
def wj24 : Nat → Option (List Nat) := fun _ => none
def kr24 : Nat → List Nat := fun _ => []
noncomputable def e24 : Ent := entOf Try.f24 ⟨p24, wl24, wj24, kr24, []⟩
theorem g24 : EntOk Try.prog tys stl 24 e24 := .inr ⟨rfl, Try.func24, by kernel_rfl, by kernel_rfl, by kernel_rfl, by kernel_rfl, by kernel_rfl, rfl⟩
/- 25: math.Abs -/
def p25 : Nat → Option PlanC := fun _ => none
def wl25 : Nat → List Nat := fun _ => []
def wj25 : Nat → Option (List Nat) := fun _ => none
def kr25 : Nat → List Nat := fun _ => []
noncomputable def e25 : Ent := entOf Try.f25 ⟨p25, wl25, wj25, kr25, []⟩
theorem g25 : EntOk Try.prog tys stl 25 e25 := .inr ⟨rfl, Try.func25, by kernel_rfl, by kernel_rfl, by kernel_rfl, by kernel_rfl, by kernel_rfl, rfl⟩
/- 26: math.Trunc -/
def p26 : Nat → Option PlanC := fun _ => none
def wl26 : Nat → List Nat := fun _ => []
def wj26 : Nat → Option (List Nat) := fun _ => none
def kr26 : Nat → List Nat := fun _ => []
noncomputable def e26 : Ent := entOf Try.f26 ⟨p26, wl26, wj26, kr26, []⟩
theorem g26 : EntOk Try.prog tys stl 26 e26 := .inr ⟨rfl, Try.func26, by kernel_rfl, by kernel_rfl, by kernel_rfl, by kernel_rfl, by kernel_rfl, rfl⟩
/- 27: math.Float64frombits (no Go text) -/
noncomputable def e27 : Ent := extEnt
theorem g27 : EntOk Try.prog tys stl 27 e27 := .inl rfl
/- 28: foghorn/plane.Norm -/
def p28 : Nat → Option PlanC := fun _ => none
def wl28 : Nat → List Nat := fun _ => []
def wj28 : Nat → Option (List Nat) := fun _ => none
def kr28 : Nat → List Nat := fun _ => []
noncomputable def e28 : Ent := entOf Try.f28 ⟨p28, wl28, wj28, kr28, []⟩
theorem g28 : EntOk Try.prog tys stl 28 e28 := .inr ⟨rfl, Try.func28, by kernel_rfl, by kernel_rfl, by kernel_rfl, by kernel_rfl, by kernel_rfl, rfl⟩
/- 29: foghorn/points.squareAt -/
def p29 : Nat → Option PlanC := fun
  | 2 => some (.op 0 false (.op 1 false (.op 2 false (.op 3 false (.op 4 false (.op 5 false (.op 6 false (.op 7 false (.op 8 false (.op 9 false (.op 10 false (.op 11 false (.op 12 false (.done))))))))))))))
  | _ => none
def wl29 : Nat → List Nat := fun _ => []
def wj29 : Nat → Option (List Nat) := fun _ => none
def kr29 : Nat → List Nat := fun _ => []
noncomputable def e29 : Ent := entOf Try.f29 ⟨p29, wl29, wj29, kr29, [2]⟩
theorem g29 : EntOk Try.prog tys stl 29 e29 := .inr ⟨rfl, Try.func29, by kernel_rfl, by kernel_rfl, by kernel_rfl, by kernel_rfl, by kernel_rfl, rfl⟩
/- 30: foghorn/points.squareLabel -/
def p30 : Nat → Option PlanC := fun
  | 1 => some (.op 0 false (.op 1 false (.op 2 false (.op 3 false (.op 4 false (.op 5 false (.op 6 false (.op 7 false (.op 8 false (.op 9 false (.done)))))))))))
  | _ => none
def wl30 : Nat → List Nat := fun _ => []
def wj30 : Nat → Option (List Nat) := fun _ => none
def kr30 : Nat → List Nat := fun _ => []
noncomputable def e30 : Ent := entOf Try.f30 ⟨p30, wl30, wj30, kr30, [3]⟩
theorem g30 : EntOk Try.prog tys stl 30 e30 := .inr ⟨rfl, Try.func30, by kernel_rfl, by kernel_rfl, by kernel_rfl, by kernel_rfl, by kernel_rfl, rfl⟩
/- 31: foghorn/points.crossAt -/
def p31 : Nat → Option PlanC := fun
  | 5 => some (.op 2 false (.op 3 false (.op 1 true (.op 5 true (.op 0 false (.op 4 false (.chk [0] (.op 6 false (.op 7 false (.op 8 false (.done)))))))))))
  | _ => none
def wl31 : Nat → List Nat := fun
  | 2 => [1, 5]
  | _ => []
def wj31 : Nat → Option (List Nat) := fun _ => none
def kr31 : Nat → List Nat := fun _ => []
noncomputable def e31 : Ent := entOf Try.f31 ⟨p31, wl31, wj31, kr31, [2]⟩
theorem g31 : EntOk Try.prog tys stl 31 e31 := .inr ⟨rfl, Try.func31, by kernel_rfl, by kernel_rfl, by kernel_rfl, by kernel_rfl, by kernel_rfl, rfl⟩
/- 32: foghorn/points.crossLabel -/
def p32 : Nat → Option PlanC := fun _ => none
def wl32 : Nat → List Nat := fun
  | 3 => [7, 15]
  | _ => []
def wj32 : Nat → Option (List Nat) := fun _ => none
def kr32 : Nat → List Nat := fun _ => []
noncomputable def e32 : Ent := entOf Try.f32 ⟨p32, wl32, wj32, kr32, [3]⟩
theorem g32 : EntOk Try.prog tys stl 32 e32 := .inr ⟨rfl, Try.func32, by kernel_rfl, by kernel_rfl, by kernel_rfl, by kernel_rfl, by kernel_rfl, rfl⟩
/- 33: math.Float64bits (no Go text) -/
noncomputable def e33 : Ent := extEnt
theorem g33 : EntOk Try.prog tys stl 33 e33 := .inl rfl
/- 34: math.archTrunc (no Go text) -/
noncomputable def e34 : Ent := extEnt
theorem g34 : EntOk Try.prog tys stl 34 e34 := .inl rfl
/- 35: math.trunc -/
def p35 : Nat → Option PlanC := fun _ => none
def wl35 : Nat → List Nat := fun _ => []
def wj35 : Nat → Option (List Nat) := fun
  | 7 => some [3]
  | _ => none
def kr35 : Nat → List Nat := fun _ => []
noncomputable def e35 : Ent := entOf Try.f35 ⟨p35, wl35, wj35, kr35, []⟩
theorem g35 : EntOk Try.prog tys stl 35 e35 := .inr ⟨rfl, Try.func35, by kernel_rfl, by kernel_rfl, by kernel_rfl, by kernel_rfl, by kernel_rfl, rfl⟩
/- 36: (foghorn/points.set).point -/
def p36 : Nat → Option PlanC := fun _ => none
def wl36 : Nat → List Nat := fun _ => []
def wj36 : Nat → Option (List Nat) := fun _ => none
def kr36 : Nat → List Nat := fun _ => []
noncomputable def e36 : Ent := entOf Try.f36 ⟨p36, wl36, wj36, kr36, [3]⟩
theorem g36 : EntOk Try.prog tys stl 36 e36 := .inr ⟨rfl, Try.func36, by kernel_rfl, by kernel_rfl, by kernel_rfl, by kernel_rfl, by kernel_rfl, rfl⟩
/- 37: foghorn/points.ungray -/
def p37 : Nat → Option PlanC := fun _ => none
def wl37 : Nat → List Nat := fun _ => []
def wj37 : Nat → Option (List Nat) := fun _ => none
def kr37 : Nat → List Nat := fun _ => []
noncomputable def e37 : Ent := entOf Try.f37 ⟨p37, wl37, wj37, kr37, []⟩
theorem g37 : EntOk Try.prog tys stl 37 e37 := .inr ⟨rfl, Try.func37, by kernel_rfl, by kernel_rfl, by kernel_rfl, by kernel_rfl, by kernel_rfl, rfl⟩
/- 38: foghorn/points.gray -/
def p38 : Nat → Option PlanC := fun _ => none
def wl38 : Nat → List Nat := fun _ => []
def wj38 : Nat → Option (List Nat) := fun _ => none
def kr38 : Nat → List Nat := fun _ => []
noncomputable def e38 : Ent := entOf Try.f38 ⟨p38, wl38, wj38, kr38, []⟩
theorem g38 : EntOk Try.prog tys stl 38 e38 := .inr ⟨rfl, Try.func38, by kernel_rfl, by kernel_rfl, by kernel_rfl, by kernel_rfl, by kernel_rfl, rfl⟩
/- 39: (foghorn/points.set).rows -/
def p39 : Nat → Option PlanC := fun
  | 1 => some (.op 3 false (.op 4 false (.op 0 true (.op 1 false (.op 2 true (.op 5 false (.chk [1] (.op 6 false (.op 7 false (.op 8 false (.done)))))))))))
  | _ => none
def wl39 : Nat → List Nat := fun _ => []
def wj39 : Nat → Option (List Nat) := fun _ => none
def kr39 : Nat → List Nat := fun _ => []
noncomputable def e39 : Ent := entOf Try.f39 ⟨p39, wl39, wj39, kr39, [2]⟩
theorem g39 : EntOk Try.prog tys stl 39 e39 := .inr ⟨rfl, Try.func39, by kernel_rfl, by kernel_rfl, by kernel_rfl, by kernel_rfl, by kernel_rfl, rfl⟩
/- 40: (foghorn/points.set).first -/
def p40 : Nat → Option PlanC := fun _ => none
def wl40 : Nat → List Nat := fun _ => []
def wj40 : Nat → Option (List Nat) := fun _ => none
def kr40 : Nat → List Nat := fun _ => []
noncomputable def e40 : Ent := entOf Try.f40 ⟨p40, wl40, wj40, kr40, [2]⟩
theorem g40 : EntOk Try.prog tys stl 40 e40 := .inr ⟨rfl, Try.func40, by kernel_rfl, by kernel_rfl, by kernel_rfl, by kernel_rfl, by kernel_rfl, rfl⟩
/- 41: math.Copysign -/
def p41 : Nat → Option PlanC := fun _ => none
def wl41 : Nat → List Nat := fun _ => []
def wj41 : Nat → Option (List Nat) := fun _ => none
def kr41 : Nat → List Nat := fun _ => []
noncomputable def e41 : Ent := entOf Try.f41 ⟨p41, wl41, wj41, kr41, []⟩
theorem g41 : EntOk Try.prog tys stl 41 e41 := .inr ⟨rfl, Try.func41, by kernel_rfl, by kernel_rfl, by kernel_rfl, by kernel_rfl, by kernel_rfl, rfl⟩
/- 42: foghorn/bits.Ungray -/
def p42 : Nat → Option PlanC := fun _ => none
def wl42 : Nat → List Nat := fun
  | 4 => [0, 4]
  | _ => []
def wj42 : Nat → Option (List Nat) := fun _ => none
def kr42 : Nat → List Nat := fun _ => []
noncomputable def e42 : Ent := entOf Try.f42 ⟨p42, wl42, wj42, kr42, []⟩
theorem g42 : EntOk Try.prog tys stl 42 e42 := .inr ⟨rfl, Try.func42, by kernel_rfl, by kernel_rfl, by kernel_rfl, by kernel_rfl, by kernel_rfl, rfl⟩
/- 43: foghorn/bits.Gray -/
def p43 : Nat → Option PlanC := fun _ => none
def wl43 : Nat → List Nat := fun _ => []
def wj43 : Nat → Option (List Nat) := fun _ => none
def kr43 : Nat → List Nat := fun _ => []
noncomputable def e43 : Ent := entOf Try.f43 ⟨p43, wl43, wj43, kr43, []⟩
theorem g43 : EntOk Try.prog tys stl 43 e43 := .inr ⟨rfl, Try.func43, by kernel_rfl, by kernel_rfl, by kernel_rfl, by kernel_rfl, by kernel_rfl, rfl⟩
/- 44: foghorn/bits.isGray -/
def p44 : Nat → Option PlanC := fun _ => none
def wl44 : Nat → List Nat := fun _ => []
def wj44 : Nat → Option (List Nat) := fun _ => none
def kr44 : Nat → List Nat := fun _ => []
noncomputable def e44 : Ent := entOf Try.f44 ⟨p44, wl44, wj44, kr44, []⟩
theorem g44 : EntOk Try.prog tys stl 44 e44 := .inr ⟨rfl, Try.func44, by kernel_rfl, by kernel_rfl, by kernel_rfl, by kernel_rfl, by kernel_rfl, rfl⟩
noncomputable def ents : List (Nat × Ent) := [(6, e6), (12, e12), (13, e13), (15, e15), (16, e16), (17, e17), (18, e18), (19, e19), (20, e20), (21, e21), (22, e22), (23, e23), (24, e24), (25, e25), (26, e26), (27, e27), (28, e28), (29, e29), (30, e30), (31, e31), (32, e32), (33, e33), (34, e34), (35, e35), (36, e36), (37, e37), (38, e38), (39, e39), (40, e40), (41, e41), (42, e42), (43, e43), (44, e44)]
theorem goods : EntsOk Try.prog tys stl ents := ⟨g6, g12, g13, g15, g16, g17, g18, g19, g20, g21, g22, g23, g24, g25, g26, g27, g28, g29, g30, g31, g32, g33, g34, g35, g36, g37, g38, g39, g40, g41, g42, g43, g44, True.intro⟩
noncomputable def tab : Nat → Option Ent := (tabOf ents).get
theorem fok : FOk Try.prog tys stl tab := fok_of goods
noncomputable def d0 : Disp := .leaf
theorem d0_ok : CallSim Try.prog tys stl tab d0.fn := Disp.sim True.intro
/- foghorn/meter.Errors -/
noncomputable def R6 (q_share : (α : Type) → α → (α → Bool) → Bool) (q_genW : Option CV → (W → Bool) → Bool) (q_addW : Nat → Nat → Option CV → W → W → (W → Bool) → Bool) (q_cmpW : (Nat → Nat → Bool) → Nat → Option CV → W → W → (W → Bool) → Bool) (q_notW : Option CV → W → (W → Bool) → Bool) (q_condW : W → Bool → Bool → Bool) (q_idxSW : Nat → W → W → (W → Bool) → Bool) (q_lenW : Option CV → W → (W → Bool) → Bool) (q_loadSW : HW → W → (W → Bool) → Bool) (fu : Nat) (call : CallW) (a0 : W) (a1 : W) (h0 : HW) (c0 : Nat) (K : KW) : Bool :=
call 13 [a0, a1] h0 c0 fun v1 h2 c3 =>
q_notW (two Try.prog (dec v1) (Op.unary .not)) v1 fun v4 =>
q_condW v4 (
K ⟨13, 0, r0, [⟨3, 0, r0, []⟩, ⟨3, 0, r0, []⟩, ⟨3, 1, r0, []⟩]⟩ h2 c3) (
q_lenW (lenC tys 22 (dec a0)) a0 fun v5 =>
@Nat.rec (fun _ => Fun 3) (fun _ _ _ _ _ => false) (fun _ f11 v6 v7 v8 h9 c10 =>
q_cmpW (cmpF2 .lss) 3 (binC Try.prog .lss 3 (.tmp 14) (.tmp 13) (dec v8) (dec v5)) v8 v5 fun v12 =>
q_condW v12 (
q_share _ (fun (v13 : W) (v14 : W) (h15 : HW) (c16 : Nat) =>
q_addW 3 9223372036854775807 (binC Try.prog .add 3 (.tmp 14) (.const (.int .i64 (.ofNat 1))) (dec v8) (dec ⟨3, 1, r0, []⟩)) v8 ⟨3, 1, r0, []⟩ fun v18 =>
f11 v13 v14 v18 h15 c16) fun f17 =>
q_idxSW 1 a0 v8 fun v19 =>
q_loadSW h9 v19 fun v20 =>
q_idxSW 1 a1 v8 fun v21 =>
q_loadSW h9 v21 fun v22 =>
q_genW (binC Try.prog .eql 4 (.tmp 20) (.tmp 24) (dec v20) (dec v22)) fun v23 =>
q_condW v23 (
f17 v6 v7 h9 c10) (
q_share _ (fun (v24 : W) (h25 : HW) (c26 : Nat) =>
q_addW 3 9223372036854775807 (binC Try.prog .add 3 (.tmp 29) (.const (.int .i64 (.ofNat 1))) (dec v6) (dec ⟨3, 1, r0, []⟩)) v6 ⟨3, 1, r0, []⟩ fun v28 =>
f17 v28 v24 h25 c26) fun f27 =>
q_cmpW (cmpF2 .eql) 3 (binC Try.prog .eql 3 (.tmp 26) (.const (.int .i64 (.ofNat 0))) (dec v6) (dec ⟨3, 0, r0, []⟩)) v6 ⟨3, 0, r0, []⟩ fun v29 =>
q_condW v29 (
f27 v8 h9 c10) (
f27 v7 h9 c10))) (
K ⟨13, 0, r0, [v6, v7, ⟨3, 0, r0, []⟩]⟩ h9 c10)) fu ⟨3, 0, r0, []⟩ ⟨3, 0, r0, []⟩ ⟨3, 0, r0, []⟩ h2 c3)
theorem R6_eq (Q : PrimW) (fu : Nat) (call : CallW) : curryA 2 (fnK Q Try.prog tys stl fu call e6) = R6 Q.share Q.genW Q.addW Q.cmpW Q.notW Q.condW Q.idxSW Q.lenW Q.loadSW fu call := by kernel_rfl
noncomputable def n6 (call : CallW) : List W → HW → Nat → KW → Bool := appF 2 (R6 (fun _ x f => f x) genW addW cmpW notW condW idxSW lenW loadSW 1000000 call)
theorem n6_ok {call : CallW} (h : CallSim Try.prog tys stl tab call) : FnGood Try.prog tys stl tab 6 (n6 call) := node_ok h (by kernel_rfl) rfl g6 (R6_eq real _ _)
/- foghorn/foghornlaw30.awake -/
noncomputable def R12 (q_share : (α : Type) → α → (α → Bool) → Bool) (q_genW : Option CV → (W → Bool) → Bool) (q_cmpW : (Nat → Nat → Bool) → Nat → Option CV → W → W → (W → Bool) → Bool) (q_guardW : Bool → W → Bool → Bool → Bool) (q_pickW : W → W → W → (W → Bool) → Bool) (q_tupW : W → (List W → Bool) → Bool) (q_nthW : Nat → List W → (W → Bool) → Bool) (q_buildSW : Nat → Nat → Kind → Nat → Bool → HW → Nat → Nat → List W → KW → Bool) (fu : Nat) (call : CallW) (h0 : HW) (c0 : Nat) (K : KW) : Bool :=
q_buildSW 1 8 .bools 4 true h0 c0 4 [⟨8, 0, r0, []⟩, ⟨8, 1, r0, []⟩, ⟨8, 1, r0, []⟩, ⟨8, 0, r0, []⟩] fun v1 h2 c3 =>
q_buildSW 1 8 .bools 4 true h2 c3 4 [⟨8, 0, r0, []⟩, ⟨8, 0, r0, []⟩, ⟨8, 1, r0, []⟩, ⟨8, 1, r0, []⟩] fun v4 h5 c6 =>
call 6 [v1, v4] h5 c6 fun v7 h8 c9 =>
q_tupW v7 fun l10 => q_nthW 0 l10 fun v11 =>
q_tupW v7 fun l12 => q_nthW 1 l12 fun v13 =>
q_tupW v7 fun l14 => q_nthW 2 l14 fun v15 =>
call 15 [⟨3, 4, r0, []⟩, ⟨12, 0, ⟨0, 0, 0, .cpx .f64 4607182418800017408 4607182418800017408⟩, []⟩] h8 c9 fun v16 h17 c18 =>
q_tupW v16 fun l19 => q_nthW 0 l19 fun v20 =>
q_tupW v16 fun l21 => q_nthW 1 l21 fun v22 =>
q_tupW v16 fun l23 => q_nthW 2 l23 fun v24 =>
q_tupW v16 fun l25 => q_nthW 3 l25 fun v26 =>
q_cmpW (cmpF2 .eql) 3 (binC Try.prog .eql 3 (.tmp 21) (.const (.int .i64 (.ofNat 2))) (dec v11) (dec ⟨3, 2, r0, []⟩)) v11 ⟨3, 2, r0, []⟩ fun v27 =>
q_share _ (fun (v29 : W) (h30 : HW) (c31 : Nat) =>
q_share _ (fun (v33 : W) (h34 : HW) (c35 : Nat) =>
q_pickW v27 v33 ⟨8, 0, r0, []⟩ fun v36 =>
q_share _ (fun (v38 : W) (h39 : HW) (c40 : Nat) =>
q_share _ (fun (v42 : W) (h43 : HW) (c44 : Nat) =>
q_pickW v36 v42 ⟨8, 0, r0, []⟩ fun v45 =>
q_share _ (fun (v47 : W) (h48 : HW) (c49 : Nat) =>
q_share _ (fun (v51 : W) (h52 : HW) (c53 : Nat) =>
q_pickW v45 v51 ⟨8, 0, r0, []⟩ fun v54 =>
q_share _ (fun (v56 : W) (h57 : HW) (c58 : Nat) =>
q_share _ (fun (v60 : W) (h61 : HW) (c62 : Nat) =>
q_pickW v54 v60 ⟨8, 0, r0, []⟩ fun v63 =>
q_share _ (fun (v65 : W) (h66 : HW) (c67 : Nat) =>
q_share _ (fun (v69 : W) (h70 : HW) (c71 : Nat) =>
q_pickW v63 v69 ⟨8, 0, r0, []⟩ fun v72 =>
q_share _ (fun (v74 : W) (h75 : HW) (c76 : Nat) =>
q_share _ (fun (v78 : W) (h79 : HW) (c80 : Nat) =>
q_pickW v72 v78 ⟨8, 0, r0, []⟩ fun v81 =>
K v81 h79 c80) fun f77 =>
q_guardW true v72 (q_cmpW (cmpF2 .eql) 3 (binC Try.prog .eql 24 (.tmp 44) (.const (.int .i64 (.ofNat 0))) (dec v74) (dec ⟨3, 0, r0, []⟩)) v74 ⟨3, 0, r0, []⟩ fun v82 =>
f77 v82 h75 c76) (f77 wUnd h75 c76)) fun f73 =>
q_guardW true v72 (f73 v26 h70 c71) (f73 wUnd h70 c71)) fun f68 =>
q_guardW true v63 (q_genW (binC Try.prog .eql 41 (.tmp 40) (.const (.float .f64 4616189618054758400)) (dec v65) (dec ⟨12, 0, ⟨0, 0, 0, .flt .f64 4616189618054758400⟩, []⟩)) fun v83 =>
f68 v83 h66 c67) (f68 wUnd h66 c67)) fun f64 =>
q_guardW true v63 (f64 v24 h61 c62) (f64 wUnd h61 c62)) fun f59 =>
q_guardW true v54 (q_genW (binC Try.prog .eql 41 (.tmp 36) (.const (.float .f64 0)) (dec v56) (dec ⟨12, 0, ⟨0, 0, 0, .flt .f64 0⟩, []⟩)) fun v84 =>
f59 v84 h57 c58) (f59 wUnd h57 c58)) fun f55 =>
q_guardW true v54 (f55 v22 h52 c53) (f55 wUnd h52 c53)) fun f50 =>
q_guardW true v45 (q_cmpW (cmpF2 .eql) 3 (binC Try.prog .eql 3 (.tmp 32) (.const (.int .i64 (.ofNat 3))) (dec v47) (dec ⟨3, 3, r0, []⟩)) v47 ⟨3, 3, r0, []⟩ fun v85 =>
f50 v85 h48 c49) (f50 wUnd h48 c49)) fun f46 =>
q_guardW true v45 (f46 v20 h43 c44) (f46 wUnd h43 c44)) fun f41 =>
q_guardW true v36 (q_cmpW (cmpF2 .eql) 3 (binC Try.prog .eql 24 (.tmp 28) (.const (.int .i64 (.ofNat 0))) (dec v38) (dec ⟨3, 0, r0, []⟩)) v38 ⟨3, 0, r0, []⟩ fun v86 =>
f41 v86 h39 c40) (f41 wUnd h39 c40)) fun f37 =>
q_guardW true v36 (f37 v15 h34 c35) (f37 wUnd h34 c35)) fun f32 =>
q_guardW true v27 (q_cmpW (cmpF2 .eql) 3 (binC Try.prog .eql 3 (.tmp 24) (.const (.int .i64 (.ofNat 1))) (dec v29) (dec ⟨3, 1, r0, []⟩)) v29 ⟨3, 1, r0, []⟩ fun v87 =>
f32 v87 h30 c31) (f32 wUnd h30 c31)) fun f28 =>
q_guardW true v27 (f28 v13 h17 c18) (f28 wUnd h17 c18)
theorem R12_eq (Q : PrimW) (fu : Nat) (call : CallW) : curryA 0 (fnK Q Try.prog tys stl fu call e12) = R12 Q.share Q.genW Q.cmpW Q.guardW Q.pickW Q.tupW Q.nthW Q.buildSW fu call := by kernel_rfl
noncomputable def n12 (call : CallW) : List W → HW → Nat → KW → Bool := appF 0 (R12 (fun _ x f => f x) genW cmpW guardW pickW tupW nthW buildSW 1000000 call)
theorem n12_ok {call : CallW} (h : CallSim Try.prog tys stl tab call) : FnGood Try.prog tys stl tab 12 (n12 call) := node_ok h (by kernel_rfl) rfl g12 (R12_eq real _ _)
/- foghorn/meter.arePair -/
noncomputable def R13 (q_share : (α : Type) → α → (α → Bool) → Bool) (q_cmpW : (Nat → Nat → Bool) → Nat → Option CV → W → W → (W → Bool) → Bool) (q_guardW : Bool → W → Bool → Bool → Bool) (q_pickW : W → W → W → (W → Bool) → Bool) (q_lenW : Option CV → W → (W → Bool) → Bool) (fu : Nat) (call : CallW) (a0 : W) (a1 : W) (h0 : HW) (c0 : Nat) (K : KW) : Bool :=
q_lenW (lenC tys 22 (dec a0)) a0 fun v1 =>
q_cmpW (cmpF2 .leq) 3 (binC Try.prog .leq 3 (.tmp 6) (.const (.int .i64 (.ofNat 32768))) (dec v1) (dec ⟨3, 32768, r0, []⟩)) v1 ⟨3, 32768, r0, []⟩ fun v2 =>
q_share _ (fun (v4 : W) (h5 : HW) (c6 : Nat) =>
q_share _ (fun (v8 : W) (h9 : HW) (c10 : Nat) =>
q_share _ (fun (v12 : W) (h13 : HW) (c14 : Nat) =>
q_share _ (fun (v16 : W) (h17 : HW) (c18 : Nat) =>
q_share _ (fun (v20 : W) (h21 : HW) (c22 : Nat) =>
q_pickW v2 v20 ⟨8, 0, r0, []⟩ fun v23 =>
K v23 h21 c22) fun f19 =>
q_guardW true v2 (q_cmpW (cmpF2 .eql) 3 (binC Try.prog .eql 3 (.tmp 10) (.tmp 12) (dec v8) (dec v16)) v8 v16 fun v24 =>
f19 v24 h17 c18) (f19 wUnd h17 c18)) fun f15 =>
q_guardW true v2 (q_lenW (lenC tys 22 (dec v12)) v12 fun v25 =>
f15 v25 h13 c14) (f15 wUnd h13 c14)) fun f11 =>
q_guardW true v2 (f11 a1 h9 c10) (f11 wUnd h9 c10)) fun f7 =>
q_guardW true v2 (q_lenW (lenC tys 22 (dec v4)) v4 fun v26 =>
f7 v26 h5 c6) (f7 wUnd h5 c6)) fun f3 =>
q_guardW true v2 (f3 a0 h0 c0) (f3 wUnd h0 c0)
theorem R13_eq (Q : PrimW) (fu : Nat) (call : CallW) : curryA 2 (fnK Q Try.prog tys stl fu call e13) = R13 Q.share Q.cmpW Q.guardW Q.pickW Q.lenW fu call := by kernel_rfl
noncomputable def n13 (call : CallW) : List W → HW → Nat → KW → Bool := appF 2 (R13 (fun _ x f => f x) cmpW guardW pickW lenW 1000000 call)
theorem n13_ok {call : CallW} (h : CallSim Try.prog tys stl tab call) : FnGood Try.prog tys stl tab 13 (n13 call) := node_ok h (by kernel_rfl) rfl g13 (R13_eq real _ _)
/- foghorn/meter.Nearest -/
noncomputable def R15 (q_cmpW : (Nat → Nat → Bool) → Nat → Option CV → W → W → (W → Bool) → Bool) (q_notW : Option CV → W → (W → Bool) → Bool) (q_condW : W → Bool → Bool → Bool) (q_tupW : W → (List W → Bool) → Bool) (q_nthW : Nat → List W → (W → Bool) → Bool) (fu : Nat) (call : CallW) (a0 : W) (a1 : W) (h0 : HW) (c0 : Nat) (K : KW) : Bool :=
call 16 [a0] h0 c0 fun v1 h2 c3 =>
q_tupW v1 fun l4 => q_nthW 0 l4 fun v5 =>
q_tupW v1 fun l6 => q_nthW 1 l6 fun v7 =>
q_cmpW (cmpF2 .neq) 3 (binC Try.prog .neq 24 (.tmp 14) (.const (.int .i64 (.ofNat 0))) (dec v7) (dec ⟨3, 0, r0, []⟩)) v7 ⟨3, 0, r0, []⟩ fun v8 =>
q_condW v8 (
K ⟨13, 0, r0, [⟨3, 0, r0, []⟩, ⟨12, 0, ⟨0, 0, 0, .flt .f64 0⟩, []⟩, ⟨12, 0, ⟨0, 0, 0, .flt .f64 0⟩, []⟩, v7]⟩ h2 c3) (
call 17 [a1] h2 c3 fun v9 h10 c11 =>
q_notW (two Try.prog (dec v9) (Op.unary .not)) v9 fun v12 =>
q_condW v12 (
K ⟨13, 0, r0, [⟨3, 0, r0, []⟩, ⟨12, 0, ⟨0, 0, 0, .flt .f64 0⟩, []⟩, ⟨12, 0, ⟨0, 0, 0, .flt .f64 0⟩, []⟩, ⟨3, 7, r0, []⟩]⟩ h10 c11) (
call 18 [v5, a1] h10 c11 fun v13 h14 c15 =>
q_tupW v13 fun l16 => q_nthW 0 l16 fun v17 =>
q_tupW v13 fun l18 => q_nthW 1 l18 fun v19 =>
q_tupW v13 fun l20 => q_nthW 2 l20 fun v21 =>
K ⟨13, 0, r0, [v17, v19, v21, ⟨3, 0, r0, []⟩]⟩ h14 c15))
theorem R15_eq (Q : PrimW) (fu : Nat) (call : CallW) : curryA 2 (fnK Q Try.prog tys stl fu call e15) = R15 Q.cmpW Q.notW Q.condW Q.tupW Q.nthW fu call := by kernel_rfl
noncomputable def n15 (call : CallW) : List W → HW → Nat → KW → Bool := appF 2 (R15 cmpW notW condW tupW nthW 1000000 call)
theorem n15_ok {call : CallW} (h : CallSim Try.prog tys stl tab call) : FnGood Try.prog tys stl tab 15 (n15 call) := node_ok h (by kernel_rfl) rfl g15 (R15_eq real _ _)
/- foghorn/points.All -/
noncomputable def R16 (q_addW : Nat → Nat → Option CV → W → W → (W → Bool) → Bool) (q_cmpW : (Nat → Nat → Bool) → Nat → Option CV → W → W → (W → Bool) → Bool) (q_notW : Option CV → W → (W → Bool) → Bool) (q_condW : W → Bool → Bool → Bool) (q_fadW : Nat → W → (W → Bool) → Bool) (q_idxSW : Nat → W → W → (W → Bool) → Bool) (q_lenW : Option CV → W → (W → Bool) → Bool) (q_tupW : W → (List W → Bool) → Bool) (q_nthW : Nat → List W → (W → Bool) → Bool) (q_onG : W → List W → (FuncId → List W → Bool) → Bool) (q_killVW : W → HW → (HW → Bool) → Bool) (q_loadSW : HW → W → (W → Bool) → Bool) (q_loadAW : Nat → HW → W → (W → Bool) → Bool) (q_storeSW : HW → W → W → (HW → Bool) → Bool) (q_storeAW : Nat → HW → W → W → (HW → Bool) → Bool) (q_makeSW : Nat → Nat → Nat → Kind → List W → Bool → HW → Nat → W → W → KW → Bool) (q_allocW : Trie W → Nat → Bool → HW → Nat → KW → Bool) (fu : Nat) (call : CallW) (a0 : W) (h0 : HW) (c0 : Nat) (K : KW) : Bool :=
call 19 [a0] h0 c0 fun v1 h2 c3 =>
q_tupW v1 fun l4 => q_nthW 0 l4 fun v5 =>
q_tupW v1 fun l6 => q_nthW 1 l6 fun v7 =>
q_allocW (allocT tys 54) 5 true h2 c3 fun v8 h9 c10 =>
q_storeAW 5 h9 v8 v5 fun h11 =>
q_notW (two Try.prog (dec v7) (Op.unary .not)) v7 fun v12 =>
q_condW v12 (
q_killVW v8 h11 fun h13 =>
K ⟨13, 0, r0, [⟨12, 0, ⟨0, 0, 0, .nils⟩, []⟩, ⟨3, 1, r0, []⟩]⟩ h13 c10) (
q_makeSW 16 1 99 (.cpxs .f64) [⟨12, 0, ⟨0, 0, 0, .cpx .f64 0 0⟩, []⟩] true h11 c10 a0 a0 fun v14 h15 c16 =>
q_lenW (lenC tys 45 (dec v14)) v14 fun v17 =>
@Nat.rec (fun _ => Fun 1) (fun _ _ _ => false) (fun _ f21 v18 h19 c20 =>
q_cmpW (cmpF2 .lss) 3 (binC Try.prog .lss 3 (.tmp 19) (.tmp 18) (dec v18) (dec v17)) v18 v17 fun v22 =>
q_condW v22 (
q_fadW 3 v8 fun v23 =>
q_loadSW h19 v23 fun v24 =>
q_loadAW 5 h19 v8 fun v25 =>
q_onG v24 [v25, v18] fun g26 l27 => call g26 l27 h19 c20 fun v28 h29 c30 =>
q_idxSW 1 v14 v18 fun v31 =>
q_storeSW h29 v31 v28 fun h32 =>
q_addW 3 9223372036854775807 (binC Try.prog .add 3 (.tmp 19) (.const (.int .i64 (.ofNat 1))) (dec v18) (dec ⟨3, 1, r0, []⟩)) v18 ⟨3, 1, r0, []⟩ fun v33 =>
f21 v33 h32 c30) (
q_killVW v8 h19 fun h34 =>
K ⟨13, 0, r0, [v14, ⟨3, 0, r0, []⟩]⟩ h34 c20)) fu ⟨3, 0, r0, []⟩ h15 c16)
theorem R16_eq (Q : PrimW) (fu : Nat) (call : CallW) : curryA 1 (fnK Q Try.prog tys stl fu call e16) = R16 Q.addW Q.cmpW Q.notW Q.condW Q.fadW Q.idxSW Q.lenW Q.tupW Q.nthW Q.onG Q.killVW Q.loadSW Q.loadAW Q.storeSW Q.storeAW Q.makeSW Q.allocW fu call := by kernel_rfl
noncomputable def n16 (call : CallW) : List W → HW → Nat → KW → Bool := appF 1 (R16 addW cmpW notW condW fadW idxSW lenW tupW nthW onG killVW loadSW loadAW storeSW storeAW makeSW allocW 1000000 call)
theorem n16_ok {call : CallW} (h : CallSim Try.prog tys stl tab call) : FnGood Try.prog tys stl tab 16 (n16 call) := node_ok h (by kernel_rfl) rfl g16 (R16_eq real _ _)
/- foghorn/meter.isOn -/
noncomputable def R17 (q_share : (α : Type) → α → (α → Bool) → Bool) (q_genW : Option CV → (W → Bool) → Bool) (q_guardW : Bool → W → Bool → Bool → Bool) (q_pickW : W → W → W → (W → Bool) → Bool) (fu : Nat) (call : CallW) (a0 : W) (h0 : HW) (c0 : Nat) (K : KW) : Bool :=
q_genW (two Try.prog (dec a0) fun v => Builtin.real_ #[44] 41 #[v]) fun v1 =>
call 20 [v1] h0 c0 fun v2 h3 c4 =>
q_share _ (fun (v6 : W) (h7 : HW) (c8 : Nat) =>
q_share _ (fun (v10 : W) (h11 : HW) (c12 : Nat) =>
q_share _ (fun (v14 : W) (h15 : HW) (c16 : Nat) =>
q_pickW v2 v14 ⟨8, 0, r0, []⟩ fun v17 =>
K v17 h15 c16) fun f13 =>
q_guardW true v2 (call 20 [v10] h11 c12 fun v18 h19 c20 =>
f13 v18 h19 c20) (f13 wUnd h11 c12)) fun f9 =>
q_guardW true v2 (q_genW (two Try.prog (dec v6) fun v => Builtin.imag_ #[44] 41 #[v]) fun v21 =>
f9 v21 h7 c8) (f9 wUnd h7 c8)) fun f5 =>
q_guardW true v2 (f5 a0 h3 c4) (f5 wUnd h3 c4)
theorem R17_eq (Q : PrimW) (fu : Nat) (call : CallW) : curryA 1 (fnK Q Try.prog tys stl fu call e17) = R17 Q.share Q.genW Q.guardW Q.pickW fu call := by kernel_rfl
noncomputable def n17 (call : CallW) : List W → HW → Nat → KW → Bool := appF 1 (R17 (fun _ x f => f x) genW guardW pickW 1000000 call)
theorem n17_ok {call : CallW} (h : CallSim Try.prog tys stl tab call) : FnGood Try.prog tys stl tab 17 (n17 call) := node_ok h (by kernel_rfl) rfl g17 (R17_eq real _ _)
/- foghorn/meter.nearest -/
noncomputable def R18 (q_share : (α : Type) → α → (α → Bool) → Bool) (q_genW : Option CV → (W → Bool) → Bool) (q_addW : Nat → Nat → Option CV → W → W → (W → Bool) → Bool) (q_cmpW : (Nat → Nat → Bool) → Nat → Option CV → W → W → (W → Bool) → Bool) (q_condW : W → Bool → Bool → Bool) (q_idxSW : Nat → W → W → (W → Bool) → Bool) (q_lenW : Option CV → W → (W → Bool) → Bool) (q_loadSW : HW → W → (W → Bool) → Bool) (fu : Nat) (call : CallW) (a0 : W) (a1 : W) (h0 : HW) (c0 : Nat) (K : KW) : Bool :=
call 21 [⟨3, 1, r0, []⟩] h0 c0 fun v1 h2 c3 =>
call 21 [⟨3, 1, r0, []⟩] h2 c3 fun v4 h5 c6 =>
q_lenW (lenC tys 45 (dec a0)) a0 fun v7 =>
@Nat.rec (fun _ => Fun 4) (fun _ _ _ _ _ _ => false) (fun _ f14 v8 v9 v10 v11 h12 c13 =>
q_cmpW (cmpF2 .lss) 3 (binC Try.prog .lss 3 (.tmp 14) (.tmp 13) (dec v11) (dec v7)) v11 v7 fun v15 =>
q_condW v15 (
q_share _ (fun (v16 : W) (v17 : W) (v18 : W) (h19 : HW) (c20 : Nat) =>
q_addW 3 9223372036854775807 (binC Try.prog .add 3 (.tmp 14) (.const (.int .i64 (.ofNat 1))) (dec v11) (dec ⟨3, 1, r0, []⟩)) v11 ⟨3, 1, r0, []⟩ fun v22 =>
f14 v16 v17 v18 v22 h19 c20) fun f21 =>
q_idxSW 1 a0 v11 fun v23 =>
q_loadSW h12 v23 fun v24 =>
call 22 [v24, a1] h12 c13 fun v25 h26 c27 =>
q_genW (binC Try.prog .lss 41 (.tmp 22) (.tmp 23) (dec v25) (dec v9)) fun v28 =>
q_condW v28 (
f21 v11 v25 v9 h26 c27) (
q_genW (two2 Try.prog (dec v10) (dec v25) fun v u => Builtin.min_ #[41, 41] 41 #[v, u]) fun v29 =>
f21 v8 v9 v29 h26 c27)) (
K ⟨13, 0, r0, [v8, v9, v10]⟩ h12 c13)) fu ⟨3, 0, r0, []⟩ v1 v4 ⟨3, 0, r0, []⟩ h5 c6
theorem R18_eq (Q : PrimW) (fu : Nat) (call : CallW) : curryA 2 (fnK Q Try.prog tys stl fu call e18) = R18 Q.share Q.genW Q.addW Q.cmpW Q.condW Q.idxSW Q.lenW Q.loadSW fu call := by kernel_rfl
noncomputable def n18 (call : CallW) : List W → HW → Nat → KW → Bool := appF 2 (R18 (fun _ x f => f x) genW addW cmpW condW idxSW lenW loadSW 1000000 call)
theorem n18_ok {call : CallW} (h : CallSim Try.prog tys stl tab call) : FnGood Try.prog tys stl tab 18 (n18 call) := node_ok h (by kernel_rfl) rfl g18 (R18_eq real _ _)
/- foghorn/points.of -/
noncomputable def R19 (q_cmpW : (Nat → Nat → Bool) → Nat → Option CV → W → W → (W → Bool) → Bool) (q_condW : W → Bool → Bool → Bool) (q_loadAW : Nat → HW → W → (W → Bool) → Bool) (q_storeAW : Nat → HW → W → W → (HW → Bool) → Bool) (q_allocW : Trie W → Nat → Bool → HW → Nat → KW → Bool) (fu : Nat) (call : CallW) (a0 : W) (h0 : HW) (c0 : Nat) (K : KW) : Bool :=
q_allocW (allocT tys 54) 5 true h0 c0 fun v1 h2 c3 =>
q_cmpW (cmpF2 .eql) 3 (binC Try.prog .eql 3 (.tmp 4) (.const (.int .i64 (.ofNat 4))) (dec a0) (dec ⟨3, 4, r0, []⟩)) a0 ⟨3, 4, r0, []⟩ fun v4 =>
q_condW v4 (
call 23 [⟨3, 2, r0, []⟩, ⟨3, 1, r0, []⟩] h2 c3 fun v5 h6 c7 =>
q_storeAW 5 h6 v1 v5 fun h8 =>
q_loadAW 5 h8 v1 fun v9 =>
K ⟨13, 0, r0, [v9, ⟨8, 1, r0, []⟩]⟩ h8 c7) (
q_cmpW (cmpF2 .eql) 3 (binC Try.prog .eql 3 (.tmp 4) (.const (.int .i64 (.ofNat 16))) (dec a0) (dec ⟨3, 16, r0, []⟩)) a0 ⟨3, 16, r0, []⟩ fun v10 =>
q_condW v10 (
call 23 [⟨3, 4, r0, []⟩, ⟨3, 3, r0, []⟩] h2 c3 fun v11 h12 c13 =>
q_storeAW 5 h12 v1 v11 fun h14 =>
q_loadAW 5 h14 v1 fun v15 =>
K ⟨13, 0, r0, [v15, ⟨8, 1, r0, []⟩]⟩ h14 c13) (
q_cmpW (cmpF2 .eql) 3 (binC Try.prog .eql 3 (.tmp 4) (.const (.int .i64 (.ofNat 32))) (dec a0) (dec ⟨3, 32, r0, []⟩)) a0 ⟨3, 32, r0, []⟩ fun v16 =>
q_condW v16 (
call 24 [⟨3, 5, r0, []⟩, ⟨3, 5, r0, []⟩, ⟨3, 1, r0, []⟩] h2 c3 fun v17 h18 c19 =>
q_storeAW 5 h18 v1 v17 fun h20 =>
q_loadAW 5 h20 v1 fun v21 =>
K ⟨13, 0, r0, [v21, ⟨8, 1, r0, []⟩]⟩ h20 c19) (
q_cmpW (cmpF2 .eql) 3 (binC Try.prog .eql 3 (.tmp 4) (.const (.int .i64 (.ofNat 64))) (dec a0) (dec ⟨3, 64, r0, []⟩)) a0 ⟨3, 64, r0, []⟩ fun v22 =>
q_condW v22 (
call 23 [⟨3, 6, r0, []⟩, ⟨3, 7, r0, []⟩] h2 c3 fun v23 h24 c25 =>
q_storeAW 5 h24 v1 v23 fun h26 =>
q_loadAW 5 h26 v1 fun v27 =>
K ⟨13, 0, r0, [v27, ⟨8, 1, r0, []⟩]⟩ h26 c25) (
q_cmpW (cmpF2 .eql) 3 (binC Try.prog .eql 3 (.tmp 4) (.const (.int .i64 (.ofNat 128))) (dec a0) (dec ⟨3, 128, r0, []⟩)) a0 ⟨3, 128, r0, []⟩ fun v28 =>
q_condW v28 (
call 24 [⟨3, 7, r0, []⟩, ⟨3, 11, r0, []⟩, ⟨3, 2, r0, []⟩] h2 c3 fun v29 h30 c31 =>
q_storeAW 5 h30 v1 v29 fun h32 =>
q_loadAW 5 h32 v1 fun v33 =>
K ⟨13, 0, r0, [v33, ⟨8, 1, r0, []⟩]⟩ h32 c31) (
q_cmpW (cmpF2 .eql) 3 (binC Try.prog .eql 3 (.tmp 4) (.const (.int .i64 (.ofNat 256))) (dec a0) (dec ⟨3, 256, r0, []⟩)) a0 ⟨3, 256, r0, []⟩ fun v34 =>
q_condW v34 (
call 23 [⟨3, 8, r0, []⟩, ⟨3, 15, r0, []⟩] h2 c3 fun v35 h36 c37 =>
q_storeAW 5 h36 v1 v35 fun h38 =>
q_loadAW 5 h38 v1 fun v39 =>
K ⟨13, 0, r0, [v39, ⟨8, 1, r0, []⟩]⟩ h38 c37) (
(fun (v40 : W) =>
q_storeAW 5 h2 v1 v40 fun h41 =>
q_loadAW 5 h41 v1 fun v42 =>
K ⟨13, 0, r0, [v42, ⟨8, 0, r0, []⟩]⟩ h41 c3) ⟨15, 0, r0, [⟨3, 0, r0, []⟩, ⟨3, 0, r0, []⟩, ⟨3, 0, r0, []⟩, ⟨12, 0, ⟨0, 0, 0, .nilf⟩, []⟩, ⟨12, 0, ⟨0, 0, 0, .nilf⟩, []⟩]⟩))))))
theorem R19_eq (Q : PrimW) (fu : Nat) (call : CallW) : curryA 1 (fnK Q Try.prog tys stl fu call e19) = R19 Q.cmpW Q.condW Q.loadAW Q.storeAW Q.allocW fu call := by kernel_rfl
noncomputable def n19 (call : CallW) : List W → HW → Nat → KW → Bool := appF 1 (R19 cmpW condW loadAW storeAW allocW 1000000 call)
theorem n19_ok {call : CallW} (h : CallSim Try.prog tys stl tab call) : FnGood Try.prog tys stl tab 19 (n19 call) := node_ok h (by kernel_rfl) rfl g19 (R19_eq real _ _)
/- foghorn/grid.On -/
noncomputable def R20 (q_share : (α : Type) → α → (α → Bool) → Bool) (q_genW : Option CV → (W → Bool) → Bool) (q_guardW : Bool → W → Bool → Bool → Bool) (q_pickW : W → W → W → (W → Bool) → Bool) (fu : Nat) (call : CallW) (a0 : W) (h0 : HW) (c0 : Nat) (K : KW) : Bool :=
call 25 [a0] h0 c0 fun v1 h2 c3 =>
q_genW (binC Try.prog .leq 41 (.tmp 4) (.const (.float .f64 4652218415073722368)) (dec v1) (dec ⟨12, 0, ⟨0, 0, 0, .flt .f64 4652218415073722368⟩, []⟩)) fun v4 =>
q_share _ (fun (v6 : W) (h7 : HW) (c8 : Nat) =>
q_share _ (fun (v10 : W) (h11 : HW) (c12 : Nat) =>
q_share _ (fun (v14 : W) (h15 : HW) (c16 : Nat) =>
q_share _ (fun (v18 : W) (h19 : HW) (c20 : Nat) =>
q_share _ (fun (v22 : W) (h23 : HW) (c24 : Nat) =>
q_share _ (fun (v26 : W) (h27 : HW) (c28 : Nat) =>
q_pickW v4 v26 ⟨8, 0, r0, []⟩ fun v29 =>
K v29 h27 c28) fun f25 =>
q_guardW true v4 (q_genW (binC Try.prog .eql 41 (.tmp 8) (.tmp 11) (dec v10) (dec v22)) fun v30 =>
f25 v30 h23 c24) (f25 wUnd h23 c24)) fun f21 =>
q_guardW true v4 (call 26 [v18] h19 c20 fun v31 h32 c33 =>
f21 v31 h32 c33) (f21 wUnd h19 c20)) fun f17 =>
q_guardW true v4 (q_genW (binC Try.prog .mul 41 (.tmp 9) (.const (.float .f64 4661225614328463360)) (dec v14) (dec ⟨12, 0, ⟨0, 0, 0, .flt .f64 4661225614328463360⟩, []⟩)) fun v34 =>
f17 v34 h15 c16) (f17 wUnd h15 c16)) fun f13 =>
q_guardW true v4 (f13 a0 h11 c12) (f13 wUnd h11 c12)) fun f9 =>
q_guardW true v4 (q_genW (binC Try.prog .mul 41 (.tmp 7) (.const (.float .f64 4661225614328463360)) (dec v6) (dec ⟨12, 0, ⟨0, 0, 0, .flt .f64 4661225614328463360⟩, []⟩)) fun v35 =>
f9 v35 h7 c8) (f9 wUnd h7 c8)) fun f5 =>
q_guardW true v4 (f5 a0 h2 c3) (f5 wUnd h2 c3)
theorem R20_eq (Q : PrimW) (fu : Nat) (call : CallW) : curryA 1 (fnK Q Try.prog tys stl fu call e20) = R20 Q.share Q.genW Q.guardW Q.pickW fu call := by kernel_rfl
noncomputable def n20 (call : CallW) : List W → HW → Nat → KW → Bool := appF 1 (R20 (fun _ x f => f x) genW guardW pickW 1000000 call)
theorem n20_ok {call : CallW} (h : CallSim Try.prog tys stl tab call) : FnGood Try.prog tys stl tab 20 (n20 call) := node_ok h (by kernel_rfl) rfl g20 (R20_eq real _ _)
/- math.Inf -/
noncomputable def R21 (q_share : (α : Type) → α → (α → Bool) → Bool) (q_cmpW : (Nat → Nat → Bool) → Nat → Option CV → W → W → (W → Bool) → Bool) (q_condW : W → Bool → Bool → Bool) (fu : Nat) (call : CallW) (a0 : W) (h0 : HW) (c0 : Nat) (K : KW) : Bool :=
q_share _ (fun (v1 : W) (h2 : HW) (c3 : Nat) =>
call 27 [v1] h2 c3 fun v5 h6 c7 =>
K v5 h6 c7) fun f4 =>
q_cmpW (cmpF2 .geq) 3 (binC Try.prog .geq 3 (.tmp 4) (.const (.int .i64 (.ofNat 0))) (dec a0) (dec ⟨3, 0, r0, []⟩)) a0 ⟨3, 0, r0, []⟩ fun v8 =>
q_condW v8 (
f4 ⟨7, 9218868437227405312, r0, []⟩ h0 c0) (
f4 ⟨7, 18442240474082181120, r0, []⟩ h0 c0)
theorem R21_eq (Q : PrimW) (fu : Nat) (call : CallW) : curryA 1 (fnK Q Try.prog tys stl fu call e21) = R21 Q.share Q.cmpW Q.condW fu call := by kernel_rfl
noncomputable def n21 (call : CallW) : List W → HW → Nat → KW → Bool := appF 1 (R21 (fun _ x f => f x) cmpW condW 1000000 call)
theorem n21_ok {call : CallW} (h : CallSim Try.prog tys stl tab call) : FnGood Try.prog tys stl tab 21 (n21 call) := node_ok h (by kernel_rfl) rfl g21 (R21_eq real _ _)
/- foghorn/plane.Apart -/
noncomputable def R22 (q_genW : Option CV → (W → Bool) → Bool) (fu : Nat) (call : CallW) (a0 : W) (a1 : W) (h0 : HW) (c0 : Nat) (K : KW) : Bool :=
q_genW (two Try.prog (dec a0) fun v => Builtin.real_ #[44] 41 #[v]) fun v1 =>
q_genW (two Try.prog (dec a1) fun v => Builtin.real_ #[44] 41 #[v]) fun v2 =>
q_genW (binC Try.prog .sub 41 (.tmp 6) (.tmp 8) (dec v1) (dec v2)) fun v3 =>
q_genW (two Try.prog (dec a0) fun v => Builtin.imag_ #[44] 41 #[v]) fun v4 =>
q_genW (two Try.prog (dec a1) fun v => Builtin.imag_ #[44] 41 #[v]) fun v5 =>
q_genW (binC Try.prog .sub 41 (.tmp 11) (.tmp 13) (dec v4) (dec v5)) fun v6 =>
q_genW (two2 Try.prog (dec v3) (dec v6) fun v u => Builtin.complex_ #[41, 41] 44 #[v, u]) fun v7 =>
call 28 [v7] h0 c0 fun v8 h9 c10 =>
K v8 h9 c10
theorem R22_eq (Q : PrimW) (fu : Nat) (call : CallW) : curryA 2 (fnK Q Try.prog tys stl fu call e22) = R22 Q.genW fu call := by kernel_rfl
noncomputable def n22 (call : CallW) : List W → HW → Nat → KW → Bool := appF 2 (R22 genW 1000000 call)
theorem n22_ok {call : CallW} (h : CallSim Try.prog tys stl tab call) : FnGood Try.prog tys stl tab 22 (n22 call) := node_ok h (by kernel_rfl) rfl g22 (R22_eq real _ _)
/- foghorn/points.square -/
noncomputable def R23 (q_loadAW : Nat → HW → W → (W → Bool) → Bool) (q_storeAW : Nat → HW → W → W → (HW → Bool) → Bool) (q_allocW : Trie W → Nat → Bool → HW → Nat → KW → Bool) (q_flatW : W → Bool → Bool) (fu : Nat) (call : CallW) (a0 : W) (a1 : W) (h0 : HW) (c0 : Nat) (K : KW) : Bool :=
q_allocW (allocT tys 54) 5 true h0 c0 fun v1 h2 c3 =>
q_flatW a0 (
q_flatW a1 (
q_flatW ⟨14, 29, r0, []⟩ (
q_flatW ⟨14, 30, r0, []⟩ (
(fun (v4 : W) =>
q_storeAW 5 h2 v1 v4 fun h5 =>
q_loadAW 5 h5 v1 fun v6 =>
K v6 h5 c3) ⟨15, 0, r0, [a0, a1, ⟨3, 0, r0, []⟩, ⟨14, 29, r0, []⟩, ⟨14, 30, r0, []⟩]⟩))))
theorem R23_eq (Q : PrimW) (fu : Nat) (call : CallW) : curryA 2 (fnK Q Try.prog tys stl fu call e23) = R23 Q.loadAW Q.storeAW Q.allocW Q.flatW fu call := by kernel_rfl
noncomputable def n23 (call : CallW) : List W → HW → Nat → KW → Bool := appF 2 (R23 loadAW storeAW allocW flatW 1000000 call)
theorem n23_ok {call : CallW} (h : CallSim Try.prog tys stl tab call) : FnGood Try.prog tys stl tab 23 (n23 call) := node_ok h (by kernel_rfl) rfl g23 (R23_eq real _ _)
/- foghorn/points.cross -/
noncomputable def R24 (q_loadAW : Nat → HW → W → (W → Bool) → Bool) (q_storeAW : Nat → HW → W → W → (HW → Bool) → Bool) (q_allocW : Trie W → Nat → Bool → HW → Nat → KW → Bool) (q_flatW : W → Bool → Bool) (fu : Nat) (call : CallW) (a0 : W) (a1 : W) (a2 : W) (h0 : HW) (c0 : Nat) (K : KW) : Bool :=
q_allocW (allocT tys 54) 5 true h0 c0 fun v1 h2 c3 =>
q_flatW a0 (
q_flatW a1 (
q_flatW a2 (
q_flatW ⟨14, 31, r0, []⟩ (
q_flatW ⟨14, 32, r0, []⟩ (
(fun (v4 : W) =>
q_storeAW 5 h2 v1 v4 fun h5 =>
q_loadAW 5 h5 v1 fun v6 =>
K v6 h5 c3) ⟨15, 0, r0, [a0, a1, a2, ⟨14, 31, r0, []⟩, ⟨14, 32, r0, []⟩]⟩)))))
theorem R24_eq (Q : PrimW) (fu : Nat) (call : CallW) : curryA 3 (fnK Q Try.prog tys stl fu call e24) = R24 Q.loadAW Q.storeAW Q.allocW Q.flatW fu call := by kernel_rfl
noncomputable def n24 (call : CallW) : List W → HW → Nat → KW → Bool := appF 3 (R24 loadAW storeAW allocW flatW 1000000 call)
theorem n24_ok {call : CallW} (h : CallSim Try.prog tys stl tab call) : FnGood Try.prog tys stl tab 24 (n24 call) := node_ok h (by kernel_rfl) rfl g24 (R24_eq real _ _)
/- math.Abs -/
noncomputable def R25 (q_genW : Option CV → (W → Bool) → Bool) (fu : Nat) (call : CallW) (a0 : W) (h0 : HW) (c0 : Nat) (K : KW) : Bool :=
call 33 [a0] h0 c0 fun v1 h2 c3 =>
q_genW (binC Try.prog .andNot 63 (.tmp 4) (.const (.int .u64 (.ofNat 9223372036854775808))) (dec v1) (dec ⟨7, 9223372036854775808, r0, []⟩)) fun v4 =>
call 27 [v4] h2 c3 fun v5 h6 c7 =>
K v5 h6 c7
theorem R25_eq (Q : PrimW) (fu : Nat) (call : CallW) : curryA 1 (fnK Q Try.prog tys stl fu call e25) = R25 Q.genW fu call := by kernel_rfl
noncomputable def n25 (call : CallW) : List W → HW → Nat → KW → Bool := appF 1 (R25 genW 1000000 call)
theorem n25_ok {call : CallW} (h : CallSim Try.prog tys stl tab call) : FnGood Try.prog tys stl tab 25 (n25 call) := node_ok h (by kernel_rfl) rfl g25 (R25_eq real _ _)
/- math.Trunc -/
noncomputable def R26 (q_condW : W → Bool → Bool → Bool) (fu : Nat) (call : CallW) (a0 : W) (h0 : HW) (c0 : Nat) (K : KW) : Bool :=
q_condW ⟨8, 1, r0, []⟩ (
call 34 [a0] h0 c0 fun v1 h2 c3 =>
K v1 h2 c3) (
call 35 [a0] h0 c0 fun v4 h5 c6 =>
K v4 h5 c6)
theorem R26_eq (Q : PrimW) (fu : Nat) (call : CallW) : curryA 1 (fnK Q Try.prog tys stl fu call e26) = R26 Q.condW fu call := by kernel_rfl
noncomputable def n26 (call : CallW) : List W → HW → Nat → KW → Bool := appF 1 (R26 condW 1000000 call)
theorem n26_ok {call : CallW} (h : CallSim Try.prog tys stl tab call) : FnGood Try.prog tys stl tab 26 (n26 call) := node_ok h (by kernel_rfl) rfl g26 (R26_eq real _ _)
noncomputable def n27 (_ : CallW) : List W → HW → Nat → KW → Bool := extN Try.prog 27
theorem n27_ok {call : CallW} (_ : CallSim Try.prog tys stl tab call) : FnGood Try.prog tys stl tab 27 (n27 call) := ext_ok (e := e27) (by kernel_rfl) rfl
/- foghorn/plane.Norm -/
noncomputable def R28 (q_genW : Option CV → (W → Bool) → Bool) (fu : Nat) (call : CallW) (a0 : W) (h0 : HW) (c0 : Nat) (K : KW) : Bool :=
q_genW (two Try.prog (dec a0) fun v => Builtin.real_ #[44] 41 #[v]) fun v1 =>
q_genW (two Try.prog (dec a0) fun v => Builtin.real_ #[44] 41 #[v]) fun v2 =>
q_genW (binC Try.prog .mul 41 (.tmp 4) (.tmp 6) (dec v1) (dec v2)) fun v3 =>
q_genW (two Try.prog (dec a0) fun v => Builtin.imag_ #[44] 41 #[v]) fun v4 =>
q_genW (two Try.prog (dec a0) fun v => Builtin.imag_ #[44] 41 #[v]) fun v5 =>
q_genW (binC Try.prog .mul 41 (.tmp 9) (.tmp 11) (dec v4) (dec v5)) fun v6 =>
q_genW (binC Try.prog .add 41 (.tmp 7) (.tmp 12) (dec v3) (dec v6)) fun v7 =>
K v7 h0 c0
theorem R28_eq (Q : PrimW) (fu : Nat) (call : CallW) : curryA 1 (fnK Q Try.prog tys stl fu call e28) = R28 Q.genW fu call := by kernel_rfl
noncomputable def n28 (call : CallW) : List W → HW → Nat → KW → Bool := appF 1 (R28 genW 1000000 call)
theorem n28_ok {call : CallW} (h : CallSim Try.prog tys stl tab call) : FnGood Try.prog tys stl tab 28 (n28 call) := node_ok h (by kernel_rfl) rfl g28 (R28_eq real _ _)
/- foghorn/points.squareAt -/
noncomputable def R29 (q_subW : Nat → Nat → Option CV → W → W → (W → Bool) → Bool) (q_quoW : Nat → Nat → Option CV → W → W → (W → Bool) → Bool) (q_bitW : (Nat → Nat → Nat) → Nat → Nat → Option CV → W → W → (W → Bool) → Bool) (q_shlW : Nat → Nat → Nat → Option CV → W → W → (W → Bool) → Bool) (q_shrW : Nat → Nat → Option CV → W → W → (W → Bool) → Bool) (q_fadW : Nat → W → (W → Bool) → Bool) (q_knownW : W → Bool → Bool) (q_killVW : W → HW → (HW → Bool) → Bool) (q_loadSW : HW → W → (W → Bool) → Bool) (q_loadAW : Nat → HW → W → (W → Bool) → Bool) (q_boxW : HW → Nat → W → KW → Bool) (fu : Nat) (call : CallW) (a0 : W) (a1 : W) (h0 : HW) (c0 : Nat) (K : KW) : Bool :=
q_boxW h0 c0 a0 fun v1 h2 c3 =>
q_fadW 0 v1 fun v4 =>
q_loadSW h2 v4 fun v5 =>
q_quoW 3 9223372036854775807 (binC Try.prog .quo 3 (.tmp 7) (.const (.int .i64 (.ofNat 2))) (dec v5) (dec ⟨3, 2, r0, []⟩)) v5 ⟨3, 2, r0, []⟩ fun v6 =>
q_loadAW 5 h2 v1 fun v7 =>
q_shrW 3 64 (binC Try.prog .shr 3 (.tmp 10) (.tmp 11) (dec a1) (dec v6)) a1 v6 fun v8 =>
call 37 [v8] h2 c3 fun v9 _ _ => q_knownW v9 (
q_shlW 3 9223372036854775807 64 (binC Try.prog .shl 3 (.const (.int .i64 (.ofNat 1))) (.tmp 15) (dec ⟨3, 1, r0, []⟩) (dec v6)) ⟨3, 1, r0, []⟩ v6 fun v10 =>
q_subW 3 9223372036854775807 (binC Try.prog .sub 3 (.tmp 16) (.const (.int .i64 (.ofNat 1))) (dec v10) (dec ⟨3, 1, r0, []⟩)) v10 ⟨3, 1, r0, []⟩ fun v11 =>
q_bitW Nat.land 3 9223372036854775807 (binC Try.prog .and 3 (.tmp 14) (.tmp 17) (dec a1) (dec v11)) a1 v11 fun v12 =>
call 37 [v12] h2 c3 fun v13 _ _ => q_knownW v13 (
call 36 [v7, v9, v13] h2 c3 fun v14 h15 c16 =>
q_killVW v1 h15 fun h17 =>
K v14 h17 c16))
theorem R29_eq (Q : PrimW) (fu : Nat) (call : CallW) : curryA 2 (fnK Q Try.prog tys stl fu call e29) = R29 Q.subW Q.quoW Q.bitW Q.shlW Q.shrW Q.fadW Q.knownW Q.killVW Q.loadSW Q.loadAW Q.boxW fu call := by kernel_rfl
noncomputable def n29 (call : CallW) : List W → HW → Nat → KW → Bool := appF 2 (R29 subW quoW bitW shlW shrW fadW knownW killVW loadSW loadAW boxW 1000000 call)
theorem n29_ok {call : CallW} (h : CallSim Try.prog tys stl tab call) : FnGood Try.prog tys stl tab 29 (n29 call) := node_ok h (by kernel_rfl) rfl g29 (R29_eq real _ _)
/- foghorn/points.squareLabel -/
noncomputable def R30 (q_quoW : Nat → Nat → Option CV → W → W → (W → Bool) → Bool) (q_bitW : (Nat → Nat → Nat) → Nat → Nat → Option CV → W → W → (W → Bool) → Bool) (q_shlW : Nat → Nat → Nat → Option CV → W → W → (W → Bool) → Bool) (q_fadW : Nat → W → (W → Bool) → Bool) (q_knownW : W → Bool → Bool) (q_killVW : W → HW → (HW → Bool) → Bool) (q_loadSW : HW → W → (W → Bool) → Bool) (q_boxW : HW → Nat → W → KW → Bool) (fu : Nat) (call : CallW) (a0 : W) (a1 : W) (a2 : W) (h0 : HW) (c0 : Nat) (K : KW) : Bool :=
q_boxW h0 c0 a0 fun v1 h2 c3 =>
call 38 [a1] h2 c3 fun v4 _ _ => q_knownW v4 (
q_fadW 0 v1 fun v5 =>
q_loadSW h2 v5 fun v6 =>
q_quoW 3 9223372036854775807 (binC Try.prog .quo 3 (.tmp 10) (.const (.int .i64 (.ofNat 2))) (dec v6) (dec ⟨3, 2, r0, []⟩)) v6 ⟨3, 2, r0, []⟩ fun v7 =>
q_shlW 3 9223372036854775807 64 (binC Try.prog .shl 3 (.tmp 8) (.tmp 11) (dec v4) (dec v7)) v4 v7 fun v8 =>
call 38 [a2] h2 c3 fun v9 _ _ => q_knownW v9 (
q_bitW Nat.lor 3 9223372036854775807 (binC Try.prog .or 3 (.tmp 12) (.tmp 14) (dec v8) (dec v9)) v8 v9 fun v10 =>
q_killVW v1 h2 fun h11 =>
K v10 h11 c3))
theorem R30_eq (Q : PrimW) (fu : Nat) (call : CallW) : curryA 3 (fnK Q Try.prog tys stl fu call e30) = R30 Q.quoW Q.bitW Q.shlW Q.fadW Q.knownW Q.killVW Q.loadSW Q.boxW fu call := by kernel_rfl
noncomputable def n30 (call : CallW) : List W → HW → Nat → KW → Bool := appF 3 (R30 quoW bitW shlW fadW knownW killVW loadSW boxW 1000000 call)
theorem n30_ok {call : CallW} (h : CallSim Try.prog tys stl tab call) : FnGood Try.prog tys stl tab 30 (n30 call) := node_ok h (by kernel_rfl) rfl g30 (R30_eq real _ _)
/- foghorn/points.crossAt -/
noncomputable def R31 (q_addW : Nat → Nat → Option CV → W → W → (W → Bool) → Bool) (q_subW : Nat → Nat → Option CV → W → W → (W → Bool) → Bool) (q_cmpW : (Nat → Nat → Bool) → Nat → Option CV → W → W → (W → Bool) → Bool) (q_condW : W → Bool → Bool → Bool) (q_killVW : W → HW → (HW → Bool) → Bool) (q_loadAW : Nat → HW → W → (W → Bool) → Bool) (q_boxW : HW → Nat → W → KW → Bool) (q_samQW : W → W → Bool → Bool) (fu : Nat) (call : CallW) (a0 : W) (a1 : W) (h0 : HW) (c0 : Nat) (K : KW) : Bool :=
q_boxW h0 c0 a0 fun v1 h2 c3 =>
@Nat.rec (fun _ => Fun 2) (fun _ _ _ _ => false) (fun _ f8 v4 v5 h6 c7 =>
q_loadAW 5 h6 v1 fun v9 =>
call 39 [v9, v5] h6 c7 fun v10 h11 c12 =>
q_cmpW (cmpF2 .geq) 3 (binC Try.prog .geq 3 (.tmp 6) (.tmp 9) (dec v4) (dec v10)) v4 v10 fun v13 =>
q_condW v13 (
q_loadAW 5 h11 v1 fun v14 =>
call 39 [v14, v5] h11 c12 fun v15 h16 c17 =>
q_subW 3 9223372036854775807 (binC Try.prog .sub 3 (.tmp 11) (.tmp 14) (dec v4) (dec v15)) v4 v15 fun v18 =>
q_addW 3 9223372036854775807 (binC Try.prog .add 3 (.tmp 16) (.const (.int .i64 (.ofNat 1))) (dec v5) (dec ⟨3, 1, r0, []⟩)) v5 ⟨3, 1, r0, []⟩ fun v19 =>
f8 v18 v19 h16 c17) (
q_loadAW 5 h11 v1 fun v20 =>
q_loadAW 5 h11 v1 fun v21 =>
call 40 [v20, v5] h11 c12 fun v22 h23 c24 =>
q_loadAW 5 h23 v1 fun v25 =>
q_samQW v25 v21 (
q_addW 3 9223372036854775807 (binC Try.prog .add 3 (.tmp 22) (.tmp 23) (dec v22) (dec v4)) v22 v4 fun v26 =>
call 36 [v21, v5, v26] h23 c24 fun v27 h28 c29 =>
q_killVW v1 h28 fun h30 =>
K v27 h30 c29))) fu a1 ⟨3, 0, r0, []⟩ h2 c3
theorem R31_eq (Q : PrimW) (fu : Nat) (call : CallW) : curryA 2 (fnK Q Try.prog tys stl fu call e31) = R31 Q.addW Q.subW Q.cmpW Q.condW Q.killVW Q.loadAW Q.boxW Q.samQW fu call := by kernel_rfl
noncomputable def n31 (call : CallW) : List W → HW → Nat → KW → Bool := appF 2 (R31 addW subW cmpW condW killVW loadAW boxW samQW 1000000 call)
theorem n31_ok {call : CallW} (h : CallSim Try.prog tys stl tab call) : FnGood Try.prog tys stl tab 31 (n31 call) := node_ok h (by kernel_rfl) rfl g31 (R31_eq real _ _)
/- foghorn/points.crossLabel -/
noncomputable def R32 (q_addW : Nat → Nat → Option CV → W → W → (W → Bool) → Bool) (q_subW : Nat → Nat → Option CV → W → W → (W → Bool) → Bool) (q_cmpW : (Nat → Nat → Bool) → Nat → Option CV → W → W → (W → Bool) → Bool) (q_condW : W → Bool → Bool → Bool) (q_killVW : W → HW → (HW → Bool) → Bool) (q_loadAW : Nat → HW → W → (W → Bool) → Bool) (q_boxW : HW → Nat → W → KW → Bool) (fu : Nat) (call : CallW) (a0 : W) (a1 : W) (a2 : W) (h0 : HW) (c0 : Nat) (K : KW) : Bool :=
q_boxW h0 c0 a0 fun v1 h2 c3 =>
q_loadAW 5 h2 v1 fun v4 =>
call 40 [v4, a1] h2 c3 fun v5 h6 c7 =>
q_subW 3 9223372036854775807 (binC Try.prog .sub 3 (.tmp 9) (.tmp 12) (dec a2) (dec v5)) a2 v5 fun v8 =>
@Nat.rec (fun _ => Fun 2) (fun _ _ _ _ => false) (fun _ f13 v9 v10 h11 c12 =>
q_cmpW (cmpF2 .lss) 3 (binC Try.prog .lss 3 (.tmp 15) (.tmp 14) (dec v10) (dec a1)) v10 a1 fun v14 =>
q_condW v14 (
q_loadAW 5 h11 v1 fun v15 =>
call 39 [v15, v10] h11 c12 fun v16 h17 c18 =>
q_addW 3 9223372036854775807 (binC Try.prog .add 3 (.tmp 18) (.tmp 21) (dec v9) (dec v16)) v9 v16 fun v19 =>
q_addW 3 9223372036854775807 (binC Try.prog .add 3 (.tmp 15) (.const (.int .i64 (.ofNat 1))) (dec v10) (dec ⟨3, 1, r0, []⟩)) v10 ⟨3, 1, r0, []⟩ fun v20 =>
f13 v19 v20 h17 c18) (
q_killVW v1 h11 fun h21 =>
K v9 h21 c12)) fu v8 ⟨3, 0, r0, []⟩ h6 c7
theorem R32_eq (Q : PrimW) (fu : Nat) (call : CallW) : curryA 3 (fnK Q Try.prog tys stl fu call e32) = R32 Q.addW Q.subW Q.cmpW Q.condW Q.killVW Q.loadAW Q.boxW fu call := by kernel_rfl
noncomputable def n32 (call : CallW) : List W → HW → Nat → KW → Bool := appF 3 (R32 addW subW cmpW condW killVW loadAW boxW 1000000 call)
theorem n32_ok {call : CallW} (h : CallSim Try.prog tys stl tab call) : FnGood Try.prog tys stl tab 32 (n32 call) := node_ok h (by kernel_rfl) rfl g32 (R32_eq real _ _)
noncomputable def n33 (_ : CallW) : List W → HW → Nat → KW → Bool := extN Try.prog 33
theorem n33_ok {call : CallW} (_ : CallSim Try.prog tys stl tab call) : FnGood Try.prog tys stl tab 33 (n33 call) := ext_ok (e := e33) (by kernel_rfl) rfl
noncomputable def n34 (_ : CallW) : List W → HW → Nat → KW → Bool := extN Try.prog 34
theorem n34_ok {call : CallW} (_ : CallSim Try.prog tys stl tab call) : FnGood Try.prog tys stl tab 34 (n34 call) := ext_ok (e := e34) (by kernel_rfl) rfl
/- math.trunc -/
noncomputable def R35 (q_share : (α : Type) → α → (α → Bool) → Bool) (q_genW : Option CV → (W → Bool) → Bool) (q_subW : Nat → Nat → Option CV → W → W → (W → Bool) → Bool) (q_bitW : (Nat → Nat → Nat) → Nat → Nat → Option CV → W → W → (W → Bool) → Bool) (q_cmpW : (Nat → Nat → Bool) → Nat → Option CV → W → W → (W → Bool) → Bool) (q_shlW : Nat → Nat → Nat → Option CV → W → W → (W → Bool) → Bool) (q_shrW : Nat → Nat → Option CV → W → W → (W → Bool) → Bool) (q_condW : W → Bool → Bool → Bool) (fu : Nat) (call : CallW) (a0 : W) (h0 : HW) (c0 : Nat) (K : KW) : Bool :=
call 25 [a0] h0 c0 fun v1 h2 c3 =>
q_genW (binC Try.prog .lss 41 (.tmp 6) (.const (.float .f64 4607182418800017408)) (dec v1) (dec ⟨12, 0, ⟨0, 0, 0, .flt .f64 4607182418800017408⟩, []⟩)) fun v4 =>
q_condW v4 (
call 41 [⟨12, 0, ⟨0, 0, 0, .flt .f64 0⟩, []⟩, a0] h2 c3 fun v5 h6 c7 =>
K v5 h6 c7) (
call 33 [a0] h2 c3 fun v8 h9 c10 =>
q_shrW 7 64 (binC Try.prog .shr 63 (.tmp 12) (.const (.int .u64 (.ofNat 52))) (dec v8) (dec ⟨7, 52, r0, []⟩)) v8 ⟨7, 52, r0, []⟩ fun v11 =>
q_bitW Nat.land 7 18446744073709551615 (binC Try.prog .and 70 (.tmp 13) (.const (.int .u64 (.ofNat 2047))) (dec v11) (dec ⟨7, 2047, r0, []⟩)) v11 ⟨7, 2047, r0, []⟩ fun v12 =>
q_subW 7 18446744073709551615 (binC Try.prog .sub 70 (.tmp 14) (.const (.int .u64 (.ofNat 1023))) (dec v12) (dec ⟨7, 1023, r0, []⟩)) v12 ⟨7, 1023, r0, []⟩ fun v13 =>
q_share _ (fun (v14 : W) (h15 : HW) (c16 : Nat) =>
call 27 [v14] h15 c16 fun v18 h19 c20 =>
K v18 h19 c20) fun f17 =>
q_cmpW (cmpF2 .lss) 7 (binC Try.prog .lss 70 (.tmp 16) (.const (.int .u64 (.ofNat 52))) (dec v13) (dec ⟨7, 52, r0, []⟩)) v13 ⟨7, 52, r0, []⟩ fun v21 =>
q_condW v21 (
q_subW 7 18446744073709551615 (binC Try.prog .sub 70 (.const (.int .u64 (.ofNat 52))) (.tmp 19) (dec ⟨7, 52, r0, []⟩) (dec v13)) ⟨7, 52, r0, []⟩ v13 fun v22 =>
q_shlW 7 18446744073709551615 64 (binC Try.prog .shl 63 (.const (.int .u64 (.ofNat 1))) (.tmp 20) (dec ⟨7, 1, r0, []⟩) (dec v22)) ⟨7, 1, r0, []⟩ v22 fun v23 =>
q_subW 7 18446744073709551615 (binC Try.prog .sub 63 (.tmp 21) (.const (.int .u64 (.ofNat 1))) (dec v23) (dec ⟨7, 1, r0, []⟩)) v23 ⟨7, 1, r0, []⟩ fun v24 =>
q_genW (binC Try.prog .andNot 63 (.tmp 18) (.tmp 22) (dec v8) (dec v24)) fun v25 =>
f17 v25 h9 c10) (
f17 v8 h9 c10))
theorem R35_eq (Q : PrimW) (fu : Nat) (call : CallW) : curryA 1 (fnK Q Try.prog tys stl fu call e35) = R35 Q.share Q.genW Q.subW Q.bitW Q.cmpW Q.shlW Q.shrW Q.condW fu call := by kernel_rfl
noncomputable def n35 (call : CallW) : List W → HW → Nat → KW → Bool := appF 1 (R35 (fun _ x f => f x) genW subW bitW cmpW shlW shrW condW 1000000 call)
theorem n35_ok {call : CallW} (h : CallSim Try.prog tys stl tab call) : FnGood Try.prog tys stl tab 35 (n35 call) := node_ok h (by kernel_rfl) rfl g35 (R35_eq real _ _)
/- (foghorn/points.set).point -/
noncomputable def R36 (q_genW : Option CV → (W → Bool) → Bool) (q_subW : Nat → Nat → Option CV → W → W → (W → Bool) → Bool) (q_mulW : Nat → Nat → Option CV → W → W → (W → Bool) → Bool) (q_fadW : Nat → W → (W → Bool) → Bool) (q_killVW : W → HW → (HW → Bool) → Bool) (q_loadSW : HW → W → (W → Bool) → Bool) (q_boxW : HW → Nat → W → KW → Bool) (fu : Nat) (call : CallW) (a0 : W) (a1 : W) (a2 : W) (h0 : HW) (c0 : Nat) (K : KW) : Bool :=
q_boxW h0 c0 a0 fun v1 h2 c3 =>
q_mulW 3 9223372036854775807 (binC Try.prog .mul 3 (.const (.int .i64 (.ofNat 2))) (.tmp 7) (dec ⟨3, 2, r0, []⟩) (dec a1)) ⟨3, 2, r0, []⟩ a1 fun v4 =>
q_fadW 1 v1 fun v5 =>
q_loadSW h2 v5 fun v6 =>
q_subW 3 9223372036854775807 (binC Try.prog .sub 3 (.tmp 8) (.tmp 10) (dec v4) (dec v6)) v4 v6 fun v7 =>
q_genW (convC Try.prog tys ⟨[], 0, decH h2, 0⟩ 3 41 (dec v7)) fun v8 =>
q_mulW 3 9223372036854775807 (binC Try.prog .mul 3 (.const (.int .i64 (.ofNat 2))) (.tmp 13) (dec ⟨3, 2, r0, []⟩) (dec a2)) ⟨3, 2, r0, []⟩ a2 fun v9 =>
q_fadW 1 v1 fun v10 =>
q_loadSW h2 v10 fun v11 =>
q_subW 3 9223372036854775807 (binC Try.prog .sub 3 (.tmp 14) (.tmp 16) (dec v9) (dec v11)) v9 v11 fun v12 =>
q_genW (convC Try.prog tys ⟨[], 0, decH h2, 0⟩ 3 41 (dec v12)) fun v13 =>
q_genW (two2 Try.prog (dec v8) (dec v13) fun v u => Builtin.complex_ #[41, 41] 44 #[v, u]) fun v14 =>
q_killVW v1 h2 fun h15 =>
K v14 h15 c3
theorem R36_eq (Q : PrimW) (fu : Nat) (call : CallW) : curryA 3 (fnK Q Try.prog tys stl fu call e36) = R36 Q.genW Q.subW Q.mulW Q.fadW Q.killVW Q.loadSW Q.boxW fu call := by kernel_rfl
noncomputable def n36 (call : CallW) : List W → HW → Nat → KW → Bool := appF 3 (R36 genW subW mulW fadW killVW loadSW boxW 1000000 call)
theorem n36_ok {call : CallW} (h : CallSim Try.prog tys stl tab call) : FnGood Try.prog tys stl tab 36 (n36 call) := node_ok h (by kernel_rfl) rfl g36 (R36_eq real _ _)
/- foghorn/points.ungray -/
noncomputable def R37 (q_tupW : W → (List W → Bool) → Bool) (q_nthW : Nat → List W → (W → Bool) → Bool) (fu : Nat) (call : CallW) (a0 : W) (h0 : HW) (c0 : Nat) (K : KW) : Bool :=
call 42 [a0] h0 c0 fun v1 h2 c3 =>
q_tupW v1 fun l4 => q_nthW 0 l4 fun v5 =>
q_tupW v1 fun l6 => q_nthW 1 l6 fun v7 =>
K v5 h2 c3
theorem R37_eq (Q : PrimW) (fu : Nat) (call : CallW) : curryA 1 (fnK Q Try.prog tys stl fu call e37) = R37 Q.tupW Q.nthW fu call := by kernel_rfl
noncomputable def n37 (call : CallW) : List W → HW → Nat → KW → Bool := appF 1 (R37 tupW nthW 1000000 call)
theorem n37_ok {call : CallW} (h : CallSim Try.prog tys stl tab call) : FnGood Try.prog tys stl tab 37 (n37 call) := node_ok h (by kernel_rfl) rfl g37 (R37_eq real _ _)
/- foghorn/points.gray -/
noncomputable def R38 (q_tupW : W → (List W → Bool) → Bool) (q_nthW : Nat → List W → (W → Bool) → Bool) (fu : Nat) (call : CallW) (a0 : W) (h0 : HW) (c0 : Nat) (K : KW) : Bool :=
call 43 [a0] h0 c0 fun v1 h2 c3 =>
q_tupW v1 fun l4 => q_nthW 0 l4 fun v5 =>
q_tupW v1 fun l6 => q_nthW 1 l6 fun v7 =>
K v5 h2 c3
theorem R38_eq (Q : PrimW) (fu : Nat) (call : CallW) : curryA 1 (fnK Q Try.prog tys stl fu call e38) = R38 Q.tupW Q.nthW fu call := by kernel_rfl
noncomputable def n38 (call : CallW) : List W → HW → Nat → KW → Bool := appF 1 (R38 tupW nthW 1000000 call)
theorem n38_ok {call : CallW} (h : CallSim Try.prog tys stl tab call) : FnGood Try.prog tys stl tab 38 (n38 call) := node_ok h (by kernel_rfl) rfl g38 (R38_eq real _ _)
/- (foghorn/points.set).rows -/
noncomputable def R39 (q_addW : Nat → Nat → Option CV → W → W → (W → Bool) → Bool) (q_subW : Nat → Nat → Option CV → W → W → (W → Bool) → Bool) (q_mulW : Nat → Nat → Option CV → W → W → (W → Bool) → Bool) (q_fadW : Nat → W → (W → Bool) → Bool) (q_detW : W → Bool → Bool) (q_killVW : W → HW → (HW → Bool) → Bool) (q_loadSW : HW → W → (W → Bool) → Bool) (q_loadAW : Nat → HW → W → (W → Bool) → Bool) (q_boxW : HW → Nat → W → KW → Bool) (q_samQW : W → W → Bool → Bool) (fu : Nat) (call : CallW) (a0 : W) (a1 : W) (h0 : HW) (c0 : Nat) (K : KW) : Bool :=
q_boxW h0 c0 a0 fun v1 h2 c3 =>
q_loadAW 5 h2 v1 fun v4 =>
q_fadW 1 v1 fun v5 =>
q_detW v5 (
q_loadSW h2 v5 fun v6 =>
q_addW 3 9223372036854775807 (binC Try.prog .add 3 (.tmp 6) (.const (.int .i64 (.ofNat 1))) (dec v6) (dec ⟨3, 1, r0, []⟩)) v6 ⟨3, 1, r0, []⟩ fun v7 =>
q_detW v7 (
call 40 [v4, a1] h2 c3 fun v8 h9 c10 =>
q_loadSW h9 v5 fun v11 =>
q_samQW v11 v6 (
q_mulW 3 9223372036854775807 (binC Try.prog .mul 3 (.const (.int .i64 (.ofNat 2))) (.tmp 10) (dec ⟨3, 2, r0, []⟩) (dec v8)) ⟨3, 2, r0, []⟩ v8 fun v12 =>
q_subW 3 9223372036854775807 (binC Try.prog .sub 3 (.tmp 7) (.tmp 11) (dec v7) (dec v12)) v7 v12 fun v13 =>
q_killVW v1 h9 fun h14 =>
K v13 h14 c10)))
theorem R39_eq (Q : PrimW) (fu : Nat) (call : CallW) : curryA 2 (fnK Q Try.prog tys stl fu call e39) = R39 Q.addW Q.subW Q.mulW Q.fadW Q.detW Q.killVW Q.loadSW Q.loadAW Q.boxW Q.samQW fu call := by kernel_rfl
noncomputable def n39 (call : CallW) : List W → HW → Nat → KW → Bool := appF 2 (R39 addW subW mulW fadW detW killVW loadSW loadAW boxW samQW 1000000 call)
theorem n39_ok {call : CallW} (h : CallSim Try.prog tys stl tab call) : FnGood Try.prog tys stl tab 39 (n39 call) := node_ok h (by kernel_rfl) rfl g39 (R39_eq real _ _)
/- (foghorn/points.set).first -/
noncomputable def R40 (q_share : (α : Type) → α → (α → Bool) → Bool) (q_subW : Nat → Nat → Option CV → W → W → (W → Bool) → Bool) (q_cmpW : (Nat → Nat → Bool) → Nat → Option CV → W → W → (W → Bool) → Bool) (q_condW : W → Bool → Bool → Bool) (q_guardW : Bool → W → Bool → Bool → Bool) (q_pickW : W → W → W → (W → Bool) → Bool) (q_fadW : Nat → W → (W → Bool) → Bool) (q_killVW : W → HW → (HW → Bool) → Bool) (q_loadSW : HW → W → (W → Bool) → Bool) (q_boxW : HW → Nat → W → KW → Bool) (fu : Nat) (call : CallW) (a0 : W) (a1 : W) (h0 : HW) (c0 : Nat) (K : KW) : Bool :=
q_boxW h0 c0 a0 fun v1 h2 c3 =>
q_fadW 2 v1 fun v4 =>
q_loadSW h2 v4 fun v5 =>
q_cmpW (cmpF2 .lss) 3 (binC Try.prog .lss 3 (.tmp 5) (.tmp 7) (dec a1) (dec v5)) a1 v5 fun v6 =>
q_share _ (fun (v8 : W) (h9 : HW) (c10 : Nat) =>
q_share _ (fun (v12 : W) (h13 : HW) (c14 : Nat) =>
q_share _ (fun (v16 : W) (h17 : HW) (c18 : Nat) =>
q_share _ (fun (v20 : W) (h21 : HW) (c22 : Nat) =>
q_share _ (fun (v24 : W) (h25 : HW) (c26 : Nat) =>
q_share _ (fun (v28 : W) (h29 : HW) (c30 : Nat) =>
q_share _ (fun (v32 : W) (h33 : HW) (c34 : Nat) =>
q_pickW v6 ⟨8, 1, r0, []⟩ v32 fun v35 =>
q_condW v35 (
q_fadW 2 v1 fun v36 =>
q_loadSW h33 v36 fun v37 =>
q_killVW v1 h33 fun h38 =>
K v37 h38 c34) (
q_killVW v1 h33 fun h39 =>
K ⟨3, 0, r0, []⟩ h39 c34)) fun f31 =>
q_guardW false v6 (q_cmpW (cmpF2 .gtr) 3 (binC Try.prog .gtr 3 (.tmp 10) (.tmp 15) (dec v8) (dec v28)) v8 v28 fun v40 =>
f31 v40 h29 c30) (f31 wUnd h29 c30)) fun f27 =>
q_guardW false v6 (q_subW 3 9223372036854775807 (binC Try.prog .sub 3 (.tmp 12) (.tmp 14) (dec v16) (dec v24)) v16 v24 fun v41 =>
f27 v41 h25 c26) (f27 wUnd h25 c26)) fun f23 =>
q_guardW false v6 (q_loadSW h21 v20 fun v42 =>
f23 v42 h21 c22) (f23 wUnd h21 c22)) fun f19 =>
q_guardW false v6 (q_fadW 2 v1 fun v43 =>
f19 v43 h17 c18) (f19 wUnd h17 c18)) fun f15 =>
q_guardW false v6 (q_loadSW h13 v12 fun v44 =>
f15 v44 h13 c14) (f15 wUnd h13 c14)) fun f11 =>
q_guardW false v6 (q_fadW 1 v1 fun v45 =>
f11 v45 h9 c10) (f11 wUnd h9 c10)) fun f7 =>
q_guardW false v6 (f7 a1 h2 c3) (f7 wUnd h2 c3)
theorem R40_eq (Q : PrimW) (fu : Nat) (call : CallW) : curryA 2 (fnK Q Try.prog tys stl fu call e40) = R40 Q.share Q.subW Q.cmpW Q.condW Q.guardW Q.pickW Q.fadW Q.killVW Q.loadSW Q.boxW fu call := by kernel_rfl
noncomputable def n40 (call : CallW) : List W → HW → Nat → KW → Bool := appF 2 (R40 (fun _ x f => f x) subW cmpW condW guardW pickW fadW killVW loadSW boxW 1000000 call)
theorem n40_ok {call : CallW} (h : CallSim Try.prog tys stl tab call) : FnGood Try.prog tys stl tab 40 (n40 call) := node_ok h (by kernel_rfl) rfl g40 (R40_eq real _ _)
/- math.Copysign -/
noncomputable def R41 (q_genW : Option CV → (W → Bool) → Bool) (q_bitW : (Nat → Nat → Nat) → Nat → Nat → Option CV → W → W → (W → Bool) → Bool) (fu : Nat) (call : CallW) (a0 : W) (a1 : W) (h0 : HW) (c0 : Nat) (K : KW) : Bool :=
call 33 [a0] h0 c0 fun v1 h2 c3 =>
q_genW (binC Try.prog .andNot 63 (.tmp 6) (.const (.int .u64 (.ofNat 9223372036854775808))) (dec v1) (dec ⟨7, 9223372036854775808, r0, []⟩)) fun v4 =>
call 33 [a1] h2 c3 fun v5 h6 c7 =>
q_bitW Nat.land 7 18446744073709551615 (binC Try.prog .and 63 (.tmp 9) (.const (.int .u64 (.ofNat 9223372036854775808))) (dec v5) (dec ⟨7, 9223372036854775808, r0, []⟩)) v5 ⟨7, 9223372036854775808, r0, []⟩ fun v8 =>
q_bitW Nat.lor 7 18446744073709551615 (binC Try.prog .or 63 (.tmp 7) (.tmp 10) (dec v4) (dec v8)) v4 v8 fun v9 =>
call 27 [v9] h6 c7 fun v10 h11 c12 =>
K v10 h11 c12
theorem R41_eq (Q : PrimW) (fu : Nat) (call : CallW) : curryA 2 (fnK Q Try.prog tys stl fu call e41) = R41 Q.genW Q.bitW fu call := by kernel_rfl
noncomputable def n41 (call : CallW) : List W → HW → Nat → KW → Bool := appF 2 (R41 genW bitW 1000000 call)
theorem n41_ok {call : CallW} (h : CallSim Try.prog tys stl tab call) : FnGood Try.prog tys stl tab 41 (n41 call) := node_ok h (by kernel_rfl) rfl g41 (R41_eq real _ _)
/- foghorn/bits.Ungray -/
noncomputable def R42 (q_bitW : (Nat → Nat → Nat) → Nat → Nat → Option CV → W → W → (W → Bool) → Bool) (q_cmpW : (Nat → Nat → Bool) → Nat → Option CV → W → W → (W → Bool) → Bool) (q_shlW : Nat → Nat → Nat → Option CV → W → W → (W → Bool) → Bool) (q_shrW : Nat → Nat → Option CV → W → W → (W → Bool) → Bool) (q_notW : Option CV → W → (W → Bool) → Bool) (q_condW : W → Bool → Bool → Bool) (fu : Nat) (call : CallW) (a0 : W) (h0 : HW) (c0 : Nat) (K : KW) : Bool :=
call 44 [a0] h0 c0 fun v1 h2 c3 =>
q_notW (two Try.prog (dec v1) (Op.unary .not)) v1 fun v4 =>
q_condW v4 (
K ⟨13, 0, r0, [⟨3, 0, r0, []⟩, ⟨3, 1, r0, []⟩]⟩ h2 c3) (
@Nat.rec (fun _ => Fun 2) (fun _ _ _ _ => false) (fun _ f9 v5 v6 h7 c8 =>
q_cmpW (cmpF2 .lss) 3 (binC Try.prog .lss 3 (.tmp 8) (.const (.int .i64 (.ofNat 16))) (dec v6) (dec ⟨3, 16, r0, []⟩)) v6 ⟨3, 16, r0, []⟩ fun v10 =>
q_condW v10 (
q_shrW 3 64 (binC Try.prog .shr 3 (.tmp 13) (.tmp 14) (dec v5) (dec v6)) v5 v6 fun v11 =>
q_bitW Nat.xor 3 9223372036854775807 (binC Try.prog .xor 3 (.tmp 12) (.tmp 15) (dec v5) (dec v11)) v5 v11 fun v12 =>
q_shlW 3 9223372036854775807 64 (binC Try.prog .shl 3 (.tmp 10) (.const (.int .u64 (.ofNat 1))) (dec v6) (dec ⟨7, 1, r0, []⟩)) v6 ⟨7, 1, r0, []⟩ fun v13 =>
f9 v12 v13 h7 c8) (
K ⟨13, 0, r0, [v5, ⟨3, 0, r0, []⟩]⟩ h7 c8)) fu a0 ⟨3, 1, r0, []⟩ h2 c3)
theorem R42_eq (Q : PrimW) (fu : Nat) (call : CallW) : curryA 1 (fnK Q Try.prog tys stl fu call e42) = R42 Q.bitW Q.cmpW Q.shlW Q.shrW Q.notW Q.condW fu call := by kernel_rfl
noncomputable def n42 (call : CallW) : List W → HW → Nat → KW → Bool := appF 1 (R42 bitW cmpW shlW shrW notW condW 1000000 call)
theorem n42_ok {call : CallW} (h : CallSim Try.prog tys stl tab call) : FnGood Try.prog tys stl tab 42 (n42 call) := node_ok h (by kernel_rfl) rfl g42 (R42_eq real _ _)
/- foghorn/bits.Gray -/
noncomputable def R43 (q_bitW : (Nat → Nat → Nat) → Nat → Nat → Option CV → W → W → (W → Bool) → Bool) (q_shrW : Nat → Nat → Option CV → W → W → (W → Bool) → Bool) (q_notW : Option CV → W → (W → Bool) → Bool) (q_condW : W → Bool → Bool → Bool) (fu : Nat) (call : CallW) (a0 : W) (h0 : HW) (c0 : Nat) (K : KW) : Bool :=
call 44 [a0] h0 c0 fun v1 h2 c3 =>
q_notW (two Try.prog (dec v1) (Op.unary .not)) v1 fun v4 =>
q_condW v4 (
K ⟨13, 0, r0, [⟨3, 0, r0, []⟩, ⟨3, 1, r0, []⟩]⟩ h2 c3) (
q_shrW 3 64 (binC Try.prog .shr 3 (.tmp 8) (.const (.int .u64 (.ofNat 1))) (dec a0) (dec ⟨7, 1, r0, []⟩)) a0 ⟨7, 1, r0, []⟩ fun v5 =>
q_bitW Nat.xor 3 9223372036854775807 (binC Try.prog .xor 3 (.tmp 7) (.tmp 9) (dec a0) (dec v5)) a0 v5 fun v6 =>
K ⟨13, 0, r0, [v6, ⟨3, 0, r0, []⟩]⟩ h2 c3)
theorem R43_eq (Q : PrimW) (fu : Nat) (call : CallW) : curryA 1 (fnK Q Try.prog tys stl fu call e43) = R43 Q.bitW Q.shrW Q.notW Q.condW fu call := by kernel_rfl
noncomputable def n43 (call : CallW) : List W → HW → Nat → KW → Bool := appF 1 (R43 bitW shrW notW condW 1000000 call)
theorem n43_ok {call : CallW} (h : CallSim Try.prog tys stl tab call) : FnGood Try.prog tys stl tab 43 (n43 call) := node_ok h (by kernel_rfl) rfl g43 (R43_eq real _ _)
/- foghorn/bits.isGray -/
noncomputable def R44 (q_share : (α : Type) → α → (α → Bool) → Bool) (q_cmpW : (Nat → Nat → Bool) → Nat → Option CV → W → W → (W → Bool) → Bool) (q_guardW : Bool → W → Bool → Bool → Bool) (q_pickW : W → W → W → (W → Bool) → Bool) (fu : Nat) (call : CallW) (a0 : W) (h0 : HW) (c0 : Nat) (K : KW) : Bool :=
q_cmpW (cmpF2 .geq) 3 (binC Try.prog .geq 3 (.tmp 3) (.const (.int .i64 (.ofNat 0))) (dec a0) (dec ⟨3, 0, r0, []⟩)) a0 ⟨3, 0, r0, []⟩ fun v1 =>
q_share _ (fun (v3 : W) (h4 : HW) (c5 : Nat) =>
q_share _ (fun (v7 : W) (h8 : HW) (c9 : Nat) =>
q_pickW v1 v7 ⟨8, 0, r0, []⟩ fun v10 =>
K v10 h8 c9) fun f6 =>
q_guardW true v1 (q_cmpW (cmpF2 .lss) 3 (binC Try.prog .lss 3 (.tmp 6) (.const (.int .i64 (.ofNat 65536))) (dec v3) (dec ⟨3, 65536, r0, []⟩)) v3 ⟨3, 65536, r0, []⟩ fun v11 =>
f6 v11 h4 c5) (f6 wUnd h4 c5)) fun f2 =>
q_guardW true v1 (f2 a0 h0 c0) (f2 wUnd h0 c0)
theorem R44_eq (Q : PrimW) (fu : Nat) (call : CallW) : curryA 1 (fnK Q Try.prog tys stl fu call e44) = R44 Q.share Q.cmpW Q.guardW Q.pickW fu call := by kernel_rfl
noncomputable def n44 (call : CallW) : List W → HW → Nat → KW → Bool := appF 1 (R44 (fun _ x f => f x) cmpW guardW pickW 1000000 call)
theorem n44_ok {call : CallW} (h : CallSim Try.prog tys stl tab call) : FnGood Try.prog tys stl tab 44 (n44 call) := node_ok h (by kernel_rfl) rfl g44 (R44_eq real _ _)
noncomputable def dS (call : CallW) : Disp := (.node 28 (n28 call) (.node 20 (n20 call) (.node 16 (n16 call) (.node 13 (n13 call) (.node 12 (n12 call) (.node 6 (n6 call) .leaf .leaf) .leaf) (.node 15 (n15 call) .leaf .leaf)) (.node 18 (n18 call) (.node 17 (n17 call) .leaf .leaf) (.node 19 (n19 call) .leaf .leaf))) (.node 24 (n24 call) (.node 22 (n22 call) (.node 21 (n21 call) .leaf .leaf) (.node 23 (n23 call) .leaf .leaf)) (.node 26 (n26 call) (.node 25 (n25 call) .leaf .leaf) (.node 27 (n27 call) .leaf .leaf)))) (.node 37 (n37 call) (.node 33 (n33 call) (.node 31 (n31 call) (.node 30 (n30 call) (.node 29 (n29 call) .leaf .leaf) .leaf) (.node 32 (n32 call) .leaf .leaf)) (.node 35 (n35 call) (.node 34 (n34 call) .leaf .leaf) (.node 36 (n36 call) .leaf .leaf))) (.node 41 (n41 call) (.node 39 (n39 call) (.node 38 (n38 call) .leaf .leaf) (.node 40 (n40 call) .leaf .leaf)) (.node 43 (n43 call) (.node 42 (n42 call) .leaf .leaf) (.node 44 (n44 call) .leaf .leaf)))))
theorem dS_ok {call : CallW} (h : CallSim Try.prog tys stl tab call) : CallSim Try.prog tys stl tab (dS call).fn := Disp.sim (t := dS call) ⟨n28_ok h, ⟨n20_ok h, ⟨n16_ok h, ⟨n13_ok h, ⟨n12_ok h, ⟨n6_ok h, True.intro, True.intro⟩, True.intro⟩, ⟨n15_ok h, True.intro, True.intro⟩⟩, ⟨n18_ok h, ⟨n17_ok h, True.intro, True.intro⟩, ⟨n19_ok h, True.intro, True.intro⟩⟩⟩, ⟨n24_ok h, ⟨n22_ok h, ⟨n21_ok h, True.intro, True.intro⟩, ⟨n23_ok h, True.intro, True.intro⟩⟩, ⟨n26_ok h, ⟨n25_ok h, True.intro, True.intro⟩, ⟨n27_ok h, True.intro, True.intro⟩⟩⟩⟩, ⟨n37_ok h, ⟨n33_ok h, ⟨n31_ok h, ⟨n30_ok h, ⟨n29_ok h, True.intro, True.intro⟩, True.intro⟩, ⟨n32_ok h, True.intro, True.intro⟩⟩, ⟨n35_ok h, ⟨n34_ok h, True.intro, True.intro⟩, ⟨n36_ok h, True.intro, True.intro⟩⟩⟩, ⟨n41_ok h, ⟨n39_ok h, ⟨n38_ok h, True.intro, True.intro⟩, ⟨n40_ok h, True.intro, True.intro⟩⟩, ⟨n43_ok h, ⟨n42_ok h, True.intro, True.intro⟩, ⟨n44_ok h, True.intro, True.intro⟩⟩⟩⟩⟩
noncomputable def dR (m : Nat) : Disp := @Nat.rec (fun _ => Disp) .leaf (fun _ ih => dS ih.fn) m
theorem dR_ok : ∀ m, CallSim Try.prog tys stl tab (dR m).fn
  | 0 => d0_ok
  | m + 1 => dS_ok (dR_ok m)
noncomputable abbrev dT : Disp := dR 200
theorem dT_ok : CallSim Try.prog tys stl tab dT.fn := dR_ok _
set_option maxHeartbeats 0 in
theorem run12 : lawK dT.fn 12 = true := by kernel_rfl
theorem awake_f : Fits Try.prog 12 ⟨[], [], [⟨Unit, fun _ => True, fun _ => .bool true, fun _ => []⟩]⟩ :=
  lawK_fits tok mixed fok dT_ok (by kernel_rfl : tab 12 = some e12) rfl run12
end Go.Proofs.Ythcaoofpjjffiaa
