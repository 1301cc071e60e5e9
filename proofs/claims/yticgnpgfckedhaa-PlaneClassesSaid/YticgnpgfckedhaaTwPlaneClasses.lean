/-
  The functions that the run goes through, as tables, and the run of a function without arguments. No condition.
-/
import Derived.Test.YticgnpgfckedhaaRows
import Derived.Test.YticgnpgfckedhaaGx
set_option linter.unusedVariables false
set_option maxRecDepth 1000000
namespace Go.Proofs.Yticgnpgfckedhaa
open Go Go.Fw
def tys : List (Nat × TyI) := [
  (1, ⟨.func, 1, 8, .nilFunc⟩),
  (2, ⟨.int .i64, 1, 8, .int .i64 0⟩),
  (3, ⟨.int .i64, 1, 8, .int .i64 0⟩),
  (4, ⟨.bool, 1, 1, .bool false⟩),
  (5, ⟨.int .u8, 1, 1, .int .u8 0⟩),
  (9, ⟨.str, 1, 16, .string (ByteArray.mk #[])⟩),
  (12, ⟨.int .u64, 1, 8, .int .u64 0⟩),
  (21, ⟨.int .i32, 1, 4, .int .i32 0⟩),
  (22, ⟨.int .i16, 1, 2, .int .i16 0⟩),
  (23, ⟨.array 2 22, 2, 4, .agg #[.int .i16 0, .int .i16 0]⟩),
  (24, ⟨.struct [(0, 2), (1, 2)], 2, 16, .agg #[.int .i64 0, .int .i64 0]⟩),
  (25, ⟨.struct [(0, 2), (1, 2)], 2, 16, .agg #[.int .i64 0, .int .i64 0]⟩),
  (26, ⟨.int .i64, 1, 8, .int .i64 0⟩),
  (28, ⟨.func, 1, 8, .nilFunc⟩),
  (29, ⟨.func, 1, 8, .nilFunc⟩),
  (30, ⟨.func, 1, 8, .nilFunc⟩),
  (32, ⟨.func, 1, 8, .nilFunc⟩),
  (33, ⟨.func, 1, 8, .nilFunc⟩),
  (35, ⟨.func, 1, 8, .nilFunc⟩),
  (36, ⟨.func, 1, 8, .nilFunc⟩),
  (37, ⟨.int .u32, 1, 4, .int .u32 0⟩),
  (39, ⟨.func, 1, 8, .nilFunc⟩),
  (40, ⟨.func, 1, 8, .nilFunc⟩),
  (42, ⟨.func, 1, 8, .nilFunc⟩),
  (43, ⟨.func, 1, 8, .nilFunc⟩),
  (44, ⟨.slice 92, 1, 24, .slice none 0 0⟩),
  (45, ⟨.struct [(0, 44), (1, 44), (2, 44), (3, 44), (4, 3)], 5, 104, .agg #[.slice none 0 0, .slice none 0 0, .slice none 0 0, .slice none 0 0, .int .i64 0]⟩),
  (46, ⟨.struct [(0, 44), (1, 44), (2, 44), (3, 44), (4, 3)], 5, 104, .agg #[.slice none 0 0, .slice none 0 0, .slice none 0 0, .slice none 0 0, .int .i64 0]⟩),
  (47, ⟨.slice 50, 1, 24, .slice none 0 0⟩),
  (48, ⟨.func, 1, 8, .nilFunc⟩),
  (49, ⟨.float .f64, 1, 8, .float .f64 0⟩),
  (50, ⟨.cpx .f64, 1, 16, .complex .f64 0 0⟩),
  (51, ⟨.func, 1, 8, .nilFunc⟩),
  (53, ⟨.func, 1, 8, .nilFunc⟩),
  (54, ⟨.func, 1, 8, .nilFunc⟩),
  (55, ⟨.struct [(0, 2), (1, 2)], 2, 16, .agg #[.int .i64 0, .int .i64 0]⟩),
  (56, ⟨.array 2 49, 2, 16, .agg #[.float .f64 0, .float .f64 0]⟩),
  (57, ⟨.struct [(0, 3), (1, 37), (2, 56)], 4, 32, .agg #[.int .i64 0, .int .u32 0, .float .f64 0, .float .f64 0]⟩),
  (58, ⟨.struct [(0, 3), (1, 37), (2, 56)], 4, 32, .agg #[.int .i64 0, .int .u32 0, .float .f64 0, .float .f64 0]⟩),
  (59, ⟨.func, 1, 8, .nilFunc⟩),
  (61, ⟨.func, 1, 8, .nilFunc⟩),
  (62, ⟨.func, 1, 8, .nilFunc⟩),
  (63, ⟨.func, 1, 8, .nilFunc⟩),
  (65, ⟨.func, 1, 8, .nilFunc⟩),
  (66, ⟨.func, 1, 8, .nilFunc⟩),
  (67, ⟨.func, 1, 8, .nilFunc⟩),
  (68, ⟨.func, 1, 8, .nilFunc⟩),
  (69, ⟨.func, 1, 8, .nilFunc⟩),
  (70, ⟨.func, 1, 8, .nilFunc⟩),
  (71, ⟨.func, 1, 8, .nilFunc⟩),
  (72, ⟨.func, 1, 8, .nilFunc⟩),
  (73, ⟨.func, 1, 8, .nilFunc⟩),
  (74, ⟨.func, 1, 8, .nilFunc⟩),
  (75, ⟨.func, 1, 8, .nilFunc⟩),
  (76, ⟨.func, 1, 8, .nilFunc⟩),
  (77, ⟨.func, 1, 8, .nilFunc⟩),
  (78, ⟨.func, 1, 8, .nilFunc⟩),
  (79, ⟨.func, 1, 8, .nilFunc⟩),
  (80, ⟨.func, 1, 8, .nilFunc⟩),
  (81, ⟨.slice 56, 1, 24, .slice none 0 0⟩),
  (82, ⟨.func, 1, 8, .nilFunc⟩),
  (83, ⟨.func, 1, 8, .nilFunc⟩),
  (84, ⟨.func, 1, 8, .nilFunc⟩),
  (85, ⟨.func, 1, 8, .nilFunc⟩),
  (87, ⟨.func, 1, 8, .nilFunc⟩),
  (88, ⟨.func, 1, 8, .nilFunc⟩),
  (89, ⟨.func, 1, 8, .nilFunc⟩),
  (90, ⟨.func, 1, 8, .nilFunc⟩),
  (91, ⟨.int .i8, 1, 1, .int .i8 0⟩),
  (92, ⟨.array 2 91, 2, 2, .agg #[.int .i8 0, .int .i8 0]⟩),
  (93, ⟨.func, 1, 8, .nilFunc⟩),
  (94, ⟨.func, 1, 8, .nilFunc⟩),
  (95, ⟨.func, 1, 8, .nilFunc⟩),
  (97, ⟨.func, 1, 8, .nilFunc⟩),
  (99, ⟨.func, 1, 8, .nilFunc⟩),
  (100, ⟨.func, 1, 8, .nilFunc⟩),
  (102, ⟨.func, 1, 8, .nilFunc⟩),
  (103, ⟨.func, 1, 8, .nilFunc⟩),
  (104, ⟨.func, 1, 8, .nilFunc⟩),
  (105, ⟨.func, 1, 8, .nilFunc⟩),
  (106, ⟨.func, 1, 8, .nilFunc⟩),
  (107, ⟨.func, 1, 8, .nilFunc⟩),
  (108, ⟨.func, 1, 8, .nilFunc⟩),
  (109, ⟨.int .u64, 1, 8, .int .u64 0⟩),
  (110, ⟨.func, 1, 8, .nilFunc⟩),
  (111, ⟨.func, 1, 8, .nilFunc⟩),
  (112, ⟨.int .u64, 1, 8, .int .u64 0⟩),
  (113, ⟨.func, 1, 8, .nilFunc⟩),
  (115, ⟨.func, 1, 8, .nilFunc⟩),
  (116, ⟨.func, 1, 8, .nilFunc⟩),
  (122, ⟨.func, 1, 8, .nilFunc⟩),
  (125, ⟨.func, 1, 8, .nilFunc⟩),
  (126, ⟨.ptr 5, 1, 8, .pointer none⟩)]


theorem tok : TOk Try.prog tys := tok_of ⟨⟨by kernel_rfl, by kernel_rfl⟩, ⟨by kernel_rfl, by kernel_rfl⟩, ⟨by kernel_rfl, by kernel_rfl⟩, ⟨by kernel_rfl, by kernel_rfl⟩, ⟨by kernel_rfl, by kernel_rfl⟩, ⟨by kernel_rfl, by kernel_rfl⟩, ⟨by kernel_rfl, by kernel_rfl⟩, ⟨by kernel_rfl, by kernel_rfl⟩, ⟨by kernel_rfl, by kernel_rfl⟩, ⟨by kernel_rfl, by kernel_rfl⟩, ⟨by kernel_rfl, by kernel_rfl⟩, ⟨by kernel_rfl, by kernel_rfl⟩, ⟨by kernel_rfl, by kernel_rfl⟩, ⟨by kernel_rfl, by kernel_rfl⟩, ⟨by kernel_rfl, by kernel_rfl⟩, ⟨by kernel_rfl, by kernel_rfl⟩, ⟨by kernel_rfl, by kernel_rfl⟩, ⟨by kernel_rfl, by kernel_rfl⟩, ⟨by kernel_rfl, by kernel_rfl⟩, ⟨by kernel_rfl, by kernel_rfl⟩, ⟨by kernel_rfl, by kernel_rfl⟩, ⟨by kernel_rfl, by kernel_rfl⟩, ⟨by kernel_rfl, by kernel_rfl⟩, ⟨by kernel_rfl, by kernel_rfl⟩, ⟨by kernel_rfl, by kernel_rfl⟩, ⟨by kernel_rfl, by kernel_rfl⟩, ⟨by kernel_rfl, by kernel_rfl⟩, ⟨by kernel_rfl, by kernel_rfl⟩, ⟨by kernel_rfl, by kernel_rfl⟩, ⟨by kernel_rfl, by kernel_rfl⟩, ⟨by kernel_rfl, by kernel_rfl⟩, ⟨by kernel_rfl, by kernel_rfl⟩, ⟨by kernel_rfl, by kernel_rfl⟩, ⟨by kernel_rfl, by kernel_rfl⟩, ⟨by kernel_rfl, by kernel_rfl⟩, ⟨by kernel_rfl, by kernel_rfl⟩, ⟨by kernel_rfl, by kernel_rfl⟩, ⟨by kernel_rfl, by kernel_rfl⟩, ⟨by kernel_rfl, by kernel_rfl⟩, ⟨by kernel_rfl, by kernel_rfl⟩, ⟨by kernel_rfl, by kernel_rfl⟩, ⟨by kernel_rfl, by kernel_rfl⟩, ⟨by kernel_rfl, by kernel_rfl⟩, ⟨by kernel_rfl, by kernel_rfl⟩, ⟨by kernel_rfl, by kernel_rfl⟩, ⟨by kernel_rfl, by kernel_rfl⟩, ⟨by kernel_rfl, by kernel_rfl⟩, ⟨by kernel_rfl, by kernel_rfl⟩, ⟨by kernel_rfl, by kernel_rfl⟩, ⟨by kernel_rfl, by kernel_rfl⟩, ⟨by kernel_rfl, by kernel_rfl⟩, ⟨by kernel_rfl, by kernel_rfl⟩, ⟨by kernel_rfl, by kernel_rfl⟩, ⟨by kernel_rfl, by kernel_rfl⟩, ⟨by kernel_rfl, by kernel_rfl⟩, ⟨by kernel_rfl, by kernel_rfl⟩, ⟨by kernel_rfl, by kernel_rfl⟩, ⟨by kernel_rfl, by kernel_rfl⟩, ⟨by kernel_rfl, by kernel_rfl⟩, ⟨by kernel_rfl, by kernel_rfl⟩, ⟨by kernel_rfl, by kernel_rfl⟩, ⟨by kernel_rfl, by kernel_rfl⟩, ⟨by kernel_rfl, by kernel_rfl⟩, ⟨by kernel_rfl, by kernel_rfl⟩, ⟨by kernel_rfl, by kernel_rfl⟩, ⟨by kernel_rfl, by kernel_rfl⟩, ⟨by kernel_rfl, by kernel_rfl⟩, ⟨by kernel_rfl, by kernel_rfl⟩, ⟨by kernel_rfl, by kernel_rfl⟩, ⟨by kernel_rfl, by kernel_rfl⟩, ⟨by kernel_rfl, by kernel_rfl⟩, ⟨by kernel_rfl, by kernel_rfl⟩, ⟨by kernel_rfl, by kernel_rfl⟩, ⟨by kernel_rfl, by kernel_rfl⟩, ⟨by kernel_rfl, by kernel_rfl⟩, ⟨by kernel_rfl, by kernel_rfl⟩, ⟨by kernel_rfl, by kernel_rfl⟩, ⟨by kernel_rfl, by kernel_rfl⟩, ⟨by kernel_rfl, by kernel_rfl⟩, ⟨by kernel_rfl, by kernel_rfl⟩, ⟨by kernel_rfl, by kernel_rfl⟩, ⟨by kernel_rfl, by kernel_rfl⟩, ⟨by kernel_rfl, by kernel_rfl⟩, ⟨by kernel_rfl, by kernel_rfl⟩, ⟨by kernel_rfl, by kernel_rfl⟩, ⟨by kernel_rfl, by kernel_rfl⟩, ⟨by kernel_rfl, by kernel_rfl⟩, ⟨by kernel_rfl, by kernel_rfl⟩, ⟨by kernel_rfl, by kernel_rfl⟩, ⟨by kernel_rfl, by kernel_rfl⟩, ⟨by kernel_rfl, by kernel_rfl⟩, ⟨by kernel_rfl, by kernel_rfl⟩, ⟨by kernel_rfl, by kernel_rfl⟩, True.intro⟩
theorem mixed : Try.prog.follows .mixedOrders = true := by kernel_rfl
def inL : List Nat → Nat → Bool
  | [], _ => false
  | a :: r, n => match Nat.beq a n with | true => true | false => inL r n
def stl : Nat → Bool := inL [19, 35, 51]
/- 13: foghorn/foghornlaw03.awake -/
def p13 : Nat → Option PlanC := fun _ => none
def wl13 : Nat → List Nat := fun _ => []
def wj13 : Nat → Option (List Nat) := fun _ => none
def kr13 : Nat → List Nat := fun _ => []
noncomputable def e13 : Ent := entOf Try.f13 ⟨p13, wl13, wj13, kr13, []⟩
theorem g13 : EntOk Try.prog tys stl 13 e13 := .inr ⟨rfl, Try.func13, by kernel_rfl, by kernel_rfl, by kernel_rfl, by kernel_rfl, by kernel_rfl, rfl⟩
/- 15: (foghorn/plane.Gauss).Class -/
def p15 : Nat → Option PlanC := fun _ => none
def wl15 : Nat → List Nat := fun
  | 5 => [6, 18]
  | _ => []
def wj15 : Nat → Option (List Nat) := fun _ => none
def kr15 : Nat → List Nat := fun _ => []
noncomputable def e15 : Ent := entOf Try.f15 ⟨p15, wl15, wj15, kr15, [2]⟩
theorem g15 : EntOk Try.prog tys stl 15 e15 := .inr ⟨rfl, Try.func15, by kernel_rfl, by kernel_rfl, by kernel_rfl, by kernel_rfl, by kernel_rfl, rfl⟩
/- 19: foghorn/plane.Turn -/
def p19 : Nat → Option PlanC := fun _ => none
def wl19 : Nat → List Nat := fun _ => []
def wj19 : Nat → Option (List Nat) := fun _ => none
def kr19 : Nat → List Nat := fun _ => []
noncomputable def e19 : Ent := entOf Try.f19 ⟨p19, wl19, wj19, kr19, []⟩
theorem g19 : EntOk Try.prog tys stl 19 e19 := .inr ⟨rfl, Try.func19, by kernel_rfl, by kernel_rfl, by kernel_rfl, by kernel_rfl, by kernel_rfl, rfl⟩
/- 35: foghorn/plane.Mul -/
def p35 : Nat → Option PlanC := fun _ => none
def wl35 : Nat → List Nat := fun _ => []
def wj35 : Nat → Option (List Nat) := fun _ => none
def kr35 : Nat → List Nat := fun _ => []
noncomputable def e35 : Ent := entOf Try.f35 ⟨p35, wl35, wj35, kr35, []⟩
theorem g35 : EntOk Try.prog tys stl 35 e35 := .inr ⟨rfl, Try.func35, by kernel_rfl, by kernel_rfl, by kernel_rfl, by kernel_rfl, by kernel_rfl, rfl⟩
/- 47: (foghorn/plane.Gauss).mayBe -/
def p47 : Nat → Option PlanC := fun _ => none
def wl47 : Nat → List Nat := fun _ => []
def wj47 : Nat → Option (List Nat) := fun _ => none
def kr47 : Nat → List Nat := fun _ => []
noncomputable def e47 : Ent := entOf Try.f47 ⟨p47, wl47, wj47, kr47, [1]⟩
theorem g47 : EntOk Try.prog tys stl 47 e47 := .inr ⟨rfl, Try.func47, by kernel_rfl, by kernel_rfl, by kernel_rfl, by kernel_rfl, by kernel_rfl, rfl⟩
/- 51: foghorn/plane.isDepth -/
def p51 : Nat → Option PlanC := fun _ => none
def wl51 : Nat → List Nat := fun _ => []
def wj51 : Nat → Option (List Nat) := fun _ => none
def kr51 : Nat → List Nat := fun _ => []
noncomputable def e51 : Ent := entOf Try.f51 ⟨p51, wl51, wj51, kr51, []⟩
theorem g51 : EntOk Try.prog tys stl 51 e51 := .inr ⟨rfl, Try.func51, by kernel_rfl, by kernel_rfl, by kernel_rfl, by kernel_rfl, by kernel_rfl, rfl⟩
/- 52: (foghorn/plane.Gauss).odd -/
def p52 : Nat → Option PlanC := fun _ => none
def wl52 : Nat → List Nat := fun _ => []
def wj52 : Nat → Option (List Nat) := fun _ => none
def kr52 : Nat → List Nat := fun _ => []
noncomputable def e52 : Ent := entOf Try.f52 ⟨p52, wl52, wj52, kr52, [1]⟩
theorem g52 : EntOk Try.prog tys stl 52 e52 := .inr ⟨rfl, Try.func52, by kernel_rfl, by kernel_rfl, by kernel_rfl, by kernel_rfl, by kernel_rfl, rfl⟩
/- 53: (foghorn/plane.Gauss).divided -/
def p53 : Nat → Option PlanC := fun _ => none
def wl53 : Nat → List Nat := fun _ => []
def wj53 : Nat → Option (List Nat) := fun _ => none
def kr53 : Nat → List Nat := fun _ => []
noncomputable def e53 : Ent := entOf Try.f53 ⟨p53, wl53, wj53, kr53, [1]⟩
theorem g53 : EntOk Try.prog tys stl 53 e53 := .inr ⟨rfl, Try.func53, by kernel_rfl, by kernel_rfl, by kernel_rfl, by kernel_rfl, by kernel_rfl, rfl⟩
noncomputable def ents : List (Nat × Ent) := [(13, e13), (15, e15), (19, e19), (35, e35), (47, e47), (51, e51), (52, e52), (53, e53)]
theorem goods : EntsOk Try.prog tys stl ents := ⟨g13, g15, g19, g35, g47, g51, g52, g53, True.intro⟩
noncomputable def tab : Nat → Option Ent := (tabOf ents).get
theorem fok : FOk Try.prog tys stl tab := fok_of goods
noncomputable def d0 : Disp := .leaf
theorem d0_ok : CallSim Try.prog tys stl tab d0.fn := Disp.sim True.intro
/- foghorn/foghornlaw03.awake -/
noncomputable def R13 (q_share : (α : Type) → α → (α → Bool) → Bool) (q_genW : Option CV → (W → Bool) → Bool) (q_cmpW : (Nat → Nat → Bool) → Nat → Option CV → W → W → (W → Bool) → Bool) (q_guardW : Bool → W → Bool → Bool → Bool) (q_pickW : W → W → W → (W → Bool) → Bool) (q_tupW : W → (List W → Bool) → Bool) (q_nthW : Nat → List W → (W → Bool) → Bool) (q_flatW : W → Bool → Bool) (fu : Nat) (call : CallW) (h0 : HW) (c0 : Nat) (K : KW) : Bool :=
q_flatW ⟨3, 3, r0, []⟩ (
q_flatW ⟨3, 2, r0, []⟩ (
(fun (v1 : W) =>
call 15 [v1, ⟨3, 3, r0, []⟩] h0 c0 fun v2 h3 c4 =>
q_tupW v2 fun l5 => q_nthW 0 l5 fun v6 =>
q_tupW v2 fun l7 => q_nthW 1 l7 fun v8 =>
call 35 [⟨12, 0, ⟨0, 0, 0, .cpx .f64 4607182418800017408 4611686018427387904⟩, []⟩, ⟨12, 0, ⟨0, 0, 0, .cpx .f64 4613937818241073152 13830554455654793216⟩, []⟩] h3 c4 fun v9 h10 c11 =>
q_genW (binC Try.prog .eql 50 (.tmp 8) (.const (.complex .f64 4617315517961601024 4617315517961601024)) (dec v9) (dec ⟨12, 0, ⟨0, 0, 0, .cpx .f64 4617315517961601024 4617315517961601024⟩, []⟩)) fun v12 =>
q_share _ (fun (v14 : W) (h15 : HW) (c16 : Nat) =>
q_share _ (fun (v18 : W) (h19 : HW) (c20 : Nat) =>
q_pickW v12 v18 ⟨8, 0, r0, []⟩ fun v21 =>
q_share _ (fun (v23 : W) (h24 : HW) (c25 : Nat) =>
q_share _ (fun (v27 : W) (h28 : HW) (c29 : Nat) =>
q_pickW v21 v27 ⟨8, 0, r0, []⟩ fun v30 =>
q_share _ (fun (v32 : W) (h33 : HW) (c34 : Nat) =>
q_share _ (fun (v36 : W) (h37 : HW) (c38 : Nat) =>
q_pickW v30 v36 ⟨8, 0, r0, []⟩ fun v39 =>
K v39 h37 c38) fun f35 =>
q_guardW true v30 (q_cmpW (cmpF2 .eql) 6 (binC Try.prog .eql 37 (.tmp 19) (.const (.int .u32 (.ofNat 1))) (dec v32) (dec ⟨6, 1, r0, []⟩)) v32 ⟨6, 1, r0, []⟩ fun v40 =>
f35 v40 h33 c34) (f35 wUnd h33 c34)) fun f31 =>
q_guardW true v30 (f31 v6 h28 c29) (f31 wUnd h28 c29)) fun f26 =>
q_guardW true v21 (q_cmpW (cmpF2 .eql) 3 (binC Try.prog .eql 26 (.tmp 15) (.const (.int .i64 (.ofNat 0))) (dec v23) (dec ⟨3, 0, r0, []⟩)) v23 ⟨3, 0, r0, []⟩ fun v41 =>
f26 v41 h24 c25) (f26 wUnd h24 c25)) fun f22 =>
q_guardW true v21 (f22 v8 h19 c20) (f22 wUnd h19 c20)) fun f17 =>
q_guardW true v12 (q_genW (binC Try.prog .eql 50 (.tmp 11) (.const (.complex .f64 13835058055282163712 4607182418800017408)) (dec v14) (dec ⟨12, 0, ⟨0, 0, 0, .cpx .f64 13835058055282163712 4607182418800017408⟩, []⟩)) fun v42 =>
f17 v42 h15 c16) (f17 wUnd h15 c16)) fun f13 =>
q_guardW true v12 (call 19 [⟨12, 0, ⟨0, 0, 0, .cpx .f64 4607182418800017408 4611686018427387904⟩, []⟩, ⟨3, 1, r0, []⟩] h10 c11 fun v43 h44 c45 =>
f13 v43 h44 c45) (f13 wUnd h10 c11)) ⟨15, 0, r0, [⟨3, 3, r0, []⟩, ⟨3, 2, r0, []⟩]⟩))
theorem R13_eq (Q : PrimW) (fu : Nat) (call : CallW) : curryA 0 (fnK Q Try.prog tys stl fu call e13) = R13 Q.share Q.genW Q.cmpW Q.guardW Q.pickW Q.tupW Q.nthW Q.flatW fu call := by kernel_rfl
noncomputable def n13 (call : CallW) : List W → HW → Nat → KW → Bool := appF 0 (R13 (fun _ x f => f x) genW cmpW guardW pickW tupW nthW flatW 1000000 call)
theorem n13_ok {call : CallW} (h : CallSim Try.prog tys stl tab call) : FnGood Try.prog tys stl tab 13 (n13 call) := node_ok h (by kernel_rfl) rfl g13 (R13_eq real _ _)
/- (foghorn/plane.Gauss).Class -/
noncomputable def R15 (q_share : (α : Type) → α → (α → Bool) → Bool) (q_addW : Nat → Nat → Option CV → W → W → (W → Bool) → Bool) (q_subW : Nat → Nat → Option CV → W → W → (W → Bool) → Bool) (q_bitW : (Nat → Nat → Nat) → Nat → Nat → Option CV → W → W → (W → Bool) → Bool) (q_cmpW : (Nat → Nat → Bool) → Nat → Option CV → W → W → (W → Bool) → Bool) (q_shlW : Nat → Nat → Nat → Option CV → W → W → (W → Bool) → Bool) (q_notW : Option CV → W → (W → Bool) → Bool) (q_icvW : Nat → Nat → Option CV → W → (W → Bool) → Bool) (q_condW : W → Bool → Bool → Bool) (q_guardW : Bool → W → Bool → Bool → Bool) (q_pickW : W → W → W → (W → Bool) → Bool) (q_fadW : Nat → W → (W → Bool) → Bool) (q_killVW : W → HW → (HW → Bool) → Bool) (q_loadSW : HW → W → (W → Bool) → Bool) (q_loadAW : Nat → HW → W → (W → Bool) → Bool) (q_storeSW : HW → W → W → (HW → Bool) → Bool) (q_storeAW : Nat → HW → W → W → (HW → Bool) → Bool) (q_boxW : HW → Nat → W → KW → Bool) (fu : Nat) (call : CallW) (a0 : W) (a1 : W) (h0 : HW) (c0 : Nat) (K : KW) : Bool :=
q_boxW h0 c0 a0 fun v1 h2 c3 =>
q_loadAW 2 h2 v1 fun v4 =>
call 47 [v4] h2 c3 fun v5 h6 c7 =>
q_notW (two Try.prog (dec v5) (Op.unary .not)) v5 fun v8 =>
q_share _ (fun (v10 : W) (h11 : HW) (c12 : Nat) =>
q_share _ (fun (v14 : W) (h15 : HW) (c16 : Nat) =>
q_share _ (fun (v18 : W) (h19 : HW) (c20 : Nat) =>
q_pickW v8 ⟨8, 1, r0, []⟩ v18 fun v21 =>
q_condW v21 (
q_killVW v1 h19 fun h22 =>
K ⟨13, 0, r0, [⟨6, 0, r0, []⟩, ⟨3, 1, r0, []⟩]⟩ h22 c20) (
@Nat.rec (fun _ => Fun 2) (fun _ _ _ _ => false) (fun _ f27 v23 v24 h25 c26 =>
q_cmpW (cmpF2 .lss) 3 (binC Try.prog .lss 3 (.tmp 18) (.tmp 17) (dec v24) (dec a1)) v24 a1 fun v28 =>
q_condW v28 (
q_loadAW 2 h25 v1 fun v29 =>
call 52 [v29] h25 c26 fun v30 h31 c32 =>
q_icvW 6 4294967295 (convC Try.prog tys ⟨[], 0, decH h31, 0⟩ 2 37 (dec v30)) v30 fun v33 =>
q_shlW 6 4294967295 32 (binC Try.prog .shl 37 (.tmp 25) (.tmp 26) (dec v33) (dec v24)) v33 v24 fun v34 =>
q_bitW Nat.lor 6 4294967295 (binC Try.prog .or 37 (.tmp 23) (.tmp 27) (dec v23) (dec v34)) v23 v34 fun v35 =>
q_fadW 0 v1 fun v36 =>
q_loadSW h31 v36 fun v37 =>
q_subW 3 9223372036854775807 (binC Try.prog .sub 2 (.tmp 30) (.tmp 31) (dec v37) (dec v30)) v37 v30 fun v38 =>
q_fadW 0 v1 fun v39 =>
q_storeSW h31 v39 v38 fun h40 =>
q_loadAW 2 h40 v1 fun v41 =>
call 53 [v41] h40 c32 fun v42 h43 c44 =>
q_storeAW 2 h43 v1 v42 fun h45 =>
q_addW 3 9223372036854775807 (binC Try.prog .add 3 (.tmp 18) (.const (.int .i64 (.ofNat 1))) (dec v24) (dec ⟨3, 1, r0, []⟩)) v24 ⟨3, 1, r0, []⟩ fun v46 =>
f27 v35 v46 h45 c44) (
q_killVW v1 h25 fun h47 =>
K ⟨13, 0, r0, [v23, ⟨3, 0, r0, []⟩]⟩ h47 c26)) fu ⟨6, 0, r0, []⟩ ⟨3, 0, r0, []⟩ h19 c20)) fun f17 =>
q_guardW false v8 (q_notW (two Try.prog (dec v14) (Op.unary .not)) v14 fun v48 =>
f17 v48 h15 c16) (f17 wUnd h15 c16)) fun f13 =>
q_guardW false v8 (call 51 [v10] h11 c12 fun v49 h50 c51 =>
f13 v49 h50 c51) (f13 wUnd h11 c12)) fun f9 =>
q_guardW false v8 (f9 a1 h6 c7) (f9 wUnd h6 c7)
theorem R15_eq (Q : PrimW) (fu : Nat) (call : CallW) : curryA 2 (fnK Q Try.prog tys stl fu call e15) = R15 Q.share Q.addW Q.subW Q.bitW Q.cmpW Q.shlW Q.notW Q.icvW Q.condW Q.guardW Q.pickW Q.fadW Q.killVW Q.loadSW Q.loadAW Q.storeSW Q.storeAW Q.boxW fu call := by kernel_rfl
noncomputable def n15 (call : CallW) : List W → HW → Nat → KW → Bool := appF 2 (R15 (fun _ x f => f x) addW subW bitW cmpW shlW notW icvW condW guardW pickW fadW killVW loadSW loadAW storeSW storeAW boxW 1000000 call)
theorem n15_ok {call : CallW} (h : CallSim Try.prog tys stl tab call) : FnGood Try.prog tys stl tab 15 (n15 call) := node_ok h (by kernel_rfl) rfl g15 (R15_eq real _ _)
/- foghorn/plane.Turn -/
noncomputable def R19 (q_genW : Option CV → (W → Bool) → Bool) (q_bitW : (Nat → Nat → Nat) → Nat → Nat → Option CV → W → W → (W → Bool) → Bool) (q_cmpW : (Nat → Nat → Bool) → Nat → Option CV → W → W → (W → Bool) → Bool) (q_condW : W → Bool → Bool → Bool) (fu : Nat) (call : CallW) (a0 : W) (a1 : W) (h0 : HW) (c0 : Nat) (K : KW) : Bool :=
q_genW (two Try.prog (dec a0) fun v => Builtin.real_ #[50] 49 #[v]) fun v1 =>
q_genW (two Try.prog (dec a0) fun v => Builtin.imag_ #[50] 49 #[v]) fun v2 =>
q_bitW Nat.land 3 9223372036854775807 (binC Try.prog .and 3 (.tmp 11) (.const (.int .i64 (.ofNat 3))) (dec a1) (dec ⟨3, 3, r0, []⟩)) a1 ⟨3, 3, r0, []⟩ fun v3 =>
q_cmpW (cmpF2 .eql) 3 (binC Try.prog .eql 3 (.tmp 12) (.const (.int .i64 (.ofNat 1))) (dec v3) (dec ⟨3, 1, r0, []⟩)) v3 ⟨3, 1, r0, []⟩ fun v4 =>
q_condW v4 (
q_genW (two Try.prog (dec v2) (Op.unary .neg)) fun v5 =>
q_genW (two2 Try.prog (dec v5) (dec v1) fun v u => Builtin.complex_ #[49, 49] 50 #[v, u]) fun v6 =>
K v6 h0 c0) (
q_cmpW (cmpF2 .eql) 3 (binC Try.prog .eql 3 (.tmp 12) (.const (.int .i64 (.ofNat 2))) (dec v3) (dec ⟨3, 2, r0, []⟩)) v3 ⟨3, 2, r0, []⟩ fun v7 =>
q_condW v7 (
q_genW (two Try.prog (dec v1) (Op.unary .neg)) fun v8 =>
q_genW (two Try.prog (dec v2) (Op.unary .neg)) fun v9 =>
q_genW (two2 Try.prog (dec v8) (dec v9) fun v u => Builtin.complex_ #[49, 49] 50 #[v, u]) fun v10 =>
K v10 h0 c0) (
q_cmpW (cmpF2 .eql) 3 (binC Try.prog .eql 3 (.tmp 12) (.const (.int .i64 (.ofNat 3))) (dec v3) (dec ⟨3, 3, r0, []⟩)) v3 ⟨3, 3, r0, []⟩ fun v11 =>
q_condW v11 (
q_genW (two Try.prog (dec v1) (Op.unary .neg)) fun v12 =>
q_genW (two2 Try.prog (dec v2) (dec v12) fun v u => Builtin.complex_ #[49, 49] 50 #[v, u]) fun v13 =>
K v13 h0 c0) (
K a0 h0 c0)))
theorem R19_eq (Q : PrimW) (fu : Nat) (call : CallW) : curryA 2 (fnK Q Try.prog tys stl fu call e19) = R19 Q.genW Q.bitW Q.cmpW Q.condW fu call := by kernel_rfl
noncomputable def n19 (call : CallW) : List W → HW → Nat → KW → Bool := appF 2 (R19 genW bitW cmpW condW 1000000 call)
theorem n19_ok {call : CallW} (h : CallSim Try.prog tys stl tab call) : FnGood Try.prog tys stl tab 19 (n19 call) := node_ok h (by kernel_rfl) rfl g19 (R19_eq real _ _)
/- foghorn/plane.Mul -/
noncomputable def R35 (q_genW : Option CV → (W → Bool) → Bool) (fu : Nat) (call : CallW) (a0 : W) (a1 : W) (h0 : HW) (c0 : Nat) (K : KW) : Bool :=
q_genW (two Try.prog (dec a0) fun v => Builtin.real_ #[50] 49 #[v]) fun v1 =>
q_genW (two Try.prog (dec a1) fun v => Builtin.real_ #[50] 49 #[v]) fun v2 =>
q_genW (binC Try.prog .mul 49 (.tmp 10) (.tmp 12) (dec v1) (dec v2)) fun v3 =>
q_genW (two Try.prog (dec a0) fun v => Builtin.imag_ #[50] 49 #[v]) fun v4 =>
q_genW (two Try.prog (dec a1) fun v => Builtin.imag_ #[50] 49 #[v]) fun v5 =>
q_genW (binC Try.prog .mul 49 (.tmp 15) (.tmp 17) (dec v4) (dec v5)) fun v6 =>
q_genW (two Try.prog (dec a0) fun v => Builtin.real_ #[50] 49 #[v]) fun v7 =>
q_genW (two Try.prog (dec a1) fun v => Builtin.imag_ #[50] 49 #[v]) fun v8 =>
q_genW (binC Try.prog .mul 49 (.tmp 20) (.tmp 22) (dec v7) (dec v8)) fun v9 =>
q_genW (two Try.prog (dec a0) fun v => Builtin.imag_ #[50] 49 #[v]) fun v10 =>
q_genW (two Try.prog (dec a1) fun v => Builtin.real_ #[50] 49 #[v]) fun v11 =>
q_genW (binC Try.prog .mul 49 (.tmp 25) (.tmp 27) (dec v10) (dec v11)) fun v12 =>
q_genW (binC Try.prog .sub 49 (.tmp 29) (.tmp 30) (dec v3) (dec v6)) fun v13 =>
q_genW (binC Try.prog .add 49 (.tmp 32) (.tmp 33) (dec v9) (dec v12)) fun v14 =>
q_genW (two2 Try.prog (dec v13) (dec v14) fun v u => Builtin.complex_ #[49, 49] 50 #[v, u]) fun v15 =>
K v15 h0 c0
theorem R35_eq (Q : PrimW) (fu : Nat) (call : CallW) : curryA 2 (fnK Q Try.prog tys stl fu call e35) = R35 Q.genW fu call := by kernel_rfl
noncomputable def n35 (call : CallW) : List W → HW → Nat → KW → Bool := appF 2 (R35 genW 1000000 call)
theorem n35_ok {call : CallW} (h : CallSim Try.prog tys stl tab call) : FnGood Try.prog tys stl tab 35 (n35 call) := node_ok h (by kernel_rfl) rfl g35 (R35_eq real _ _)
/- (foghorn/plane.Gauss).mayBe -/
noncomputable def R47 (q_share : (α : Type) → α → (α → Bool) → Bool) (q_cmpW : (Nat → Nat → Bool) → Nat → Option CV → W → W → (W → Bool) → Bool) (q_guardW : Bool → W → Bool → Bool → Bool) (q_pickW : W → W → W → (W → Bool) → Bool) (q_fadW : Nat → W → (W → Bool) → Bool) (q_killVW : W → HW → (HW → Bool) → Bool) (q_loadSW : HW → W → (W → Bool) → Bool) (q_boxW : HW → Nat → W → KW → Bool) (fu : Nat) (call : CallW) (a0 : W) (h0 : HW) (c0 : Nat) (K : KW) : Bool :=
q_boxW h0 c0 a0 fun v1 h2 c3 =>
q_fadW 0 v1 fun v4 =>
q_loadSW h2 v4 fun v5 =>
q_cmpW (cmpF2 .geq) 3 (binC Try.prog .geq 2 (.tmp 4) (.const (.int .i64 (.negSucc 1073741823))) (dec v5) (dec ⟨12, 0, ⟨0, 0, 0, .int .i64 (.negSucc 1073741823)⟩, []⟩)) v5 ⟨12, 0, ⟨0, 0, 0, .int .i64 (.negSucc 1073741823)⟩, []⟩ fun v6 =>
q_share _ (fun (v8 : W) (h9 : HW) (c10 : Nat) =>
q_share _ (fun (v12 : W) (h13 : HW) (c14 : Nat) =>
q_share _ (fun (v16 : W) (h17 : HW) (c18 : Nat) =>
q_pickW v6 v16 ⟨8, 0, r0, []⟩ fun v19 =>
q_share _ (fun (v21 : W) (h22 : HW) (c23 : Nat) =>
q_share _ (fun (v25 : W) (h26 : HW) (c27 : Nat) =>
q_share _ (fun (v29 : W) (h30 : HW) (c31 : Nat) =>
q_pickW v19 v29 ⟨8, 0, r0, []⟩ fun v32 =>
q_share _ (fun (v34 : W) (h35 : HW) (c36 : Nat) =>
q_share _ (fun (v38 : W) (h39 : HW) (c40 : Nat) =>
q_share _ (fun (v42 : W) (h43 : HW) (c44 : Nat) =>
q_pickW v32 v42 ⟨8, 0, r0, []⟩ fun v45 =>
q_killVW v1 h43 fun h46 =>
K v45 h46 c44) fun f41 =>
q_guardW true v32 (q_cmpW (cmpF2 .leq) 3 (binC Try.prog .leq 2 (.tmp 18) (.const (.int .i64 (.ofNat 1073741824))) (dec v38) (dec ⟨3, 1073741824, r0, []⟩)) v38 ⟨3, 1073741824, r0, []⟩ fun v47 =>
f41 v47 h39 c40) (f41 wUnd h39 c40)) fun f37 =>
q_guardW true v32 (q_loadSW h35 v34 fun v48 =>
f37 v48 h35 c36) (f37 wUnd h35 c36)) fun f33 =>
q_guardW true v32 (q_fadW 1 v1 fun v49 =>
f33 v49 h30 c31) (f33 wUnd h30 c31)) fun f28 =>
q_guardW true v19 (q_cmpW (cmpF2 .geq) 3 (binC Try.prog .geq 2 (.tmp 13) (.const (.int .i64 (.negSucc 1073741823))) (dec v25) (dec ⟨12, 0, ⟨0, 0, 0, .int .i64 (.negSucc 1073741823)⟩, []⟩)) v25 ⟨12, 0, ⟨0, 0, 0, .int .i64 (.negSucc 1073741823)⟩, []⟩ fun v50 =>
f28 v50 h26 c27) (f28 wUnd h26 c27)) fun f24 =>
q_guardW true v19 (q_loadSW h22 v21 fun v51 =>
f24 v51 h22 c23) (f24 wUnd h22 c23)) fun f20 =>
q_guardW true v19 (q_fadW 1 v1 fun v52 =>
f20 v52 h17 c18) (f20 wUnd h17 c18)) fun f15 =>
q_guardW true v6 (q_cmpW (cmpF2 .leq) 3 (binC Try.prog .leq 2 (.tmp 8) (.const (.int .i64 (.ofNat 1073741824))) (dec v12) (dec ⟨3, 1073741824, r0, []⟩)) v12 ⟨3, 1073741824, r0, []⟩ fun v53 =>
f15 v53 h13 c14) (f15 wUnd h13 c14)) fun f11 =>
q_guardW true v6 (q_loadSW h9 v8 fun v54 =>
f11 v54 h9 c10) (f11 wUnd h9 c10)) fun f7 =>
q_guardW true v6 (q_fadW 0 v1 fun v55 =>
f7 v55 h2 c3) (f7 wUnd h2 c3)
theorem R47_eq (Q : PrimW) (fu : Nat) (call : CallW) : curryA 1 (fnK Q Try.prog tys stl fu call e47) = R47 Q.share Q.cmpW Q.guardW Q.pickW Q.fadW Q.killVW Q.loadSW Q.boxW fu call := by kernel_rfl
noncomputable def n47 (call : CallW) : List W → HW → Nat → KW → Bool := appF 1 (R47 (fun _ x f => f x) cmpW guardW pickW fadW killVW loadSW boxW 1000000 call)
theorem n47_ok {call : CallW} (h : CallSim Try.prog tys stl tab call) : FnGood Try.prog tys stl tab 47 (n47 call) := node_ok h (by kernel_rfl) rfl g47 (R47_eq real _ _)
/- foghorn/plane.isDepth -/
noncomputable def R51 (q_share : (α : Type) → α → (α → Bool) → Bool) (q_cmpW : (Nat → Nat → Bool) → Nat → Option CV → W → W → (W → Bool) → Bool) (q_guardW : Bool → W → Bool → Bool → Bool) (q_pickW : W → W → W → (W → Bool) → Bool) (fu : Nat) (call : CallW) (a0 : W) (h0 : HW) (c0 : Nat) (K : KW) : Bool :=
q_cmpW (cmpF2 .geq) 3 (binC Try.prog .geq 3 (.tmp 3) (.const (.int .i64 (.ofNat 0))) (dec a0) (dec ⟨3, 0, r0, []⟩)) a0 ⟨3, 0, r0, []⟩ fun v1 =>
q_share _ (fun (v3 : W) (h4 : HW) (c5 : Nat) =>
q_share _ (fun (v7 : W) (h8 : HW) (c9 : Nat) =>
q_pickW v1 v7 ⟨8, 0, r0, []⟩ fun v10 =>
K v10 h8 c9) fun f6 =>
q_guardW true v1 (q_cmpW (cmpF2 .leq) 3 (binC Try.prog .leq 3 (.tmp 6) (.const (.int .i64 (.ofNat 30))) (dec v3) (dec ⟨3, 30, r0, []⟩)) v3 ⟨3, 30, r0, []⟩ fun v11 =>
f6 v11 h4 c5) (f6 wUnd h4 c5)) fun f2 =>
q_guardW true v1 (f2 a0 h0 c0) (f2 wUnd h0 c0)
theorem R51_eq (Q : PrimW) (fu : Nat) (call : CallW) : curryA 1 (fnK Q Try.prog tys stl fu call e51) = R51 Q.share Q.cmpW Q.guardW Q.pickW fu call := by kernel_rfl
noncomputable def n51 (call : CallW) : List W → HW → Nat → KW → Bool := appF 1 (R51 (fun _ x f => f x) cmpW guardW pickW 1000000 call)
theorem n51_ok {call : CallW} (h : CallSim Try.prog tys stl tab call) : FnGood Try.prog tys stl tab 51 (n51 call) := node_ok h (by kernel_rfl) rfl g51 (R51_eq real _ _)
/- (foghorn/plane.Gauss).odd -/
noncomputable def R52 (q_addW : Nat → Nat → Option CV → W → W → (W → Bool) → Bool) (q_bitW : (Nat → Nat → Nat) → Nat → Nat → Option CV → W → W → (W → Bool) → Bool) (q_fadW : Nat → W → (W → Bool) → Bool) (q_killVW : W → HW → (HW → Bool) → Bool) (q_loadSW : HW → W → (W → Bool) → Bool) (q_boxW : HW → Nat → W → KW → Bool) (fu : Nat) (call : CallW) (a0 : W) (h0 : HW) (c0 : Nat) (K : KW) : Bool :=
q_boxW h0 c0 a0 fun v1 h2 c3 =>
q_fadW 0 v1 fun v4 =>
q_loadSW h2 v4 fun v5 =>
q_fadW 1 v1 fun v6 =>
q_loadSW h2 v6 fun v7 =>
q_addW 3 9223372036854775807 (binC Try.prog .add 2 (.tmp 4) (.tmp 6) (dec v5) (dec v7)) v5 v7 fun v8 =>
q_bitW Nat.land 3 9223372036854775807 (binC Try.prog .and 2 (.tmp 7) (.const (.int .i64 (.ofNat 1))) (dec v8) (dec ⟨3, 1, r0, []⟩)) v8 ⟨3, 1, r0, []⟩ fun v9 =>
q_killVW v1 h2 fun h10 =>
K v9 h10 c3
theorem R52_eq (Q : PrimW) (fu : Nat) (call : CallW) : curryA 1 (fnK Q Try.prog tys stl fu call e52) = R52 Q.addW Q.bitW Q.fadW Q.killVW Q.loadSW Q.boxW fu call := by kernel_rfl
noncomputable def n52 (call : CallW) : List W → HW → Nat → KW → Bool := appF 1 (R52 addW bitW fadW killVW loadSW boxW 1000000 call)
theorem n52_ok {call : CallW} (h : CallSim Try.prog tys stl tab call) : FnGood Try.prog tys stl tab 52 (n52 call) := node_ok h (by kernel_rfl) rfl g52 (R52_eq real _ _)
/- (foghorn/plane.Gauss).divided -/
noncomputable def R53 (q_addW : Nat → Nat → Option CV → W → W → (W → Bool) → Bool) (q_subW : Nat → Nat → Option CV → W → W → (W → Bool) → Bool) (q_quoW : Nat → Nat → Option CV → W → W → (W → Bool) → Bool) (q_fadW : Nat → W → (W → Bool) → Bool) (q_killVW : W → HW → (HW → Bool) → Bool) (q_loadSW : HW → W → (W → Bool) → Bool) (q_loadAW : Nat → HW → W → (W → Bool) → Bool) (q_storeAW : Nat → HW → W → W → (HW → Bool) → Bool) (q_allocW : Trie W → Nat → Bool → HW → Nat → KW → Bool) (q_boxW : HW → Nat → W → KW → Bool) (q_flatW : W → Bool → Bool) (fu : Nat) (call : CallW) (a0 : W) (h0 : HW) (c0 : Nat) (K : KW) : Bool :=
q_boxW h0 c0 a0 fun v1 h2 c3 =>
q_allocW (allocT tys 25) 2 true h2 c3 fun v4 h5 c6 =>
q_fadW 0 v1 fun v7 =>
q_loadSW h5 v7 fun v8 =>
q_fadW 1 v1 fun v9 =>
q_loadSW h5 v9 fun v10 =>
q_addW 3 9223372036854775807 (binC Try.prog .add 2 (.tmp 4) (.tmp 6) (dec v8) (dec v10)) v8 v10 fun v11 =>
q_quoW 3 9223372036854775807 (binC Try.prog .quo 2 (.tmp 7) (.const (.int .i64 (.ofNat 2))) (dec v11) (dec ⟨3, 2, r0, []⟩)) v11 ⟨3, 2, r0, []⟩ fun v12 =>
q_fadW 1 v1 fun v13 =>
q_loadSW h5 v13 fun v14 =>
q_fadW 0 v1 fun v15 =>
q_loadSW h5 v15 fun v16 =>
q_subW 3 9223372036854775807 (binC Try.prog .sub 2 (.tmp 10) (.tmp 12) (dec v14) (dec v16)) v14 v16 fun v17 =>
q_quoW 3 9223372036854775807 (binC Try.prog .quo 2 (.tmp 13) (.const (.int .i64 (.ofNat 2))) (dec v17) (dec ⟨3, 2, r0, []⟩)) v17 ⟨3, 2, r0, []⟩ fun v18 =>
q_flatW v12 (
q_flatW v18 (
(fun (v19 : W) =>
q_storeAW 2 h5 v4 v19 fun h20 =>
q_loadAW 2 h20 v4 fun v21 =>
q_killVW v1 h20 fun h22 =>
K v21 h22 c6) ⟨15, 0, r0, [v12, v18]⟩))
theorem R53_eq (Q : PrimW) (fu : Nat) (call : CallW) : curryA 1 (fnK Q Try.prog tys stl fu call e53) = R53 Q.addW Q.subW Q.quoW Q.fadW Q.killVW Q.loadSW Q.loadAW Q.storeAW Q.allocW Q.boxW Q.flatW fu call := by kernel_rfl
noncomputable def n53 (call : CallW) : List W → HW → Nat → KW → Bool := appF 1 (R53 addW subW quoW fadW killVW loadSW loadAW storeAW allocW boxW flatW 1000000 call)
theorem n53_ok {call : CallW} (h : CallSim Try.prog tys stl tab call) : FnGood Try.prog tys stl tab 53 (n53 call) := node_ok h (by kernel_rfl) rfl g53 (R53_eq real _ _)
noncomputable def dS (call : CallW) : Disp := (.node 47 (n47 call) (.node 19 (n19 call) (.node 15 (n15 call) (.node 13 (n13 call) .leaf .leaf) .leaf) (.node 35 (n35 call) .leaf .leaf)) (.node 52 (n52 call) (.node 51 (n51 call) .leaf .leaf) (.node 53 (n53 call) .leaf .leaf)))
theorem dS_ok {call : CallW} (h : CallSim Try.prog tys stl tab call) : CallSim Try.prog tys stl tab (dS call).fn := Disp.sim (t := dS call) ⟨n47_ok h, ⟨n19_ok h, ⟨n15_ok h, ⟨n13_ok h, True.intro, True.intro⟩, True.intro⟩, ⟨n35_ok h, True.intro, True.intro⟩⟩, ⟨n52_ok h, ⟨n51_ok h, True.intro, True.intro⟩, ⟨n53_ok h, True.intro, True.intro⟩⟩⟩
noncomputable def dR (m : Nat) : Disp := @Nat.rec (fun _ => Disp) .leaf (fun _ ih => dS ih.fn) m
theorem dR_ok : ∀ m, CallSim Try.prog tys stl tab (dR m).fn
  | 0 => d0_ok
  | m + 1 => dS_ok (dR_ok m)
noncomputable abbrev dT : Disp := dR 200
theorem dT_ok : CallSim Try.prog tys stl tab dT.fn := dR_ok _
set_option maxHeartbeats 0 in
theorem run13 : lawK dT.fn 13 = true := by kernel_rfl
theorem awake_f : Fits Try.prog 13 ⟨[], [], [⟨Unit, fun _ => True, fun _ => .bool true, fun _ => []⟩]⟩ :=
  lawK_fits tok mixed fok dT_ok (by kernel_rfl : tab 13 = some e13) rfl run13
end Go.Proofs.Yticgnpgfckedhaa
