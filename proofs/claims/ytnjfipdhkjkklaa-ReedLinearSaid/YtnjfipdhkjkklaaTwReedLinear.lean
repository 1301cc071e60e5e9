/-
  The functions that the run goes through, as tables, and the run of a function without arguments. No condition.
-/
import Derived.Test.YtnjfipdhkjkklaaRows
import Derived.Test.YtnjfipdhkjkklaaGx
set_option linter.unusedVariables false
set_option maxRecDepth 1000000
namespace Go.Proofs.Ytnjfipdhkjkklaa
open Go Go.Fw
def tys : List (Nat × TyI) := [
  (1, ⟨.func, 1, 8, .nilFunc⟩),
  (2, ⟨.int .i64, 1, 8, .int .i64 0⟩),
  (3, ⟨.int .i64, 1, 8, .int .i64 0⟩),
  (4, ⟨.bool, 1, 1, .bool false⟩),
  (5, ⟨.int .u8, 1, 1, .int .u8 0⟩),
  (9, ⟨.str, 1, 16, .string (ByteArray.mk #[])⟩),
  (12, ⟨.int .u64, 1, 8, .int .u64 0⟩),
  (21, ⟨.int .i32, 1, 4, .int .i32 0⟩),
  (22, ⟨.func, 1, 8, .nilFunc⟩),
  (24, ⟨.func, 1, 8, .nilFunc⟩),
  (25, ⟨.int .i64, 1, 8, .int .i64 0⟩),
  (27, ⟨.func, 1, 8, .nilFunc⟩),
  (28, ⟨.func, 1, 8, .nilFunc⟩),
  (29, ⟨.slice 5, 1, 24, .slice none 0 0⟩),
  (31, ⟨.func, 1, 8, .nilFunc⟩),
  (32, ⟨.func, 1, 8, .nilFunc⟩),
  (34, ⟨.func, 1, 8, .nilFunc⟩),
  (35, ⟨.func, 1, 8, .nilFunc⟩),
  (36, ⟨.slice 9, 1, 24, .slice none 0 0⟩),
  (38, ⟨.func, 1, 8, .nilFunc⟩),
  (39, ⟨.func, 1, 8, .nilFunc⟩),
  (40, ⟨.func, 1, 8, .nilFunc⟩),
  (41, ⟨.func, 1, 8, .nilFunc⟩),
  (43, ⟨.func, 1, 8, .nilFunc⟩),
  (44, ⟨.func, 1, 8, .nilFunc⟩),
  (45, ⟨.int .u64, 1, 8, .int .u64 0⟩),
  (46, ⟨.func, 1, 8, .nilFunc⟩),
  (47, ⟨.func, 1, 8, .nilFunc⟩),
  (48, ⟨.func, 1, 8, .nilFunc⟩),
  (49, ⟨.func, 1, 8, .nilFunc⟩),
  (50, ⟨.func, 1, 8, .nilFunc⟩),
  (51, ⟨.func, 1, 8, .nilFunc⟩),
  (52, ⟨.func, 1, 8, .nilFunc⟩),
  (53, ⟨.func, 1, 8, .nilFunc⟩),
  (54, ⟨.func, 1, 8, .nilFunc⟩),
  (55, ⟨.func, 1, 8, .nilFunc⟩),
  (56, ⟨.func, 1, 8, .nilFunc⟩),
  (57, ⟨.func, 1, 8, .nilFunc⟩),
  (59, ⟨.func, 1, 8, .nilFunc⟩),
  (60, ⟨.func, 1, 8, .nilFunc⟩),
  (61, ⟨.func, 1, 8, .nilFunc⟩),
  (62, ⟨.func, 1, 8, .nilFunc⟩),
  (63, ⟨.func, 1, 8, .nilFunc⟩),
  (64, ⟨.array 64 5, 64, 64, .agg ⟨List.replicate 64 (.int .u8 0)⟩⟩),
  (65, ⟨.func, 1, 8, .nilFunc⟩),
  (66, ⟨.func, 1, 8, .nilFunc⟩),
  (67, ⟨.func, 1, 8, .nilFunc⟩),
  (68, ⟨.func, 1, 8, .nilFunc⟩),
  (69, ⟨.func, 1, 8, .nilFunc⟩),
  (70, ⟨.slice 29, 1, 24, .slice none 0 0⟩),
  (71, ⟨.func, 1, 8, .nilFunc⟩),
  (72, ⟨.func, 1, 8, .nilFunc⟩),
  (73, ⟨.func, 1, 8, .nilFunc⟩),
  (74, ⟨.func, 1, 8, .nilFunc⟩),
  (80, ⟨.func, 1, 8, .nilFunc⟩),
  (81, ⟨.int .u32, 1, 4, .int .u32 0⟩),
  (84, ⟨.func, 1, 8, .nilFunc⟩),
  (85, ⟨.ptr 5, 1, 8, .pointer none⟩)]


theorem tok : TOk Try.prog tys := tok_of ⟨⟨by kernel_rfl, by kernel_rfl⟩, ⟨by kernel_rfl, by kernel_rfl⟩, ⟨by kernel_rfl, by kernel_rfl⟩, ⟨by kernel_rfl, by kernel_rfl⟩, ⟨by kernel_rfl, by kernel_rfl⟩, ⟨by kernel_rfl, by kernel_rfl⟩, ⟨by kernel_rfl, by kernel_rfl⟩, ⟨by kernel_rfl, by kernel_rfl⟩, ⟨by kernel_rfl, by kernel_rfl⟩, ⟨by kernel_rfl, by kernel_rfl⟩, ⟨by kernel_rfl, by kernel_rfl⟩, ⟨by kernel_rfl, by kernel_rfl⟩, ⟨by kernel_rfl, by kernel_rfl⟩, ⟨by kernel_rfl, by kernel_rfl⟩, ⟨by kernel_rfl, by kernel_rfl⟩, ⟨by kernel_rfl, by kernel_rfl⟩, ⟨by kernel_rfl, by kernel_rfl⟩, ⟨by kernel_rfl, by kernel_rfl⟩, ⟨by kernel_rfl, by kernel_rfl⟩, ⟨by kernel_rfl, by kernel_rfl⟩, ⟨by kernel_rfl, by kernel_rfl⟩, ⟨by kernel_rfl, by kernel_rfl⟩, ⟨by kernel_rfl, by kernel_rfl⟩, ⟨by kernel_rfl, by kernel_rfl⟩, ⟨by kernel_rfl, by kernel_rfl⟩, ⟨by kernel_rfl, by kernel_rfl⟩, ⟨by kernel_rfl, by kernel_rfl⟩, ⟨by kernel_rfl, by kernel_rfl⟩, ⟨by kernel_rfl, by kernel_rfl⟩, ⟨by kernel_rfl, by kernel_rfl⟩, ⟨by kernel_rfl, by kernel_rfl⟩, ⟨by kernel_rfl, by kernel_rfl⟩, ⟨by kernel_rfl, by kernel_rfl⟩, ⟨by kernel_rfl, by kernel_rfl⟩, ⟨by kernel_rfl, by kernel_rfl⟩, ⟨by kernel_rfl, by kernel_rfl⟩, ⟨by kernel_rfl, by kernel_rfl⟩, ⟨by kernel_rfl, by kernel_rfl⟩, ⟨by kernel_rfl, by kernel_rfl⟩, ⟨by kernel_rfl, by kernel_rfl⟩, ⟨by kernel_rfl, by kernel_rfl⟩, ⟨by kernel_rfl, by kernel_rfl⟩, ⟨by kernel_rfl, by kernel_rfl⟩, ⟨by kernel_rfl, by kernel_rfl⟩, ⟨by kernel_rfl, by kernel_rfl⟩, ⟨by kernel_rfl, by kernel_rfl⟩, ⟨by kernel_rfl, by kernel_rfl⟩, ⟨by kernel_rfl, by kernel_rfl⟩, ⟨by kernel_rfl, by kernel_rfl⟩, ⟨by kernel_rfl, by kernel_rfl⟩, ⟨by kernel_rfl, by kernel_rfl⟩, ⟨by kernel_rfl, by kernel_rfl⟩, ⟨by kernel_rfl, by kernel_rfl⟩, ⟨by kernel_rfl, by kernel_rfl⟩, ⟨by kernel_rfl, by kernel_rfl⟩, ⟨by kernel_rfl, by kernel_rfl⟩, ⟨by kernel_rfl, by kernel_rfl⟩, ⟨by kernel_rfl, by kernel_rfl⟩, True.intro⟩
theorem mixed : Try.prog.follows .mixedOrders = true := by kernel_rfl
def inL : List Nat → Nat → Bool
  | [], _ => false
  | a :: r, n => match Nat.beq a n with | true => true | false => inL r n
def stl : Nat → Bool := inL [28, 29, 31, 44, 45, 49, 50]
/- 9: foghorn/foghornlaw19.works -/
def p9 : Nat → Option PlanC := fun _ => none
def wl9 : Nat → List Nat := fun _ => []
def wj9 : Nat → Option (List Nat) := fun _ => none
def kr9 : Nat → List Nat := fun _ => []
noncomputable def e9 : Ent := entOf Try.f9 ⟨p9, wl9, wj9, kr9, []⟩
theorem g9 : EntOk Try.prog tys stl 9 e9 := .inr ⟨rfl, Try.func9, by kernel_rfl, by kernel_rfl, by kernel_rfl, by kernel_rfl, by kernel_rfl, rfl⟩
/- 11: foghorn/reed.Encode -/
def p11 : Nat → Option PlanC := fun _ => none
def wl11 : Nat → List Nat := fun _ => []
def wj11 : Nat → Option (List Nat) := fun _ => none
def kr11 : Nat → List Nat := fun _ => []
noncomputable def e11 : Ent := entOf Try.f11 ⟨p11, wl11, wj11, kr11, []⟩
theorem g11 : EntOk Try.prog tys stl 11 e11 := .inr ⟨rfl, Try.func11, by kernel_rfl, by kernel_rfl, by kernel_rfl, by kernel_rfl, by kernel_rfl, rfl⟩
/- 13: foghorn/reed.Whole -/
def p13 : Nat → Option PlanC := fun _ => none
def wl13 : Nat → List Nat := fun _ => []
def wj13 : Nat → Option (List Nat) := fun _ => none
def kr13 : Nat → List Nat := fun _ => []
noncomputable def e13 : Ent := entOf Try.f13 ⟨p13, wl13, wj13, kr13, []⟩
theorem g13 : EntOk Try.prog tys stl 13 e13 := .inr ⟨rfl, Try.func13, by kernel_rfl, by kernel_rfl, by kernel_rfl, by kernel_rfl, by kernel_rfl, rfl⟩
/- 28: foghorn/reed.areChecks -/
def p28 : Nat → Option PlanC := fun _ => none
def wl28 : Nat → List Nat := fun _ => []
def wj28 : Nat → Option (List Nat) := fun _ => none
def kr28 : Nat → List Nat := fun _ => []
noncomputable def e28 : Ent := entOf Try.f28 ⟨p28, wl28, wj28, kr28, []⟩
theorem g28 : EntOk Try.prog tys stl 28 e28 := .inr ⟨rfl, Try.func28, by kernel_rfl, by kernel_rfl, by kernel_rfl, by kernel_rfl, by kernel_rfl, rfl⟩
/- 29: foghorn/reed.isWord -/
def p29 : Nat → Option PlanC := fun _ => none
def wl29 : Nat → List Nat := fun _ => []
def wj29 : Nat → Option (List Nat) := fun _ => none
def kr29 : Nat → List Nat := fun _ => []
noncomputable def e29 : Ent := entOf Try.f29 ⟨p29, wl29, wj29, kr29, []⟩
theorem g29 : EntOk Try.prog tys stl 29 e29 := .inr ⟨rfl, Try.func29, by kernel_rfl, by kernel_rfl, by kernel_rfl, by kernel_rfl, by kernel_rfl, rfl⟩
/- 30: foghorn/reed.checking -/
def p30 : Nat → Option PlanC := fun _ => none
def wl30 : Nat → List Nat := fun _ => []
def wj30 : Nat → Option (List Nat) := fun _ => none
def kr30 : Nat → List Nat := fun _ => []
noncomputable def e30 : Ent := entOf Try.f30 ⟨p30, wl30, wj30, kr30, []⟩
theorem g30 : EntOk Try.prog tys stl 30 e30 := .inr ⟨rfl, Try.func30, by kernel_rfl, by kernel_rfl, by kernel_rfl, by kernel_rfl, by kernel_rfl, rfl⟩
/- 31: foghorn/reed.Check -/
def p31 : Nat → Option PlanC := fun _ => none
def wl31 : Nat → List Nat := fun _ => []
def wj31 : Nat → Option (List Nat) := fun _ => none
def kr31 : Nat → List Nat := fun _ => []
noncomputable def e31 : Ent := entOf Try.f31 ⟨p31, wl31, wj31, kr31, []⟩
theorem g31 : EntOk Try.prog tys stl 31 e31 := .inr ⟨rfl, Try.func31, by kernel_rfl, by kernel_rfl, by kernel_rfl, by kernel_rfl, by kernel_rfl, rfl⟩
/- 35: slices.Reverse[[]uint8,uint8] -/
def p35 : Nat → Option PlanC := fun
  | 3 => some (.op 0 false (.op 1 false (.op 4 false (.op 5 false (.op 6 false (.op 7 false (.op 8 false (.op 9 false (.op 10 false (.op 11 false (.op 12 false (.op 2 true (.op 3 true (.op 13 false (.op 14 false (.op 15 false (.done)))))))))))))))))
  | _ => none
def wl35 : Nat → List Nat := fun
  | 1 => [2, 3]
  | _ => []
def wj35 : Nat → Option (List Nat) := fun _ => none
def kr35 : Nat → List Nat := fun _ => []
noncomputable def e35 : Ent := entOf Try.f35 ⟨p35, wl35, wj35, kr35, []⟩
theorem g35 : EntOk Try.prog tys stl 35 e35 := .inr ⟨rfl, Try.func35, by kernel_rfl, by kernel_rfl, by kernel_rfl, by kernel_rfl, by kernel_rfl, rfl⟩
/- 36: foghorn/reed.powers -/
def p36 : Nat → Option PlanC := fun _ => none
def wl36 : Nat → List Nat := fun
  | 3 => [9]
  | _ => []
def wj36 : Nat → Option (List Nat) := fun _ => none
def kr36 : Nat → List Nat := fun _ => []
noncomputable def e36 : Ent := entOf Try.f36 ⟨p36, wl36, wj36, kr36, []⟩
theorem g36 : EntOk Try.prog tys stl 36 e36 := .inr ⟨rfl, Try.func36, by kernel_rfl, by kernel_rfl, by kernel_rfl, by kernel_rfl, by kernel_rfl, rfl⟩
/- 42: foghorn/reed.Generator -/
def p42 : Nat → Option PlanC := fun _ => none
def wl42 : Nat → List Nat := fun _ => []
def wj42 : Nat → Option (List Nat) := fun _ => none
def kr42 : Nat → List Nat := fun _ => []
noncomputable def e42 : Ent := entOf Try.f42 ⟨p42, wl42, wj42, kr42, []⟩
theorem g42 : EntOk Try.prog tys stl 42 e42 := .inr ⟨rfl, Try.func42, by kernel_rfl, by kernel_rfl, by kernel_rfl, by kernel_rfl, by kernel_rfl, rfl⟩
/- 43: foghorn/reed.checking$1 -/
def p43 : Nat → Option PlanC := fun
  | 12 => some (.op 0 false (.op 1 false (.op 2 false (.op 3 false (.op 4 false (.op 5 false (.op 6 false (.op 7 false (.op 8 false (.op 9 false (.done)))))))))))
  | _ => none
def wl43 : Nat → List Nat := fun
  | 4 => [15]
  | 10 => [35]
  | _ => []
def wj43 : Nat → Option (List Nat) := fun _ => none
def kr43 : Nat → List Nat := fun _ => []
noncomputable def e43 : Ent := entOf Try.f43 ⟨p43, wl43, wj43, kr43, []⟩
theorem g43 : EntOk Try.prog tys stl 43 e43 := .inr ⟨rfl, Try.func43, by kernel_rfl, by kernel_rfl, by kernel_rfl, by kernel_rfl, by kernel_rfl, rfl⟩
/- 44: foghorn/field.Times -/
def p44 : Nat → Option PlanC := fun _ => none
def wl44 : Nat → List Nat := fun
  | 2 => [0, 1, 5]
  | _ => []
def wj44 : Nat → Option (List Nat) := fun _ => none
def kr44 : Nat → List Nat := fun _ => []
noncomputable def e44 : Ent := entOf Try.f44 ⟨p44, wl44, wj44, kr44, []⟩
theorem g44 : EntOk Try.prog tys stl 44 e44 := .inr ⟨rfl, Try.func44, by kernel_rfl, by kernel_rfl, by kernel_rfl, by kernel_rfl, by kernel_rfl, rfl⟩
/- 45: foghorn/field.Exp -/
def p45 : Nat → Option PlanC := fun _ => none
def wl45 : Nat → List Nat := fun _ => []
def wj45 : Nat → Option (List Nat) := fun _ => none
def kr45 : Nat → List Nat := fun _ => []
noncomputable def e45 : Ent := entOf Try.f45 ⟨p45, wl45, wj45, kr45, []⟩
theorem g45 : EntOk Try.prog tys stl 45 e45 := .inr ⟨rfl, Try.func45, by kernel_rfl, by kernel_rfl, by kernel_rfl, by kernel_rfl, by kernel_rfl, rfl⟩
/- 48: foghorn/field.Of -/
def p48 : Nat → Option PlanC := fun _ => none
def wl48 : Nat → List Nat := fun _ => []
def wj48 : Nat → Option (List Nat) := fun _ => none
def kr48 : Nat → List Nat := fun _ => []
noncomputable def e48 : Ent := entOf Try.f48 ⟨p48, wl48, wj48, kr48, []⟩
theorem g48 : EntOk Try.prog tys stl 48 e48 := .inr ⟨rfl, Try.func48, by kernel_rfl, by kernel_rfl, by kernel_rfl, by kernel_rfl, by kernel_rfl, rfl⟩
/- 49: foghorn/field.power -/
def p49 : Nat → Option PlanC := fun _ => none
def wl49 : Nat → List Nat := fun
  | 2 => [0, 1, 5]
  | _ => []
def wj49 : Nat → Option (List Nat) := fun
  | 6 => some [5]
  | _ => none
def kr49 : Nat → List Nat := fun _ => []
noncomputable def e49 : Ent := entOf Try.f49 ⟨p49, wl49, wj49, kr49, []⟩
theorem g49 : EntOk Try.prog tys stl 49 e49 := .inr ⟨rfl, Try.func49, by kernel_rfl, by kernel_rfl, by kernel_rfl, by kernel_rfl, by kernel_rfl, rfl⟩
/- 50: foghorn/field.turned -/
def p50 : Nat → Option PlanC := fun _ => none
def wl50 : Nat → List Nat := fun _ => []
def wj50 : Nat → Option (List Nat) := fun
  | 4 => some [0]
  | _ => none
def kr50 : Nat → List Nat := fun _ => []
noncomputable def e50 : Ent := entOf Try.f50 ⟨p50, wl50, wj50, kr50, []⟩
theorem g50 : EntOk Try.prog tys stl 50 e50 := .inr ⟨rfl, Try.func50, by kernel_rfl, by kernel_rfl, by kernel_rfl, by kernel_rfl, by kernel_rfl, rfl⟩
/- 53: foghorn/field.of -/
def p53 : Nat → Option PlanC := fun
  | 10 => some (.op 0 false (.op 1 false (.op 2 false (.op 3 false (.op 4 false (.op 5 false (.op 6 false (.op 7 false (.op 8 false (.op 9 false (.op 10 false (.op 11 false (.op 12 false (.op 13 false (.op 14 false (.op 15 false (.done)))))))))))))))))
  | _ => none
def wl53 : Nat → List Nat := fun
  | 4 => [3, 15]
  | 8 => [6]
  | _ => []
def wj53 : Nat → Option (List Nat) := fun _ => none
def kr53 : Nat → List Nat := fun
  | 6 => [20]
  | _ => []
noncomputable def e53 : Ent := entOf Try.f53 ⟨p53, wl53, wj53, kr53, []⟩
theorem g53 : EntOk Try.prog tys stl 53 e53 := .inr ⟨rfl, Try.func53, by kernel_rfl, by kernel_rfl, by kernel_rfl, by kernel_rfl, by kernel_rfl, rfl⟩
noncomputable def ents : List (Nat × Ent) := [(9, e9), (11, e11), (13, e13), (28, e28), (29, e29), (30, e30), (31, e31), (35, e35), (36, e36), (42, e42), (43, e43), (44, e44), (45, e45), (48, e48), (49, e49), (50, e50), (53, e53)]
theorem goods : EntsOk Try.prog tys stl ents := ⟨g9, g11, g13, g28, g29, g30, g31, g35, g36, g42, g43, g44, g45, g48, g49, g50, g53, True.intro⟩
noncomputable def tab : Nat → Option Ent := (tabOf ents).get
theorem fok : FOk Try.prog tys stl tab := fok_of goods
noncomputable def d0 : Disp := .leaf
theorem d0_ok : CallSim Try.prog tys stl tab d0.fn := Disp.sim True.intro
/- foghorn/foghornlaw19.works -/
noncomputable def R9 (q_share : (α : Type) → α → (α → Bool) → Bool) (q_genW : Option CV → (W → Bool) → Bool) (q_cmpW : (Nat → Nat → Bool) → Nat → Option CV → W → W → (W → Bool) → Bool) (q_notW : Option CV → W → (W → Bool) → Bool) (q_guardW : Bool → W → Bool → Bool → Bool) (q_pickW : W → W → W → (W → Bool) → Bool) (q_tupW : W → (List W → Bool) → Bool) (q_nthW : Nat → List W → (W → Bool) → Bool) (fu : Nat) (call : CallW) (h0 : HW) (c0 : Nat) (K : KW) : Bool :=
call 11 [⟨12, 0, ⟨0, 0, 0, .str ⟨⟨[1]⟩⟩⟩, []⟩, ⟨3, 2, r0, []⟩] h0 c0 fun v1 h2 c3 =>
q_tupW v1 fun l4 => q_nthW 0 l4 fun v5 =>
q_tupW v1 fun l6 => q_nthW 1 l6 fun v7 =>
call 13 [v5, ⟨3, 2, r0, []⟩] h2 c3 fun v8 h9 c10 =>
q_tupW v8 fun l11 => q_nthW 0 l11 fun v12 =>
q_tupW v8 fun l13 => q_nthW 1 l13 fun v14 =>
call 13 [⟨12, 0, ⟨0, 0, 0, .str ⟨⟨[1, 3, 3]⟩⟩⟩, []⟩, ⟨3, 2, r0, []⟩] h9 c10 fun v15 h16 c17 =>
q_tupW v15 fun l18 => q_nthW 0 l18 fun v19 =>
q_tupW v15 fun l20 => q_nthW 1 l20 fun v21 =>
q_cmpW (cmpF2 .eql) 3 (binC Try.prog .eql 25 (.tmp 20) (.const (.int .i64 (.ofNat 0))) (dec v7) (dec ⟨3, 0, r0, []⟩)) v7 ⟨3, 0, r0, []⟩ fun v22 =>
q_share _ (fun (v24 : W) (h25 : HW) (c26 : Nat) =>
q_share _ (fun (v28 : W) (h29 : HW) (c30 : Nat) =>
q_pickW v22 v28 ⟨8, 0, r0, []⟩ fun v31 =>
q_share _ (fun (v33 : W) (h34 : HW) (c35 : Nat) =>
q_share _ (fun (v37 : W) (h38 : HW) (c39 : Nat) =>
q_pickW v31 v37 ⟨8, 0, r0, []⟩ fun v40 =>
q_share _ (fun (v42 : W) (h43 : HW) (c44 : Nat) =>
q_share _ (fun (v46 : W) (h47 : HW) (c48 : Nat) =>
q_pickW v40 v46 ⟨8, 0, r0, []⟩ fun v49 =>
q_share _ (fun (v51 : W) (h52 : HW) (c53 : Nat) =>
q_pickW v49 v51 ⟨8, 0, r0, []⟩ fun v54 =>
q_share _ (fun (v56 : W) (h57 : HW) (c58 : Nat) =>
q_share _ (fun (v60 : W) (h61 : HW) (c62 : Nat) =>
q_pickW v54 v60 ⟨8, 0, r0, []⟩ fun v63 =>
K v63 h61 c62) fun f59 =>
q_guardW true v54 (q_notW (two Try.prog (dec v56) (Op.unary .not)) v56 fun v64 =>
f59 v64 h57 c58) (f59 wUnd h57 c58)) fun f55 =>
q_guardW true v54 (f55 v19 h52 c53) (f55 wUnd h52 c53)) fun f50 =>
q_guardW true v49 (f50 v12 h47 c48) (f50 wUnd h47 c48)) fun f45 =>
q_guardW true v40 (q_genW (binC Try.prog .eql 9 (.tmp 31) (.const (.string ⟨⟨[1, 3, 2]⟩⟩)) (dec v42) (dec ⟨12, 0, ⟨0, 0, 0, .str ⟨⟨[1, 3, 2]⟩⟩⟩, []⟩)) fun v65 =>
f45 v65 h43 c44) (f45 wUnd h43 c44)) fun f41 =>
q_guardW true v40 (f41 v5 h38 c39) (f41 wUnd h38 c39)) fun f36 =>
q_guardW true v31 (q_cmpW (cmpF2 .eql) 3 (binC Try.prog .eql 25 (.tmp 27) (.const (.int .i64 (.ofNat 0))) (dec v33) (dec ⟨3, 0, r0, []⟩)) v33 ⟨3, 0, r0, []⟩ fun v66 =>
f36 v66 h34 c35) (f36 wUnd h34 c35)) fun f32 =>
q_guardW true v31 (f32 v21 h29 c30) (f32 wUnd h29 c30)) fun f27 =>
q_guardW true v22 (q_cmpW (cmpF2 .eql) 3 (binC Try.prog .eql 25 (.tmp 23) (.const (.int .i64 (.ofNat 0))) (dec v24) (dec ⟨3, 0, r0, []⟩)) v24 ⟨3, 0, r0, []⟩ fun v67 =>
f27 v67 h25 c26) (f27 wUnd h25 c26)) fun f23 =>
q_guardW true v22 (f23 v14 h16 c17) (f23 wUnd h16 c17)
theorem R9_eq (Q : PrimW) (fu : Nat) (call : CallW) : curryA 0 (fnK Q Try.prog tys stl fu call e9) = R9 Q.share Q.genW Q.cmpW Q.notW Q.guardW Q.pickW Q.tupW Q.nthW fu call := by kernel_rfl
noncomputable def n9 (call : CallW) : List W → HW → Nat → KW → Bool := appF 0 (R9 (fun _ x f => f x) genW cmpW notW guardW pickW tupW nthW 1000000 call)
theorem n9_ok {call : CallW} (h : CallSim Try.prog tys stl tab call) : FnGood Try.prog tys stl tab 9 (n9 call) := node_ok h (by kernel_rfl) rfl g9 (R9_eq real _ _)
/- foghorn/reed.Encode -/
noncomputable def R11 (q_share : (α : Type) → α → (α → Bool) → Bool) (q_genW : Option CV → (W → Bool) → Bool) (q_addW : Nat → Nat → Option CV → W → W → (W → Bool) → Bool) (q_cmpW : (Nat → Nat → Bool) → Nat → Option CV → W → W → (W → Bool) → Bool) (q_notW : Option CV → W → (W → Bool) → Bool) (q_condW : W → Bool → Bool → Bool) (q_guardW : Bool → W → Bool → Bool → Bool) (q_pickW : W → W → W → (W → Bool) → Bool) (q_onG : W → List W → (FuncId → List W → Bool) → Bool) (fu : Nat) (call : CallW) (a0 : W) (a1 : W) (h0 : HW) (c0 : Nat) (K : KW) : Bool :=
call 28 [a1] h0 c0 fun v1 h2 c3 =>
q_notW (two Try.prog (dec v1) (Op.unary .not)) v1 fun v4 =>
q_share _ (fun (v6 : W) (h7 : HW) (c8 : Nat) =>
q_share _ (fun (v10 : W) (h11 : HW) (c12 : Nat) =>
q_share _ (fun (v14 : W) (h15 : HW) (c16 : Nat) =>
q_pickW v4 ⟨8, 1, r0, []⟩ v14 fun v17 =>
q_share _ (fun (v19 : W) (h20 : HW) (c21 : Nat) =>
q_share _ (fun (v23 : W) (h24 : HW) (c25 : Nat) =>
q_share _ (fun (v27 : W) (h28 : HW) (c29 : Nat) =>
q_share _ (fun (v31 : W) (h32 : HW) (c33 : Nat) =>
q_share _ (fun (v35 : W) (h36 : HW) (c37 : Nat) =>
q_share _ (fun (v39 : W) (h40 : HW) (c41 : Nat) =>
q_share _ (fun (v43 : W) (h44 : HW) (c45 : Nat) =>
q_pickW v17 ⟨8, 1, r0, []⟩ v43 fun v46 =>
q_condW v46 (
K ⟨13, 0, r0, [⟨12, 0, ⟨0, 0, 0, .str ⟨⟨[]⟩⟩⟩, []⟩, ⟨3, 1, r0, []⟩]⟩ h44 c45) (
call 30 [a1] h44 c45 fun v47 h48 c49 =>
q_onG v47 [a0] fun g50 l51 => call g50 l51 h48 c49 fun v52 h53 c54 =>
q_genW (convC Try.prog tys ⟨[], 0, decH h53, 0⟩ 29 9 (dec v52)) fun v55 =>
q_genW (binC Try.prog .add 9 (.tmp 23) (.tmp 28) (dec a0) (dec v55)) fun v56 =>
K ⟨13, 0, r0, [v56, ⟨3, 0, r0, []⟩]⟩ h53 c54)) fun f42 =>
q_guardW false v17 (q_notW (two Try.prog (dec v39) (Op.unary .not)) v39 fun v57 =>
f42 v57 h40 c41) (f42 wUnd h40 c41)) fun f38 =>
q_guardW false v17 (call 29 [v31, v35] h36 c37 fun v58 h59 c60 =>
f38 v58 h59 c60) (f38 wUnd h36 c37)) fun f34 =>
q_guardW false v17 (f34 a1 h32 c33) (f34 wUnd h32 c33)) fun f30 =>
q_guardW false v17 (q_addW 3 9223372036854775807 (binC Try.prog .add 3 (.tmp 16) (.tmp 17) (dec v23) (dec v27)) v23 v27 fun v61 =>
f30 v61 h28 c29) (f30 wUnd h28 c29)) fun f26 =>
q_guardW false v17 (f26 a1 h24 c25) (f26 wUnd h24 c25)) fun f22 =>
q_guardW false v17 (q_genW (lenMC Try.prog tys ⟨[], 0, decH h20, 0⟩ 9 (dec v19)) fun v62 =>
f22 v62 h20 c21) (f22 wUnd h20 c21)) fun f18 =>
q_guardW false v17 (f18 a0 h15 c16) (f18 wUnd h15 c16)) fun f13 =>
q_guardW false v4 (q_cmpW (cmpF2 .eql) 3 (binC Try.prog .eql 3 (.tmp 11) (.const (.int .i64 (.ofNat 0))) (dec v10) (dec ⟨3, 0, r0, []⟩)) v10 ⟨3, 0, r0, []⟩ fun v63 =>
f13 v63 h11 c12) (f13 wUnd h11 c12)) fun f9 =>
q_guardW false v4 (q_genW (lenMC Try.prog tys ⟨[], 0, decH h7, 0⟩ 9 (dec v6)) fun v64 =>
f9 v64 h7 c8) (f9 wUnd h7 c8)) fun f5 =>
q_guardW false v4 (f5 a0 h2 c3) (f5 wUnd h2 c3)
theorem R11_eq (Q : PrimW) (fu : Nat) (call : CallW) : curryA 2 (fnK Q Try.prog tys stl fu call e11) = R11 Q.share Q.genW Q.addW Q.cmpW Q.notW Q.condW Q.guardW Q.pickW Q.onG fu call := by kernel_rfl
noncomputable def n11 (call : CallW) : List W → HW → Nat → KW → Bool := appF 2 (R11 (fun _ x f => f x) genW addW cmpW notW condW guardW pickW onG 1000000 call)
theorem n11_ok {call : CallW} (h : CallSim Try.prog tys stl tab call) : FnGood Try.prog tys stl tab 11 (n11 call) := node_ok h (by kernel_rfl) rfl g11 (R11_eq real _ _)
/- foghorn/reed.Whole -/
noncomputable def R13 (q_genW : Option CV → (W → Bool) → Bool) (q_subW : Nat → Nat → Option CV → W → W → (W → Bool) → Bool) (q_cmpW : (Nat → Nat → Bool) → Nat → Option CV → W → W → (W → Bool) → Bool) (q_condW : W → Bool → Bool → Bool) (q_onG : W → List W → (FuncId → List W → Bool) → Bool) (fu : Nat) (call : CallW) (a0 : W) (a1 : W) (h0 : HW) (c0 : Nat) (K : KW) : Bool :=
q_genW (lenMC Try.prog tys ⟨[], 0, decH h0, 0⟩ 9 (dec a0)) fun v1 =>
call 31 [v1, a1] h0 c0 fun v2 h3 c4 =>
q_cmpW (cmpF2 .neq) 3 (binC Try.prog .neq 25 (.tmp 12) (.const (.int .i64 (.ofNat 0))) (dec v2) (dec ⟨3, 0, r0, []⟩)) v2 ⟨3, 0, r0, []⟩ fun v5 =>
q_condW v5 (
K ⟨13, 0, r0, [⟨8, 0, r0, []⟩, v2]⟩ h3 c4) (
q_genW (lenMC Try.prog tys ⟨[], 0, decH h3, 0⟩ 9 (dec a0)) fun v6 =>
q_subW 3 9223372036854775807 (binC Try.prog .sub 3 (.tmp 17) (.tmp 18) (dec v6) (dec a1)) v6 a1 fun v7 =>
q_genW (sliceM tys ⟨[], 0, decH h3, 0⟩ 9 (dec a0) none (some (dec v7)) none) fun v8 =>
call 30 [a1] h3 c4 fun v9 h10 c11 =>
q_onG v9 [v8] fun g12 l13 => call g12 l13 h10 c11 fun v14 h15 c16 =>
q_genW (convC Try.prog tys ⟨[], 0, decH h15, 0⟩ 29 9 (dec v14)) fun v17 =>
q_genW (binC Try.prog .add 9 (.tmp 21) (.tmp 26) (dec v8) (dec v17)) fun v18 =>
q_genW (binC Try.prog .eql 9 (.tmp 27) (.tmp 28) (dec v18) (dec a0)) fun v19 =>
K ⟨13, 0, r0, [v19, ⟨3, 0, r0, []⟩]⟩ h15 c16)
theorem R13_eq (Q : PrimW) (fu : Nat) (call : CallW) : curryA 2 (fnK Q Try.prog tys stl fu call e13) = R13 Q.genW Q.subW Q.cmpW Q.condW Q.onG fu call := by kernel_rfl
noncomputable def n13 (call : CallW) : List W → HW → Nat → KW → Bool := appF 2 (R13 genW subW cmpW condW onG 1000000 call)
theorem n13_ok {call : CallW} (h : CallSim Try.prog tys stl tab call) : FnGood Try.prog tys stl tab 13 (n13 call) := node_ok h (by kernel_rfl) rfl g13 (R13_eq real _ _)
/- foghorn/reed.areChecks -/
noncomputable def R28 (q_share : (α : Type) → α → (α → Bool) → Bool) (q_remW : Nat → Nat → Option CV → W → W → (W → Bool) → Bool) (q_cmpW : (Nat → Nat → Bool) → Nat → Option CV → W → W → (W → Bool) → Bool) (q_guardW : Bool → W → Bool → Bool → Bool) (q_pickW : W → W → W → (W → Bool) → Bool) (fu : Nat) (call : CallW) (a0 : W) (h0 : HW) (c0 : Nat) (K : KW) : Bool :=
q_cmpW (cmpF2 .geq) 3 (binC Try.prog .geq 3 (.tmp 3) (.const (.int .i64 (.ofNat 2))) (dec a0) (dec ⟨3, 2, r0, []⟩)) a0 ⟨3, 2, r0, []⟩ fun v1 =>
q_share _ (fun (v3 : W) (h4 : HW) (c5 : Nat) =>
q_share _ (fun (v7 : W) (h8 : HW) (c9 : Nat) =>
q_pickW v1 v7 ⟨8, 0, r0, []⟩ fun v10 =>
q_share _ (fun (v12 : W) (h13 : HW) (c14 : Nat) =>
q_share _ (fun (v16 : W) (h17 : HW) (c18 : Nat) =>
q_share _ (fun (v20 : W) (h21 : HW) (c22 : Nat) =>
q_pickW v10 v20 ⟨8, 0, r0, []⟩ fun v23 =>
K v23 h21 c22) fun f19 =>
q_guardW true v10 (q_cmpW (cmpF2 .eql) 3 (binC Try.prog .eql 3 (.tmp 11) (.const (.int .i64 (.ofNat 0))) (dec v16) (dec ⟨3, 0, r0, []⟩)) v16 ⟨3, 0, r0, []⟩ fun v24 =>
f19 v24 h17 c18) (f19 wUnd h17 c18)) fun f15 =>
q_guardW true v10 (q_remW 3 9223372036854775807 (binC Try.prog .rem 3 (.tmp 10) (.const (.int .i64 (.ofNat 2))) (dec v12) (dec ⟨3, 2, r0, []⟩)) v12 ⟨3, 2, r0, []⟩ fun v25 =>
f15 v25 h13 c14) (f15 wUnd h13 c14)) fun f11 =>
q_guardW true v10 (f11 a0 h8 c9) (f11 wUnd h8 c9)) fun f6 =>
q_guardW true v1 (q_cmpW (cmpF2 .leq) 3 (binC Try.prog .leq 3 (.tmp 6) (.const (.int .i64 (.ofNat 64))) (dec v3) (dec ⟨3, 64, r0, []⟩)) v3 ⟨3, 64, r0, []⟩ fun v26 =>
f6 v26 h4 c5) (f6 wUnd h4 c5)) fun f2 =>
q_guardW true v1 (f2 a0 h0 c0) (f2 wUnd h0 c0)
theorem R28_eq (Q : PrimW) (fu : Nat) (call : CallW) : curryA 1 (fnK Q Try.prog tys stl fu call e28) = R28 Q.share Q.remW Q.cmpW Q.guardW Q.pickW fu call := by kernel_rfl
noncomputable def n28 (call : CallW) : List W → HW → Nat → KW → Bool := appF 1 (R28 (fun _ x f => f x) remW cmpW guardW pickW 1000000 call)
theorem n28_ok {call : CallW} (h : CallSim Try.prog tys stl tab call) : FnGood Try.prog tys stl tab 28 (n28 call) := node_ok h (by kernel_rfl) rfl g28 (R28_eq real _ _)
/- foghorn/reed.isWord -/
noncomputable def R29 (q_share : (α : Type) → α → (α → Bool) → Bool) (q_cmpW : (Nat → Nat → Bool) → Nat → Option CV → W → W → (W → Bool) → Bool) (q_guardW : Bool → W → Bool → Bool → Bool) (q_pickW : W → W → W → (W → Bool) → Bool) (fu : Nat) (call : CallW) (a0 : W) (a1 : W) (h0 : HW) (c0 : Nat) (K : KW) : Bool :=
q_cmpW (cmpF2 .gtr) 3 (binC Try.prog .gtr 3 (.tmp 5) (.tmp 6) (dec a0) (dec a1)) a0 a1 fun v1 =>
q_share _ (fun (v3 : W) (h4 : HW) (c5 : Nat) =>
q_share _ (fun (v7 : W) (h8 : HW) (c9 : Nat) =>
q_pickW v1 v7 ⟨8, 0, r0, []⟩ fun v10 =>
K v10 h8 c9) fun f6 =>
q_guardW true v1 (q_cmpW (cmpF2 .leq) 3 (binC Try.prog .leq 3 (.tmp 9) (.const (.int .i64 (.ofNat 255))) (dec v3) (dec ⟨3, 255, r0, []⟩)) v3 ⟨3, 255, r0, []⟩ fun v11 =>
f6 v11 h4 c5) (f6 wUnd h4 c5)) fun f2 =>
q_guardW true v1 (f2 a0 h0 c0) (f2 wUnd h0 c0)
theorem R29_eq (Q : PrimW) (fu : Nat) (call : CallW) : curryA 2 (fnK Q Try.prog tys stl fu call e29) = R29 Q.share Q.cmpW Q.guardW Q.pickW fu call := by kernel_rfl
noncomputable def n29 (call : CallW) : List W → HW → Nat → KW → Bool := appF 2 (R29 (fun _ x f => f x) cmpW guardW pickW 1000000 call)
theorem n29_ok {call : CallW} (h : CallSim Try.prog tys stl tab call) : FnGood Try.prog tys stl tab 29 (n29 call) := node_ok h (by kernel_rfl) rfl g29 (R29_eq real _ _)
/- foghorn/reed.checking -/
noncomputable def R30 (q_genW : Option CV → (W → Bool) → Bool) (q_tupW : W → (List W → Bool) → Bool) (q_nthW : Nat → List W → (W → Bool) → Bool) (q_loadSW : HW → W → (W → Bool) → Bool) (q_storeSW : HW → W → W → (HW → Bool) → Bool) (q_allocW : Trie W → Nat → Bool → HW → Nat → KW → Bool) (q_boxW : HW → Nat → W → KW → Bool) (fu : Nat) (call : CallW) (a0 : W) (h0 : HW) (c0 : Nat) (K : KW) : Bool :=
q_boxW h0 c0 a0 fun v1 h2 c3 =>
q_loadSW h2 v1 fun v4 =>
call 42 [v4] h2 c3 fun v5 h6 c7 =>
q_tupW v5 fun l8 => q_nthW 0 l8 fun v9 =>
q_tupW v5 fun l10 => q_nthW 1 l10 fun v11 =>
call 35 [v9] h6 c7 fun v12 h13 c14 =>
q_genW (sliceM tys ⟨[], 0, decH h13, 0⟩ 29 (dec v9) (some (dec ⟨3, 1, r0, []⟩)) none none) fun v15 =>
q_allocW (allocT tys 29) 1 true h13 c14 fun v16 h17 c18 =>
q_storeSW h17 v16 v15 fun h19 =>
(fun (v20 : W) =>
K v20 h19 c18) ⟨14, 43, r0, [v1, v16]⟩
theorem R30_eq (Q : PrimW) (fu : Nat) (call : CallW) : curryA 1 (fnK Q Try.prog tys stl fu call e30) = R30 Q.genW Q.tupW Q.nthW Q.loadSW Q.storeSW Q.allocW Q.boxW fu call := by kernel_rfl
noncomputable def n30 (call : CallW) : List W → HW → Nat → KW → Bool := appF 1 (R30 genW tupW nthW loadSW storeSW allocW boxW 1000000 call)
theorem n30_ok {call : CallW} (h : CallSim Try.prog tys stl tab call) : FnGood Try.prog tys stl tab 30 (n30 call) := node_ok h (by kernel_rfl) rfl g30 (R30_eq real _ _)
/- foghorn/reed.Check -/
noncomputable def R31 (q_share : (α : Type) → α → (α → Bool) → Bool) (q_notW : Option CV → W → (W → Bool) → Bool) (q_condW : W → Bool → Bool → Bool) (q_guardW : Bool → W → Bool → Bool → Bool) (q_pickW : W → W → W → (W → Bool) → Bool) (fu : Nat) (call : CallW) (a0 : W) (a1 : W) (h0 : HW) (c0 : Nat) (K : KW) : Bool :=
call 28 [a1] h0 c0 fun v1 h2 c3 =>
q_notW (two Try.prog (dec v1) (Op.unary .not)) v1 fun v4 =>
q_share _ (fun (v6 : W) (h7 : HW) (c8 : Nat) =>
q_share _ (fun (v10 : W) (h11 : HW) (c12 : Nat) =>
q_share _ (fun (v14 : W) (h15 : HW) (c16 : Nat) =>
q_share _ (fun (v18 : W) (h19 : HW) (c20 : Nat) =>
q_pickW v4 ⟨8, 1, r0, []⟩ v18 fun v21 =>
q_condW v21 (
K ⟨3, 1, r0, []⟩ h19 c20) (
K ⟨3, 0, r0, []⟩ h19 c20)) fun f17 =>
q_guardW false v4 (q_notW (two Try.prog (dec v14) (Op.unary .not)) v14 fun v22 =>
f17 v22 h15 c16) (f17 wUnd h15 c16)) fun f13 =>
q_guardW false v4 (call 29 [v6, v10] h11 c12 fun v23 h24 c25 =>
f13 v23 h24 c25) (f13 wUnd h11 c12)) fun f9 =>
q_guardW false v4 (f9 a1 h7 c8) (f9 wUnd h7 c8)) fun f5 =>
q_guardW false v4 (f5 a0 h2 c3) (f5 wUnd h2 c3)
theorem R31_eq (Q : PrimW) (fu : Nat) (call : CallW) : curryA 2 (fnK Q Try.prog tys stl fu call e31) = R31 Q.share Q.notW Q.condW Q.guardW Q.pickW fu call := by kernel_rfl
noncomputable def n31 (call : CallW) : List W → HW → Nat → KW → Bool := appF 2 (R31 (fun _ x f => f x) notW condW guardW pickW 1000000 call)
theorem n31_ok {call : CallW} (h : CallSim Try.prog tys stl tab call) : FnGood Try.prog tys stl tab 31 (n31 call) := node_ok h (by kernel_rfl) rfl g31 (R31_eq real _ _)
/- slices.Reverse[[]uint8,uint8] -/
noncomputable def R35 (q_addW : Nat → Nat → Option CV → W → W → (W → Bool) → Bool) (q_subW : Nat → Nat → Option CV → W → W → (W → Bool) → Bool) (q_cmpW : (Nat → Nat → Bool) → Nat → Option CV → W → W → (W → Bool) → Bool) (q_condW : W → Bool → Bool → Bool) (q_idxSW : Nat → W → W → (W → Bool) → Bool) (q_lenW : Option CV → W → (W → Bool) → Bool) (q_loadSW : HW → W → (W → Bool) → Bool) (q_storeSW : HW → W → W → (HW → Bool) → Bool) (fu : Nat) (call : CallW) (a0 : W) (h0 : HW) (c0 : Nat) (K : KW) : Bool :=
q_lenW (lenC tys 29 (dec a0)) a0 fun v1 =>
q_subW 3 9223372036854775807 (binC Try.prog .sub 3 (.tmp 5) (.const (.int .i64 (.ofNat 1))) (dec v1) (dec ⟨3, 1, r0, []⟩)) v1 ⟨3, 1, r0, []⟩ fun v2 =>
@Nat.rec (fun _ => Fun 2) (fun _ _ _ _ => false) (fun _ f7 v3 v4 h5 c6 =>
q_cmpW (cmpF2 .lss) 3 (binC Try.prog .lss 3 (.tmp 7) (.tmp 8) (dec v3) (dec v4)) v3 v4 fun v8 =>
q_condW v8 (
q_idxSW 1 a0 v4 fun v9 =>
q_loadSW h5 v9 fun v10 =>
q_idxSW 1 a0 v3 fun v11 =>
q_loadSW h5 v11 fun v12 =>
q_idxSW 1 a0 v3 fun v13 =>
q_storeSW h5 v13 v10 fun h14 =>
q_idxSW 1 a0 v4 fun v15 =>
q_storeSW h14 v15 v12 fun h16 =>
q_addW 3 9223372036854775807 (binC Try.prog .add 3 (.tmp 10) (.const (.int .i64 (.ofNat 1))) (dec v3) (dec ⟨3, 1, r0, []⟩)) v3 ⟨3, 1, r0, []⟩ fun v17 =>
q_subW 3 9223372036854775807 (binC Try.prog .sub 3 (.tmp 12) (.const (.int .i64 (.ofNat 1))) (dec v4) (dec ⟨3, 1, r0, []⟩)) v4 ⟨3, 1, r0, []⟩ fun v18 =>
f7 v17 v18 h16 c6) (
K ⟨13, 0, r0, []⟩ h5 c6)) fu ⟨3, 0, r0, []⟩ v2 h0 c0
theorem R35_eq (Q : PrimW) (fu : Nat) (call : CallW) : curryA 1 (fnK Q Try.prog tys stl fu call e35) = R35 Q.addW Q.subW Q.cmpW Q.condW Q.idxSW Q.lenW Q.loadSW Q.storeSW fu call := by kernel_rfl
noncomputable def n35 (call : CallW) : List W → HW → Nat → KW → Bool := appF 1 (R35 addW subW cmpW condW idxSW lenW loadSW storeSW 1000000 call)
theorem n35_ok {call : CallW} (h : CallSim Try.prog tys stl tab call) : FnGood Try.prog tys stl tab 35 (n35 call) := node_ok h (by kernel_rfl) rfl g35 (R35_eq real _ _)
/- foghorn/reed.powers -/
noncomputable def R36 (q_addW : Nat → Nat → Option CV → W → W → (W → Bool) → Bool) (q_cmpW : (Nat → Nat → Bool) → Nat → Option CV → W → W → (W → Bool) → Bool) (q_condW : W → Bool → Bool → Bool) (q_idxSW : Nat → W → W → (W → Bool) → Bool) (q_lenW : Option CV → W → (W → Bool) → Bool) (q_storeSW : HW → W → W → (HW → Bool) → Bool) (q_makeSW : Nat → Nat → Nat → Kind → List W → Bool → HW → Nat → W → W → KW → Bool) (fu : Nat) (call : CallW) (a0 : W) (h0 : HW) (c0 : Nat) (K : KW) : Bool :=
q_makeSW 1 1 4 (.ints .u8) [⟨4, 0, r0, []⟩] true h0 c0 a0 a0 fun v1 h2 c3 =>
q_lenW (lenC tys 29 (dec v1)) v1 fun v4 =>
@Nat.rec (fun _ => Fun 1) (fun _ _ _ => false) (fun _ f8 v5 h6 c7 =>
q_cmpW (cmpF2 .lss) 3 (binC Try.prog .lss 3 (.tmp 9) (.tmp 8) (dec v5) (dec v4)) v5 v4 fun v9 =>
q_condW v9 (
call 45 [v5] h6 c7 fun v10 h11 c12 =>
q_idxSW 1 v1 v5 fun v13 =>
q_storeSW h11 v13 v10 fun h14 =>
q_addW 3 9223372036854775807 (binC Try.prog .add 3 (.tmp 9) (.const (.int .i64 (.ofNat 1))) (dec v5) (dec ⟨3, 1, r0, []⟩)) v5 ⟨3, 1, r0, []⟩ fun v15 =>
f8 v15 h14 c12) (
K v1 h6 c7)) fu ⟨3, 0, r0, []⟩ h2 c3
theorem R36_eq (Q : PrimW) (fu : Nat) (call : CallW) : curryA 1 (fnK Q Try.prog tys stl fu call e36) = R36 Q.addW Q.cmpW Q.condW Q.idxSW Q.lenW Q.storeSW Q.makeSW fu call := by kernel_rfl
noncomputable def n36 (call : CallW) : List W → HW → Nat → KW → Bool := appF 1 (R36 addW cmpW condW idxSW lenW storeSW makeSW 1000000 call)
theorem n36_ok {call : CallW} (h : CallSim Try.prog tys stl tab call) : FnGood Try.prog tys stl tab 36 (n36 call) := node_ok h (by kernel_rfl) rfl g36 (R36_eq real _ _)
/- foghorn/reed.Generator -/
noncomputable def R42 (q_notW : Option CV → W → (W → Bool) → Bool) (q_condW : W → Bool → Bool → Bool) (q_tupW : W → (List W → Bool) → Bool) (q_nthW : Nat → List W → (W → Bool) → Bool) (fu : Nat) (call : CallW) (a0 : W) (h0 : HW) (c0 : Nat) (K : KW) : Bool :=
call 28 [a0] h0 c0 fun v1 h2 c3 =>
q_notW (two Try.prog (dec v1) (Op.unary .not)) v1 fun v4 =>
q_condW v4 (
K ⟨13, 0, r0, [⟨12, 0, ⟨0, 0, 0, .nils⟩, []⟩, ⟨3, 1, r0, []⟩]⟩ h2 c3) (
call 36 [a0] h2 c3 fun v5 h6 c7 =>
call 48 [v5] h6 c7 fun v8 h9 c10 =>
q_tupW v8 fun l11 => q_nthW 0 l11 fun v12 =>
q_tupW v8 fun l13 => q_nthW 1 l13 fun v14 =>
K ⟨13, 0, r0, [v12, v14]⟩ h9 c10)
theorem R42_eq (Q : PrimW) (fu : Nat) (call : CallW) : curryA 1 (fnK Q Try.prog tys stl fu call e42) = R42 Q.notW Q.condW Q.tupW Q.nthW fu call := by kernel_rfl
noncomputable def n42 (call : CallW) : List W → HW → Nat → KW → Bool := appF 1 (R42 notW condW tupW nthW 1000000 call)
theorem n42_ok {call : CallW} (h : CallSim Try.prog tys stl tab call) : FnGood Try.prog tys stl tab 42 (n42 call) := node_ok h (by kernel_rfl) rfl g42 (R42_eq real _ _)
/- foghorn/reed.checking$1 -/
noncomputable def R43 (q_genW : Option CV → (W → Bool) → Bool) (q_addW : Nat → Nat → Option CV → W → W → (W → Bool) → Bool) (q_subW : Nat → Nat → Option CV → W → W → (W → Bool) → Bool) (q_bitW : (Nat → Nat → Nat) → Nat → Nat → Option CV → W → W → (W → Bool) → Bool) (q_cmpW : (Nat → Nat → Bool) → Nat → Option CV → W → W → (W → Bool) → Bool) (q_condW : W → Bool → Bool → Bool) (q_idxSW : Nat → W → W → (W → Bool) → Bool) (q_lenW : Option CV → W → (W → Bool) → Bool) (q_knownW : W → Bool → Bool) (q_loadSW : HW → W → (W → Bool) → Bool) (q_storeSW : HW → W → W → (HW → Bool) → Bool) (q_allocW : Trie W → Nat → Bool → HW → Nat → KW → Bool) (q_cpySW : Nat → HW → Nat → W → W → KW → Bool) (fu : Nat) (call : CallW) (a0 : W) (a1 : W) (a2 : W) (h0 : HW) (c0 : Nat) (K : KW) : Bool :=
q_allocW (allocT tys 64) 64 true h0 c0 fun v1 h2 c3 =>
q_loadSW h2 a1 fun v4 =>
q_genW (sliceM tys ⟨[], 0, decH h2, 0⟩ 64 (dec v1) none (some (dec v4)) none) fun v5 =>
q_genW (lenMC Try.prog tys ⟨[], 0, decH h2, 0⟩ 9 (dec a0)) fun v6 =>
@Nat.rec (fun _ => Fun 1) (fun _ _ _ => false) (fun _ f10 v7 h8 c9 =>
q_cmpW (cmpF2 .lss) 3 (binC Try.prog .lss 3 (.tmp 15) (.tmp 14) (dec v7) (dec v6)) v7 v6 fun v11 =>
q_condW v11 (
q_genW (two2 Try.prog (dec a0) (dec v7) (Instr.index 9)) fun v12 =>
q_idxSW 1 v5 ⟨3, 0, r0, []⟩ fun v13 =>
q_loadSW h8 v13 fun v14 =>
q_bitW Nat.xor 4 255 (binC Try.prog .xor 5 (.tmp 20) (.tmp 23) (dec v12) (dec v14)) v12 v14 fun v15 =>
q_genW (sliceM tys ⟨[], 0, decH h8, 0⟩ 29 (dec v5) (some (dec ⟨3, 1, r0, []⟩)) none none) fun v16 =>
q_cpySW 1 h8 c9 v5 v16 fun v17 h18 c19 =>
q_loadSW h18 a1 fun v20 =>
q_subW 3 9223372036854775807 (binC Try.prog .sub 3 (.tmp 30) (.const (.int .i64 (.ofNat 1))) (dec v20) (dec ⟨3, 1, r0, []⟩)) v20 ⟨3, 1, r0, []⟩ fun v21 =>
q_idxSW 1 v5 v21 fun v22 =>
q_storeSW h18 v22 ⟨4, 0, r0, []⟩ fun h23 =>
q_loadSW h23 a2 fun v24 =>
q_lenW (lenC tys 29 (dec v24)) v24 fun v25 =>
@Nat.rec (fun _ => Fun 1) (fun _ _ _ => false) (fun _ f29 v26 h27 c28 =>
q_cmpW (cmpF2 .lss) 3 (binC Try.prog .lss 3 (.tmp 35) (.tmp 34) (dec v26) (dec v25)) v26 v25 fun v30 =>
q_condW v30 (
q_idxSW 1 v24 v26 fun v31 =>
q_loadSW h27 v31 fun v32 =>
q_idxSW 1 v5 v26 fun v33 =>
q_loadSW h27 v33 fun v34 =>
call 44 [v15, v32] h27 c28 fun v35 _ _ => q_knownW v35 (
q_bitW Nat.xor 4 255 (binC Try.prog .xor 5 (.tmp 43) (.tmp 46) (dec v34) (dec v35)) v34 v35 fun v36 =>
q_idxSW 1 v5 v26 fun v37 =>
q_storeSW h27 v37 v36 fun h38 =>
q_addW 3 9223372036854775807 (binC Try.prog .add 3 (.tmp 35) (.const (.int .i64 (.ofNat 1))) (dec v26) (dec ⟨3, 1, r0, []⟩)) v26 ⟨3, 1, r0, []⟩ fun v39 =>
f29 v39 h38 c28)) (
q_addW 3 9223372036854775807 (binC Try.prog .add 3 (.tmp 15) (.const (.int .i64 (.ofNat 1))) (dec v7) (dec ⟨3, 1, r0, []⟩)) v7 ⟨3, 1, r0, []⟩ fun v40 =>
f10 v40 h27 c28)) fu ⟨3, 0, r0, []⟩ h23 c19) (
K v5 h8 c9)) fu ⟨3, 0, r0, []⟩ h2 c3
theorem R43_eq (Q : PrimW) (fu : Nat) (call : CallW) : curryA 3 (fnK Q Try.prog tys stl fu call e43) = R43 Q.genW Q.addW Q.subW Q.bitW Q.cmpW Q.condW Q.idxSW Q.lenW Q.knownW Q.loadSW Q.storeSW Q.allocW Q.cpySW fu call := by kernel_rfl
noncomputable def n43 (call : CallW) : List W → HW → Nat → KW → Bool := appF 3 (R43 genW addW subW bitW cmpW condW idxSW lenW knownW loadSW storeSW allocW cpySW 1000000 call)
theorem n43_ok {call : CallW} (h : CallSim Try.prog tys stl tab call) : FnGood Try.prog tys stl tab 43 (n43 call) := node_ok h (by kernel_rfl) rfl g43 (R43_eq real _ _)
/- foghorn/field.Times -/
noncomputable def R44 (q_bitW : (Nat → Nat → Nat) → Nat → Nat → Option CV → W → W → (W → Bool) → Bool) (q_cmpW : (Nat → Nat → Bool) → Nat → Option CV → W → W → (W → Bool) → Bool) (q_shlW : Nat → Nat → Nat → Option CV → W → W → (W → Bool) → Bool) (q_shrW : Nat → Nat → Option CV → W → W → (W → Bool) → Bool) (q_negW : Nat → Nat → Bool → Option CV → W → (W → Bool) → Bool) (q_condW : W → Bool → Bool → Bool) (fu : Nat) (call : CallW) (a0 : W) (a1 : W) (h0 : HW) (c0 : Nat) (K : KW) : Bool :=
@Nat.rec (fun _ => Fun 3) (fun _ _ _ _ _ => false) (fun _ f6 v1 v2 v3 h4 c5 =>
q_cmpW (cmpF2 .neq) 4 (binC Try.prog .neq 5 (.tmp 7) (.const (.int .u8 (.ofNat 0))) (dec v2) (dec ⟨4, 0, r0, []⟩)) v2 ⟨4, 0, r0, []⟩ fun v7 =>
q_condW v7 (
q_bitW Nat.land 4 255 (binC Try.prog .and 5 (.tmp 13) (.const (.int .u8 (.ofNat 1))) (dec v2) (dec ⟨4, 1, r0, []⟩)) v2 ⟨4, 1, r0, []⟩ fun v8 =>
q_negW 4 255 true (two Try.prog (dec v8) (Op.unary .neg)) v8 fun v9 =>
q_bitW Nat.land 4 255 (binC Try.prog .and 5 (.tmp 12) (.tmp 15) (dec v1) (dec v9)) v1 v9 fun v10 =>
q_bitW Nat.xor 4 255 (binC Try.prog .xor 5 (.tmp 11) (.tmp 16) (dec v3) (dec v10)) v3 v10 fun v11 =>
q_shrW 4 8 (binC Try.prog .shr 5 (.tmp 18) (.const (.int .u64 (.ofNat 7))) (dec v1) (dec ⟨7, 7, r0, []⟩)) v1 ⟨7, 7, r0, []⟩ fun v12 =>
q_negW 4 255 true (two Try.prog (dec v12) (Op.unary .neg)) v12 fun v13 =>
q_bitW Nat.land 4 255 (binC Try.prog .and 5 (.const (.int .u8 (.ofNat 29))) (.tmp 20) (dec ⟨4, 29, r0, []⟩) (dec v13)) ⟨4, 29, r0, []⟩ v13 fun v14 =>
q_shlW 4 255 8 (binC Try.prog .shl 5 (.tmp 22) (.const (.int .u64 (.ofNat 1))) (dec v1) (dec ⟨7, 1, r0, []⟩)) v1 ⟨7, 1, r0, []⟩ fun v15 =>
q_bitW Nat.xor 4 255 (binC Try.prog .xor 5 (.tmp 24) (.tmp 25) (dec v15) (dec v14)) v15 v14 fun v16 =>
q_shrW 4 8 (binC Try.prog .shr 5 (.tmp 9) (.const (.int .u64 (.ofNat 1))) (dec v2) (dec ⟨7, 1, r0, []⟩)) v2 ⟨7, 1, r0, []⟩ fun v17 =>
f6 v16 v17 v11 h4 c5) (
K v3 h4 c5)) fu a0 a1 ⟨4, 0, r0, []⟩ h0 c0
theorem R44_eq (Q : PrimW) (fu : Nat) (call : CallW) : curryA 2 (fnK Q Try.prog tys stl fu call e44) = R44 Q.bitW Q.cmpW Q.shlW Q.shrW Q.negW Q.condW fu call := by kernel_rfl
noncomputable def n44 (call : CallW) : List W → HW → Nat → KW → Bool := appF 2 (R44 bitW cmpW shlW shrW negW condW 1000000 call)
theorem n44_ok {call : CallW} (h : CallSim Try.prog tys stl tab call) : FnGood Try.prog tys stl tab 44 (n44 call) := node_ok h (by kernel_rfl) rfl g44 (R44_eq real _ _)
/- foghorn/field.Exp -/
noncomputable def R45 (fu : Nat) (call : CallW) (a0 : W) (h0 : HW) (c0 : Nat) (K : KW) : Bool :=
call 50 [a0] h0 c0 fun v1 h2 c3 =>
call 49 [⟨4, 2, r0, []⟩, v1] h2 c3 fun v4 h5 c6 =>
K v4 h5 c6
theorem R45_eq (Q : PrimW) (fu : Nat) (call : CallW) : curryA 1 (fnK Q Try.prog tys stl fu call e45) = R45 fu call := by kernel_rfl
noncomputable def n45 (call : CallW) : List W → HW → Nat → KW → Bool := appF 1 (R45 1000000 call)
theorem n45_ok {call : CallW} (h : CallSim Try.prog tys stl tab call) : FnGood Try.prog tys stl tab 45 (n45 call) := node_ok h (by kernel_rfl) rfl g45 (R45_eq real _ _)
/- foghorn/field.Of -/
noncomputable def R48 (q_cmpW : (Nat → Nat → Bool) → Nat → Option CV → W → W → (W → Bool) → Bool) (q_condW : W → Bool → Bool → Bool) (q_lenW : Option CV → W → (W → Bool) → Bool) (fu : Nat) (call : CallW) (a0 : W) (h0 : HW) (c0 : Nat) (K : KW) : Bool :=
q_lenW (lenC tys 29 (dec a0)) a0 fun v1 =>
q_cmpW (cmpF2 .geq) 3 (binC Try.prog .geq 3 (.tmp 5) (.const (.int .i64 (.ofNat 512))) (dec v1) (dec ⟨3, 512, r0, []⟩)) v1 ⟨3, 512, r0, []⟩ fun v2 =>
q_condW v2 (
K ⟨13, 0, r0, [⟨12, 0, ⟨0, 0, 0, .nils⟩, []⟩, ⟨3, 1, r0, []⟩]⟩ h0 c0) (
call 53 [a0] h0 c0 fun v3 h4 c5 =>
K ⟨13, 0, r0, [v3, ⟨3, 0, r0, []⟩]⟩ h4 c5)
theorem R48_eq (Q : PrimW) (fu : Nat) (call : CallW) : curryA 1 (fnK Q Try.prog tys stl fu call e48) = R48 Q.cmpW Q.condW Q.lenW fu call := by kernel_rfl
noncomputable def n48 (call : CallW) : List W → HW → Nat → KW → Bool := appF 1 (R48 cmpW condW lenW 1000000 call)
theorem n48_ok {call : CallW} (h : CallSim Try.prog tys stl tab call) : FnGood Try.prog tys stl tab 48 (n48 call) := node_ok h (by kernel_rfl) rfl g48 (R48_eq real _ _)
/- foghorn/field.power -/
noncomputable def R49 (q_share : (α : Type) → α → (α → Bool) → Bool) (q_bitW : (Nat → Nat → Nat) → Nat → Nat → Option CV → W → W → (W → Bool) → Bool) (q_cmpW : (Nat → Nat → Bool) → Nat → Option CV → W → W → (W → Bool) → Bool) (q_shrW : Nat → Nat → Option CV → W → W → (W → Bool) → Bool) (q_condW : W → Bool → Bool → Bool) (fu : Nat) (call : CallW) (a0 : W) (a1 : W) (h0 : HW) (c0 : Nat) (K : KW) : Bool :=
@Nat.rec (fun _ => Fun 3) (fun _ _ _ _ _ => false) (fun _ f6 v1 v2 v3 h4 c5 =>
q_cmpW (cmpF2 .gtr) 3 (binC Try.prog .gtr 3 (.tmp 6) (.const (.int .i64 (.ofNat 0))) (dec v2) (dec ⟨3, 0, r0, []⟩)) v2 ⟨3, 0, r0, []⟩ fun v7 =>
q_condW v7 (
q_share _ (fun (v8 : W) (h9 : HW) (c10 : Nat) =>
call 44 [v1, v1] h9 c10 fun v12 h13 c14 =>
q_shrW 3 64 (binC Try.prog .shr 3 (.tmp 8) (.const (.int .u64 (.ofNat 1))) (dec v2) (dec ⟨7, 1, r0, []⟩)) v2 ⟨7, 1, r0, []⟩ fun v15 =>
f6 v12 v15 v8 h13 c14) fun f11 =>
q_bitW Nat.land 3 9223372036854775807 (binC Try.prog .and 3 (.tmp 10) (.const (.int .i64 (.ofNat 1))) (dec v2) (dec ⟨3, 1, r0, []⟩)) v2 ⟨3, 1, r0, []⟩ fun v16 =>
q_cmpW (cmpF2 .neq) 3 (binC Try.prog .neq 3 (.tmp 11) (.const (.int .i64 (.ofNat 0))) (dec v16) (dec ⟨3, 0, r0, []⟩)) v16 ⟨3, 0, r0, []⟩ fun v17 =>
q_condW v17 (
call 44 [v3, v1] h4 c5 fun v18 h19 c20 =>
f11 v18 h19 c20) (
f11 v3 h4 c5)) (
K v3 h4 c5)) fu a0 a1 ⟨4, 1, r0, []⟩ h0 c0
theorem R49_eq (Q : PrimW) (fu : Nat) (call : CallW) : curryA 2 (fnK Q Try.prog tys stl fu call e49) = R49 Q.share Q.bitW Q.cmpW Q.shrW Q.condW fu call := by kernel_rfl
noncomputable def n49 (call : CallW) : List W → HW → Nat → KW → Bool := appF 2 (R49 (fun _ x f => f x) bitW cmpW shrW condW 1000000 call)
theorem n49_ok {call : CallW} (h : CallSim Try.prog tys stl tab call) : FnGood Try.prog tys stl tab 49 (n49 call) := node_ok h (by kernel_rfl) rfl g49 (R49_eq real _ _)
/- foghorn/field.turned -/
noncomputable def R50 (q_share : (α : Type) → α → (α → Bool) → Bool) (q_addW : Nat → Nat → Option CV → W → W → (W → Bool) → Bool) (q_remW : Nat → Nat → Option CV → W → W → (W → Bool) → Bool) (q_cmpW : (Nat → Nat → Bool) → Nat → Option CV → W → W → (W → Bool) → Bool) (q_condW : W → Bool → Bool → Bool) (fu : Nat) (call : CallW) (a0 : W) (h0 : HW) (c0 : Nat) (K : KW) : Bool :=
q_remW 3 9223372036854775807 (binC Try.prog .rem 3 (.tmp 3) (.const (.int .i64 (.ofNat 255))) (dec a0) (dec ⟨3, 255, r0, []⟩)) a0 ⟨3, 255, r0, []⟩ fun v1 =>
q_share _ (fun (v2 : W) (h3 : HW) (c4 : Nat) =>
K v2 h3 c4) fun f5 =>
q_cmpW (cmpF2 .lss) 3 (binC Try.prog .lss 3 (.tmp 5) (.const (.int .i64 (.ofNat 0))) (dec v1) (dec ⟨3, 0, r0, []⟩)) v1 ⟨3, 0, r0, []⟩ fun v6 =>
q_condW v6 (
q_addW 3 9223372036854775807 (binC Try.prog .add 3 (.tmp 7) (.const (.int .i64 (.ofNat 255))) (dec v1) (dec ⟨3, 255, r0, []⟩)) v1 ⟨3, 255, r0, []⟩ fun v7 =>
f5 v7 h0 c0) (
f5 v1 h0 c0)
theorem R50_eq (Q : PrimW) (fu : Nat) (call : CallW) : curryA 1 (fnK Q Try.prog tys stl fu call e50) = R50 Q.share Q.addW Q.remW Q.cmpW Q.condW fu call := by kernel_rfl
noncomputable def n50 (call : CallW) : List W → HW → Nat → KW → Bool := appF 1 (R50 (fun _ x f => f x) addW remW cmpW condW 1000000 call)
theorem n50_ok {call : CallW} (h : CallSim Try.prog tys stl tab call) : FnGood Try.prog tys stl tab 50 (n50 call) := node_ok h (by kernel_rfl) rfl g50 (R50_eq real _ _)
/- foghorn/field.of -/
noncomputable def R53 (q_addW : Nat → Nat → Option CV → W → W → (W → Bool) → Bool) (q_subW : Nat → Nat → Option CV → W → W → (W → Bool) → Bool) (q_bitW : (Nat → Nat → Nat) → Nat → Nat → Option CV → W → W → (W → Bool) → Bool) (q_cmpW : (Nat → Nat → Bool) → Nat → Option CV → W → W → (W → Bool) → Bool) (q_condW : W → Bool → Bool → Bool) (q_idxSW : Nat → W → W → (W → Bool) → Bool) (q_lenW : Option CV → W → (W → Bool) → Bool) (q_knownW : W → Bool → Bool) (q_killVW : W → HW → (HW → Bool) → Bool) (q_loadSW : HW → W → (W → Bool) → Bool) (q_storeSW : HW → W → W → (HW → Bool) → Bool) (q_makeSW : Nat → Nat → Nat → Kind → List W → Bool → HW → Nat → W → W → KW → Bool) (q_buildSW : Nat → Nat → Kind → Nat → Bool → HW → Nat → Nat → List W → KW → Bool) (q_appSW : Nat → Nat → (Kind → Bool) → Bool → HW → Nat → W → W → Bool → KW → Bool) (fu : Nat) (call : CallW) (a0 : W) (h0 : HW) (c0 : Nat) (K : KW) : Bool :=
q_lenW (lenC tys 29 (dec a0)) a0 fun v1 =>
q_addW 3 9223372036854775807 (binC Try.prog .add 3 (.tmp 8) (.const (.int .i64 (.ofNat 1))) (dec v1) (dec ⟨3, 1, r0, []⟩)) v1 ⟨3, 1, r0, []⟩ fun v2 =>
q_makeSW 1 1 4 (.ints .u8) [⟨4, 0, r0, []⟩] true h0 c0 ⟨3, 1, r0, []⟩ v2 fun v3 h4 c5 =>
q_idxSW 1 v3 ⟨3, 0, r0, []⟩ fun v6 =>
q_storeSW h4 v6 ⟨4, 1, r0, []⟩ fun h7 =>
q_lenW (lenC tys 29 (dec a0)) a0 fun v8 =>
@Nat.rec (fun _ => Fun 2) (fun _ _ _ _ => false) (fun _ f13 v9 v10 h11 c12 =>
q_cmpW (cmpF2 .lss) 3 (binC Try.prog .lss 3 (.tmp 15) (.tmp 14) (dec v10) (dec v8)) v10 v8 fun v14 =>
q_condW v14 (
q_idxSW 1 a0 v10 fun v15 =>
q_loadSW h11 v15 fun v16 =>
q_buildSW 1 4 (.ints .u8) 1 true h11 c12 1 [⟨4, 0, r0, []⟩] fun v17 h18 c19 =>
q_appSW 1 1 (appKindOk (elemJ tys 29)) false h18 c19 v9 v17 false fun v20 h21 c22 =>
q_killVW v17 h21 fun h23 =>
q_lenW (lenC tys 29 (dec v20)) v20 fun v24 =>
q_subW 3 9223372036854775807 (binC Try.prog .sub 3 (.tmp 23) (.const (.int .i64 (.ofNat 1))) (dec v24) (dec ⟨3, 1, r0, []⟩)) v24 ⟨3, 1, r0, []⟩ fun v25 =>
@Nat.rec (fun _ => Fun 1) (fun _ _ _ => false) (fun _ f29 v26 h27 c28 =>
q_cmpW (cmpF2 .gtr) 3 (binC Try.prog .gtr 3 (.tmp 25) (.const (.int .i64 (.ofNat 0))) (dec v26) (dec ⟨3, 0, r0, []⟩)) v26 ⟨3, 0, r0, []⟩ fun v30 =>
q_condW v30 (
q_subW 3 9223372036854775807 (binC Try.prog .sub 3 (.tmp 32) (.const (.int .i64 (.ofNat 1))) (dec v26) (dec ⟨3, 1, r0, []⟩)) v26 ⟨3, 1, r0, []⟩ fun v31 =>
q_idxSW 1 v20 v31 fun v32 =>
q_loadSW h27 v32 fun v33 =>
q_idxSW 1 v20 v26 fun v34 =>
q_loadSW h27 v34 fun v35 =>
call 44 [v35, v16] h27 c28 fun v36 _ _ => q_knownW v36 (
q_bitW Nat.xor 4 255 (binC Try.prog .xor 5 (.tmp 35) (.tmp 41) (dec v33) (dec v36)) v33 v36 fun v37 =>
q_idxSW 1 v20 v26 fun v38 =>
q_storeSW h27 v38 v37 fun h39 =>
q_subW 3 9223372036854775807 (binC Try.prog .sub 3 (.tmp 27) (.const (.int .i64 (.ofNat 1))) (dec v26) (dec ⟨3, 1, r0, []⟩)) v26 ⟨3, 1, r0, []⟩ fun v40 =>
f29 v40 h39 c28)) (
q_idxSW 1 v20 ⟨3, 0, r0, []⟩ fun v41 =>
q_loadSW h27 v41 fun v42 =>
call 44 [v42, v16] h27 c28 fun v43 h44 c45 =>
q_idxSW 1 v20 ⟨3, 0, r0, []⟩ fun v46 =>
q_storeSW h44 v46 v43 fun h47 =>
q_addW 3 9223372036854775807 (binC Try.prog .add 3 (.tmp 15) (.const (.int .i64 (.ofNat 1))) (dec v10) (dec ⟨3, 1, r0, []⟩)) v10 ⟨3, 1, r0, []⟩ fun v48 =>
f13 v20 v48 h47 c45)) fu v25 h23 c22) (
K v9 h11 c12)) fu v3 ⟨3, 0, r0, []⟩ h7 c5
theorem R53_eq (Q : PrimW) (fu : Nat) (call : CallW) : curryA 1 (fnK Q Try.prog tys stl fu call e53) = R53 Q.addW Q.subW Q.bitW Q.cmpW Q.condW Q.idxSW Q.lenW Q.knownW Q.killVW Q.loadSW Q.storeSW Q.makeSW Q.buildSW Q.appSW fu call := by kernel_rfl
noncomputable def n53 (call : CallW) : List W → HW → Nat → KW → Bool := appF 1 (R53 addW subW bitW cmpW condW idxSW lenW knownW killVW loadSW storeSW makeSW buildSW appSW 1000000 call)
theorem n53_ok {call : CallW} (h : CallSim Try.prog tys stl tab call) : FnGood Try.prog tys stl tab 53 (n53 call) := node_ok h (by kernel_rfl) rfl g53 (R53_eq real _ _)
noncomputable def dS (call : CallW) : Disp := (.node 36 (n36 call) (.node 29 (n29 call) (.node 13 (n13 call) (.node 11 (n11 call) (.node 9 (n9 call) .leaf .leaf) .leaf) (.node 28 (n28 call) .leaf .leaf)) (.node 31 (n31 call) (.node 30 (n30 call) .leaf .leaf) (.node 35 (n35 call) .leaf .leaf))) (.node 48 (n48 call) (.node 44 (n44 call) (.node 43 (n43 call) (.node 42 (n42 call) .leaf .leaf) .leaf) (.node 45 (n45 call) .leaf .leaf)) (.node 50 (n50 call) (.node 49 (n49 call) .leaf .leaf) (.node 53 (n53 call) .leaf .leaf))))
theorem dS_ok {call : CallW} (h : CallSim Try.prog tys stl tab call) : CallSim Try.prog tys stl tab (dS call).fn := Disp.sim (t := dS call) ⟨n36_ok h, ⟨n29_ok h, ⟨n13_ok h, ⟨n11_ok h, ⟨n9_ok h, True.intro, True.intro⟩, True.intro⟩, ⟨n28_ok h, True.intro, True.intro⟩⟩, ⟨n31_ok h, ⟨n30_ok h, True.intro, True.intro⟩, ⟨n35_ok h, True.intro, True.intro⟩⟩⟩, ⟨n48_ok h, ⟨n44_ok h, ⟨n43_ok h, ⟨n42_ok h, True.intro, True.intro⟩, True.intro⟩, ⟨n45_ok h, True.intro, True.intro⟩⟩, ⟨n50_ok h, ⟨n49_ok h, True.intro, True.intro⟩, ⟨n53_ok h, True.intro, True.intro⟩⟩⟩⟩
noncomputable def dR (m : Nat) : Disp := @Nat.rec (fun _ => Disp) .leaf (fun _ ih => dS ih.fn) m
theorem dR_ok : ∀ m, CallSim Try.prog tys stl tab (dR m).fn
  | 0 => d0_ok
  | m + 1 => dS_ok (dR_ok m)
noncomputable abbrev dT : Disp := dR 200
theorem dT_ok : CallSim Try.prog tys stl tab dT.fn := dR_ok _
set_option maxHeartbeats 0 in
theorem run9 : lawK dT.fn 9 = true := by kernel_rfl
theorem awake_f : Fits Try.prog 9 ⟨[], [], [⟨Unit, fun _ => True, fun _ => .bool true, fun _ => []⟩]⟩ :=
  lawK_fits tok mixed fok dT_ok (by kernel_rfl : tab 9 = some e9) rfl run9
end Go.Proofs.Ytnjfipdhkjkklaa
