/-
  The functions that the run goes through, as tables, and the run of a function without arguments. No condition.
-/
import Derived.Test.YtdahkhhngaanfaaRows
import Derived.Test.YtdahkhhngaanfaaGx
set_option linter.unusedVariables false
set_option maxRecDepth 1000000
namespace Go.Proofs.Ytdahkhhngaanfaa
open Go Go.Fw
def tys : List (Nat × TyI) := [
  (1, ⟨.func, 1, 8, .nilFunc⟩),
  (2, ⟨.int .i64, 1, 8, .int .i64 0⟩),
  (3, ⟨.int .i64, 1, 8, .int .i64 0⟩),
  (4, ⟨.bool, 1, 1, .bool false⟩),
  (5, ⟨.int .u8, 1, 1, .int .u8 0⟩),
  (9, ⟨.str, 1, 16, .string (ByteArray.mk #[])⟩),
  (12, ⟨.int .u64, 1, 8, .int .u64 0⟩),
  (21, ⟨.int .i32, 1, 4, .int .i32 0⟩),
  (22, ⟨.int .u32, 1, 4, .int .u32 0⟩),
  (23, ⟨.func, 1, 8, .nilFunc⟩),
  (25, ⟨.func, 1, 8, .nilFunc⟩),
  (26, ⟨.ptr 61, 1, 8, .pointer none⟩),
  (27, ⟨.int .i64, 1, 8, .int .i64 0⟩),
  (29, ⟨.func, 1, 8, .nilFunc⟩),
  (30, ⟨.slice 4, 1, 24, .slice none 0 0⟩),
  (32, ⟨.func, 1, 8, .nilFunc⟩),
  (33, ⟨.func, 1, 8, .nilFunc⟩),
  (34, ⟨.func, 1, 8, .nilFunc⟩),
  (35, ⟨.func, 1, 8, .nilFunc⟩),
  (36, ⟨.int .u64, 1, 8, .int .u64 0⟩),
  (37, ⟨.func, 1, 8, .nilFunc⟩),
  (38, ⟨.func, 1, 8, .nilFunc⟩),
  (39, ⟨.func, 1, 8, .nilFunc⟩),
  (40, ⟨.func, 1, 8, .nilFunc⟩),
  (42, ⟨.func, 1, 8, .nilFunc⟩),
  (44, ⟨.func, 1, 8, .nilFunc⟩),
  (45, ⟨.func, 1, 8, .nilFunc⟩),
  (46, ⟨.func, 1, 8, .nilFunc⟩),
  (47, ⟨.func, 1, 8, .nilFunc⟩),
  (48, ⟨.slice 55, 1, 24, .slice none 0 0⟩),
  (49, ⟨.ptr 70, 1, 8, .pointer none⟩),
  (51, ⟨.func, 1, 8, .nilFunc⟩),
  (52, ⟨.func, 1, 8, .nilFunc⟩),
  (53, ⟨.func, 1, 8, .nilFunc⟩),
  (54, ⟨.struct [(0, 5), (1, 3), (2, 2), (3, 30)], 4, 48, .agg #[.int .u8 0, .int .i64 0, .int .i64 0, .slice none 0 0]⟩),
  (55, ⟨.struct [(0, 5), (1, 3), (2, 2), (3, 30)], 4, 48, .agg #[.int .u8 0, .int .i64 0, .int .i64 0, .slice none 0 0]⟩),
  (56, ⟨.func, 1, 8, .nilFunc⟩),
  (57, ⟨.func, 1, 8, .nilFunc⟩),
  (58, ⟨.func, 1, 8, .nilFunc⟩),
  (59, ⟨.func, 1, 8, .nilFunc⟩),
  (60, ⟨.struct [(0, 36), (1, 22), (2, 22)], 3, 16, .agg #[.int .u64 0, .int .u32 0, .int .u32 0]⟩),
  (61, ⟨.struct [(0, 36), (1, 22), (2, 22)], 3, 16, .agg #[.int .u64 0, .int .u32 0, .int .u32 0]⟩),
  (62, ⟨.func, 1, 8, .nilFunc⟩),
  (63, ⟨.func, 1, 8, .nilFunc⟩),
  (64, ⟨.int .u64, 1, 8, .int .u64 0⟩),
  (65, ⟨.array 32 22, 32, 128, .agg ⟨List.replicate 32 (.int .u32 0)⟩⟩),
  (66, ⟨.array 32 22, 32, 128, .agg ⟨List.replicate 32 (.int .u32 0)⟩⟩),
  (67, ⟨.func, 1, 8, .nilFunc⟩),
  (68, ⟨.func, 1, 8, .nilFunc⟩),
  (69, ⟨.struct [(0, 30), (1, 30)], 2, 48, .agg #[.slice none 0 0, .slice none 0 0]⟩),
  (70, ⟨.struct [(0, 30), (1, 30)], 2, 48, .agg #[.slice none 0 0, .slice none 0 0]⟩),
  (71, ⟨.func, 1, 8, .nilFunc⟩),
  (72, ⟨.func, 1, 8, .nilFunc⟩),
  (73, ⟨.slice 22, 1, 24, .slice none 0 0⟩),
  (74, ⟨.func, 1, 8, .nilFunc⟩),
  (75, ⟨.func, 1, 8, .nilFunc⟩),
  (76, ⟨.func, 1, 8, .nilFunc⟩),
  (82, ⟨.func, 1, 8, .nilFunc⟩),
  (85, ⟨.func, 1, 8, .nilFunc⟩),
  (86, ⟨.ptr 5, 1, 8, .pointer none⟩)]


theorem tok : TOk Try.prog tys := tok_of ⟨⟨by kernel_rfl, by kernel_rfl⟩, ⟨by kernel_rfl, by kernel_rfl⟩, ⟨by kernel_rfl, by kernel_rfl⟩, ⟨by kernel_rfl, by kernel_rfl⟩, ⟨by kernel_rfl, by kernel_rfl⟩, ⟨by kernel_rfl, by kernel_rfl⟩, ⟨by kernel_rfl, by kernel_rfl⟩, ⟨by kernel_rfl, by kernel_rfl⟩, ⟨by kernel_rfl, by kernel_rfl⟩, ⟨by kernel_rfl, by kernel_rfl⟩, ⟨by kernel_rfl, by kernel_rfl⟩, ⟨by kernel_rfl, by kernel_rfl⟩, ⟨by kernel_rfl, by kernel_rfl⟩, ⟨by kernel_rfl, by kernel_rfl⟩, ⟨by kernel_rfl, by kernel_rfl⟩, ⟨by kernel_rfl, by kernel_rfl⟩, ⟨by kernel_rfl, by kernel_rfl⟩, ⟨by kernel_rfl, by kernel_rfl⟩, ⟨by kernel_rfl, by kernel_rfl⟩, ⟨by kernel_rfl, by kernel_rfl⟩, ⟨by kernel_rfl, by kernel_rfl⟩, ⟨by kernel_rfl, by kernel_rfl⟩, ⟨by kernel_rfl, by kernel_rfl⟩, ⟨by kernel_rfl, by kernel_rfl⟩, ⟨by kernel_rfl, by kernel_rfl⟩, ⟨by kernel_rfl, by kernel_rfl⟩, ⟨by kernel_rfl, by kernel_rfl⟩, ⟨by kernel_rfl, by kernel_rfl⟩, ⟨by kernel_rfl, by kernel_rfl⟩, ⟨by kernel_rfl, by kernel_rfl⟩, ⟨by kernel_rfl, by kernel_rfl⟩, ⟨by kernel_rfl, by kernel_rfl⟩, ⟨by kernel_rfl, by kernel_rfl⟩, ⟨by kernel_rfl, by kernel_rfl⟩, ⟨by kernel_rfl, by kernel_rfl⟩, ⟨by kernel_rfl, by kernel_rfl⟩, ⟨by kernel_rfl, by kernel_rfl⟩, ⟨by kernel_rfl, by kernel_rfl⟩, ⟨by kernel_rfl, by kernel_rfl⟩, ⟨by kernel_rfl, by kernel_rfl⟩, ⟨by kernel_rfl, by kernel_rfl⟩, ⟨by kernel_rfl, by kernel_rfl⟩, ⟨by kernel_rfl, by kernel_rfl⟩, ⟨by kernel_rfl, by kernel_rfl⟩, ⟨by kernel_rfl, by kernel_rfl⟩, ⟨by kernel_rfl, by kernel_rfl⟩, ⟨by kernel_rfl, by kernel_rfl⟩, ⟨by kernel_rfl, by kernel_rfl⟩, ⟨by kernel_rfl, by kernel_rfl⟩, ⟨by kernel_rfl, by kernel_rfl⟩, ⟨by kernel_rfl, by kernel_rfl⟩, ⟨by kernel_rfl, by kernel_rfl⟩, ⟨by kernel_rfl, by kernel_rfl⟩, ⟨by kernel_rfl, by kernel_rfl⟩, ⟨by kernel_rfl, by kernel_rfl⟩, ⟨by kernel_rfl, by kernel_rfl⟩, ⟨by kernel_rfl, by kernel_rfl⟩, ⟨by kernel_rfl, by kernel_rfl⟩, ⟨by kernel_rfl, by kernel_rfl⟩, ⟨by kernel_rfl, by kernel_rfl⟩, True.intro⟩
theorem mixed : Try.prog.follows .mixedOrders = true := by kernel_rfl
def inL : List Nat → Nat → Bool
  | [], _ => false
  | a :: r, n => match Nat.beq a n with | true => true | false => inL r n
def stl : Nat → Bool := inL [12, 27]
/- 8: foghorn/foghornlaw16.works -/
def p8 : Nat → Option PlanC := fun _ => none
def wl8 : Nat → List Nat := fun _ => []
def wj8 : Nat → Option (List Nat) := fun _ => none
def kr8 : Nat → List Nat := fun _ => []
noncomputable def e8 : Ent := entOf Try.f8 ⟨p8, wl8, wj8, kr8, []⟩
theorem g8 : EntOk Try.prog tys stl 8 e8 := .inr ⟨rfl, Try.func8, by kernel_rfl, by kernel_rfl, by kernel_rfl, by kernel_rfl, by kernel_rfl, rfl⟩
/- 10: foghorn/scramble.New -/
def p10 : Nat → Option PlanC := fun _ => none
def wl10 : Nat → List Nat := fun _ => []
def wj10 : Nat → Option (List Nat) := fun _ => none
def kr10 : Nat → List Nat := fun _ => []
noncomputable def e10 : Ent := entOf Try.f10 ⟨p10, wl10, wj10, kr10, []⟩
theorem g10 : EntOk Try.prog tys stl 10 e10 := .inr ⟨rfl, Try.func10, by kernel_rfl, by kernel_rfl, by kernel_rfl, by kernel_rfl, by kernel_rfl, rfl⟩
/- 11: (*foghorn/scramble.Register).Row -/
def p11 : Nat → Option PlanC := fun
  | 10 => some (.op 1 false (.op 2 false (.op 3 false (.op 4 false (.op 5 false (.op 6 false (.op 7 false (.op 0 true (.op 8 false (.op 9 false (.op 10 false (.op 11 false (.done)))))))))))))
  | _ => none
def wl11 : Nat → List Nat := fun
  | 7 => [19]
  | _ => []
def wj11 : Nat → Option (List Nat) := fun _ => none
def kr11 : Nat → List Nat := fun _ => []
noncomputable def e11 : Ent := entOf Try.f11 ⟨p11, wl11, wj11, kr11, []⟩
theorem g11 : EntOk Try.prog tys stl 11 e11 := .inr ⟨rfl, Try.func11, by kernel_rfl, by kernel_rfl, by kernel_rfl, by kernel_rfl, by kernel_rfl, rfl⟩
/- 12: (*foghorn/scramble.Register).State -/
def p12 : Nat → Option PlanC := fun _ => none
def wl12 : Nat → List Nat := fun _ => []
def wj12 : Nat → Option (List Nat) := fun _ => none
def kr12 : Nat → List Nat := fun _ => []
noncomputable def e12 : Ent := entOf Try.f12 ⟨p12, wl12, wj12, kr12, []⟩
theorem g12 : EntOk Try.prog tys stl 12 e12 := .inr ⟨rfl, Try.func12, by kernel_rfl, by kernel_rfl, by kernel_rfl, by kernel_rfl, by kernel_rfl, rfl⟩
/- 15: foghorn/foghornlaw16.sameBits -/
def p15 : Nat → Option PlanC := fun _ => none
def wl15 : Nat → List Nat := fun
  | 4 => [5]
  | _ => []
def wj15 : Nat → Option (List Nat) := fun _ => none
def kr15 : Nat → List Nat := fun _ => []
noncomputable def e15 : Ent := entOf Try.f15 ⟨p15, wl15, wj15, kr15, []⟩
theorem g15 : EntOk Try.prog tys stl 15 e15 := .inr ⟨rfl, Try.func15, by kernel_rfl, by kernel_rfl, by kernel_rfl, by kernel_rfl, by kernel_rfl, rfl⟩
/- 16: (*foghorn/scramble.Register).Copy -/
def p16 : Nat → Option PlanC := fun _ => none
def wl16 : Nat → List Nat := fun _ => []
def wj16 : Nat → Option (List Nat) := fun _ => none
def kr16 : Nat → List Nat := fun _ => []
noncomputable def e16 : Ent := entOf Try.f16 ⟨p16, wl16, wj16, kr16, []⟩
theorem g16 : EntOk Try.prog tys stl 16 e16 := .inr ⟨rfl, Try.func16, by kernel_rfl, by kernel_rfl, by kernel_rfl, by kernel_rfl, by kernel_rfl, rfl⟩
/- 19: (*foghorn/scramble.Register).Jump -/
def p19 : Nat → Option PlanC := fun
  | 15 => some (.op 1 false (.op 2 false (.op 3 false (.op 4 false (.op 5 false (.op 0 true (.op 6 false (.op 7 false (.op 8 false (.op 9 false (.done)))))))))))
  | _ => none
def wl19 : Nat → List Nat := fun
  | 8 => [29]
  | 12 => [6]
  | _ => []
def wj19 : Nat → Option (List Nat) := fun
  | 6 => some [5, 6]
  | 16 => some []
  | _ => none
def kr19 : Nat → List Nat := fun _ => []
noncomputable def e19 : Ent := entOf Try.f19 ⟨p19, wl19, wj19, kr19, [7]⟩
theorem g19 : EntOk Try.prog tys stl 19 e19 := .inr ⟨rfl, Try.func19, by kernel_rfl, by kernel_rfl, by kernel_rfl, by kernel_rfl, by kernel_rfl, rfl⟩
/- 22: foghorn/scramble.For -/
def p22 : Nat → Option PlanC := fun _ => none
def wl22 : Nat → List Nat := fun _ => []
def wj22 : Nat → Option (List Nat) := fun _ => none
def kr22 : Nat → List Nat := fun _ => []
noncomputable def e22 : Ent := entOf Try.f22 ⟨p22, wl22, wj22, kr22, []⟩
theorem g22 : EntOk Try.prog tys stl 22 e22 := .inr ⟨rfl, Try.func22, by kernel_rfl, by kernel_rfl, by kernel_rfl, by kernel_rfl, by kernel_rfl, rfl⟩
/- 27: foghorn/scramble.mask -/
def p27 : Nat → Option PlanC := fun _ => none
def wl27 : Nat → List Nat := fun _ => []
def wj27 : Nat → Option (List Nat) := fun _ => none
def kr27 : Nat → List Nat := fun _ => []
noncomputable def e27 : Ent := entOf Try.f27 ⟨p27, wl27, wj27, kr27, []⟩
theorem g27 : EntOk Try.prog tys stl 27 e27 := .inr ⟨rfl, Try.func27, by kernel_rfl, by kernel_rfl, by kernel_rfl, by kernel_rfl, by kernel_rfl, rfl⟩
/- 28: (foghorn/scramble.Register).after -/
def p28 : Nat → Option PlanC := fun
  | 1 => some (.op 2 false (.op 3 false (.op 4 false (.op 5 false (.op 0 true (.op 1 true (.op 7 true (.op 8 false (.op 9 true (.op 6 false (.chk [8] (.op 10 false (.op 11 false (.op 12 false (.done)))))))))))))))
  | _ => none
def wl28 : Nat → List Nat := fun _ => []
def wj28 : Nat → Option (List Nat) := fun _ => none
def kr28 : Nat → List Nat := fun _ => []
noncomputable def e28 : Ent := entOf Try.f28 ⟨p28, wl28, wj28, kr28, [2]⟩
theorem g28 : EntOk Try.prog tys stl 28 e28 := .inr ⟨rfl, Try.func28, by kernel_rfl, by kernel_rfl, by kernel_rfl, by kernel_rfl, by kernel_rfl, rfl⟩
/- 30: (foghorn/scramble.Register).before -/
def p30 : Nat → Option PlanC := fun _ => none
def wl30 : Nat → List Nat := fun _ => []
def wj30 : Nat → Option (List Nat) := fun _ => none
def kr30 : Nat → List Nat := fun _ => []
noncomputable def e30 : Ent := entOf Try.f30 ⟨p30, wl30, wj30, kr30, [2]⟩
theorem g30 : EntOk Try.prog tys stl 30 e30 := .inr ⟨rfl, Try.func30, by kernel_rfl, by kernel_rfl, by kernel_rfl, by kernel_rfl, by kernel_rfl, rfl⟩
/- 31: (foghorn/scramble.jump).of -/
def p31 : Nat → Option PlanC := fun _ => none
def wl31 : Nat → List Nat := fun
  | 3 => [5, 7]
  | _ => []
def wj31 : Nat → Option (List Nat) := fun _ => none
def kr31 : Nat → List Nat := fun _ => []
noncomputable def e31 : Ent := entOf Try.f31 ⟨p31, wl31, wj31, kr31, [2]⟩
theorem g31 : EntOk Try.prog tys stl 31 e31 := .inr ⟨rfl, Try.func31, by kernel_rfl, by kernel_rfl, by kernel_rfl, by kernel_rfl, by kernel_rfl, rfl⟩
/- 32: (foghorn/scramble.jump).twice -/
def p32 : Nat → Option PlanC := fun
  | 5 => some (.op 1 false (.op 2 false (.op 3 false (.op 4 false (.op 0 true (.op 5 false (.op 6 false (.op 7 false (.done)))))))))
  | _ => none
def wl32 : Nat → List Nat := fun
  | 3 => [5]
  | _ => []
def wj32 : Nat → Option (List Nat) := fun _ => none
def kr32 : Nat → List Nat := fun _ => []
noncomputable def e32 : Ent := entOf Try.f32 ⟨p32, wl32, wj32, kr32, [1, 3]⟩
theorem g32 : EntOk Try.prog tys stl 32 e32 := .inr ⟨rfl, Try.func32, by kernel_rfl, by kernel_rfl, by kernel_rfl, by kernel_rfl, by kernel_rfl, rfl⟩
/- 40: foghorn/scramble.parity -/
def p40 : Nat → Option PlanC := fun _ => none
def wl40 : Nat → List Nat := fun _ => []
def wj40 : Nat → Option (List Nat) := fun _ => none
def kr40 : Nat → List Nat := fun _ => []
noncomputable def e40 : Ent := entOf Try.f40 ⟨p40, wl40, wj40, kr40, []⟩
theorem g40 : EntOk Try.prog tys stl 40 e40 := .inr ⟨rfl, Try.func40, by kernel_rfl, by kernel_rfl, by kernel_rfl, by kernel_rfl, by kernel_rfl, rfl⟩
/- 44: math/bits.OnesCount32 -/
def p44 : Nat → Option PlanC := fun _ => none
def wl44 : Nat → List Nat := fun _ => []
def wj44 : Nat → Option (List Nat) := fun _ => none
def kr44 : Nat → List Nat := fun _ => []
noncomputable def e44 : Ent := entOf Try.f44 ⟨p44, wl44, wj44, kr44, []⟩
theorem g44 : EntOk Try.prog tys stl 44 e44 := .inr ⟨rfl, Try.func44, by kernel_rfl, by kernel_rfl, by kernel_rfl, by kernel_rfl, by kernel_rfl, rfl⟩
noncomputable def ents : List (Nat × Ent) := [(8, e8), (10, e10), (11, e11), (12, e12), (15, e15), (16, e16), (19, e19), (22, e22), (27, e27), (28, e28), (30, e30), (31, e31), (32, e32), (40, e40), (44, e44)]
theorem goods : EntsOk Try.prog tys stl ents := ⟨g8, g10, g11, g12, g15, g16, g19, g22, g27, g28, g30, g31, g32, g40, g44, True.intro⟩
noncomputable def tab : Nat → Option Ent := (tabOf ents).get
theorem fok : FOk Try.prog tys stl tab := fok_of goods
noncomputable def d0 : Disp := .leaf
theorem d0_ok : CallSim Try.prog tys stl tab d0.fn := Disp.sim True.intro
/- foghorn/foghornlaw16.works -/
noncomputable def R8 (q_share : (α : Type) → α → (α → Bool) → Bool) (q_genW : Option CV → (W → Bool) → Bool) (q_cmpW : (Nat → Nat → Bool) → Nat → Option CV → W → W → (W → Bool) → Bool) (q_condW : W → Bool → Bool → Bool) (q_guardW : Bool → W → Bool → Bool → Bool) (q_pickW : W → W → W → (W → Bool) → Bool) (q_tupW : W → (List W → Bool) → Bool) (q_nthW : Nat → List W → (W → Bool) → Bool) (q_buildSW : Nat → Nat → Kind → Nat → Bool → HW → Nat → Nat → List W → KW → Bool) (fu : Nat) (call : CallW) (h0 : HW) (c0 : Nat) (K : KW) : Bool :=
call 10 [⟨3, 4, r0, []⟩, ⟨6, 3, r0, []⟩, ⟨6, 1, r0, []⟩] h0 c0 fun v1 h2 c3 =>
q_tupW v1 fun l4 => q_nthW 0 l4 fun v5 =>
q_tupW v1 fun l6 => q_nthW 1 l6 fun v7 =>
q_cmpW (cmpF2 .neq) 3 (binC Try.prog .neq 27 (.tmp 12) (.const (.int .i64 (.ofNat 0))) (dec v7) (dec ⟨3, 0, r0, []⟩)) v7 ⟨3, 0, r0, []⟩ fun v8 =>
q_share _ (fun (v10 : W) (h11 : HW) (c12 : Nat) =>
q_share _ (fun (v14 : W) (h15 : HW) (c16 : Nat) =>
q_pickW v8 ⟨8, 1, r0, []⟩ v14 fun v17 =>
q_condW v17 (
K ⟨8, 0, r0, []⟩ h15 c16) (
call 11 [v5, ⟨3, 5, r0, []⟩] h15 c16 fun v18 h19 c20 =>
q_tupW v18 fun l21 => q_nthW 0 l21 fun v22 =>
q_tupW v18 fun l23 => q_nthW 1 l23 fun v24 =>
call 16 [v5] h19 c20 fun v25 h26 c27 =>
call 22 [⟨3, 5, r0, []⟩] h26 c27 fun v28 h29 c30 =>
q_tupW v28 fun l31 => q_nthW 0 l31 fun v32 =>
q_tupW v28 fun l33 => q_nthW 1 l33 fun v34 =>
q_cmpW (cmpF2 .eql) 3 (binC Try.prog .eql 27 (.tmp 29) (.const (.int .i64 (.ofNat 0))) (dec v24) (dec ⟨3, 0, r0, []⟩)) v24 ⟨3, 0, r0, []⟩ fun v35 =>
q_share _ (fun (v37 : W) (h38 : HW) (c39 : Nat) =>
q_share _ (fun (v41 : W) (h42 : HW) (c43 : Nat) =>
q_share _ (fun (v45 : W) (h46 : HW) (c47 : Nat) =>
q_pickW v35 v45 ⟨8, 0, r0, []⟩ fun v48 =>
q_share _ (fun (v50 : W) (h51 : HW) (c52 : Nat) =>
q_share _ (fun (v54 : W) (h55 : HW) (c56 : Nat) =>
q_pickW v48 v54 ⟨8, 0, r0, []⟩ fun v57 =>
q_share _ (fun (v59 : W) (h60 : HW) (c61 : Nat) =>
q_share _ (fun (v63 : W) (h64 : HW) (c65 : Nat) =>
q_share _ (fun (v67 : W) (h68 : HW) (c69 : Nat) =>
q_share _ (fun (v71 : W) (h72 : HW) (c73 : Nat) =>
q_share _ (fun (v75 : W) (h76 : HW) (c77 : Nat) =>
q_pickW v57 v75 ⟨8, 0, r0, []⟩ fun v78 =>
q_share _ (fun (v80 : W) (h81 : HW) (c82 : Nat) =>
q_share _ (fun (v84 : W) (h85 : HW) (c86 : Nat) =>
q_share _ (fun (v88 : W) (h89 : HW) (c90 : Nat) =>
q_pickW v78 v88 ⟨8, 0, r0, []⟩ fun v91 =>
q_share _ (fun (v93 : W) (h94 : HW) (c95 : Nat) =>
q_share _ (fun (v97 : W) (h98 : HW) (c99 : Nat) =>
q_share _ (fun (v101 : W) (h102 : HW) (c103 : Nat) =>
q_pickW v91 v101 ⟨8, 0, r0, []⟩ fun v104 =>
q_share _ (fun (v106 : W) (h107 : HW) (c108 : Nat) =>
q_share _ (fun (v110 : W) (h111 : HW) (c112 : Nat) =>
q_pickW v104 v110 ⟨8, 0, r0, []⟩ fun v113 =>
q_share _ (fun (v115 : W) (h116 : HW) (c117 : Nat) =>
q_share _ (fun (v119 : W) (h120 : HW) (c121 : Nat) =>
q_pickW v113 v119 ⟨8, 0, r0, []⟩ fun v122 =>
q_share _ (fun (v124 : W) (h125 : HW) (c126 : Nat) =>
q_share _ (fun (v128 : W) (h129 : HW) (c130 : Nat) =>
q_share _ (fun (v132 : W) (h133 : HW) (c134 : Nat) =>
q_pickW v122 v132 ⟨8, 0, r0, []⟩ fun v135 =>
K v135 h133 c134) fun f131 =>
q_guardW true v122 (q_cmpW (cmpF2 .eql) 6 (binC Try.prog .eql 22 (.tmp 67) (.const (.int .u32 (.ofNat 6))) (dec v128) (dec ⟨6, 6, r0, []⟩)) v128 ⟨6, 6, r0, []⟩ fun v136 =>
f131 v136 h129 c130) (f131 wUnd h129 c130)) fun f127 =>
q_guardW true v122 (call 12 [v124] h125 c126 fun v137 h138 c139 =>
f127 v137 h138 c139) (f127 wUnd h125 c126)) fun f123 =>
q_guardW true v122 (f123 v32 h120 c121) (f123 wUnd h120 c121)) fun f118 =>
q_guardW true v113 (q_genW (binC Try.prog .neq 26 (.tmp 62) (.const (.pointer none)) (dec v115) (dec ⟨12, 0, ⟨0, 0, 0, .nilp⟩, []⟩)) fun v140 =>
f118 v140 h116 c117) (f118 wUnd h116 c117)) fun f114 =>
q_guardW true v113 (f114 v32 h111 c112) (f114 wUnd h111 c112)) fun f109 =>
q_guardW true v104 (q_cmpW (cmpF2 .eql) 3 (binC Try.prog .eql 27 (.tmp 58) (.const (.int .i64 (.ofNat 0))) (dec v106) (dec ⟨3, 0, r0, []⟩)) v106 ⟨3, 0, r0, []⟩ fun v141 =>
f109 v141 h107 c108) (f109 wUnd h107 c108)) fun f105 =>
q_guardW true v104 (f105 v34 h102 c103) (f105 wUnd h102 c103)) fun f100 =>
q_guardW true v91 (q_cmpW (cmpF2 .eql) 6 (binC Try.prog .eql 22 (.tmp 54) (.const (.int .u32 (.ofNat 1))) (dec v97) (dec ⟨6, 1, r0, []⟩)) v97 ⟨6, 1, r0, []⟩ fun v142 =>
f100 v142 h98 c99) (f100 wUnd h98 c99)) fun f96 =>
q_guardW true v91 (call 12 [v93] h94 c95 fun v143 h144 c145 =>
f96 v143 h144 c145) (f96 wUnd h94 c95)) fun f92 =>
q_guardW true v91 (f92 v5 h89 c90) (f92 wUnd h89 c90)) fun f87 =>
q_guardW true v78 (q_cmpW (cmpF2 .eql) 3 (binC Try.prog .eql 27 (.tmp 49) (.const (.int .i64 (.ofNat 0))) (dec v84) (dec ⟨3, 0, r0, []⟩)) v84 ⟨3, 0, r0, []⟩ fun v146 =>
f87 v146 h85 c86) (f87 wUnd h85 c86)) fun f83 =>
q_guardW true v78 (call 19 [v80, ⟨12, 0, ⟨0, 0, 0, .int .i64 (.negSucc 4)⟩, []⟩] h81 c82 fun v147 h148 c149 =>
f83 v147 h148 c149) (f83 wUnd h81 c82)) fun f79 =>
q_guardW true v78 (f79 v5 h76 c77) (f79 wUnd h76 c77)) fun f74 =>
q_guardW true v57 (q_cmpW (cmpF2 .eql) 6 (binC Try.prog .eql 22 (.tmp 42) (.tmp 44) (dec v63) (dec v71)) v63 v71 fun v150 =>
f74 v150 h72 c73) (f74 wUnd h72 c73)) fun f70 =>
q_guardW true v57 (call 12 [v67] h68 c69 fun v151 h152 c153 =>
f70 v151 h152 c153) (f70 wUnd h68 c69)) fun f66 =>
q_guardW true v57 (f66 v5 h64 c65) (f66 wUnd h64 c65)) fun f62 =>
q_guardW true v57 (call 12 [v59] h60 c61 fun v154 h155 c156 =>
f62 v154 h155 c156) (f62 wUnd h60 c61)) fun f58 =>
q_guardW true v57 (f58 v25 h55 c56) (f58 wUnd h55 c56)) fun f53 =>
q_guardW true v48 (q_genW (binC Try.prog .neq 26 (.tmp 37) (.const (.pointer none)) (dec v50) (dec ⟨12, 0, ⟨0, 0, 0, .nilp⟩, []⟩)) fun v157 =>
f53 v157 h51 c52) (f53 wUnd h51 c52)) fun f49 =>
q_guardW true v48 (f49 v25 h46 c47) (f49 wUnd h46 c47)) fun f44 =>
q_guardW true v35 (call 15 [v37, v41] h42 c43 fun v158 h159 c160 =>
f44 v158 h159 c160) (f44 wUnd h42 c43)) fun f40 =>
q_guardW true v35 (q_buildSW 1 8 .bools 5 true h38 c39 5 [⟨8, 1, r0, []⟩, ⟨8, 0, r0, []⟩, ⟨8, 0, r0, []⟩, ⟨8, 0, r0, []⟩, ⟨8, 1, r0, []⟩] fun v161 h162 c163 =>
f40 v161 h162 c163) (f40 wUnd h38 c39)) fun f36 =>
q_guardW true v35 (f36 v22 h29 c30) (f36 wUnd h29 c30))) fun f13 =>
q_guardW false v8 (q_genW (binC Try.prog .eql 26 (.tmp 15) (.const (.pointer none)) (dec v10) (dec ⟨12, 0, ⟨0, 0, 0, .nilp⟩, []⟩)) fun v164 =>
f13 v164 h11 c12) (f13 wUnd h11 c12)) fun f9 =>
q_guardW false v8 (f9 v5 h2 c3) (f9 wUnd h2 c3)
theorem R8_eq (Q : PrimW) (fu : Nat) (call : CallW) : curryA 0 (fnK Q Try.prog tys stl fu call e8) = R8 Q.share Q.genW Q.cmpW Q.condW Q.guardW Q.pickW Q.tupW Q.nthW Q.buildSW fu call := by kernel_rfl
noncomputable def n8 (call : CallW) : List W → HW → Nat → KW → Bool := appF 0 (R8 (fun _ x f => f x) genW cmpW condW guardW pickW tupW nthW buildSW 1000000 call)
theorem n8_ok {call : CallW} (h : CallSim Try.prog tys stl tab call) : FnGood Try.prog tys stl tab 8 (n8 call) := node_ok h (by kernel_rfl) rfl g8 (R8_eq real _ _)
/- foghorn/scramble.New -/
noncomputable def R10 (q_share : (α : Type) → α → (α → Bool) → Bool) (q_bitW : (Nat → Nat → Nat) → Nat → Nat → Option CV → W → W → (W → Bool) → Bool) (q_cmpW : (Nat → Nat → Bool) → Nat → Option CV → W → W → (W → Bool) → Bool) (q_icvW : Nat → Nat → Option CV → W → (W → Bool) → Bool) (q_condW : W → Bool → Bool → Bool) (q_guardW : Bool → W → Bool → Bool → Bool) (q_pickW : W → W → W → (W → Bool) → Bool) (q_boxW : HW → Nat → W → KW → Bool) (q_flatW : W → Bool → Bool) (fu : Nat) (call : CallW) (a0 : W) (a1 : W) (a2 : W) (h0 : HW) (c0 : Nat) (K : KW) : Bool :=
q_cmpW (cmpF2 .lss) 3 (binC Try.prog .lss 3 (.tmp 9) (.const (.int .i64 (.ofNat 2))) (dec a0) (dec ⟨3, 2, r0, []⟩)) a0 ⟨3, 2, r0, []⟩ fun v1 =>
q_share _ (fun (v3 : W) (h4 : HW) (c5 : Nat) =>
q_share _ (fun (v7 : W) (h8 : HW) (c9 : Nat) =>
q_pickW v1 ⟨8, 1, r0, []⟩ v7 fun v10 =>
q_condW v10 (
K ⟨13, 0, r0, [⟨12, 0, ⟨0, 0, 0, .nilp⟩, []⟩, ⟨3, 1, r0, []⟩]⟩ h8 c9) (
q_icvW 7 18446744073709551615 (convC Try.prog tys ⟨[], 0, decH h8, 0⟩ 3 36 (dec a0)) a0 fun v11 =>
call 27 [v11] h8 c9 fun v12 h13 c14 =>
q_cmpW (cmpF2 .gtr) 6 (binC Try.prog .gtr 22 (.tmp 18) (.tmp 19) (dec a1) (dec v12)) a1 v12 fun v15 =>
q_share _ (fun (v17 : W) (h18 : HW) (c19 : Nat) =>
q_share _ (fun (v21 : W) (h22 : HW) (c23 : Nat) =>
q_share _ (fun (v25 : W) (h26 : HW) (c27 : Nat) =>
q_pickW v15 ⟨8, 1, r0, []⟩ v25 fun v28 =>
q_share _ (fun (v30 : W) (h31 : HW) (c32 : Nat) =>
q_share _ (fun (v34 : W) (h35 : HW) (c36 : Nat) =>
q_pickW v28 ⟨8, 1, r0, []⟩ v34 fun v37 =>
q_share _ (fun (v39 : W) (h40 : HW) (c41 : Nat) =>
q_share _ (fun (v43 : W) (h44 : HW) (c45 : Nat) =>
q_share _ (fun (v47 : W) (h48 : HW) (c49 : Nat) =>
q_pickW v37 ⟨8, 1, r0, []⟩ v47 fun v50 =>
q_condW v50 (
K ⟨13, 0, r0, [⟨12, 0, ⟨0, 0, 0, .nilp⟩, []⟩, ⟨3, 1, r0, []⟩]⟩ h48 c49) (
q_icvW 7 18446744073709551615 (convC Try.prog tys ⟨[], 0, decH h48, 0⟩ 3 36 (dec a0)) a0 fun v51 =>
q_flatW v51 (
q_flatW a1 (
q_flatW a2 (
(fun (v52 : W) =>
q_boxW h48 c49 v52 fun v53 h54 c55 =>
K ⟨13, 0, r0, [v53, ⟨3, 0, r0, []⟩]⟩ h54 c55) ⟨15, 0, r0, [v51, a1, a2]⟩))))) fun f46 =>
q_guardW false v37 (q_cmpW (cmpF2 .gtr) 6 (binC Try.prog .gtr 22 (.tmp 31) (.tmp 32) (dec v39) (dec v43)) v39 v43 fun v56 =>
f46 v56 h44 c45) (f46 wUnd h44 c45)) fun f42 =>
q_guardW false v37 (f42 v12 h40 c41) (f42 wUnd h40 c41)) fun f38 =>
q_guardW false v37 (f38 a2 h35 c36) (f38 wUnd h35 c36)) fun f33 =>
q_guardW false v28 (q_cmpW (cmpF2 .lss) 6 (binC Try.prog .lss 22 (.tmp 27) (.const (.int .u32 (.ofNat 1))) (dec v30) (dec ⟨6, 1, r0, []⟩)) v30 ⟨6, 1, r0, []⟩ fun v57 =>
f33 v57 h31 c32) (f33 wUnd h31 c32)) fun f29 =>
q_guardW false v28 (f29 a2 h26 c27) (f29 wUnd h26 c27)) fun f24 =>
q_guardW false v15 (q_cmpW (cmpF2 .eql) 6 (binC Try.prog .eql 22 (.tmp 23) (.const (.int .u32 (.ofNat 0))) (dec v21) (dec ⟨6, 0, r0, []⟩)) v21 ⟨6, 0, r0, []⟩ fun v58 =>
f24 v58 h22 c23) (f24 wUnd h22 c23)) fun f20 =>
q_guardW false v15 (q_bitW Nat.land 6 4294967295 (binC Try.prog .and 22 (.tmp 22) (.const (.int .u32 (.ofNat 1))) (dec v17) (dec ⟨6, 1, r0, []⟩)) v17 ⟨6, 1, r0, []⟩ fun v59 =>
f20 v59 h18 c19) (f20 wUnd h18 c19)) fun f16 =>
q_guardW false v15 (f16 a1 h13 c14) (f16 wUnd h13 c14))) fun f6 =>
q_guardW false v1 (q_cmpW (cmpF2 .gtr) 3 (binC Try.prog .gtr 3 (.tmp 12) (.const (.int .i64 (.ofNat 32))) (dec v3) (dec ⟨3, 32, r0, []⟩)) v3 ⟨3, 32, r0, []⟩ fun v60 =>
f6 v60 h4 c5) (f6 wUnd h4 c5)) fun f2 =>
q_guardW false v1 (f2 a0 h0 c0) (f2 wUnd h0 c0)
theorem R10_eq (Q : PrimW) (fu : Nat) (call : CallW) : curryA 3 (fnK Q Try.prog tys stl fu call e10) = R10 Q.share Q.bitW Q.cmpW Q.icvW Q.condW Q.guardW Q.pickW Q.boxW Q.flatW fu call := by kernel_rfl
noncomputable def n10 (call : CallW) : List W → HW → Nat → KW → Bool := appF 3 (R10 (fun _ x f => f x) bitW cmpW icvW condW guardW pickW boxW flatW 1000000 call)
theorem n10_ok {call : CallW} (h : CallSim Try.prog tys stl tab call) : FnGood Try.prog tys stl tab 10 (n10 call) := node_ok h (by kernel_rfl) rfl g10 (R10_eq real _ _)
/- (*foghorn/scramble.Register).Row -/
noncomputable def R11 (q_share : (α : Type) → α → (α → Bool) → Bool) (q_genW : Option CV → (W → Bool) → Bool) (q_addW : Nat → Nat → Option CV → W → W → (W → Bool) → Bool) (q_bitW : (Nat → Nat → Nat) → Nat → Nat → Option CV → W → W → (W → Bool) → Bool) (q_cmpW : (Nat → Nat → Bool) → Nat → Option CV → W → W → (W → Bool) → Bool) (q_condW : W → Bool → Bool → Bool) (q_guardW : Bool → W → Bool → Bool → Bool) (q_pickW : W → W → W → (W → Bool) → Bool) (q_nilcW : W → (W → Bool) → Bool) (q_fadW : Nat → W → (W → Bool) → Bool) (q_idxSW : Nat → W → W → (W → Bool) → Bool) (q_loadSW : HW → W → (W → Bool) → Bool) (q_loadAW : Nat → HW → W → (W → Bool) → Bool) (q_storeSW : HW → W → W → (HW → Bool) → Bool) (q_makeSW : Nat → Nat → Nat → Kind → List W → Bool → HW → Nat → W → W → KW → Bool) (fu : Nat) (call : CallW) (a0 : W) (a1 : W) (h0 : HW) (c0 : Nat) (K : KW) : Bool :=
q_genW (binC Try.prog .eql 26 (.tmp 8) (.const (.pointer none)) (dec a0) (dec ⟨12, 0, ⟨0, 0, 0, .nilp⟩, []⟩)) fun v1 =>
q_condW v1 (
K ⟨13, 0, r0, [⟨12, 0, ⟨0, 0, 0, .nils⟩, []⟩, ⟨3, 2, r0, []⟩]⟩ h0 c0) (
q_cmpW (cmpF2 .lss) 3 (binC Try.prog .lss 3 (.tmp 10) (.const (.int .i64 (.ofNat 0))) (dec a1) (dec ⟨3, 0, r0, []⟩)) a1 ⟨3, 0, r0, []⟩ fun v2 =>
q_share _ (fun (v4 : W) (h5 : HW) (c6 : Nat) =>
q_share _ (fun (v8 : W) (h9 : HW) (c10 : Nat) =>
q_pickW v2 ⟨8, 1, r0, []⟩ v8 fun v11 =>
q_condW v11 (
K ⟨13, 0, r0, [⟨12, 0, ⟨0, 0, 0, .nils⟩, []⟩, ⟨3, 1, r0, []⟩]⟩ h9 c10) (
q_makeSW 1 1 8 .bools [⟨8, 0, r0, []⟩] true h9 c10 a1 a1 fun v12 h13 c14 =>
@Nat.rec (fun _ => Fun 1) (fun _ _ _ => false) (fun _ f18 v15 h16 c17 =>
q_cmpW (cmpF2 .lss) 3 (binC Try.prog .lss 3 (.tmp 19) (.tmp 18) (dec v15) (dec a1)) v15 a1 fun v19 =>
q_condW v19 (
q_nilcW a0 fun v20 =>
q_fadW 2 v20 fun v21 =>
q_loadSW h16 v21 fun v22 =>
q_bitW Nat.land 6 4294967295 (binC Try.prog .and 22 (.tmp 27) (.const (.int .u32 (.ofNat 1))) (dec v22) (dec ⟨6, 1, r0, []⟩)) v22 ⟨6, 1, r0, []⟩ fun v23 =>
q_cmpW (cmpF2 .neq) 6 (binC Try.prog .neq 22 (.tmp 28) (.const (.int .u32 (.ofNat 0))) (dec v23) (dec ⟨6, 0, r0, []⟩)) v23 ⟨6, 0, r0, []⟩ fun v24 =>
q_idxSW 1 v12 v15 fun v25 =>
q_storeSW h16 v25 v24 fun h26 =>
q_nilcW a0 fun v27 =>
q_loadAW 3 h26 v27 fun v28 =>
q_nilcW a0 fun v29 =>
q_fadW 2 v29 fun v30 =>
q_loadSW h26 v30 fun v31 =>
call 28 [v28, v31] h26 c17 fun v32 h33 c34 =>
q_nilcW a0 fun v35 =>
q_fadW 2 v35 fun v36 =>
q_storeSW h33 v36 v32 fun h37 =>
q_addW 3 9223372036854775807 (binC Try.prog .add 3 (.tmp 19) (.const (.int .i64 (.ofNat 1))) (dec v15) (dec ⟨3, 1, r0, []⟩)) v15 ⟨3, 1, r0, []⟩ fun v38 =>
f18 v38 h37 c34) (
K ⟨13, 0, r0, [v12, ⟨3, 0, r0, []⟩]⟩ h16 c17)) fu ⟨3, 0, r0, []⟩ h13 c14)) fun f7 =>
q_guardW false v2 (q_cmpW (cmpF2 .gtr) 3 (binC Try.prog .gtr 3 (.tmp 13) (.const (.int .i64 (.ofNat 32768))) (dec v4) (dec ⟨3, 32768, r0, []⟩)) v4 ⟨3, 32768, r0, []⟩ fun v39 =>
f7 v39 h5 c6) (f7 wUnd h5 c6)) fun f3 =>
q_guardW false v2 (f3 a1 h0 c0) (f3 wUnd h0 c0))
theorem R11_eq (Q : PrimW) (fu : Nat) (call : CallW) : curryA 2 (fnK Q Try.prog tys stl fu call e11) = R11 Q.share Q.genW Q.addW Q.bitW Q.cmpW Q.condW Q.guardW Q.pickW Q.nilcW Q.fadW Q.idxSW Q.loadSW Q.loadAW Q.storeSW Q.makeSW fu call := by kernel_rfl
noncomputable def n11 (call : CallW) : List W → HW → Nat → KW → Bool := appF 2 (R11 (fun _ x f => f x) genW addW bitW cmpW condW guardW pickW nilcW fadW idxSW loadSW loadAW storeSW makeSW 1000000 call)
theorem n11_ok {call : CallW} (h : CallSim Try.prog tys stl tab call) : FnGood Try.prog tys stl tab 11 (n11 call) := node_ok h (by kernel_rfl) rfl g11 (R11_eq real _ _)
/- (*foghorn/scramble.Register).State -/
noncomputable def R12 (q_genW : Option CV → (W → Bool) → Bool) (q_condW : W → Bool → Bool → Bool) (q_nilcW : W → (W → Bool) → Bool) (q_fadW : Nat → W → (W → Bool) → Bool) (q_loadSW : HW → W → (W → Bool) → Bool) (fu : Nat) (call : CallW) (a0 : W) (h0 : HW) (c0 : Nat) (K : KW) : Bool :=
q_genW (binC Try.prog .eql 26 (.tmp 3) (.const (.pointer none)) (dec a0) (dec ⟨12, 0, ⟨0, 0, 0, .nilp⟩, []⟩)) fun v1 =>
q_condW v1 (
K ⟨6, 0, r0, []⟩ h0 c0) (
q_nilcW a0 fun v2 =>
q_fadW 2 v2 fun v3 =>
q_loadSW h0 v3 fun v4 =>
K v4 h0 c0)
theorem R12_eq (Q : PrimW) (fu : Nat) (call : CallW) : curryA 1 (fnK Q Try.prog tys stl fu call e12) = R12 Q.genW Q.condW Q.nilcW Q.fadW Q.loadSW fu call := by kernel_rfl
noncomputable def n12 (call : CallW) : List W → HW → Nat → KW → Bool := appF 1 (R12 genW condW nilcW fadW loadSW 1000000 call)
theorem n12_ok {call : CallW} (h : CallSim Try.prog tys stl tab call) : FnGood Try.prog tys stl tab 12 (n12 call) := node_ok h (by kernel_rfl) rfl g12 (R12_eq real _ _)
/- foghorn/foghornlaw16.sameBits -/
noncomputable def R15 (q_genW : Option CV → (W → Bool) → Bool) (q_addW : Nat → Nat → Option CV → W → W → (W → Bool) → Bool) (q_cmpW : (Nat → Nat → Bool) → Nat → Option CV → W → W → (W → Bool) → Bool) (q_condW : W → Bool → Bool → Bool) (q_idxSW : Nat → W → W → (W → Bool) → Bool) (q_lenW : Option CV → W → (W → Bool) → Bool) (q_loadSW : HW → W → (W → Bool) → Bool) (fu : Nat) (call : CallW) (a0 : W) (a1 : W) (h0 : HW) (c0 : Nat) (K : KW) : Bool :=
q_lenW (lenC tys 30 (dec a0)) a0 fun v1 =>
q_lenW (lenC tys 30 (dec a1)) a1 fun v2 =>
q_cmpW (cmpF2 .neq) 3 (binC Try.prog .neq 3 (.tmp 7) (.tmp 9) (dec v1) (dec v2)) v1 v2 fun v3 =>
q_condW v3 (
K ⟨8, 0, r0, []⟩ h0 c0) (
@Nat.rec (fun _ => Fun 1) (fun _ _ _ => false) (fun _ f7 v4 h5 c6 =>
q_lenW (lenC tys 30 (dec a0)) a0 fun v8 =>
q_cmpW (cmpF2 .lss) 3 (binC Try.prog .lss 3 (.tmp 11) (.tmp 13) (dec v4) (dec v8)) v4 v8 fun v9 =>
q_condW v9 (
q_idxSW 1 a0 v4 fun v10 =>
q_loadSW h5 v10 fun v11 =>
q_idxSW 1 a1 v4 fun v12 =>
q_loadSW h5 v12 fun v13 =>
q_genW (binC Try.prog .neq 4 (.tmp 20) (.tmp 24) (dec v11) (dec v13)) fun v14 =>
q_condW v14 (
K ⟨8, 0, r0, []⟩ h5 c6) (
q_addW 3 9223372036854775807 (binC Try.prog .add 3 (.tmp 15) (.const (.int .i64 (.ofNat 1))) (dec v4) (dec ⟨3, 1, r0, []⟩)) v4 ⟨3, 1, r0, []⟩ fun v15 =>
f7 v15 h5 c6)) (
K ⟨8, 1, r0, []⟩ h5 c6)) fu ⟨3, 0, r0, []⟩ h0 c0)
theorem R15_eq (Q : PrimW) (fu : Nat) (call : CallW) : curryA 2 (fnK Q Try.prog tys stl fu call e15) = R15 Q.genW Q.addW Q.cmpW Q.condW Q.idxSW Q.lenW Q.loadSW fu call := by kernel_rfl
noncomputable def n15 (call : CallW) : List W → HW → Nat → KW → Bool := appF 2 (R15 genW addW cmpW condW idxSW lenW loadSW 1000000 call)
theorem n15_ok {call : CallW} (h : CallSim Try.prog tys stl tab call) : FnGood Try.prog tys stl tab 15 (n15 call) := node_ok h (by kernel_rfl) rfl g15 (R15_eq real _ _)
/- (*foghorn/scramble.Register).Copy -/
noncomputable def R16 (q_genW : Option CV → (W → Bool) → Bool) (q_condW : W → Bool → Bool → Bool) (q_nilcW : W → (W → Bool) → Bool) (q_loadAW : Nat → HW → W → (W → Bool) → Bool) (q_storeAW : Nat → HW → W → W → (HW → Bool) → Bool) (q_allocW : Trie W → Nat → Bool → HW → Nat → KW → Bool) (fu : Nat) (call : CallW) (a0 : W) (h0 : HW) (c0 : Nat) (K : KW) : Bool :=
q_genW (binC Try.prog .eql 26 (.tmp 4) (.const (.pointer none)) (dec a0) (dec ⟨12, 0, ⟨0, 0, 0, .nilp⟩, []⟩)) fun v1 =>
q_condW v1 (
K ⟨12, 0, ⟨0, 0, 0, .nilp⟩, []⟩ h0 c0) (
q_nilcW a0 fun v2 =>
q_loadAW 3 h0 v2 fun v3 =>
q_allocW (allocT tys 61) 3 true h0 c0 fun v4 h5 c6 =>
q_storeAW 3 h5 v4 v3 fun h7 =>
K v4 h7 c6)
theorem R16_eq (Q : PrimW) (fu : Nat) (call : CallW) : curryA 1 (fnK Q Try.prog tys stl fu call e16) = R16 Q.genW Q.condW Q.nilcW Q.loadAW Q.storeAW Q.allocW fu call := by kernel_rfl
noncomputable def n16 (call : CallW) : List W → HW → Nat → KW → Bool := appF 1 (R16 genW condW nilcW loadAW storeAW allocW 1000000 call)
theorem n16_ok {call : CallW} (h : CallSim Try.prog tys stl tab call) : FnGood Try.prog tys stl tab 16 (n16 call) := node_ok h (by kernel_rfl) rfl g16 (R16_eq real _ _)
/- (*foghorn/scramble.Register).Jump -/
noncomputable def R19 (q_share : (α : Type) → α → (α → Bool) → Bool) (q_genW : Option CV → (W → Bool) → Bool) (q_addW : Nat → Nat → Option CV → W → W → (W → Bool) → Bool) (q_bitW : (Nat → Nat → Nat) → Nat → Nat → Option CV → W → W → (W → Bool) → Bool) (q_cmpW : (Nat → Nat → Bool) → Nat → Option CV → W → W → (W → Bool) → Bool) (q_shlW : Nat → Nat → Nat → Option CV → W → W → (W → Bool) → Bool) (q_shrW : Nat → Nat → Option CV → W → W → (W → Bool) → Bool) (q_negW : Nat → Nat → Bool → Option CV → W → (W → Bool) → Bool) (q_icvW : Nat → Nat → Option CV → W → (W → Bool) → Bool) (q_condW : W → Bool → Bool → Bool) (q_nilcW : W → (W → Bool) → Bool) (q_fadW : Nat → W → (W → Bool) → Bool) (q_idxAW : Nat → Nat → W → W → (W → Bool) → Bool) (q_onG : W → List W → (FuncId → List W → Bool) → Bool) (q_killVW : W → HW → (HW → Bool) → Bool) (q_loadSW : HW → W → (W → Bool) → Bool) (q_loadAW : Nat → HW → W → (W → Bool) → Bool) (q_storeSW : HW → W → W → (HW → Bool) → Bool) (q_storeAW : Nat → HW → W → W → (HW → Bool) → Bool) (q_allocW : Trie W → Nat → Bool → HW → Nat → KW → Bool) (fu : Nat) (call : CallW) (a0 : W) (a1 : W) (h0 : HW) (c0 : Nat) (K : KW) : Bool :=
q_genW (binC Try.prog .eql 26 (.tmp 9) (.const (.pointer none)) (dec a0) (dec ⟨12, 0, ⟨0, 0, 0, .nilp⟩, []⟩)) fun v1 =>
q_condW v1 (
q_killVW wUnd h0 fun h2 =>
K ⟨3, 2, r0, []⟩ h2 c0) (
q_nilcW a0 fun v3 =>
q_loadAW 3 h0 v3 fun v4 =>
(fun (v5 : W) =>
q_icvW 7 18446744073709551615 (convC Try.prog tys ⟨[], 0, decH h0, 0⟩ 2 64 (dec a1)) a1 fun v6 =>
q_share _ (fun (v7 : W) (v8 : W) (h9 : HW) (c10 : Nat) =>
q_allocW (allocT tys 66) 32 true h9 c10 fun v12 h13 c14 =>
q_nilcW a0 fun v15 =>
q_fadW 0 v15 fun v16 =>
q_loadSW h13 v16 fun v17 =>
@Nat.rec (fun _ => Fun 1) (fun _ _ _ => false) (fun _ f21 v18 h19 c20 =>
q_cmpW (cmpF2 .lss) 7 (binC Try.prog .lss 36 (.tmp 29) (.tmp 28) (dec v18) (dec v17)) v18 v17 fun v22 =>
q_condW v22 (
q_shlW 6 4294967295 32 (binC Try.prog .shl 22 (.const (.int .u32 (.ofNat 1))) (.tmp 34) (dec ⟨6, 1, r0, []⟩) (dec v18)) ⟨6, 1, r0, []⟩ v18 fun v23 =>
q_onG v7 [v23] fun g24 l25 => call g24 l25 h19 c20 fun v26 h27 c28 =>
q_idxAW 1 32 v12 v18 fun v29 =>
q_storeSW h27 v29 v26 fun h30 =>
q_addW 7 18446744073709551615 (binC Try.prog .add 36 (.tmp 29) (.const (.int .u64 (.ofNat 1))) (dec v18) (dec ⟨7, 1, r0, []⟩)) v18 ⟨7, 1, r0, []⟩ fun v31 =>
f21 v31 h30 c28) (
@Nat.rec (fun _ => Fun 1) (fun _ _ _ => false) (fun _ f35 v32 h33 c34 =>
q_cmpW (cmpF2 .gtr) 7 (binC Try.prog .gtr 64 (.tmp 39) (.const (.int .u64 (.ofNat 0))) (dec v32) (dec ⟨7, 0, r0, []⟩)) v32 ⟨7, 0, r0, []⟩ fun v36 =>
q_condW v36 (
q_share _ (fun  (h37 : HW) (c38 : Nat) =>
q_loadAW 32 h37 v12 fun v40 =>
call 32 [v40] h37 c38 fun v41 h42 c43 =>
q_storeAW 32 h42 v12 v41 fun h44 =>
q_shrW 7 64 (binC Try.prog .shr 64 (.tmp 41) (.const (.int .u64 (.ofNat 1))) (dec v32) (dec ⟨7, 1, r0, []⟩)) v32 ⟨7, 1, r0, []⟩ fun v45 =>
f35 v45 h44 c43) fun f39 =>
q_bitW Nat.land 7 18446744073709551615 (binC Try.prog .and 64 (.tmp 43) (.const (.int .u64 (.ofNat 1))) (dec v32) (dec ⟨7, 1, r0, []⟩)) v32 ⟨7, 1, r0, []⟩ fun v46 =>
q_cmpW (cmpF2 .neq) 7 (binC Try.prog .neq 64 (.tmp 44) (.const (.int .u64 (.ofNat 0))) (dec v46) (dec ⟨7, 0, r0, []⟩)) v46 ⟨7, 0, r0, []⟩ fun v47 =>
q_condW v47 (
q_loadAW 32 h33 v12 fun v48 =>
q_nilcW a0 fun v49 =>
q_fadW 2 v49 fun v50 =>
q_loadSW h33 v50 fun v51 =>
call 31 [v48, v51] h33 c34 fun v52 h53 c54 =>
q_nilcW a0 fun v55 =>
q_fadW 2 v55 fun v56 =>
q_storeSW h53 v56 v52 fun h57 =>
f39 h57 c54) (
f39 h33 c34)) (
q_killVW v12 h33 fun h58 =>
K ⟨3, 0, r0, []⟩ h58 c34)) fu v8 h19 c20)) fu ⟨7, 0, r0, []⟩ h13 c14) fun f11 =>
q_cmpW (cmpF2 .lss) 3 (binC Try.prog .lss 2 (.tmp 17) (.const (.int .i64 (.ofNat 0))) (dec a1) (dec ⟨3, 0, r0, []⟩)) a1 ⟨3, 0, r0, []⟩ fun v59 =>
q_condW v59 (
q_nilcW a0 fun v60 =>
q_loadAW 3 h0 v60 fun v61 =>
(fun (v62 : W) =>
q_negW 7 18446744073709551615 true (two Try.prog (dec v6) (Op.unary .neg)) v6 fun v63 =>
f11 v62 v63 h0 c0) ⟨16, 30, r0, [v61]⟩) (
f11 v5 v6 h0 c0)) ⟨16, 28, r0, [v4]⟩)
theorem R19_eq (Q : PrimW) (fu : Nat) (call : CallW) : curryA 2 (fnK Q Try.prog tys stl fu call e19) = R19 Q.share Q.genW Q.addW Q.bitW Q.cmpW Q.shlW Q.shrW Q.negW Q.icvW Q.condW Q.nilcW Q.fadW Q.idxAW Q.onG Q.killVW Q.loadSW Q.loadAW Q.storeSW Q.storeAW Q.allocW fu call := by kernel_rfl
noncomputable def n19 (call : CallW) : List W → HW → Nat → KW → Bool := appF 2 (R19 (fun _ x f => f x) genW addW bitW cmpW shlW shrW negW icvW condW nilcW fadW idxAW onG killVW loadSW loadAW storeSW storeAW allocW 1000000 call)
theorem n19_ok {call : CallW} (h : CallSim Try.prog tys stl tab call) : FnGood Try.prog tys stl tab 19 (n19 call) := node_ok h (by kernel_rfl) rfl g19 (R19_eq real _ _)
/- foghorn/scramble.For -/
noncomputable def R22 (q_addW : Nat → Nat → Option CV → W → W → (W → Bool) → Bool) (q_remW : Nat → Nat → Option CV → W → W → (W → Bool) → Bool) (q_cmpW : (Nat → Nat → Bool) → Nat → Option CV → W → W → (W → Bool) → Bool) (q_icvW : Nat → Nat → Option CV → W → (W → Bool) → Bool) (q_condW : W → Bool → Bool → Bool) (q_tupW : W → (List W → Bool) → Bool) (q_nthW : Nat → List W → (W → Bool) → Bool) (fu : Nat) (call : CallW) (a0 : W) (h0 : HW) (c0 : Nat) (K : KW) : Bool :=
q_cmpW (cmpF2 .lss) 3 (binC Try.prog .lss 3 (.tmp 4) (.const (.int .i64 (.ofNat 0))) (dec a0) (dec ⟨3, 0, r0, []⟩)) a0 ⟨3, 0, r0, []⟩ fun v1 =>
q_condW v1 (
K ⟨13, 0, r0, [⟨12, 0, ⟨0, 0, 0, .nilp⟩, []⟩, ⟨3, 1, r0, []⟩]⟩ h0 c0) (
q_remW 3 9223372036854775807 (binC Try.prog .rem 3 (.tmp 6) (.const (.int .i64 (.ofNat 32767))) (dec a0) (dec ⟨3, 32767, r0, []⟩)) a0 ⟨3, 32767, r0, []⟩ fun v2 =>
q_icvW 6 4294967295 (convC Try.prog tys ⟨[], 0, decH h0, 0⟩ 3 22 (dec v2)) v2 fun v3 =>
q_addW 6 4294967295 (binC Try.prog .add 22 (.const (.int .u32 (.ofNat 1))) (.tmp 8) (dec ⟨6, 1, r0, []⟩) (dec v3)) ⟨6, 1, r0, []⟩ v3 fun v4 =>
call 10 [⟨3, 15, r0, []⟩, ⟨6, 3, r0, []⟩, v4] h0 c0 fun v5 h6 c7 =>
q_tupW v5 fun l8 => q_nthW 0 l8 fun v9 =>
q_tupW v5 fun l10 => q_nthW 1 l10 fun v11 =>
K ⟨13, 0, r0, [v9, v11]⟩ h6 c7)
theorem R22_eq (Q : PrimW) (fu : Nat) (call : CallW) : curryA 1 (fnK Q Try.prog tys stl fu call e22) = R22 Q.addW Q.remW Q.cmpW Q.icvW Q.condW Q.tupW Q.nthW fu call := by kernel_rfl
noncomputable def n22 (call : CallW) : List W → HW → Nat → KW → Bool := appF 1 (R22 addW remW cmpW icvW condW tupW nthW 1000000 call)
theorem n22_ok {call : CallW} (h : CallSim Try.prog tys stl tab call) : FnGood Try.prog tys stl tab 22 (n22 call) := node_ok h (by kernel_rfl) rfl g22 (R22_eq real _ _)
/- foghorn/scramble.mask -/
noncomputable def R27 (q_subW : Nat → Nat → Option CV → W → W → (W → Bool) → Bool) (q_shlW : Nat → Nat → Nat → Option CV → W → W → (W → Bool) → Bool) (fu : Nat) (call : CallW) (a0 : W) (h0 : HW) (c0 : Nat) (K : KW) : Bool :=
q_shlW 6 4294967295 32 (binC Try.prog .shl 22 (.const (.int .u32 (.ofNat 1))) (.tmp 3) (dec ⟨6, 1, r0, []⟩) (dec a0)) ⟨6, 1, r0, []⟩ a0 fun v1 =>
q_subW 6 4294967295 (binC Try.prog .sub 22 (.tmp 4) (.const (.int .u32 (.ofNat 1))) (dec v1) (dec ⟨6, 1, r0, []⟩)) v1 ⟨6, 1, r0, []⟩ fun v2 =>
K v2 h0 c0
theorem R27_eq (Q : PrimW) (fu : Nat) (call : CallW) : curryA 1 (fnK Q Try.prog tys stl fu call e27) = R27 Q.subW Q.shlW fu call := by kernel_rfl
noncomputable def n27 (call : CallW) : List W → HW → Nat → KW → Bool := appF 1 (R27 subW shlW 1000000 call)
theorem n27_ok {call : CallW} (h : CallSim Try.prog tys stl tab call) : FnGood Try.prog tys stl tab 27 (n27 call) := node_ok h (by kernel_rfl) rfl g27 (R27_eq real _ _)
/- (foghorn/scramble.Register).after -/
noncomputable def R28 (q_subW : Nat → Nat → Option CV → W → W → (W → Bool) → Bool) (q_bitW : (Nat → Nat → Nat) → Nat → Nat → Option CV → W → W → (W → Bool) → Bool) (q_shlW : Nat → Nat → Nat → Option CV → W → W → (W → Bool) → Bool) (q_shrW : Nat → Nat → Option CV → W → W → (W → Bool) → Bool) (q_fadW : Nat → W → (W → Bool) → Bool) (q_detW : W → Bool → Bool) (q_killVW : W → HW → (HW → Bool) → Bool) (q_loadSW : HW → W → (W → Bool) → Bool) (q_boxW : HW → Nat → W → KW → Bool) (q_samQW : W → W → Bool → Bool) (fu : Nat) (call : CallW) (a0 : W) (a1 : W) (h0 : HW) (c0 : Nat) (K : KW) : Bool :=
q_boxW h0 c0 a0 fun v1 h2 c3 =>
q_fadW 1 v1 fun v4 =>
q_loadSW h2 v4 fun v5 =>
q_bitW Nat.land 6 4294967295 (binC Try.prog .and 22 (.tmp 7) (.tmp 9) (dec a1) (dec v5)) a1 v5 fun v6 =>
q_shrW 6 32 (binC Try.prog .shr 22 (.tmp 5) (.const (.int .u64 (.ofNat 1))) (dec a1) (dec ⟨7, 1, r0, []⟩)) a1 ⟨7, 1, r0, []⟩ fun v7 =>
q_detW v7 (
q_fadW 0 v1 fun v8 =>
q_detW v8 (
q_loadSW h2 v8 fun v9 =>
q_subW 7 18446744073709551615 (binC Try.prog .sub 36 (.tmp 13) (.const (.int .u64 (.ofNat 1))) (dec v9) (dec ⟨7, 1, r0, []⟩)) v9 ⟨7, 1, r0, []⟩ fun v10 =>
q_detW v10 (
call 40 [v6] h2 c3 fun v11 h12 c13 =>
q_loadSW h12 v8 fun v14 =>
q_samQW v14 v9 (
q_shlW 6 4294967295 32 (binC Try.prog .shl 22 (.tmp 11) (.tmp 14) (dec v11) (dec v10)) v11 v10 fun v15 =>
q_bitW Nat.lor 6 4294967295 (binC Try.prog .or 22 (.tmp 6) (.tmp 15) (dec v7) (dec v15)) v7 v15 fun v16 =>
q_killVW v1 h12 fun h17 =>
K v16 h17 c13))))
theorem R28_eq (Q : PrimW) (fu : Nat) (call : CallW) : curryA 2 (fnK Q Try.prog tys stl fu call e28) = R28 Q.subW Q.bitW Q.shlW Q.shrW Q.fadW Q.detW Q.killVW Q.loadSW Q.boxW Q.samQW fu call := by kernel_rfl
noncomputable def n28 (call : CallW) : List W → HW → Nat → KW → Bool := appF 2 (R28 subW bitW shlW shrW fadW detW killVW loadSW boxW samQW 1000000 call)
theorem n28_ok {call : CallW} (h : CallSim Try.prog tys stl tab call) : FnGood Try.prog tys stl tab 28 (n28 call) := node_ok h (by kernel_rfl) rfl g28 (R28_eq real _ _)
/- (foghorn/scramble.Register).before -/
noncomputable def R30 (q_subW : Nat → Nat → Option CV → W → W → (W → Bool) → Bool) (q_bitW : (Nat → Nat → Nat) → Nat → Nat → Option CV → W → W → (W → Bool) → Bool) (q_shlW : Nat → Nat → Nat → Option CV → W → W → (W → Bool) → Bool) (q_shrW : Nat → Nat → Option CV → W → W → (W → Bool) → Bool) (q_fadW : Nat → W → (W → Bool) → Bool) (q_killVW : W → HW → (HW → Bool) → Bool) (q_loadSW : HW → W → (W → Bool) → Bool) (q_boxW : HW → Nat → W → KW → Bool) (fu : Nat) (call : CallW) (a0 : W) (a1 : W) (h0 : HW) (c0 : Nat) (K : KW) : Bool :=
q_boxW h0 c0 a0 fun v1 h2 c3 =>
q_fadW 0 v1 fun v4 =>
q_loadSW h2 v4 fun v5 =>
q_subW 7 18446744073709551615 (binC Try.prog .sub 36 (.tmp 8) (.const (.int .u64 (.ofNat 1))) (dec v5) (dec ⟨7, 1, r0, []⟩)) v5 ⟨7, 1, r0, []⟩ fun v6 =>
q_shrW 6 32 (binC Try.prog .shr 22 (.tmp 6) (.tmp 9) (dec a1) (dec v6)) a1 v6 fun v7 =>
q_bitW Nat.land 6 4294967295 (binC Try.prog .and 22 (.tmp 10) (.const (.int .u32 (.ofNat 1))) (dec v7) (dec ⟨6, 1, r0, []⟩)) v7 ⟨6, 1, r0, []⟩ fun v8 =>
q_shlW 6 4294967295 32 (binC Try.prog .shl 22 (.tmp 12) (.const (.int .u64 (.ofNat 1))) (dec a1) (dec ⟨7, 1, r0, []⟩)) a1 ⟨7, 1, r0, []⟩ fun v9 =>
q_fadW 0 v1 fun v10 =>
q_loadSW h2 v10 fun v11 =>
call 27 [v11] h2 c3 fun v12 h13 c14 =>
q_bitW Nat.land 6 4294967295 (binC Try.prog .and 22 (.tmp 13) (.tmp 16) (dec v9) (dec v12)) v9 v12 fun v15 =>
q_fadW 1 v1 fun v16 =>
q_loadSW h13 v16 fun v17 =>
q_bitW Nat.land 6 4294967295 (binC Try.prog .and 22 (.tmp 20) (.tmp 22) (dec v15) (dec v17)) v15 v17 fun v18 =>
call 40 [v18] h13 c14 fun v19 h20 c21 =>
q_bitW Nat.xor 6 4294967295 (binC Try.prog .xor 22 (.tmp 19) (.tmp 24) (dec v8) (dec v19)) v8 v19 fun v22 =>
q_bitW Nat.lor 6 4294967295 (binC Try.prog .or 22 (.tmp 18) (.tmp 25) (dec v15) (dec v22)) v15 v22 fun v23 =>
q_killVW v1 h20 fun h24 =>
K v23 h24 c21
theorem R30_eq (Q : PrimW) (fu : Nat) (call : CallW) : curryA 2 (fnK Q Try.prog tys stl fu call e30) = R30 Q.subW Q.bitW Q.shlW Q.shrW Q.fadW Q.killVW Q.loadSW Q.boxW fu call := by kernel_rfl
noncomputable def n30 (call : CallW) : List W → HW → Nat → KW → Bool := appF 2 (R30 subW bitW shlW shrW fadW killVW loadSW boxW 1000000 call)
theorem n30_ok {call : CallW} (h : CallSim Try.prog tys stl tab call) : FnGood Try.prog tys stl tab 30 (n30 call) := node_ok h (by kernel_rfl) rfl g30 (R30_eq real _ _)
/- (foghorn/scramble.jump).of -/
noncomputable def R31 (q_addW : Nat → Nat → Option CV → W → W → (W → Bool) → Bool) (q_bitW : (Nat → Nat → Nat) → Nat → Nat → Option CV → W → W → (W → Bool) → Bool) (q_cmpW : (Nat → Nat → Bool) → Nat → Option CV → W → W → (W → Bool) → Bool) (q_shrW : Nat → Nat → Option CV → W → W → (W → Bool) → Bool) (q_negW : Nat → Nat → Bool → Option CV → W → (W → Bool) → Bool) (q_condW : W → Bool → Bool → Bool) (q_idxAW : Nat → Nat → W → W → (W → Bool) → Bool) (q_killVW : W → HW → (HW → Bool) → Bool) (q_loadSW : HW → W → (W → Bool) → Bool) (q_boxW : HW → Nat → W → KW → Bool) (fu : Nat) (call : CallW) (a0 : W) (a1 : W) (h0 : HW) (c0 : Nat) (K : KW) : Bool :=
q_boxW h0 c0 a0 fun v1 h2 c3 =>
@Nat.rec (fun _ => Fun 2) (fun _ _ _ _ => false) (fun _ f8 v4 v5 h6 c7 =>
q_cmpW (cmpF2 .lss) 3 (binC Try.prog .lss 3 (.tmp 7) (.const (.int .i64 (.ofNat 32))) (dec v5) (dec ⟨3, 32, r0, []⟩)) v5 ⟨3, 32, r0, []⟩ fun v9 =>
q_condW v9 (
q_idxAW 1 32 v1 v5 fun v10 =>
q_loadSW h6 v10 fun v11 =>
q_shrW 6 32 (binC Try.prog .shr 22 (.tmp 14) (.tmp 15) (dec a1) (dec v5)) a1 v5 fun v12 =>
q_bitW Nat.land 6 4294967295 (binC Try.prog .and 22 (.tmp 16) (.const (.int .u32 (.ofNat 1))) (dec v12) (dec ⟨6, 1, r0, []⟩)) v12 ⟨6, 1, r0, []⟩ fun v13 =>
q_negW 6 4294967295 true (two Try.prog (dec v13) (Op.unary .neg)) v13 fun v14 =>
q_bitW Nat.land 6 4294967295 (binC Try.prog .and 22 (.tmp 13) (.tmp 18) (dec v11) (dec v14)) v11 v14 fun v15 =>
q_bitW Nat.xor 6 4294967295 (binC Try.prog .xor 22 (.tmp 10) (.tmp 19) (dec v4) (dec v15)) v4 v15 fun v16 =>
q_addW 3 9223372036854775807 (binC Try.prog .add 3 (.tmp 7) (.const (.int .i64 (.ofNat 1))) (dec v5) (dec ⟨3, 1, r0, []⟩)) v5 ⟨3, 1, r0, []⟩ fun v17 =>
f8 v16 v17 h6 c7) (
q_killVW v1 h6 fun h18 =>
K v4 h18 c7)) fu ⟨6, 0, r0, []⟩ ⟨3, 0, r0, []⟩ h2 c3
theorem R31_eq (Q : PrimW) (fu : Nat) (call : CallW) : curryA 2 (fnK Q Try.prog tys stl fu call e31) = R31 Q.addW Q.bitW Q.cmpW Q.shrW Q.negW Q.condW Q.idxAW Q.killVW Q.loadSW Q.boxW fu call := by kernel_rfl
noncomputable def n31 (call : CallW) : List W → HW → Nat → KW → Bool := appF 2 (R31 addW bitW cmpW shrW negW condW idxAW killVW loadSW boxW 1000000 call)
theorem n31_ok {call : CallW} (h : CallSim Try.prog tys stl tab call) : FnGood Try.prog tys stl tab 31 (n31 call) := node_ok h (by kernel_rfl) rfl g31 (R31_eq real _ _)
/- (foghorn/scramble.jump).twice -/
noncomputable def R32 (q_addW : Nat → Nat → Option CV → W → W → (W → Bool) → Bool) (q_cmpW : (Nat → Nat → Bool) → Nat → Option CV → W → W → (W → Bool) → Bool) (q_condW : W → Bool → Bool → Bool) (q_idxAW : Nat → Nat → W → W → (W → Bool) → Bool) (q_killVW : W → HW → (HW → Bool) → Bool) (q_loadSW : HW → W → (W → Bool) → Bool) (q_loadAW : Nat → HW → W → (W → Bool) → Bool) (q_storeSW : HW → W → W → (HW → Bool) → Bool) (q_storeAW : Nat → HW → W → W → (HW → Bool) → Bool) (q_allocW : Trie W → Nat → Bool → HW → Nat → KW → Bool) (q_boxW : HW → Nat → W → KW → Bool) (fu : Nat) (call : CallW) (a0 : W) (h0 : HW) (c0 : Nat) (K : KW) : Bool :=
q_boxW h0 c0 a0 fun v1 h2 c3 =>
q_allocW (allocT tys 66) 32 true h2 c3 fun v4 h5 c6 =>
q_allocW (allocT tys 66) 32 true h5 c6 fun v7 h8 c9 =>
@Nat.rec (fun _ => Fun 1) (fun _ _ _ => false) (fun _ f13 v10 h11 c12 =>
q_cmpW (cmpF2 .lss) 3 (binC Try.prog .lss 3 (.tmp 5) (.const (.int .i64 (.ofNat 32))) (dec v10) (dec ⟨3, 32, r0, []⟩)) v10 ⟨3, 32, r0, []⟩ fun v14 =>
q_condW v14 (
q_loadAW 32 h11 v1 fun v15 =>
q_idxAW 1 32 v1 v10 fun v16 =>
q_loadSW h11 v16 fun v17 =>
call 31 [v15, v17] h11 c12 fun v18 h19 c20 =>
q_idxAW 1 32 v7 v10 fun v21 =>
q_storeSW h19 v21 v18 fun h22 =>
q_addW 3 9223372036854775807 (binC Try.prog .add 3 (.tmp 5) (.const (.int .i64 (.ofNat 1))) (dec v10) (dec ⟨3, 1, r0, []⟩)) v10 ⟨3, 1, r0, []⟩ fun v23 =>
f13 v23 h22 c20) (
q_loadAW 32 h11 v7 fun v24 =>
q_storeAW 32 h11 v4 v24 fun h25 =>
q_loadAW 32 h25 v4 fun v26 =>
q_killVW v1 h25 fun h27 =>
q_killVW v7 h27 fun h28 =>
K v26 h28 c12)) fu ⟨3, 0, r0, []⟩ h8 c9
theorem R32_eq (Q : PrimW) (fu : Nat) (call : CallW) : curryA 1 (fnK Q Try.prog tys stl fu call e32) = R32 Q.addW Q.cmpW Q.condW Q.idxAW Q.killVW Q.loadSW Q.loadAW Q.storeSW Q.storeAW Q.allocW Q.boxW fu call := by kernel_rfl
noncomputable def n32 (call : CallW) : List W → HW → Nat → KW → Bool := appF 1 (R32 addW cmpW condW idxAW killVW loadSW loadAW storeSW storeAW allocW boxW 1000000 call)
theorem n32_ok {call : CallW} (h : CallSim Try.prog tys stl tab call) : FnGood Try.prog tys stl tab 32 (n32 call) := node_ok h (by kernel_rfl) rfl g32 (R32_eq real _ _)
/- foghorn/scramble.parity -/
noncomputable def R40 (q_bitW : (Nat → Nat → Nat) → Nat → Nat → Option CV → W → W → (W → Bool) → Bool) (q_icvW : Nat → Nat → Option CV → W → (W → Bool) → Bool) (fu : Nat) (call : CallW) (a0 : W) (h0 : HW) (c0 : Nat) (K : KW) : Bool :=
call 44 [a0] h0 c0 fun v1 h2 c3 =>
q_bitW Nat.land 3 9223372036854775807 (binC Try.prog .and 3 (.tmp 4) (.const (.int .i64 (.ofNat 1))) (dec v1) (dec ⟨3, 1, r0, []⟩)) v1 ⟨3, 1, r0, []⟩ fun v4 =>
q_icvW 6 4294967295 (convC Try.prog tys ⟨[], 0, decH h2, 0⟩ 3 22 (dec v4)) v4 fun v5 =>
K v5 h2 c3
theorem R40_eq (Q : PrimW) (fu : Nat) (call : CallW) : curryA 1 (fnK Q Try.prog tys stl fu call e40) = R40 Q.bitW Q.icvW fu call := by kernel_rfl
noncomputable def n40 (call : CallW) : List W → HW → Nat → KW → Bool := appF 1 (R40 bitW icvW 1000000 call)
theorem n40_ok {call : CallW} (h : CallSim Try.prog tys stl tab call) : FnGood Try.prog tys stl tab 40 (n40 call) := node_ok h (by kernel_rfl) rfl g40 (R40_eq real _ _)
/- math/bits.OnesCount32 -/
noncomputable def R44 (q_genW : Option CV → (W → Bool) → Bool) (q_addW : Nat → Nat → Option CV → W → W → (W → Bool) → Bool) (q_bitW : (Nat → Nat → Nat) → Nat → Nat → Option CV → W → W → (W → Bool) → Bool) (q_shrW : Nat → Nat → Option CV → W → W → (W → Bool) → Bool) (q_icvW : Nat → Nat → Option CV → W → (W → Bool) → Bool) (fu : Nat) (call : CallW) (a0 : W) (h0 : HW) (c0 : Nat) (K : KW) : Bool :=
q_shrW 6 32 (binC Try.prog .shr 22 (.tmp 3) (.const (.int .u64 (.ofNat 24))) (dec a0) (dec ⟨7, 24, r0, []⟩)) a0 ⟨7, 24, r0, []⟩ fun v1 =>
q_genW (two2 Try.prog (dec ⟨12, 0, ⟨0, 0, 0, .str ⟨⟨[0, 1, 1, 2, 1, 2, 2, 3, 1, 2, 2, 3, 2, 3, 3, 4, 1, 2, 2, 3, 2, 3, 3, 4, 2, 3, 3, 4, 3, 4, 4, 5, 1, 2, 2, 3, 2, 3, 3, 4, 2, 3, 3, 4, 3, 4, 4, 5, 2, 3, 3, 4, 3, 4, 4, 5, 3, 4, 4, 5, 4, 5, 5, 6, 1, 2, 2, 3, 2, 3, 3, 4, 2, 3, 3, 4, 3, 4, 4, 5, 2, 3, 3, 4, 3, 4, 4, 5, 3, 4, 4, 5, 4, 5, 5, 6, 2, 3, 3, 4, 3, 4, 4, 5, 3, 4, 4, 5, 4, 5, 5, 6, 3, 4, 4, 5, 4, 5, 5, 6, 4, 5, 5, 6, 5, 6, 6, 7, 1, 2, 2, 3, 2, 3, 3, 4, 2, 3, 3, 4, 3, 4, 4, 5, 2, 3, 3, 4, 3, 4, 4, 5, 3, 4, 4, 5, 4, 5, 5, 6, 2, 3, 3, 4, 3, 4, 4, 5, 3, 4, 4, 5, 4, 5, 5, 6, 3, 4, 4, 5, 4, 5, 5, 6, 4, 5, 5, 6, 5, 6, 6, 7, 2, 3, 3, 4, 3, 4, 4, 5, 3, 4, 4, 5, 4, 5, 5, 6, 3, 4, 4, 5, 4, 5, 5, 6, 4, 5, 5, 6, 5, 6, 6, 7, 3, 4, 4, 5, 4, 5, 5, 6, 4, 5, 5, 6, 5, 6, 6, 7, 4, 5, 5, 6, 5, 6, 6, 7, 5, 6, 6, 7, 6, 7, 7, 8]⟩⟩⟩, []⟩) (dec v1) (Instr.index 9)) fun v2 =>
q_shrW 6 32 (binC Try.prog .shr 22 (.tmp 6) (.const (.int .u64 (.ofNat 16))) (dec a0) (dec ⟨7, 16, r0, []⟩)) a0 ⟨7, 16, r0, []⟩ fun v3 =>
q_bitW Nat.land 6 4294967295 (binC Try.prog .and 22 (.tmp 7) (.const (.int .u32 (.ofNat 255))) (dec v3) (dec ⟨6, 255, r0, []⟩)) v3 ⟨6, 255, r0, []⟩ fun v4 =>
q_genW (two2 Try.prog (dec ⟨12, 0, ⟨0, 0, 0, .str ⟨⟨[0, 1, 1, 2, 1, 2, 2, 3, 1, 2, 2, 3, 2, 3, 3, 4, 1, 2, 2, 3, 2, 3, 3, 4, 2, 3, 3, 4, 3, 4, 4, 5, 1, 2, 2, 3, 2, 3, 3, 4, 2, 3, 3, 4, 3, 4, 4, 5, 2, 3, 3, 4, 3, 4, 4, 5, 3, 4, 4, 5, 4, 5, 5, 6, 1, 2, 2, 3, 2, 3, 3, 4, 2, 3, 3, 4, 3, 4, 4, 5, 2, 3, 3, 4, 3, 4, 4, 5, 3, 4, 4, 5, 4, 5, 5, 6, 2, 3, 3, 4, 3, 4, 4, 5, 3, 4, 4, 5, 4, 5, 5, 6, 3, 4, 4, 5, 4, 5, 5, 6, 4, 5, 5, 6, 5, 6, 6, 7, 1, 2, 2, 3, 2, 3, 3, 4, 2, 3, 3, 4, 3, 4, 4, 5, 2, 3, 3, 4, 3, 4, 4, 5, 3, 4, 4, 5, 4, 5, 5, 6, 2, 3, 3, 4, 3, 4, 4, 5, 3, 4, 4, 5, 4, 5, 5, 6, 3, 4, 4, 5, 4, 5, 5, 6, 4, 5, 5, 6, 5, 6, 6, 7, 2, 3, 3, 4, 3, 4, 4, 5, 3, 4, 4, 5, 4, 5, 5, 6, 3, 4, 4, 5, 4, 5, 5, 6, 4, 5, 5, 6, 5, 6, 6, 7, 3, 4, 4, 5, 4, 5, 5, 6, 4, 5, 5, 6, 5, 6, 6, 7, 4, 5, 5, 6, 5, 6, 6, 7, 5, 6, 6, 7, 6, 7, 7, 8]⟩⟩⟩, []⟩) (dec v4) (Instr.index 9)) fun v5 =>
q_addW 4 255 (binC Try.prog .add 5 (.tmp 5) (.tmp 9) (dec v2) (dec v5)) v2 v5 fun v6 =>
q_shrW 6 32 (binC Try.prog .shr 22 (.tmp 11) (.const (.int .u64 (.ofNat 8))) (dec a0) (dec ⟨7, 8, r0, []⟩)) a0 ⟨7, 8, r0, []⟩ fun v7 =>
q_bitW Nat.land 6 4294967295 (binC Try.prog .and 22 (.tmp 12) (.const (.int .u32 (.ofNat 255))) (dec v7) (dec ⟨6, 255, r0, []⟩)) v7 ⟨6, 255, r0, []⟩ fun v8 =>
q_genW (two2 Try.prog (dec ⟨12, 0, ⟨0, 0, 0, .str ⟨⟨[0, 1, 1, 2, 1, 2, 2, 3, 1, 2, 2, 3, 2, 3, 3, 4, 1, 2, 2, 3, 2, 3, 3, 4, 2, 3, 3, 4, 3, 4, 4, 5, 1, 2, 2, 3, 2, 3, 3, 4, 2, 3, 3, 4, 3, 4, 4, 5, 2, 3, 3, 4, 3, 4, 4, 5, 3, 4, 4, 5, 4, 5, 5, 6, 1, 2, 2, 3, 2, 3, 3, 4, 2, 3, 3, 4, 3, 4, 4, 5, 2, 3, 3, 4, 3, 4, 4, 5, 3, 4, 4, 5, 4, 5, 5, 6, 2, 3, 3, 4, 3, 4, 4, 5, 3, 4, 4, 5, 4, 5, 5, 6, 3, 4, 4, 5, 4, 5, 5, 6, 4, 5, 5, 6, 5, 6, 6, 7, 1, 2, 2, 3, 2, 3, 3, 4, 2, 3, 3, 4, 3, 4, 4, 5, 2, 3, 3, 4, 3, 4, 4, 5, 3, 4, 4, 5, 4, 5, 5, 6, 2, 3, 3, 4, 3, 4, 4, 5, 3, 4, 4, 5, 4, 5, 5, 6, 3, 4, 4, 5, 4, 5, 5, 6, 4, 5, 5, 6, 5, 6, 6, 7, 2, 3, 3, 4, 3, 4, 4, 5, 3, 4, 4, 5, 4, 5, 5, 6, 3, 4, 4, 5, 4, 5, 5, 6, 4, 5, 5, 6, 5, 6, 6, 7, 3, 4, 4, 5, 4, 5, 5, 6, 4, 5, 5, 6, 5, 6, 6, 7, 4, 5, 5, 6, 5, 6, 6, 7, 5, 6, 6, 7, 6, 7, 7, 8]⟩⟩⟩, []⟩) (dec v8) (Instr.index 9)) fun v9 =>
q_addW 4 255 (binC Try.prog .add 5 (.tmp 10) (.tmp 14) (dec v6) (dec v9)) v6 v9 fun v10 =>
q_bitW Nat.land 6 4294967295 (binC Try.prog .and 22 (.tmp 16) (.const (.int .u32 (.ofNat 255))) (dec a0) (dec ⟨6, 255, r0, []⟩)) a0 ⟨6, 255, r0, []⟩ fun v11 =>
q_genW (two2 Try.prog (dec ⟨12, 0, ⟨0, 0, 0, .str ⟨⟨[0, 1, 1, 2, 1, 2, 2, 3, 1, 2, 2, 3, 2, 3, 3, 4, 1, 2, 2, 3, 2, 3, 3, 4, 2, 3, 3, 4, 3, 4, 4, 5, 1, 2, 2, 3, 2, 3, 3, 4, 2, 3, 3, 4, 3, 4, 4, 5, 2, 3, 3, 4, 3, 4, 4, 5, 3, 4, 4, 5, 4, 5, 5, 6, 1, 2, 2, 3, 2, 3, 3, 4, 2, 3, 3, 4, 3, 4, 4, 5, 2, 3, 3, 4, 3, 4, 4, 5, 3, 4, 4, 5, 4, 5, 5, 6, 2, 3, 3, 4, 3, 4, 4, 5, 3, 4, 4, 5, 4, 5, 5, 6, 3, 4, 4, 5, 4, 5, 5, 6, 4, 5, 5, 6, 5, 6, 6, 7, 1, 2, 2, 3, 2, 3, 3, 4, 2, 3, 3, 4, 3, 4, 4, 5, 2, 3, 3, 4, 3, 4, 4, 5, 3, 4, 4, 5, 4, 5, 5, 6, 2, 3, 3, 4, 3, 4, 4, 5, 3, 4, 4, 5, 4, 5, 5, 6, 3, 4, 4, 5, 4, 5, 5, 6, 4, 5, 5, 6, 5, 6, 6, 7, 2, 3, 3, 4, 3, 4, 4, 5, 3, 4, 4, 5, 4, 5, 5, 6, 3, 4, 4, 5, 4, 5, 5, 6, 4, 5, 5, 6, 5, 6, 6, 7, 3, 4, 4, 5, 4, 5, 5, 6, 4, 5, 5, 6, 5, 6, 6, 7, 4, 5, 5, 6, 5, 6, 6, 7, 5, 6, 6, 7, 6, 7, 7, 8]⟩⟩⟩, []⟩) (dec v11) (Instr.index 9)) fun v12 =>
q_addW 4 255 (binC Try.prog .add 5 (.tmp 15) (.tmp 18) (dec v10) (dec v12)) v10 v12 fun v13 =>
q_icvW 3 9223372036854775807 (convC Try.prog tys ⟨[], 0, decH h0, 0⟩ 5 3 (dec v13)) v13 fun v14 =>
K v14 h0 c0
theorem R44_eq (Q : PrimW) (fu : Nat) (call : CallW) : curryA 1 (fnK Q Try.prog tys stl fu call e44) = R44 Q.genW Q.addW Q.bitW Q.shrW Q.icvW fu call := by kernel_rfl
noncomputable def n44 (call : CallW) : List W → HW → Nat → KW → Bool := appF 1 (R44 genW addW bitW shrW icvW 1000000 call)
theorem n44_ok {call : CallW} (h : CallSim Try.prog tys stl tab call) : FnGood Try.prog tys stl tab 44 (n44 call) := node_ok h (by kernel_rfl) rfl g44 (R44_eq real _ _)
noncomputable def dS (call : CallW) : Disp := (.node 22 (n22 call) (.node 12 (n12 call) (.node 10 (n10 call) (.node 8 (n8 call) .leaf .leaf) (.node 11 (n11 call) .leaf .leaf)) (.node 16 (n16 call) (.node 15 (n15 call) .leaf .leaf) (.node 19 (n19 call) .leaf .leaf))) (.node 31 (n31 call) (.node 28 (n28 call) (.node 27 (n27 call) .leaf .leaf) (.node 30 (n30 call) .leaf .leaf)) (.node 40 (n40 call) (.node 32 (n32 call) .leaf .leaf) (.node 44 (n44 call) .leaf .leaf))))
theorem dS_ok {call : CallW} (h : CallSim Try.prog tys stl tab call) : CallSim Try.prog tys stl tab (dS call).fn := Disp.sim (t := dS call) ⟨n22_ok h, ⟨n12_ok h, ⟨n10_ok h, ⟨n8_ok h, True.intro, True.intro⟩, ⟨n11_ok h, True.intro, True.intro⟩⟩, ⟨n16_ok h, ⟨n15_ok h, True.intro, True.intro⟩, ⟨n19_ok h, True.intro, True.intro⟩⟩⟩, ⟨n31_ok h, ⟨n28_ok h, ⟨n27_ok h, True.intro, True.intro⟩, ⟨n30_ok h, True.intro, True.intro⟩⟩, ⟨n40_ok h, ⟨n32_ok h, True.intro, True.intro⟩, ⟨n44_ok h, True.intro, True.intro⟩⟩⟩⟩
noncomputable def dR (m : Nat) : Disp := @Nat.rec (fun _ => Disp) .leaf (fun _ ih => dS ih.fn) m
theorem dR_ok : ∀ m, CallSim Try.prog tys stl tab (dR m).fn
  | 0 => d0_ok
  | m + 1 => dS_ok (dR_ok m)
noncomputable abbrev dT : Disp := dR 200
theorem dT_ok : CallSim Try.prog tys stl tab dT.fn := dR_ok _
set_option maxHeartbeats 0 in
theorem run8 : lawK dT.fn 8 = true := by kernel_rfl
theorem works_f : Fits Try.prog 8 ⟨[], [], [⟨Unit, fun _ => True, fun _ => .bool true, fun _ => []⟩]⟩ :=
  lawK_fits tok mixed fok dT_ok (by kernel_rfl : tab 8 = some e8) rfl run8
end Go.Proofs.Ytdahkhhngaanfaa
