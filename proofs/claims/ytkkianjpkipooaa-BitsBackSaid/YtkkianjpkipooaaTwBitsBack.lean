/-
  The functions that the run goes through, as tables, and the run of a function without arguments. No condition.
-/
import Derived.Test.YtkkianjpkipooaaRows
import Derived.Test.YtkkianjpkipooaaGx
set_option linter.unusedVariables false
set_option maxRecDepth 1000000
namespace Go.Proofs.Ytkkianjpkipooaa
open Go Go.Fw
def tys : List (Nat × TyI) := [
  (1, ⟨.func, 1, 8, .nilFunc⟩),
  (2, ⟨.int .i64, 1, 8, .int .i64 0⟩),
  (3, ⟨.int .i64, 1, 8, .int .i64 0⟩),
  (4, ⟨.bool, 1, 1, .bool false⟩),
  (5, ⟨.int .u8, 1, 1, .int .u8 0⟩),
  (9, ⟨.str, 1, 16, .string (ByteArray.mk #[])⟩),
  (12, ⟨.int .u64, 1, 8, .int .u64 0⟩),
  (21, ⟨.int .i32, 1, 4, .int .i32 0⟩),
  (22, ⟨.slice 4, 1, 24, .slice none 0 0⟩),
  (23, ⟨.slice 3, 1, 24, .slice none 0 0⟩),
  (25, ⟨.func, 1, 8, .nilFunc⟩),
  (26, ⟨.int .i64, 1, 8, .int .i64 0⟩),
  (28, ⟨.func, 1, 8, .nilFunc⟩),
  (30, ⟨.func, 1, 8, .nilFunc⟩),
  (32, ⟨.func, 1, 8, .nilFunc⟩),
  (33, ⟨.func, 1, 8, .nilFunc⟩),
  (34, ⟨.func, 1, 8, .nilFunc⟩),
  (35, ⟨.func, 1, 8, .nilFunc⟩),
  (36, ⟨.func, 1, 8, .nilFunc⟩),
  (37, ⟨.func, 1, 8, .nilFunc⟩),
  (38, ⟨.func, 1, 8, .nilFunc⟩),
  (40, ⟨.func, 1, 8, .nilFunc⟩),
  (41, ⟨.func, 1, 8, .nilFunc⟩),
  (42, ⟨.func, 1, 8, .nilFunc⟩),
  (43, ⟨.func, 1, 8, .nilFunc⟩),
  (44, ⟨.func, 1, 8, .nilFunc⟩),
  (45, ⟨.func, 1, 8, .nilFunc⟩),
  (46, ⟨.func, 1, 8, .nilFunc⟩),
  (47, ⟨.func, 1, 8, .nilFunc⟩),
  (48, ⟨.func, 1, 8, .nilFunc⟩),
  (49, ⟨.func, 1, 8, .nilFunc⟩),
  (50, ⟨.func, 1, 8, .nilFunc⟩),
  (51, ⟨.slice 54, 1, 24, .slice none 0 0⟩),
  (52, ⟨.func, 1, 8, .nilFunc⟩),
  (53, ⟨.struct [(0, 3), (1, 22)], 2, 32, .agg #[.int .i64 0, .slice none 0 0]⟩),
  (54, ⟨.struct [(0, 3), (1, 22)], 2, 32, .agg #[.int .i64 0, .slice none 0 0]⟩),
  (55, ⟨.func, 1, 8, .nilFunc⟩),
  (56, ⟨.func, 1, 8, .nilFunc⟩),
  (57, ⟨.func, 1, 8, .nilFunc⟩),
  (58, ⟨.slice 5, 1, 24, .slice none 0 0⟩),
  (59, ⟨.func, 1, 8, .nilFunc⟩),
  (60, ⟨.func, 1, 8, .nilFunc⟩),
  (61, ⟨.int .u64, 1, 8, .int .u64 0⟩),
  (63, ⟨.func, 1, 8, .nilFunc⟩),
  (64, ⟨.func, 1, 8, .nilFunc⟩),
  (65, ⟨.func, 1, 8, .nilFunc⟩),
  (66, ⟨.func, 1, 8, .nilFunc⟩),
  (72, ⟨.func, 1, 8, .nilFunc⟩),
  (73, ⟨.int .u32, 1, 4, .int .u32 0⟩),
  (76, ⟨.func, 1, 8, .nilFunc⟩),
  (77, ⟨.ptr 5, 1, 8, .pointer none⟩)]


theorem tok : TOk Try.prog tys := tok_of ⟨⟨by kernel_rfl, by kernel_rfl⟩, ⟨by kernel_rfl, by kernel_rfl⟩, ⟨by kernel_rfl, by kernel_rfl⟩, ⟨by kernel_rfl, by kernel_rfl⟩, ⟨by kernel_rfl, by kernel_rfl⟩, ⟨by kernel_rfl, by kernel_rfl⟩, ⟨by kernel_rfl, by kernel_rfl⟩, ⟨by kernel_rfl, by kernel_rfl⟩, ⟨by kernel_rfl, by kernel_rfl⟩, ⟨by kernel_rfl, by kernel_rfl⟩, ⟨by kernel_rfl, by kernel_rfl⟩, ⟨by kernel_rfl, by kernel_rfl⟩, ⟨by kernel_rfl, by kernel_rfl⟩, ⟨by kernel_rfl, by kernel_rfl⟩, ⟨by kernel_rfl, by kernel_rfl⟩, ⟨by kernel_rfl, by kernel_rfl⟩, ⟨by kernel_rfl, by kernel_rfl⟩, ⟨by kernel_rfl, by kernel_rfl⟩, ⟨by kernel_rfl, by kernel_rfl⟩, ⟨by kernel_rfl, by kernel_rfl⟩, ⟨by kernel_rfl, by kernel_rfl⟩, ⟨by kernel_rfl, by kernel_rfl⟩, ⟨by kernel_rfl, by kernel_rfl⟩, ⟨by kernel_rfl, by kernel_rfl⟩, ⟨by kernel_rfl, by kernel_rfl⟩, ⟨by kernel_rfl, by kernel_rfl⟩, ⟨by kernel_rfl, by kernel_rfl⟩, ⟨by kernel_rfl, by kernel_rfl⟩, ⟨by kernel_rfl, by kernel_rfl⟩, ⟨by kernel_rfl, by kernel_rfl⟩, ⟨by kernel_rfl, by kernel_rfl⟩, ⟨by kernel_rfl, by kernel_rfl⟩, ⟨by kernel_rfl, by kernel_rfl⟩, ⟨by kernel_rfl, by kernel_rfl⟩, ⟨by kernel_rfl, by kernel_rfl⟩, ⟨by kernel_rfl, by kernel_rfl⟩, ⟨by kernel_rfl, by kernel_rfl⟩, ⟨by kernel_rfl, by kernel_rfl⟩, ⟨by kernel_rfl, by kernel_rfl⟩, ⟨by kernel_rfl, by kernel_rfl⟩, ⟨by kernel_rfl, by kernel_rfl⟩, ⟨by kernel_rfl, by kernel_rfl⟩, ⟨by kernel_rfl, by kernel_rfl⟩, ⟨by kernel_rfl, by kernel_rfl⟩, ⟨by kernel_rfl, by kernel_rfl⟩, ⟨by kernel_rfl, by kernel_rfl⟩, ⟨by kernel_rfl, by kernel_rfl⟩, ⟨by kernel_rfl, by kernel_rfl⟩, ⟨by kernel_rfl, by kernel_rfl⟩, ⟨by kernel_rfl, by kernel_rfl⟩, ⟨by kernel_rfl, by kernel_rfl⟩, True.intro⟩
theorem mixed : Try.prog.follows .mixedOrders = true := by kernel_rfl
def inL : List Nat → Nat → Bool
  | [], _ => false
  | a :: r, n => match Nat.beq a n with | true => true | false => inL r n
def stl : Nat → Bool := inL [25, 33, 34, 35, 36, 39]
/- 9: foghorn/bits.Of -/
def p9 : Nat → Option PlanC := fun _ => none
def wl9 : Nat → List Nat := fun
  | 5 => [4, 15]
  | _ => []
def wj9 : Nat → Option (List Nat) := fun _ => none
def kr9 : Nat → List Nat := fun _ => []
noncomputable def e9 : Ent := entOf Try.f9 ⟨p9, wl9, wj9, kr9, []⟩
theorem g9 : EntOk Try.prog tys stl 9 e9 := .inr ⟨rfl, Try.func9, by kernel_rfl, by kernel_rfl, by kernel_rfl, by kernel_rfl, by kernel_rfl, rfl⟩
/- 13: foghorn/bits.Words -/
def p13 : Nat → Option PlanC := fun _ => none
def wl13 : Nat → List Nat := fun
  | 5 => [32]
  | 8 => [45]
  | _ => []
def wj13 : Nat → Option (List Nat) := fun
  | 13 => some []
  | _ => none
def kr13 : Nat → List Nat := fun _ => []
noncomputable def e13 : Ent := entOf Try.f13 ⟨p13, wl13, wj13, kr13, []⟩
theorem g13 : EntOk Try.prog tys stl 13 e13 := .inr ⟨rfl, Try.func13, by kernel_rfl, by kernel_rfl, by kernel_rfl, by kernel_rfl, by kernel_rfl, rfl⟩
/- 18: foghorn/foghornlaw01.sameInts -/
def p18 : Nat → Option PlanC := fun _ => none
def wl18 : Nat → List Nat := fun
  | 4 => [5]
  | _ => []
def wj18 : Nat → Option (List Nat) := fun _ => none
def kr18 : Nat → List Nat := fun _ => []
noncomputable def e18 : Ent := entOf Try.f18 ⟨p18, wl18, wj18, kr18, []⟩
theorem g18 : EntOk Try.prog tys stl 18 e18 := .inr ⟨rfl, Try.func18, by kernel_rfl, by kernel_rfl, by kernel_rfl, by kernel_rfl, by kernel_rfl, rfl⟩
/- 21: foghorn/foghornlaw01.works -/
def p21 : Nat → Option PlanC := fun _ => none
def wl21 : Nat → List Nat := fun _ => []
def wj21 : Nat → Option (List Nat) := fun _ => none
def kr21 : Nat → List Nat := fun _ => []
noncomputable def e21 : Ent := entOf Try.f21 ⟨p21, wl21, wj21, kr21, []⟩
theorem g21 : EntOk Try.prog tys stl 21 e21 := .inr ⟨rfl, Try.func21, by kernel_rfl, by kernel_rfl, by kernel_rfl, by kernel_rfl, by kernel_rfl, rfl⟩
/- 23: foghorn/bits.Text -/
def p23 : Nat → Option PlanC := fun _ => none
def wl23 : Nat → List Nat := fun
  | 3 => [11]
  | _ => []
def wj23 : Nat → Option (List Nat) := fun
  | 8 => some []
  | _ => none
def kr23 : Nat → List Nat := fun _ => []
noncomputable def e23 : Ent := entOf Try.f23 ⟨p23, wl23, wj23, kr23, []⟩
theorem g23 : EntOk Try.prog tys stl 23 e23 := .inr ⟨rfl, Try.func23, by kernel_rfl, by kernel_rfl, by kernel_rfl, by kernel_rfl, by kernel_rfl, rfl⟩
/- 25: foghorn/bits.Weight -/
def p25 : Nat → Option PlanC := fun _ => none
def wl25 : Nat → List Nat := fun
  | 3 => [3, 8]
  | _ => []
def wj25 : Nat → Option (List Nat) := fun
  | 7 => some [3]
  | _ => none
def kr25 : Nat → List Nat := fun _ => []
noncomputable def e25 : Ent := entOf Try.f25 ⟨p25, wl25, wj25, kr25, []⟩
theorem g25 : EntOk Try.prog tys stl 25 e25 := .inr ⟨rfl, Try.func25, by kernel_rfl, by kernel_rfl, by kernel_rfl, by kernel_rfl, by kernel_rfl, rfl⟩
/- 28: foghorn/bits.Pieces -/
def p28 : Nat → Option PlanC := fun _ => none
def wl28 : Nat → List Nat := fun _ => []
def wj28 : Nat → Option (List Nat) := fun _ => none
def kr28 : Nat → List Nat := fun _ => []
noncomputable def e28 : Ent := entOf Try.f28 ⟨p28, wl28, wj28, kr28, []⟩
theorem g28 : EntOk Try.prog tys stl 28 e28 := .inr ⟨rfl, Try.func28, by kernel_rfl, by kernel_rfl, by kernel_rfl, by kernel_rfl, by kernel_rfl, rfl⟩
/- 31: foghorn/bits.appendWord -/
def p31 : Nat → Option PlanC := fun _ => none
def wl31 : Nat → List Nat := fun
  | 2 => [0, 9]
  | _ => []
def wj31 : Nat → Option (List Nat) := fun _ => none
def kr31 : Nat → List Nat := fun
  | 4 => [21]
  | _ => []
noncomputable def e31 : Ent := entOf Try.f31 ⟨p31, wl31, wj31, kr31, []⟩
theorem g31 : EntOk Try.prog tys stl 31 e31 := .inr ⟨rfl, Try.func31, by kernel_rfl, by kernel_rfl, by kernel_rfl, by kernel_rfl, by kernel_rfl, rfl⟩
/- 33: foghorn/bits.isWidth -/
def p33 : Nat → Option PlanC := fun _ => none
def wl33 : Nat → List Nat := fun _ => []
def wj33 : Nat → Option (List Nat) := fun _ => none
def kr33 : Nat → List Nat := fun _ => []
noncomputable def e33 : Ent := entOf Try.f33 ⟨p33, wl33, wj33, kr33, []⟩
theorem g33 : EntOk Try.prog tys stl 33 e33 := .inr ⟨rfl, Try.func33, by kernel_rfl, by kernel_rfl, by kernel_rfl, by kernel_rfl, by kernel_rfl, rfl⟩
/- 34: foghorn/bits.isRow -/
def p34 : Nat → Option PlanC := fun _ => none
def wl34 : Nat → List Nat := fun _ => []
def wj34 : Nat → Option (List Nat) := fun _ => none
def kr34 : Nat → List Nat := fun _ => []
noncomputable def e34 : Ent := entOf Try.f34 ⟨p34, wl34, wj34, kr34, []⟩
theorem g34 : EntOk Try.prog tys stl 34 e34 := .inr ⟨rfl, Try.func34, by kernel_rfl, by kernel_rfl, by kernel_rfl, by kernel_rfl, by kernel_rfl, rfl⟩
/- 35: foghorn/bits.Gray -/
def p35 : Nat → Option PlanC := fun _ => none
def wl35 : Nat → List Nat := fun _ => []
def wj35 : Nat → Option (List Nat) := fun _ => none
def kr35 : Nat → List Nat := fun _ => []
noncomputable def e35 : Ent := entOf Try.f35 ⟨p35, wl35, wj35, kr35, []⟩
theorem g35 : EntOk Try.prog tys stl 35 e35 := .inr ⟨rfl, Try.func35, by kernel_rfl, by kernel_rfl, by kernel_rfl, by kernel_rfl, by kernel_rfl, rfl⟩
/- 36: foghorn/bits.Pieces$1 -/
def p36 : Nat → Option PlanC := fun _ => none
def wl36 : Nat → List Nat := fun _ => []
def wj36 : Nat → Option (List Nat) := fun _ => none
def kr36 : Nat → List Nat := fun _ => []
noncomputable def e36 : Ent := entOf Try.f36 ⟨p36, wl36, wj36, kr36, []⟩
theorem g36 : EntOk Try.prog tys stl 36 e36 := .inr ⟨rfl, Try.func36, by kernel_rfl, by kernel_rfl, by kernel_rfl, by kernel_rfl, by kernel_rfl, rfl⟩
/- 37: slices.Clone[[]bool,bool] -/
def p37 : Nat → Option PlanC := fun _ => none
def wl37 : Nat → List Nat := fun _ => []
def wj37 : Nat → Option (List Nat) := fun _ => none
def kr37 : Nat → List Nat := fun _ => []
noncomputable def e37 : Ent := entOf Try.f37 ⟨p37, wl37, wj37, kr37, []⟩
theorem g37 : EntOk Try.prog tys stl 37 e37 := .inr ⟨rfl, Try.func37, by kernel_rfl, by kernel_rfl, by kernel_rfl, by kernel_rfl, by kernel_rfl, rfl⟩
/- 38: foghorn/bits.Pieces$2 -/
def p38 : Nat → Option PlanC := fun _ => none
def wl38 : Nat → List Nat := fun
  | 1 => [4]
  | _ => []
def wj38 : Nat → Option (List Nat) := fun _ => none
def kr38 : Nat → List Nat := fun _ => []
noncomputable def e38 : Ent := entOf Try.f38 ⟨p38, wl38, wj38, kr38, []⟩
theorem g38 : EntOk Try.prog tys stl 38 e38 := .inr ⟨rfl, Try.func38, by kernel_rfl, by kernel_rfl, by kernel_rfl, by kernel_rfl, by kernel_rfl, rfl⟩
/- 39: foghorn/bits.isGray -/
def p39 : Nat → Option PlanC := fun _ => none
def wl39 : Nat → List Nat := fun _ => []
def wj39 : Nat → Option (List Nat) := fun _ => none
def kr39 : Nat → List Nat := fun _ => []
noncomputable def e39 : Ent := entOf Try.f39 ⟨p39, wl39, wj39, kr39, []⟩
theorem g39 : EntOk Try.prog tys stl 39 e39 := .inr ⟨rfl, Try.func39, by kernel_rfl, by kernel_rfl, by kernel_rfl, by kernel_rfl, by kernel_rfl, rfl⟩
noncomputable def ents : List (Nat × Ent) := [(9, e9), (13, e13), (18, e18), (21, e21), (23, e23), (25, e25), (28, e28), (31, e31), (33, e33), (34, e34), (35, e35), (36, e36), (37, e37), (38, e38), (39, e39)]
theorem goods : EntsOk Try.prog tys stl ents := ⟨g9, g13, g18, g21, g23, g25, g28, g31, g33, g34, g35, g36, g37, g38, g39, True.intro⟩
noncomputable def tab : Nat → Option Ent := (tabOf ents).get
theorem fok : FOk Try.prog tys stl tab := fok_of goods
noncomputable def d0 : Disp := .leaf
theorem d0_ok : CallSim Try.prog tys stl tab d0.fn := Disp.sim True.intro
/- foghorn/bits.Of -/
noncomputable def R9 (q_genW : Option CV → (W → Bool) → Bool) (q_addW : Nat → Nat → Option CV → W → W → (W → Bool) → Bool) (q_mulW : Nat → Nat → Option CV → W → W → (W → Bool) → Bool) (q_cmpW : (Nat → Nat → Bool) → Nat → Option CV → W → W → (W → Bool) → Bool) (q_icvW : Nat → Nat → Option CV → W → (W → Bool) → Bool) (q_condW : W → Bool → Bool → Bool) (q_makeSW : Nat → Nat → Nat → Kind → List W → Bool → HW → Nat → W → W → KW → Bool) (fu : Nat) (call : CallW) (a0 : W) (h0 : HW) (c0 : Nat) (K : KW) : Bool :=
q_genW (lenMC Try.prog tys ⟨[], 0, decH h0, 0⟩ 9 (dec a0)) fun v1 =>
q_cmpW (cmpF2 .gtr) 3 (binC Try.prog .gtr 3 (.tmp 7) (.const (.int .i64 (.ofNat 4096))) (dec v1) (dec ⟨3, 4096, r0, []⟩)) v1 ⟨3, 4096, r0, []⟩ fun v2 =>
q_condW v2 (
K ⟨13, 0, r0, [⟨12, 0, ⟨0, 0, 0, .nils⟩, []⟩, ⟨3, 1, r0, []⟩]⟩ h0 c0) (
q_genW (lenMC Try.prog tys ⟨[], 0, decH h0, 0⟩ 9 (dec a0)) fun v3 =>
q_mulW 3 9223372036854775807 (binC Try.prog .mul 3 (.const (.int .i64 (.ofNat 8))) (.tmp 10) (dec ⟨3, 8, r0, []⟩) (dec v3)) ⟨3, 8, r0, []⟩ v3 fun v4 =>
q_makeSW 1 1 8 .bools [⟨8, 0, r0, []⟩] true h0 c0 ⟨3, 0, r0, []⟩ v4 fun v5 h6 c7 =>
q_genW (lenMC Try.prog tys ⟨[], 0, decH h6, 0⟩ 9 (dec a0)) fun v8 =>
@Nat.rec (fun _ => Fun 2) (fun _ _ _ _ => false) (fun _ f13 v9 v10 h11 c12 =>
q_cmpW (cmpF2 .lss) 3 (binC Try.prog .lss 3 (.tmp 15) (.tmp 14) (dec v10) (dec v8)) v10 v8 fun v14 =>
q_condW v14 (
q_genW (two2 Try.prog (dec a0) (dec v10) (Instr.index 9)) fun v15 =>
q_icvW 3 9223372036854775807 (convC Try.prog tys ⟨[], 0, decH h11, 0⟩ 5 3 (dec v15)) v15 fun v16 =>
call 31 [v9, v16, ⟨3, 8, r0, []⟩] h11 c12 fun v17 h18 c19 =>
q_addW 3 9223372036854775807 (binC Try.prog .add 3 (.tmp 15) (.const (.int .i64 (.ofNat 1))) (dec v10) (dec ⟨3, 1, r0, []⟩)) v10 ⟨3, 1, r0, []⟩ fun v20 =>
f13 v17 v20 h18 c19) (
K ⟨13, 0, r0, [v9, ⟨3, 0, r0, []⟩]⟩ h11 c12)) fu v5 ⟨3, 0, r0, []⟩ h6 c7)
theorem R9_eq (Q : PrimW) (fu : Nat) (call : CallW) : curryA 1 (fnK Q Try.prog tys stl fu call e9) = R9 Q.genW Q.addW Q.mulW Q.cmpW Q.icvW Q.condW Q.makeSW fu call := by kernel_rfl
noncomputable def n9 (call : CallW) : List W → HW → Nat → KW → Bool := appF 1 (R9 genW addW mulW cmpW icvW condW makeSW 1000000 call)
theorem n9_ok {call : CallW} (h : CallSim Try.prog tys stl tab call) : FnGood Try.prog tys stl tab 9 (n9 call) := node_ok h (by kernel_rfl) rfl g9 (R9_eq real _ _)
/- foghorn/bits.Words -/
noncomputable def R13 (q_share : (α : Type) → α → (α → Bool) → Bool) (q_genW : Option CV → (W → Bool) → Bool) (q_addW : Nat → Nat → Option CV → W → W → (W → Bool) → Bool) (q_mulW : Nat → Nat → Option CV → W → W → (W → Bool) → Bool) (q_quoW : Nat → Nat → Option CV → W → W → (W → Bool) → Bool) (q_remW : Nat → Nat → Option CV → W → W → (W → Bool) → Bool) (q_bitW : (Nat → Nat → Nat) → Nat → Nat → Option CV → W → W → (W → Bool) → Bool) (q_cmpW : (Nat → Nat → Bool) → Nat → Option CV → W → W → (W → Bool) → Bool) (q_shlW : Nat → Nat → Nat → Option CV → W → W → (W → Bool) → Bool) (q_notW : Option CV → W → (W → Bool) → Bool) (q_condW : W → Bool → Bool → Bool) (q_guardW : Bool → W → Bool → Bool → Bool) (q_pickW : W → W → W → (W → Bool) → Bool) (q_idxSW : Nat → W → W → (W → Bool) → Bool) (q_lenW : Option CV → W → (W → Bool) → Bool) (q_loadSW : HW → W → (W → Bool) → Bool) (q_storeSW : HW → W → W → (HW → Bool) → Bool) (q_makeSW : Nat → Nat → Nat → Kind → List W → Bool → HW → Nat → W → W → KW → Bool) (fu : Nat) (call : CallW) (a0 : W) (a1 : W) (h0 : HW) (c0 : Nat) (K : KW) : Bool :=
call 33 [a1] h0 c0 fun v1 h2 c3 =>
q_notW (two Try.prog (dec v1) (Op.unary .not)) v1 fun v4 =>
q_share _ (fun (v6 : W) (h7 : HW) (c8 : Nat) =>
q_share _ (fun (v10 : W) (h11 : HW) (c12 : Nat) =>
q_share _ (fun (v14 : W) (h15 : HW) (c16 : Nat) =>
q_pickW v4 ⟨8, 1, r0, []⟩ v14 fun v17 =>
q_share _ (fun (v19 : W) (h20 : HW) (c21 : Nat) =>
q_share _ (fun (v23 : W) (h24 : HW) (c25 : Nat) =>
q_share _ (fun (v27 : W) (h28 : HW) (c29 : Nat) =>
q_share _ (fun (v31 : W) (h32 : HW) (c33 : Nat) =>
q_share _ (fun (v35 : W) (h36 : HW) (c37 : Nat) =>
q_pickW v17 ⟨8, 1, r0, []⟩ v35 fun v38 =>
q_condW v38 (
K ⟨13, 0, r0, [⟨12, 0, ⟨0, 0, 0, .nils⟩, []⟩, ⟨3, 1, r0, []⟩]⟩ h36 c37) (
q_lenW (lenC tys 22 (dec a0)) a0 fun v39 =>
q_quoW 3 9223372036854775807 (binC Try.prog .quo 3 (.tmp 26) (.tmp 27) (dec v39) (dec a1)) v39 a1 fun v40 =>
q_makeSW 8 1 3 (.ints .i64) [⟨3, 0, r0, []⟩] true h36 c37 v40 v40 fun v41 h42 c43 =>
q_lenW (lenC tys 23 (dec v41)) v41 fun v44 =>
@Nat.rec (fun _ => Fun 1) (fun _ _ _ => false) (fun _ f48 v45 h46 c47 =>
q_cmpW (cmpF2 .lss) 3 (binC Try.prog .lss 3 (.tmp 32) (.tmp 31) (dec v45) (dec v44)) v45 v44 fun v49 =>
q_condW v49 (
q_mulW 3 9223372036854775807 (binC Try.prog .mul 3 (.tmp 36) (.tmp 37) (dec v45) (dec a1)) v45 a1 fun v50 =>
q_addW 3 9223372036854775807 (binC Try.prog .add 3 (.tmp 39) (.const (.int .i64 (.ofNat 1))) (dec v45) (dec ⟨3, 1, r0, []⟩)) v45 ⟨3, 1, r0, []⟩ fun v51 =>
q_mulW 3 9223372036854775807 (binC Try.prog .mul 3 (.tmp 40) (.tmp 41) (dec v51) (dec a1)) v51 a1 fun v52 =>
q_genW (sliceM tys ⟨[], 0, decH h46, 0⟩ 22 (dec a0) (some (dec v50)) (some (dec v52)) none) fun v53 =>
q_lenW (lenC tys 22 (dec v53)) v53 fun v54 =>
@Nat.rec (fun _ => Fun 1) (fun _ _ _ => false) (fun _ f58 v55 h56 c57 =>
q_cmpW (cmpF2 .lss) 3 (binC Try.prog .lss 3 (.tmp 45) (.tmp 44) (dec v55) (dec v54)) v55 v54 fun v59 =>
q_condW v59 (
q_share _ (fun  (h60 : HW) (c61 : Nat) =>
q_addW 3 9223372036854775807 (binC Try.prog .add 3 (.tmp 45) (.const (.int .i64 (.ofNat 1))) (dec v55) (dec ⟨3, 1, r0, []⟩)) v55 ⟨3, 1, r0, []⟩ fun v63 =>
f58 v63 h60 c61) fun f62 =>
q_idxSW 1 v53 v55 fun v64 =>
q_loadSW h56 v64 fun v65 =>
q_idxSW 1 v41 v45 fun v66 =>
q_loadSW h56 v66 fun v67 =>
q_shlW 3 9223372036854775807 64 (binC Try.prog .shl 3 (.tmp 52) (.const (.int .u64 (.ofNat 1))) (dec v67) (dec ⟨7, 1, r0, []⟩)) v67 ⟨7, 1, r0, []⟩ fun v68 =>
q_idxSW 1 v41 v45 fun v69 =>
q_storeSW h56 v69 v68 fun h70 =>
q_condW v65 (
q_idxSW 1 v41 v45 fun v71 =>
q_loadSW h70 v71 fun v72 =>
q_bitW Nat.lor 3 9223372036854775807 (binC Try.prog .or 3 (.tmp 59) (.const (.int .i64 (.ofNat 1))) (dec v72) (dec ⟨3, 1, r0, []⟩)) v72 ⟨3, 1, r0, []⟩ fun v73 =>
q_idxSW 1 v41 v45 fun v74 =>
q_storeSW h70 v74 v73 fun h75 =>
f62 h75 c57) (
f62 h70 c57)) (
q_addW 3 9223372036854775807 (binC Try.prog .add 3 (.tmp 32) (.const (.int .i64 (.ofNat 1))) (dec v45) (dec ⟨3, 1, r0, []⟩)) v45 ⟨3, 1, r0, []⟩ fun v76 =>
f48 v76 h56 c57)) fu ⟨3, 0, r0, []⟩ h46 c47) (
K ⟨13, 0, r0, [v41, ⟨3, 0, r0, []⟩]⟩ h46 c47)) fu ⟨3, 0, r0, []⟩ h42 c43)) fun f34 =>
q_guardW false v17 (q_cmpW (cmpF2 .neq) 3 (binC Try.prog .neq 3 (.tmp 22) (.const (.int .i64 (.ofNat 0))) (dec v31) (dec ⟨3, 0, r0, []⟩)) v31 ⟨3, 0, r0, []⟩ fun v77 =>
f34 v77 h32 c33) (f34 wUnd h32 c33)) fun f30 =>
q_guardW false v17 (q_remW 3 9223372036854775807 (binC Try.prog .rem 3 (.tmp 20) (.tmp 21) (dec v23) (dec v27)) v23 v27 fun v78 =>
f30 v78 h28 c29) (f30 wUnd h28 c29)) fun f26 =>
q_guardW false v17 (f26 a1 h24 c25) (f26 wUnd h24 c25)) fun f22 =>
q_guardW false v17 (q_lenW (lenC tys 22 (dec v19)) v19 fun v79 =>
f22 v79 h20 c21) (f22 wUnd h20 c21)) fun f18 =>
q_guardW false v17 (f18 a0 h15 c16) (f18 wUnd h15 c16)) fun f13 =>
q_guardW false v4 (q_notW (two Try.prog (dec v10) (Op.unary .not)) v10 fun v80 =>
f13 v80 h11 c12) (f13 wUnd h11 c12)) fun f9 =>
q_guardW false v4 (call 34 [v6] h7 c8 fun v81 h82 c83 =>
f9 v81 h82 c83) (f9 wUnd h7 c8)) fun f5 =>
q_guardW false v4 (f5 a0 h2 c3) (f5 wUnd h2 c3)
theorem R13_eq (Q : PrimW) (fu : Nat) (call : CallW) : curryA 2 (fnK Q Try.prog tys stl fu call e13) = R13 Q.share Q.genW Q.addW Q.mulW Q.quoW Q.remW Q.bitW Q.cmpW Q.shlW Q.notW Q.condW Q.guardW Q.pickW Q.idxSW Q.lenW Q.loadSW Q.storeSW Q.makeSW fu call := by kernel_rfl
noncomputable def n13 (call : CallW) : List W → HW → Nat → KW → Bool := appF 2 (R13 (fun _ x f => f x) genW addW mulW quoW remW bitW cmpW shlW notW condW guardW pickW idxSW lenW loadSW storeSW makeSW 1000000 call)
theorem n13_ok {call : CallW} (h : CallSim Try.prog tys stl tab call) : FnGood Try.prog tys stl tab 13 (n13 call) := node_ok h (by kernel_rfl) rfl g13 (R13_eq real _ _)
/- foghorn/foghornlaw01.sameInts -/
noncomputable def R18 (q_addW : Nat → Nat → Option CV → W → W → (W → Bool) → Bool) (q_cmpW : (Nat → Nat → Bool) → Nat → Option CV → W → W → (W → Bool) → Bool) (q_condW : W → Bool → Bool → Bool) (q_idxSW : Nat → W → W → (W → Bool) → Bool) (q_lenW : Option CV → W → (W → Bool) → Bool) (q_loadSW : HW → W → (W → Bool) → Bool) (fu : Nat) (call : CallW) (a0 : W) (a1 : W) (h0 : HW) (c0 : Nat) (K : KW) : Bool :=
q_lenW (lenC tys 23 (dec a0)) a0 fun v1 =>
q_lenW (lenC tys 23 (dec a1)) a1 fun v2 =>
q_cmpW (cmpF2 .neq) 3 (binC Try.prog .neq 3 (.tmp 7) (.tmp 9) (dec v1) (dec v2)) v1 v2 fun v3 =>
q_condW v3 (
K ⟨8, 0, r0, []⟩ h0 c0) (
@Nat.rec (fun _ => Fun 1) (fun _ _ _ => false) (fun _ f7 v4 h5 c6 =>
q_lenW (lenC tys 23 (dec a0)) a0 fun v8 =>
q_cmpW (cmpF2 .lss) 3 (binC Try.prog .lss 3 (.tmp 11) (.tmp 13) (dec v4) (dec v8)) v4 v8 fun v9 =>
q_condW v9 (
q_idxSW 1 a0 v4 fun v10 =>
q_loadSW h5 v10 fun v11 =>
q_idxSW 1 a1 v4 fun v12 =>
q_loadSW h5 v12 fun v13 =>
q_cmpW (cmpF2 .neq) 3 (binC Try.prog .neq 3 (.tmp 20) (.tmp 24) (dec v11) (dec v13)) v11 v13 fun v14 =>
q_condW v14 (
K ⟨8, 0, r0, []⟩ h5 c6) (
q_addW 3 9223372036854775807 (binC Try.prog .add 3 (.tmp 15) (.const (.int .i64 (.ofNat 1))) (dec v4) (dec ⟨3, 1, r0, []⟩)) v4 ⟨3, 1, r0, []⟩ fun v15 =>
f7 v15 h5 c6)) (
K ⟨8, 1, r0, []⟩ h5 c6)) fu ⟨3, 0, r0, []⟩ h0 c0)
theorem R18_eq (Q : PrimW) (fu : Nat) (call : CallW) : curryA 2 (fnK Q Try.prog tys stl fu call e18) = R18 Q.addW Q.cmpW Q.condW Q.idxSW Q.lenW Q.loadSW fu call := by kernel_rfl
noncomputable def n18 (call : CallW) : List W → HW → Nat → KW → Bool := appF 2 (R18 addW cmpW condW idxSW lenW loadSW 1000000 call)
theorem n18_ok {call : CallW} (h : CallSim Try.prog tys stl tab call) : FnGood Try.prog tys stl tab 18 (n18 call) := node_ok h (by kernel_rfl) rfl g18 (R18_eq real _ _)
/- foghorn/foghornlaw01.works -/
noncomputable def R21 (q_share : (α : Type) → α → (α → Bool) → Bool) (q_genW : Option CV → (W → Bool) → Bool) (q_cmpW : (Nat → Nat → Bool) → Nat → Option CV → W → W → (W → Bool) → Bool) (q_guardW : Bool → W → Bool → Bool → Bool) (q_pickW : W → W → W → (W → Bool) → Bool) (q_tupW : W → (List W → Bool) → Bool) (q_nthW : Nat → List W → (W → Bool) → Bool) (q_buildSW : Nat → Nat → Kind → Nat → Bool → HW → Nat → Nat → List W → KW → Bool) (fu : Nat) (call : CallW) (h0 : HW) (c0 : Nat) (K : KW) : Bool :=
call 9 [⟨12, 0, ⟨0, 0, 0, .str ⟨⟨[65]⟩⟩⟩, []⟩] h0 c0 fun v1 h2 c3 =>
q_tupW v1 fun l4 => q_nthW 0 l4 fun v5 =>
q_tupW v1 fun l6 => q_nthW 1 l6 fun v7 =>
call 13 [v5, ⟨3, 4, r0, []⟩] h2 c3 fun v8 h9 c10 =>
q_tupW v8 fun l11 => q_nthW 0 l11 fun v12 =>
q_tupW v8 fun l13 => q_nthW 1 l13 fun v14 =>
call 35 [⟨3, 7, r0, []⟩] h9 c10 fun v15 h16 c17 =>
q_tupW v15 fun l18 => q_nthW 0 l18 fun v19 =>
q_tupW v15 fun l20 => q_nthW 1 l20 fun v21 =>
q_cmpW (cmpF2 .eql) 3 (binC Try.prog .eql 26 (.tmp 20) (.const (.int .i64 (.ofNat 0))) (dec v7) (dec ⟨3, 0, r0, []⟩)) v7 ⟨3, 0, r0, []⟩ fun v22 =>
q_share _ (fun (v24 : W) (h25 : HW) (c26 : Nat) =>
q_share _ (fun (v28 : W) (h29 : HW) (c30 : Nat) =>
q_pickW v22 v28 ⟨8, 0, r0, []⟩ fun v31 =>
q_share _ (fun (v33 : W) (h34 : HW) (c35 : Nat) =>
q_share _ (fun (v37 : W) (h38 : HW) (c39 : Nat) =>
q_pickW v31 v37 ⟨8, 0, r0, []⟩ fun v40 =>
q_share _ (fun (v42 : W) (h43 : HW) (c44 : Nat) =>
q_share _ (fun (v46 : W) (h47 : HW) (c48 : Nat) =>
q_pickW v40 v46 ⟨8, 0, r0, []⟩ fun v49 =>
q_share _ (fun (v51 : W) (h52 : HW) (c53 : Nat) =>
q_share _ (fun (v55 : W) (h56 : HW) (c57 : Nat) =>
q_share _ (fun (v59 : W) (h60 : HW) (c61 : Nat) =>
q_pickW v49 v59 ⟨8, 0, r0, []⟩ fun v62 =>
q_share _ (fun (v64 : W) (h65 : HW) (c66 : Nat) =>
q_share _ (fun (v68 : W) (h69 : HW) (c70 : Nat) =>
q_share _ (fun (v72 : W) (h73 : HW) (c74 : Nat) =>
q_pickW v62 v72 ⟨8, 0, r0, []⟩ fun v75 =>
q_share _ (fun (v77 : W) (h78 : HW) (c79 : Nat) =>
q_share _ (fun (v81 : W) (h82 : HW) (c83 : Nat) =>
q_share _ (fun (v85 : W) (h86 : HW) (c87 : Nat) =>
q_pickW v75 v85 ⟨8, 0, r0, []⟩ fun v88 =>
q_share _ (fun (v90 : W) (h91 : HW) (c92 : Nat) =>
q_share _ (fun (v94 : W) (h95 : HW) (c96 : Nat) =>
q_share _ (fun (v98 : W) (h99 : HW) (c100 : Nat) =>
q_pickW v88 v98 ⟨8, 0, r0, []⟩ fun v101 =>
K v101 h99 c100) fun f97 =>
q_guardW true v88 (q_genW (binC Try.prog .neq 47 (.tmp 51) (.const .nilFunc) (dec v94) (dec ⟨12, 0, ⟨0, 0, 0, .nilf⟩, []⟩)) fun v102 =>
f97 v102 h95 c96) (f97 wUnd h95 c96)) fun f93 =>
q_guardW true v88 (call 28 [v90, ⟨3, 3, r0, []⟩] h91 c92 fun v103 h104 c105 =>
f93 v103 h104 c105) (f93 wUnd h91 c92)) fun f89 =>
q_guardW true v88 (f89 v5 h86 c87) (f89 wUnd h86 c87)) fun f84 =>
q_guardW true v75 (q_cmpW (cmpF2 .eql) 3 (binC Try.prog .eql 3 (.tmp 46) (.const (.int .i64 (.ofNat 2))) (dec v81) (dec ⟨3, 2, r0, []⟩)) v81 ⟨3, 2, r0, []⟩ fun v106 =>
f84 v106 h82 c83) (f84 wUnd h82 c83)) fun f80 =>
q_guardW true v75 (call 25 [v77] h78 c79 fun v107 h108 c109 =>
f80 v107 h108 c109) (f80 wUnd h78 c79)) fun f76 =>
q_guardW true v75 (f76 v5 h73 c74) (f76 wUnd h73 c74)) fun f71 =>
q_guardW true v62 (call 18 [v64, v68] h69 c70 fun v110 h111 c112 =>
f71 v110 h111 c112) (f71 wUnd h69 c70)) fun f67 =>
q_guardW true v62 (q_buildSW 1 3 (.ints .i64) 2 true h65 c66 2 [⟨3, 4, r0, []⟩, ⟨3, 1, r0, []⟩] fun v113 h114 c115 =>
f67 v113 h114 c115) (f67 wUnd h65 c66)) fun f63 =>
q_guardW true v62 (f63 v12 h60 c61) (f63 wUnd h60 c61)) fun f58 =>
q_guardW true v49 (q_genW (binC Try.prog .eql 9 (.tmp 36) (.const (.string ⟨⟨[48, 49, 48, 48, 48, 48, 48, 49]⟩⟩)) (dec v55) (dec ⟨12, 0, ⟨0, 0, 0, .str ⟨⟨[48, 49, 48, 48, 48, 48, 48, 49]⟩⟩⟩, []⟩)) fun v116 =>
f58 v116 h56 c57) (f58 wUnd h56 c57)) fun f54 =>
q_guardW true v49 (call 23 [v51] h52 c53 fun v117 h118 c119 =>
f54 v117 h118 c119) (f54 wUnd h52 c53)) fun f50 =>
q_guardW true v49 (f50 v5 h47 c48) (f50 wUnd h47 c48)) fun f45 =>
q_guardW true v40 (q_cmpW (cmpF2 .eql) 3 (binC Try.prog .eql 3 (.tmp 31) (.const (.int .i64 (.ofNat 4))) (dec v42) (dec ⟨3, 4, r0, []⟩)) v42 ⟨3, 4, r0, []⟩ fun v120 =>
f45 v120 h43 c44) (f45 wUnd h43 c44)) fun f41 =>
q_guardW true v40 (f41 v19 h38 c39) (f41 wUnd h38 c39)) fun f36 =>
q_guardW true v31 (q_cmpW (cmpF2 .eql) 3 (binC Try.prog .eql 26 (.tmp 27) (.const (.int .i64 (.ofNat 0))) (dec v33) (dec ⟨3, 0, r0, []⟩)) v33 ⟨3, 0, r0, []⟩ fun v121 =>
f36 v121 h34 c35) (f36 wUnd h34 c35)) fun f32 =>
q_guardW true v31 (f32 v21 h29 c30) (f32 wUnd h29 c30)) fun f27 =>
q_guardW true v22 (q_cmpW (cmpF2 .eql) 3 (binC Try.prog .eql 26 (.tmp 23) (.const (.int .i64 (.ofNat 0))) (dec v24) (dec ⟨3, 0, r0, []⟩)) v24 ⟨3, 0, r0, []⟩ fun v122 =>
f27 v122 h25 c26) (f27 wUnd h25 c26)) fun f23 =>
q_guardW true v22 (f23 v14 h16 c17) (f23 wUnd h16 c17)
theorem R21_eq (Q : PrimW) (fu : Nat) (call : CallW) : curryA 0 (fnK Q Try.prog tys stl fu call e21) = R21 Q.share Q.genW Q.cmpW Q.guardW Q.pickW Q.tupW Q.nthW Q.buildSW fu call := by kernel_rfl
noncomputable def n21 (call : CallW) : List W → HW → Nat → KW → Bool := appF 0 (R21 (fun _ x f => f x) genW cmpW guardW pickW tupW nthW buildSW 1000000 call)
theorem n21_ok {call : CallW} (h : CallSim Try.prog tys stl tab call) : FnGood Try.prog tys stl tab 21 (n21 call) := node_ok h (by kernel_rfl) rfl g21 (R21_eq real _ _)
/- foghorn/bits.Text -/
noncomputable def R23 (q_share : (α : Type) → α → (α → Bool) → Bool) (q_genW : Option CV → (W → Bool) → Bool) (q_addW : Nat → Nat → Option CV → W → W → (W → Bool) → Bool) (q_cmpW : (Nat → Nat → Bool) → Nat → Option CV → W → W → (W → Bool) → Bool) (q_condW : W → Bool → Bool → Bool) (q_idxSW : Nat → W → W → (W → Bool) → Bool) (q_lenW : Option CV → W → (W → Bool) → Bool) (q_loadSW : HW → W → (W → Bool) → Bool) (q_storeSW : HW → W → W → (HW → Bool) → Bool) (q_makeSW : Nat → Nat → Nat → Kind → List W → Bool → HW → Nat → W → W → KW → Bool) (fu : Nat) (call : CallW) (a0 : W) (h0 : HW) (c0 : Nat) (K : KW) : Bool :=
q_lenW (lenC tys 22 (dec a0)) a0 fun v1 =>
q_makeSW 1 1 4 (.ints .u8) [⟨4, 0, r0, []⟩] true h0 c0 v1 v1 fun v2 h3 c4 =>
q_lenW (lenC tys 22 (dec a0)) a0 fun v5 =>
@Nat.rec (fun _ => Fun 1) (fun _ _ _ => false) (fun _ f9 v6 h7 c8 =>
q_cmpW (cmpF2 .lss) 3 (binC Try.prog .lss 3 (.tmp 11) (.tmp 10) (dec v6) (dec v5)) v6 v5 fun v10 =>
q_condW v10 (
q_share _ (fun  (h11 : HW) (c12 : Nat) =>
q_addW 3 9223372036854775807 (binC Try.prog .add 3 (.tmp 11) (.const (.int .i64 (.ofNat 1))) (dec v6) (dec ⟨3, 1, r0, []⟩)) v6 ⟨3, 1, r0, []⟩ fun v14 =>
f9 v14 h11 c12) fun f13 =>
q_idxSW 1 a0 v6 fun v15 =>
q_loadSW h7 v15 fun v16 =>
q_idxSW 1 v2 v6 fun v17 =>
q_storeSW h7 v17 ⟨4, 48, r0, []⟩ fun h18 =>
q_condW v16 (
q_idxSW 1 v2 v6 fun v19 =>
q_storeSW h18 v19 ⟨4, 49, r0, []⟩ fun h20 =>
f13 h20 c8) (
f13 h18 c8)) (
q_genW (convC Try.prog tys ⟨[], 0, decH h7, 0⟩ 58 9 (dec v2)) fun v21 =>
K v21 h7 c8)) fu ⟨3, 0, r0, []⟩ h3 c4
theorem R23_eq (Q : PrimW) (fu : Nat) (call : CallW) : curryA 1 (fnK Q Try.prog tys stl fu call e23) = R23 Q.share Q.genW Q.addW Q.cmpW Q.condW Q.idxSW Q.lenW Q.loadSW Q.storeSW Q.makeSW fu call := by kernel_rfl
noncomputable def n23 (call : CallW) : List W → HW → Nat → KW → Bool := appF 1 (R23 (fun _ x f => f x) genW addW cmpW condW idxSW lenW loadSW storeSW makeSW 1000000 call)
theorem n23_ok {call : CallW} (h : CallSim Try.prog tys stl tab call) : FnGood Try.prog tys stl tab 23 (n23 call) := node_ok h (by kernel_rfl) rfl g23 (R23_eq real _ _)
/- foghorn/bits.Weight -/
noncomputable def R25 (q_share : (α : Type) → α → (α → Bool) → Bool) (q_addW : Nat → Nat → Option CV → W → W → (W → Bool) → Bool) (q_cmpW : (Nat → Nat → Bool) → Nat → Option CV → W → W → (W → Bool) → Bool) (q_condW : W → Bool → Bool → Bool) (q_idxSW : Nat → W → W → (W → Bool) → Bool) (q_lenW : Option CV → W → (W → Bool) → Bool) (q_loadSW : HW → W → (W → Bool) → Bool) (fu : Nat) (call : CallW) (a0 : W) (h0 : HW) (c0 : Nat) (K : KW) : Bool :=
q_lenW (lenC tys 22 (dec a0)) a0 fun v1 =>
@Nat.rec (fun _ => Fun 2) (fun _ _ _ _ => false) (fun _ f6 v2 v3 h4 c5 =>
q_cmpW (cmpF2 .lss) 3 (binC Try.prog .lss 3 (.tmp 8) (.tmp 7) (dec v3) (dec v1)) v3 v1 fun v7 =>
q_condW v7 (
q_share _ (fun (v8 : W) (h9 : HW) (c10 : Nat) =>
q_addW 3 9223372036854775807 (binC Try.prog .add 3 (.tmp 8) (.const (.int .i64 (.ofNat 1))) (dec v3) (dec ⟨3, 1, r0, []⟩)) v3 ⟨3, 1, r0, []⟩ fun v12 =>
f6 v8 v12 h9 c10) fun f11 =>
q_idxSW 1 a0 v3 fun v13 =>
q_loadSW h4 v13 fun v14 =>
q_condW v14 (
q_addW 3 9223372036854775807 (binC Try.prog .add 3 (.tmp 13) (.const (.int .i64 (.ofNat 1))) (dec v2) (dec ⟨3, 1, r0, []⟩)) v2 ⟨3, 1, r0, []⟩ fun v15 =>
f11 v15 h4 c5) (
f11 v2 h4 c5)) (
K v2 h4 c5)) fu ⟨3, 0, r0, []⟩ ⟨3, 0, r0, []⟩ h0 c0
theorem R25_eq (Q : PrimW) (fu : Nat) (call : CallW) : curryA 1 (fnK Q Try.prog tys stl fu call e25) = R25 Q.share Q.addW Q.cmpW Q.condW Q.idxSW Q.lenW Q.loadSW fu call := by kernel_rfl
noncomputable def n25 (call : CallW) : List W → HW → Nat → KW → Bool := appF 1 (R25 (fun _ x f => f x) addW cmpW condW idxSW lenW loadSW 1000000 call)
theorem n25_ok {call : CallW} (h : CallSim Try.prog tys stl tab call) : FnGood Try.prog tys stl tab 25 (n25 call) := node_ok h (by kernel_rfl) rfl g25 (R25_eq real _ _)
/- foghorn/bits.Pieces -/
noncomputable def R28 (q_genW : Option CV → (W → Bool) → Bool) (q_cmpW : (Nat → Nat → Bool) → Nat → Option CV → W → W → (W → Bool) → Bool) (q_condW : W → Bool → Bool → Bool) (q_lenW : Option CV → W → (W → Bool) → Bool) (q_loadSW : HW → W → (W → Bool) → Bool) (q_storeSW : HW → W → W → (HW → Bool) → Bool) (q_allocW : Trie W → Nat → Bool → HW → Nat → KW → Bool) (q_boxW : HW → Nat → W → KW → Bool) (fu : Nat) (call : CallW) (a0 : W) (a1 : W) (h0 : HW) (c0 : Nat) (K : KW) : Bool :=
q_boxW h0 c0 a1 fun v1 h2 c3 =>
q_loadSW h2 v1 fun v4 =>
q_cmpW (cmpF2 .lss) 3 (binC Try.prog .lss 3 (.tmp 6) (.const (.int .i64 (.ofNat 1))) (dec v4) (dec ⟨3, 1, r0, []⟩)) v4 ⟨3, 1, r0, []⟩ fun v5 =>
q_condW v5 (
K ⟨14, 36, r0, []⟩ h2 c3) (
call 37 [a0] h2 c3 fun v6 h7 c8 =>
q_allocW (allocT tys 22) 1 true h7 c8 fun v9 h10 c11 =>
q_storeSW h10 v9 v6 fun h12 =>
q_loadSW h12 v1 fun v13 =>
q_loadSW h12 v9 fun v14 =>
q_lenW (lenC tys 22 (dec v14)) v14 fun v15 =>
q_genW (two2 Try.prog (dec v15) (dec ⟨3, 1, r0, []⟩) fun v u => Builtin.max_ #[3, 3] 3 #[v, u]) fun v16 =>
q_genW (two2 Try.prog (dec v13) (dec v16) fun v u => Builtin.min_ #[3, 3] 3 #[v, u]) fun v17 =>
q_storeSW h12 v1 v17 fun h18 =>
(fun (v19 : W) =>
K v19 h18 c11) ⟨14, 38, r0, [v9, v1]⟩)
theorem R28_eq (Q : PrimW) (fu : Nat) (call : CallW) : curryA 2 (fnK Q Try.prog tys stl fu call e28) = R28 Q.genW Q.cmpW Q.condW Q.lenW Q.loadSW Q.storeSW Q.allocW Q.boxW fu call := by kernel_rfl
noncomputable def n28 (call : CallW) : List W → HW → Nat → KW → Bool := appF 2 (R28 genW cmpW condW lenW loadSW storeSW allocW boxW 1000000 call)
theorem n28_ok {call : CallW} (h : CallSim Try.prog tys stl tab call) : FnGood Try.prog tys stl tab 28 (n28 call) := node_ok h (by kernel_rfl) rfl g28 (R28_eq real _ _)
/- foghorn/bits.appendWord -/
noncomputable def R31 (q_addW : Nat → Nat → Option CV → W → W → (W → Bool) → Bool) (q_subW : Nat → Nat → Option CV → W → W → (W → Bool) → Bool) (q_bitW : (Nat → Nat → Nat) → Nat → Nat → Option CV → W → W → (W → Bool) → Bool) (q_cmpW : (Nat → Nat → Bool) → Nat → Option CV → W → W → (W → Bool) → Bool) (q_shrW : Nat → Nat → Option CV → W → W → (W → Bool) → Bool) (q_condW : W → Bool → Bool → Bool) (q_killVW : W → HW → (HW → Bool) → Bool) (q_buildSW : Nat → Nat → Kind → Nat → Bool → HW → Nat → Nat → List W → KW → Bool) (q_appSW : Nat → Nat → (Kind → Bool) → Bool → HW → Nat → W → W → Bool → KW → Bool) (fu : Nat) (call : CallW) (a0 : W) (a1 : W) (a2 : W) (h0 : HW) (c0 : Nat) (K : KW) : Bool :=
@Nat.rec (fun _ => Fun 2) (fun _ _ _ _ => false) (fun _ f5 v1 v2 h3 c4 =>
q_cmpW (cmpF2 .lss) 3 (binC Try.prog .lss 3 (.tmp 9) (.tmp 8) (dec v2) (dec a2)) v2 a2 fun v6 =>
q_condW v6 (
q_subW 3 9223372036854775807 (binC Try.prog .sub 3 (.tmp 14) (.const (.int .i64 (.ofNat 1))) (dec a2) (dec ⟨3, 1, r0, []⟩)) a2 ⟨3, 1, r0, []⟩ fun v7 =>
q_subW 3 9223372036854775807 (binC Try.prog .sub 3 (.tmp 15) (.tmp 16) (dec v7) (dec v2)) v7 v2 fun v8 =>
q_shrW 3 64 (binC Try.prog .shr 3 (.tmp 13) (.tmp 17) (dec a1) (dec v8)) a1 v8 fun v9 =>
q_bitW Nat.land 3 9223372036854775807 (binC Try.prog .and 3 (.tmp 18) (.const (.int .i64 (.ofNat 1))) (dec v9) (dec ⟨3, 1, r0, []⟩)) v9 ⟨3, 1, r0, []⟩ fun v10 =>
q_cmpW (cmpF2 .neq) 3 (binC Try.prog .neq 3 (.tmp 19) (.const (.int .i64 (.ofNat 0))) (dec v10) (dec ⟨3, 0, r0, []⟩)) v10 ⟨3, 0, r0, []⟩ fun v11 =>
q_buildSW 1 8 .bools 1 true h3 c4 1 [v11] fun v12 h13 c14 =>
q_appSW 1 1 (appKindOk (elemJ tys 22)) false h13 c14 v1 v12 false fun v15 h16 c17 =>
q_killVW v12 h16 fun h18 =>
q_addW 3 9223372036854775807 (binC Try.prog .add 3 (.tmp 9) (.const (.int .i64 (.ofNat 1))) (dec v2) (dec ⟨3, 1, r0, []⟩)) v2 ⟨3, 1, r0, []⟩ fun v19 =>
f5 v15 v19 h18 c17) (
K v1 h3 c4)) fu a0 ⟨3, 0, r0, []⟩ h0 c0
theorem R31_eq (Q : PrimW) (fu : Nat) (call : CallW) : curryA 3 (fnK Q Try.prog tys stl fu call e31) = R31 Q.addW Q.subW Q.bitW Q.cmpW Q.shrW Q.condW Q.killVW Q.buildSW Q.appSW fu call := by kernel_rfl
noncomputable def n31 (call : CallW) : List W → HW → Nat → KW → Bool := appF 3 (R31 addW subW bitW cmpW shrW condW killVW buildSW appSW 1000000 call)
theorem n31_ok {call : CallW} (h : CallSim Try.prog tys stl tab call) : FnGood Try.prog tys stl tab 31 (n31 call) := node_ok h (by kernel_rfl) rfl g31 (R31_eq real _ _)
/- foghorn/bits.isWidth -/
noncomputable def R33 (q_share : (α : Type) → α → (α → Bool) → Bool) (q_cmpW : (Nat → Nat → Bool) → Nat → Option CV → W → W → (W → Bool) → Bool) (q_guardW : Bool → W → Bool → Bool → Bool) (q_pickW : W → W → W → (W → Bool) → Bool) (fu : Nat) (call : CallW) (a0 : W) (h0 : HW) (c0 : Nat) (K : KW) : Bool :=
q_cmpW (cmpF2 .geq) 3 (binC Try.prog .geq 3 (.tmp 3) (.const (.int .i64 (.ofNat 1))) (dec a0) (dec ⟨3, 1, r0, []⟩)) a0 ⟨3, 1, r0, []⟩ fun v1 =>
q_share _ (fun (v3 : W) (h4 : HW) (c5 : Nat) =>
q_share _ (fun (v7 : W) (h8 : HW) (c9 : Nat) =>
q_pickW v1 v7 ⟨8, 0, r0, []⟩ fun v10 =>
K v10 h8 c9) fun f6 =>
q_guardW true v1 (q_cmpW (cmpF2 .leq) 3 (binC Try.prog .leq 3 (.tmp 6) (.const (.int .i64 (.ofNat 16))) (dec v3) (dec ⟨3, 16, r0, []⟩)) v3 ⟨3, 16, r0, []⟩ fun v11 =>
f6 v11 h4 c5) (f6 wUnd h4 c5)) fun f2 =>
q_guardW true v1 (f2 a0 h0 c0) (f2 wUnd h0 c0)
theorem R33_eq (Q : PrimW) (fu : Nat) (call : CallW) : curryA 1 (fnK Q Try.prog tys stl fu call e33) = R33 Q.share Q.cmpW Q.guardW Q.pickW fu call := by kernel_rfl
noncomputable def n33 (call : CallW) : List W → HW → Nat → KW → Bool := appF 1 (R33 (fun _ x f => f x) cmpW guardW pickW 1000000 call)
theorem n33_ok {call : CallW} (h : CallSim Try.prog tys stl tab call) : FnGood Try.prog tys stl tab 33 (n33 call) := node_ok h (by kernel_rfl) rfl g33 (R33_eq real _ _)
/- foghorn/bits.isRow -/
noncomputable def R34 (q_cmpW : (Nat → Nat → Bool) → Nat → Option CV → W → W → (W → Bool) → Bool) (q_lenW : Option CV → W → (W → Bool) → Bool) (fu : Nat) (call : CallW) (a0 : W) (h0 : HW) (c0 : Nat) (K : KW) : Bool :=
q_lenW (lenC tys 22 (dec a0)) a0 fun v1 =>
q_cmpW (cmpF2 .leq) 3 (binC Try.prog .leq 3 (.tmp 4) (.const (.int .i64 (.ofNat 32768))) (dec v1) (dec ⟨3, 32768, r0, []⟩)) v1 ⟨3, 32768, r0, []⟩ fun v2 =>
K v2 h0 c0
theorem R34_eq (Q : PrimW) (fu : Nat) (call : CallW) : curryA 1 (fnK Q Try.prog tys stl fu call e34) = R34 Q.cmpW Q.lenW fu call := by kernel_rfl
noncomputable def n34 (call : CallW) : List W → HW → Nat → KW → Bool := appF 1 (R34 cmpW lenW 1000000 call)
theorem n34_ok {call : CallW} (h : CallSim Try.prog tys stl tab call) : FnGood Try.prog tys stl tab 34 (n34 call) := node_ok h (by kernel_rfl) rfl g34 (R34_eq real _ _)
/- foghorn/bits.Gray -/
noncomputable def R35 (q_bitW : (Nat → Nat → Nat) → Nat → Nat → Option CV → W → W → (W → Bool) → Bool) (q_shrW : Nat → Nat → Option CV → W → W → (W → Bool) → Bool) (q_notW : Option CV → W → (W → Bool) → Bool) (q_condW : W → Bool → Bool → Bool) (fu : Nat) (call : CallW) (a0 : W) (h0 : HW) (c0 : Nat) (K : KW) : Bool :=
call 39 [a0] h0 c0 fun v1 h2 c3 =>
q_notW (two Try.prog (dec v1) (Op.unary .not)) v1 fun v4 =>
q_condW v4 (
K ⟨13, 0, r0, [⟨3, 0, r0, []⟩, ⟨3, 1, r0, []⟩]⟩ h2 c3) (
q_shrW 3 64 (binC Try.prog .shr 3 (.tmp 8) (.const (.int .u64 (.ofNat 1))) (dec a0) (dec ⟨7, 1, r0, []⟩)) a0 ⟨7, 1, r0, []⟩ fun v5 =>
q_bitW Nat.xor 3 9223372036854775807 (binC Try.prog .xor 3 (.tmp 7) (.tmp 9) (dec a0) (dec v5)) a0 v5 fun v6 =>
K ⟨13, 0, r0, [v6, ⟨3, 0, r0, []⟩]⟩ h2 c3)
theorem R35_eq (Q : PrimW) (fu : Nat) (call : CallW) : curryA 1 (fnK Q Try.prog tys stl fu call e35) = R35 Q.bitW Q.shrW Q.notW Q.condW fu call := by kernel_rfl
noncomputable def n35 (call : CallW) : List W → HW → Nat → KW → Bool := appF 1 (R35 bitW shrW notW condW 1000000 call)
theorem n35_ok {call : CallW} (h : CallSim Try.prog tys stl tab call) : FnGood Try.prog tys stl tab 35 (n35 call) := node_ok h (by kernel_rfl) rfl g35 (R35_eq real _ _)
/- foghorn/bits.Pieces$1 -/
noncomputable def R36 (fu : Nat) (call : CallW) (a0 : W) (h0 : HW) (c0 : Nat) (K : KW) : Bool :=
K ⟨13, 0, r0, []⟩ h0 c0
theorem R36_eq (Q : PrimW) (fu : Nat) (call : CallW) : curryA 1 (fnK Q Try.prog tys stl fu call e36) = R36 fu call := by kernel_rfl
noncomputable def n36 (call : CallW) : List W → HW → Nat → KW → Bool := appF 1 (R36 1000000 call)
theorem n36_ok {call : CallW} (h : CallSim Try.prog tys stl tab call) : FnGood Try.prog tys stl tab 36 (n36 call) := node_ok h (by kernel_rfl) rfl g36 (R36_eq real _ _)
/- slices.Clone[[]bool,bool] -/
noncomputable def R37 (q_genW : Option CV → (W → Bool) → Bool) (q_condW : W → Bool → Bool → Bool) (q_buildSW : Nat → Nat → Kind → Nat → Bool → HW → Nat → Nat → List W → KW → Bool) (q_appSW : Nat → Nat → (Kind → Bool) → Bool → HW → Nat → W → W → Bool → KW → Bool) (fu : Nat) (call : CallW) (a0 : W) (h0 : HW) (c0 : Nat) (K : KW) : Bool :=
q_genW (binC Try.prog .eql 22 (.tmp 3) (.const (.slice none 0 0)) (dec a0) (dec ⟨12, 0, ⟨0, 0, 0, .nils⟩, []⟩)) fun v1 =>
q_condW v1 (
K ⟨12, 0, ⟨0, 0, 0, .nils⟩, []⟩ h0 c0) (
q_buildSW 1 8 .bools 0 true h0 c0 0 [] fun v2 h3 c4 =>
q_appSW 1 1 (appKindOk (elemJ tys 22)) false h3 c4 v2 a0 false fun v5 h6 c7 =>
K v5 h6 c7)
theorem R37_eq (Q : PrimW) (fu : Nat) (call : CallW) : curryA 1 (fnK Q Try.prog tys stl fu call e37) = R37 Q.genW Q.condW Q.buildSW Q.appSW fu call := by kernel_rfl
noncomputable def n37 (call : CallW) : List W → HW → Nat → KW → Bool := appF 1 (R37 genW condW buildSW appSW 1000000 call)
theorem n37_ok {call : CallW} (h : CallSim Try.prog tys stl tab call) : FnGood Try.prog tys stl tab 37 (n37 call) := node_ok h (by kernel_rfl) rfl g37 (R37_eq real _ _)
/- foghorn/bits.Pieces$2 -/
noncomputable def R38 (q_genW : Option CV → (W → Bool) → Bool) (q_addW : Nat → Nat → Option CV → W → W → (W → Bool) → Bool) (q_cmpW : (Nat → Nat → Bool) → Nat → Option CV → W → W → (W → Bool) → Bool) (q_notW : Option CV → W → (W → Bool) → Bool) (q_condW : W → Bool → Bool → Bool) (q_lenW : Option CV → W → (W → Bool) → Bool) (q_onG : W → List W → (FuncId → List W → Bool) → Bool) (q_loadSW : HW → W → (W → Bool) → Bool) (fu : Nat) (call : CallW) (a0 : W) (a1 : W) (a2 : W) (h0 : HW) (c0 : Nat) (K : KW) : Bool :=
@Nat.rec (fun _ => Fun 1) (fun _ _ _ => false) (fun _ f4 v1 h2 c3 =>
q_loadSW h2 a1 fun v5 =>
q_lenW (lenC tys 22 (dec v5)) v5 fun v6 =>
q_cmpW (cmpF2 .lss) 3 (binC Try.prog .lss 3 (.tmp 5) (.tmp 7) (dec v1) (dec v6)) v1 v6 fun v7 =>
q_condW v7 (
q_loadSW h2 a1 fun v8 =>
q_loadSW h2 a2 fun v9 =>
q_addW 3 9223372036854775807 (binC Try.prog .add 3 (.tmp 16) (.tmp 17) (dec v1) (dec v9)) v1 v9 fun v10 =>
q_loadSW h2 a1 fun v11 =>
q_lenW (lenC tys 22 (dec v11)) v11 fun v12 =>
q_genW (two2 Try.prog (dec v10) (dec v12) fun v u => Builtin.min_ #[3, 3] 3 #[v, u]) fun v13 =>
q_genW (sliceM tys ⟨[], 0, decH h2, 0⟩ 22 (dec v8) (some (dec v1)) (some (dec v13)) none) fun v14 =>
call 37 [v14] h2 c3 fun v15 h16 c17 =>
q_onG a0 [v1, v15] fun g18 l19 => call g18 l19 h16 c17 fun v20 h21 c22 =>
q_notW (two Try.prog (dec v20) (Op.unary .not)) v20 fun v23 =>
q_condW v23 (
K ⟨13, 0, r0, []⟩ h21 c22) (
q_loadSW h21 a2 fun v24 =>
q_addW 3 9223372036854775807 (binC Try.prog .add 3 (.tmp 9) (.tmp 10) (dec v1) (dec v24)) v1 v24 fun v25 =>
f4 v25 h21 c22)) (
K ⟨13, 0, r0, []⟩ h2 c3)) fu ⟨3, 0, r0, []⟩ h0 c0
theorem R38_eq (Q : PrimW) (fu : Nat) (call : CallW) : curryA 3 (fnK Q Try.prog tys stl fu call e38) = R38 Q.genW Q.addW Q.cmpW Q.notW Q.condW Q.lenW Q.onG Q.loadSW fu call := by kernel_rfl
noncomputable def n38 (call : CallW) : List W → HW → Nat → KW → Bool := appF 3 (R38 genW addW cmpW notW condW lenW onG loadSW 1000000 call)
theorem n38_ok {call : CallW} (h : CallSim Try.prog tys stl tab call) : FnGood Try.prog tys stl tab 38 (n38 call) := node_ok h (by kernel_rfl) rfl g38 (R38_eq real _ _)
/- foghorn/bits.isGray -/
noncomputable def R39 (q_share : (α : Type) → α → (α → Bool) → Bool) (q_cmpW : (Nat → Nat → Bool) → Nat → Option CV → W → W → (W → Bool) → Bool) (q_guardW : Bool → W → Bool → Bool → Bool) (q_pickW : W → W → W → (W → Bool) → Bool) (fu : Nat) (call : CallW) (a0 : W) (h0 : HW) (c0 : Nat) (K : KW) : Bool :=
q_cmpW (cmpF2 .geq) 3 (binC Try.prog .geq 3 (.tmp 3) (.const (.int .i64 (.ofNat 0))) (dec a0) (dec ⟨3, 0, r0, []⟩)) a0 ⟨3, 0, r0, []⟩ fun v1 =>
q_share _ (fun (v3 : W) (h4 : HW) (c5 : Nat) =>
q_share _ (fun (v7 : W) (h8 : HW) (c9 : Nat) =>
q_pickW v1 v7 ⟨8, 0, r0, []⟩ fun v10 =>
K v10 h8 c9) fun f6 =>
q_guardW true v1 (q_cmpW (cmpF2 .lss) 3 (binC Try.prog .lss 3 (.tmp 6) (.const (.int .i64 (.ofNat 65536))) (dec v3) (dec ⟨3, 65536, r0, []⟩)) v3 ⟨3, 65536, r0, []⟩ fun v11 =>
f6 v11 h4 c5) (f6 wUnd h4 c5)) fun f2 =>
q_guardW true v1 (f2 a0 h0 c0) (f2 wUnd h0 c0)
theorem R39_eq (Q : PrimW) (fu : Nat) (call : CallW) : curryA 1 (fnK Q Try.prog tys stl fu call e39) = R39 Q.share Q.cmpW Q.guardW Q.pickW fu call := by kernel_rfl
noncomputable def n39 (call : CallW) : List W → HW → Nat → KW → Bool := appF 1 (R39 (fun _ x f => f x) cmpW guardW pickW 1000000 call)
theorem n39_ok {call : CallW} (h : CallSim Try.prog tys stl tab call) : FnGood Try.prog tys stl tab 39 (n39 call) := node_ok h (by kernel_rfl) rfl g39 (R39_eq real _ _)
noncomputable def dS (call : CallW) : Disp := (.node 31 (n31 call) (.node 21 (n21 call) (.node 13 (n13 call) (.node 9 (n9 call) .leaf .leaf) (.node 18 (n18 call) .leaf .leaf)) (.node 25 (n25 call) (.node 23 (n23 call) .leaf .leaf) (.node 28 (n28 call) .leaf .leaf))) (.node 36 (n36 call) (.node 34 (n34 call) (.node 33 (n33 call) .leaf .leaf) (.node 35 (n35 call) .leaf .leaf)) (.node 38 (n38 call) (.node 37 (n37 call) .leaf .leaf) (.node 39 (n39 call) .leaf .leaf))))
theorem dS_ok {call : CallW} (h : CallSim Try.prog tys stl tab call) : CallSim Try.prog tys stl tab (dS call).fn := Disp.sim (t := dS call) ⟨n31_ok h, ⟨n21_ok h, ⟨n13_ok h, ⟨n9_ok h, True.intro, True.intro⟩, ⟨n18_ok h, True.intro, True.intro⟩⟩, ⟨n25_ok h, ⟨n23_ok h, True.intro, True.intro⟩, ⟨n28_ok h, True.intro, True.intro⟩⟩⟩, ⟨n36_ok h, ⟨n34_ok h, ⟨n33_ok h, True.intro, True.intro⟩, ⟨n35_ok h, True.intro, True.intro⟩⟩, ⟨n38_ok h, ⟨n37_ok h, True.intro, True.intro⟩, ⟨n39_ok h, True.intro, True.intro⟩⟩⟩⟩
noncomputable def dR (m : Nat) : Disp := @Nat.rec (fun _ => Disp) .leaf (fun _ ih => dS ih.fn) m
theorem dR_ok : ∀ m, CallSim Try.prog tys stl tab (dR m).fn
  | 0 => d0_ok
  | m + 1 => dS_ok (dR_ok m)
noncomputable abbrev dT : Disp := dR 200
theorem dT_ok : CallSim Try.prog tys stl tab dT.fn := dR_ok _
set_option maxHeartbeats 0 in
theorem run21 : lawK dT.fn 21 = true := by kernel_rfl
theorem works_f : Fits Try.prog 21 ⟨[], [], [⟨Unit, fun _ => True, fun _ => .bool true, fun _ => []⟩]⟩ :=
  lawK_fits tok mixed fok dT_ok (by kernel_rfl : tab 21 = some e21) rfl run21
end Go.Proofs.Ytkkianjpkipooaa
