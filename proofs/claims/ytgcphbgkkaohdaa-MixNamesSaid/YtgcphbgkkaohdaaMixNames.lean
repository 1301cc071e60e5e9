/-
  foghornlaw08.MixNames returns true, whatever the memory it begins in. No condition.
-/
import Derived.Test.YtgcphbgkkaohdaaRows
import Derived.Test.YtgcphbgkkaohdaaGx
import Derived.WalkKit
import Derived.ProofKit
import Derived.OpenShut
set_option linter.unusedVariables false
set_option maxRecDepth 1000000
namespace Go.Proofs.Ytgcphbgkkaohdaa
open Go Go.Fw
def tys : List (Nat × TyI) := [
  (1, ⟨.func, 1, 8, .nilFunc⟩),
  (2, ⟨.int .i64, 1, 8, .int .i64 0⟩),
  (3, ⟨.int .i64, 1, 8, .int .i64 0⟩),
  (4, ⟨.bool, 1, 1, .bool false⟩),
  (5, ⟨.int .u8, 1, 1, .int .u8 0⟩),
  (9, ⟨.str, 1, 16, .string (ByteArray.mk #[])⟩),
  (12, ⟨.int .u64, 1, 8, .int .u64 0⟩),
  (21, ⟨.int .i32, 1, 4, .int .i32 0⟩),
  (22, ⟨.slice 37, 1, 24, .slice none 0 0⟩),
  (23, ⟨.slice 31, 1, 24, .slice none 0 0⟩),
  (24, ⟨.func, 1, 8, .nilFunc⟩),
  (25, ⟨.int .i64, 1, 8, .int .i64 0⟩),
  (27, ⟨.func, 1, 8, .nilFunc⟩),
  (28, ⟨.func, 1, 8, .nilFunc⟩),
  (29, ⟨.func, 1, 8, .nilFunc⟩),
  (30, ⟨.func, 1, 8, .nilFunc⟩),
  (31, ⟨.cpx .f64, 1, 16, .complex .f64 0 0⟩),
  (32, ⟨.float .f64, 1, 8, .float .f64 0⟩),
  (33, ⟨.func, 1, 8, .nilFunc⟩),
  (34, ⟨.func, 1, 8, .nilFunc⟩),
  (35, ⟨.slice 32, 1, 24, .slice none 0 0⟩),
  (36, ⟨.func, 1, 8, .nilFunc⟩),
  (37, ⟨.int .u64, 1, 8, .int .u64 0⟩),
  (39, ⟨.func, 1, 8, .nilFunc⟩),
  (40, ⟨.func, 1, 8, .nilFunc⟩),
  (41, ⟨.func, 1, 8, .nilFunc⟩),
  (42, ⟨.func, 1, 8, .nilFunc⟩),
  (43, ⟨.func, 1, 8, .nilFunc⟩),
  (44, ⟨.slice 22, 1, 24, .slice none 0 0⟩),
  (45, ⟨.func, 1, 8, .nilFunc⟩),
  (46, ⟨.slice 23, 1, 24, .slice none 0 0⟩),
  (47, ⟨.func, 1, 8, .nilFunc⟩),
  (48, ⟨.func, 1, 8, .nilFunc⟩),
  (49, ⟨.func, 1, 8, .nilFunc⟩),
  (50, ⟨.func, 1, 8, .nilFunc⟩),
  (51, ⟨.func, 1, 8, .nilFunc⟩),
  (52, ⟨.slice 58, 1, 24, .slice none 0 0⟩),
  (53, ⟨.func, 1, 8, .nilFunc⟩),
  (54, ⟨.func, 1, 8, .nilFunc⟩),
  (55, ⟨.func, 1, 8, .nilFunc⟩),
  (56, ⟨.func, 1, 8, .nilFunc⟩),
  (57, ⟨.func, 1, 8, .nilFunc⟩),
  (58, ⟨.int .u16, 1, 2, .int .u16 0⟩),
  (59, ⟨.array 4 56, 4, 32, .agg #[.nilFunc, .nilFunc, .nilFunc, .nilFunc]⟩),
  (60, ⟨.func, 1, 8, .nilFunc⟩),
  (61, ⟨.func, 1, 8, .nilFunc⟩),
  (67, ⟨.func, 1, 8, .nilFunc⟩),
  (68, ⟨.int .u32, 1, 4, .int .u32 0⟩),
  (71, ⟨.func, 1, 8, .nilFunc⟩),
  (72, ⟨.ptr 5, 1, 8, .pointer none⟩)]


theorem tok : TOk Try.prog tys := tok_of ⟨⟨by kernel_rfl, by kernel_rfl⟩, ⟨by kernel_rfl, by kernel_rfl⟩, ⟨by kernel_rfl, by kernel_rfl⟩, ⟨by kernel_rfl, by kernel_rfl⟩, ⟨by kernel_rfl, by kernel_rfl⟩, ⟨by kernel_rfl, by kernel_rfl⟩, ⟨by kernel_rfl, by kernel_rfl⟩, ⟨by kernel_rfl, by kernel_rfl⟩, ⟨by kernel_rfl, by kernel_rfl⟩, ⟨by kernel_rfl, by kernel_rfl⟩, ⟨by kernel_rfl, by kernel_rfl⟩, ⟨by kernel_rfl, by kernel_rfl⟩, ⟨by kernel_rfl, by kernel_rfl⟩, ⟨by kernel_rfl, by kernel_rfl⟩, ⟨by kernel_rfl, by kernel_rfl⟩, ⟨by kernel_rfl, by kernel_rfl⟩, ⟨by kernel_rfl, by kernel_rfl⟩, ⟨by kernel_rfl, by kernel_rfl⟩, ⟨by kernel_rfl, by kernel_rfl⟩, ⟨by kernel_rfl, by kernel_rfl⟩, ⟨by kernel_rfl, by kernel_rfl⟩, ⟨by kernel_rfl, by kernel_rfl⟩, ⟨by kernel_rfl, by kernel_rfl⟩, ⟨by kernel_rfl, by kernel_rfl⟩, ⟨by kernel_rfl, by kernel_rfl⟩, ⟨by kernel_rfl, by kernel_rfl⟩, ⟨by kernel_rfl, by kernel_rfl⟩, ⟨by kernel_rfl, by kernel_rfl⟩, ⟨by kernel_rfl, by kernel_rfl⟩, ⟨by kernel_rfl, by kernel_rfl⟩, ⟨by kernel_rfl, by kernel_rfl⟩, ⟨by kernel_rfl, by kernel_rfl⟩, ⟨by kernel_rfl, by kernel_rfl⟩, ⟨by kernel_rfl, by kernel_rfl⟩, ⟨by kernel_rfl, by kernel_rfl⟩, ⟨by kernel_rfl, by kernel_rfl⟩, ⟨by kernel_rfl, by kernel_rfl⟩, ⟨by kernel_rfl, by kernel_rfl⟩, ⟨by kernel_rfl, by kernel_rfl⟩, ⟨by kernel_rfl, by kernel_rfl⟩, ⟨by kernel_rfl, by kernel_rfl⟩, ⟨by kernel_rfl, by kernel_rfl⟩, ⟨by kernel_rfl, by kernel_rfl⟩, ⟨by kernel_rfl, by kernel_rfl⟩, ⟨by kernel_rfl, by kernel_rfl⟩, ⟨by kernel_rfl, by kernel_rfl⟩, ⟨by kernel_rfl, by kernel_rfl⟩, ⟨by kernel_rfl, by kernel_rfl⟩, ⟨by kernel_rfl, by kernel_rfl⟩, ⟨by kernel_rfl, by kernel_rfl⟩, True.intro⟩
theorem mixed : Try.prog.follows .mixedOrders = true := by kernel_rfl
def inL : List Nat → Nat → Bool
  | [], _ => false
  | a :: r, n => match Nat.beq a n with | true => true | false => inL r n
def stl : Nat → Bool := inL [39, 40]
/- 6: foghorn/foghornlaw08.MixNames -/
def p6 : Nat → Option PlanC := fun
  | 8 => some (.alt 0 (.op 1 false (.op 2 false (.op 3 false (.op 4 false (.op 5 false (.op 6 false (.op 7 false (.op 8 false (.done))))))))) (.alt 1 (.op 0 false (.op 2 false (.op 3 false (.op 4 false (.op 5 false (.op 6 false (.op 7 false (.op 8 false (.done))))))))) (.fin)))
  | _ => none
def wl6 : Nat → List Nat := fun _ => []
def wj6 : Nat → Option (List Nat) := fun _ => none
def kr6 : Nat → List Nat := fun _ => []
noncomputable def e6 : Ent := entOf Try.f6 ⟨p6, wl6, wj6, kr6, []⟩
theorem g6 : EntOk Try.prog stl 6 e6 := .inr ⟨rfl, Try.func6, by kernel_rfl, by kernel_rfl, by kernel_rfl, by kernel_rfl, by kernel_rfl, rfl⟩
/- 11: foghorn/mix.Up -/
def p11 : Nat → Option PlanC := fun _ => none
def wl11 : Nat → List Nat := fun _ => []
def wj11 : Nat → Option (List Nat) := fun _ => none
def kr11 : Nat → List Nat := fun _ => []
noncomputable def e11 : Ent := entOf Try.f11 ⟨p11, wl11, wj11, kr11, []⟩
theorem g11 : EntOk Try.prog stl 11 e11 := .inr ⟨rfl, Try.func11, by kernel_rfl, by kernel_rfl, by kernel_rfl, by kernel_rfl, by kernel_rfl, rfl⟩
/- 19: foghorn/mix.Carrier -/
def p19 : Nat → Option PlanC := fun _ => none
def wl19 : Nat → List Nat := fun
  | 5 => [18]
  | _ => []
def wj19 : Nat → Option (List Nat) := fun _ => none
def kr19 : Nat → List Nat := fun _ => []
noncomputable def e19 : Ent := entOf Try.f19 ⟨p19, wl19, wj19, kr19, []⟩
theorem g19 : EntOk Try.prog stl 19 e19 := .inr ⟨rfl, Try.func19, by kernel_rfl, by kernel_rfl, by kernel_rfl, by kernel_rfl, by kernel_rfl, rfl⟩
/- 22: foghorn/mix.Line -/
def p22 : Nat → Option PlanC := fun _ => none
def wl22 : Nat → List Nat := fun
  | 8 => [6, 26]
  | _ => []
def wj22 : Nat → Option (List Nat) := fun _ => none
def kr22 : Nat → List Nat := fun
  | 10 => [35]
  | _ => []
noncomputable def e22 : Ent := entOf Try.f22 ⟨p22, wl22, wj22, kr22, []⟩
theorem g22 : EntOk Try.prog stl 22 e22 := .inr ⟨rfl, Try.func22, by kernel_rfl, by kernel_rfl, by kernel_rfl, by kernel_rfl, by kernel_rfl, rfl⟩
/- 25: foghorn/mix.Unline -/
def p25 : Nat → Option PlanC := fun _ => none
def wl25 : Nat → List Nat := fun
  | 5 => [21]
  | _ => []
def wj25 : Nat → Option (List Nat) := fun _ => none
def kr25 : Nat → List Nat := fun _ => []
noncomputable def e25 : Ent := entOf Try.f25 ⟨p25, wl25, wj25, kr25, []⟩
theorem g25 : EntOk Try.prog stl 25 e25 := .inr ⟨rfl, Try.func25, by kernel_rfl, by kernel_rfl, by kernel_rfl, by kernel_rfl, by kernel_rfl, rfl⟩
/- 30: foghorn/mix.Merge -/
def p30 : Nat → Option PlanC := fun _ => none
def wl30 : Nat → List Nat := fun
  | 10 => [32]
  | 15 => [43]
  | _ => []
def wj30 : Nat → Option (List Nat) := fun _ => none
def kr30 : Nat → List Nat := fun _ => []
noncomputable def e30 : Ent := entOf Try.f30 ⟨p30, wl30, wj30, kr30, []⟩
theorem g30 : EntOk Try.prog stl 30 e30 := .inr ⟨rfl, Try.func30, by kernel_rfl, by kernel_rfl, by kernel_rfl, by kernel_rfl, by kernel_rfl, rfl⟩
/- 35: foghorn/mix.moved -/
def p35 : Nat → Option PlanC := fun _ => none
def wl35 : Nat → List Nat := fun
  | 6 => [19]
  | _ => []
def wj35 : Nat → Option (List Nat) := fun _ => none
def kr35 : Nat → List Nat := fun _ => []
noncomputable def e35 : Ent := entOf Try.f35 ⟨p35, wl35, wj35, kr35, [6]⟩
theorem g35 : EntOk Try.prog stl 35 e35 := .inr ⟨rfl, Try.func35, by kernel_rfl, by kernel_rfl, by kernel_rfl, by kernel_rfl, by kernel_rfl, rfl⟩
/- 38: foghorn/mix.turning -/
def p38 : Nat → Option PlanC := fun _ => none
def wl38 : Nat → List Nat := fun
  | 3 => [3]
  | _ => []
def wj38 : Nat → Option (List Nat) := fun _ => none
def kr38 : Nat → List Nat := fun _ => []
noncomputable def e38 : Ent := entOf Try.f38 ⟨p38, wl38, wj38, kr38, [1]⟩
theorem g38 : EntOk Try.prog stl 38 e38 := .inr ⟨rfl, Try.func38, by kernel_rfl, by kernel_rfl, by kernel_rfl, by kernel_rfl, by kernel_rfl, rfl⟩
/- 39: foghorn/mix.turning$1 -/
def p39 : Nat → Option PlanC := fun _ => none
def wl39 : Nat → List Nat := fun _ => []
def wj39 : Nat → Option (List Nat) := fun _ => none
def kr39 : Nat → List Nat := fun _ => []
noncomputable def e39 : Ent := entOf Try.f39 ⟨p39, wl39, wj39, kr39, []⟩
theorem g39 : EntOk Try.prog stl 39 e39 := .inr ⟨rfl, Try.func39, by kernel_rfl, by kernel_rfl, by kernel_rfl, by kernel_rfl, by kernel_rfl, rfl⟩
/- 40: foghorn/plane.Turn -/
def p40 : Nat → Option PlanC := fun _ => none
def wl40 : Nat → List Nat := fun _ => []
def wj40 : Nat → Option (List Nat) := fun _ => none
def kr40 : Nat → List Nat := fun _ => []
noncomputable def e40 : Ent := entOf Try.f40 ⟨p40, wl40, wj40, kr40, []⟩
theorem g40 : EntOk Try.prog stl 40 e40 := .inr ⟨rfl, Try.func40, by kernel_rfl, by kernel_rfl, by kernel_rfl, by kernel_rfl, by kernel_rfl, rfl⟩
noncomputable def ents : List (Nat × Ent) := [(6, e6), (11, e11), (19, e19), (22, e22), (25, e25), (30, e30), (35, e35), (38, e38), (39, e39), (40, e40)]
theorem goods : EntsOk Try.prog stl ents := ⟨g6, g11, g19, g22, g25, g30, g35, g38, g39, g40, True.intro⟩
noncomputable def tab : Nat → Option Ent := (tabOf ents).get
theorem fok : FOk Try.prog stl tab := fok_of goods
noncomputable def d0 : Disp := .leaf
theorem d0_ok : CallSim Try.prog tys stl tab d0.fn := Disp.sim True.intro
/- foghorn/mix.Merge -/
noncomputable def R30 (q_addW : Nat → Nat → Option CV → W → W → (W → Bool) → Bool) (q_mulW : Nat → Nat → Option CV → W → W → (W → Bool) → Bool) (q_quoW : Nat → Nat → Option CV → W → W → (W → Bool) → Bool) (q_cmpW : (Nat → Nat → Bool) → Nat → Option CV → W → W → (W → Bool) → Bool) (q_condW : W → Bool → Bool → Bool) (q_idxSW : Nat → W → W → (W → Bool) → Bool) (q_lenW : Option CV → W → (W → Bool) → Bool) (q_loadSW : HW → W → (W → Bool) → Bool) (q_storeSW : HW → W → W → (HW → Bool) → Bool) (q_makeSW : Nat → Nat → Nat → Kind → List W → Bool → HW → Nat → W → W → KW → Bool) (fu : Nat) (call : CallW) (a0 : W) (h0 : HW) (c0 : Nat) (K : KW) : Bool :=
q_lenW (lenC tys 46 (dec a0)) a0 fun v1 =>
q_cmpW (cmpF2 .gtr) 3 (binC Try.prog .gtr 3 (.tmp 11) (.const (.int .i64 (.ofNat 65536))) (dec v1) (dec ⟨3, 65536, r0, []⟩)) v1 ⟨3, 65536, r0, []⟩ fun v2 =>
q_condW v2 (
K ⟨13, 0, r0, [⟨12, 0, ⟨0, 0, 0, .nils⟩, []⟩, ⟨3, 1, r0, []⟩]⟩ h0 c0) (
q_lenW (lenC tys 46 (dec a0)) a0 fun v3 =>
q_cmpW (cmpF2 .eql) 3 (binC Try.prog .eql 3 (.tmp 14) (.const (.int .i64 (.ofNat 0))) (dec v3) (dec ⟨3, 0, r0, []⟩)) v3 ⟨3, 0, r0, []⟩ fun v4 =>
q_condW v4 (
K ⟨13, 0, r0, [⟨12, 0, ⟨0, 0, 0, .nils⟩, []⟩, ⟨3, 0, r0, []⟩]⟩ h0 c0) (
q_idxSW 1 a0 ⟨3, 0, r0, []⟩ fun v5 =>
q_loadSW h0 v5 fun v6 =>
q_lenW (lenC tys 23 (dec v6)) v6 fun v7 =>
q_lenW (lenC tys 46 (dec a0)) a0 fun v8 =>
q_quoW 3 9223372036854775807 (binC Try.prog .quo 3 (.const (.int .i64 (.ofNat 65536))) (.tmp 22) (dec ⟨3, 65536, r0, []⟩) (dec v8)) ⟨3, 65536, r0, []⟩ v8 fun v9 =>
q_cmpW (cmpF2 .gtr) 3 (binC Try.prog .gtr 3 (.tmp 20) (.tmp 23) (dec v7) (dec v9)) v7 v9 fun v10 =>
q_condW v10 (
K ⟨13, 0, r0, [⟨12, 0, ⟨0, 0, 0, .nils⟩, []⟩, ⟨3, 1, r0, []⟩]⟩ h0 c0) (
q_lenW (lenC tys 46 (dec a0)) a0 fun v11 =>
q_mulW 3 9223372036854775807 (binC Try.prog .mul 3 (.tmp 25) (.tmp 27) (dec v7) (dec v11)) v7 v11 fun v12 =>
q_makeSW 16 1 99 (.cpxs .f64) [⟨12, 0, ⟨0, 0, 0, .cpx .f64 0 0⟩, []⟩] true h0 c0 v12 v12 fun v13 h14 c15 =>
q_lenW (lenC tys 46 (dec a0)) a0 fun v16 =>
@Nat.rec (fun _ => Fun 1) (fun _ _ _ => false) (fun _ f20 v17 h18 c19 =>
q_cmpW (cmpF2 .lss) 3 (binC Try.prog .lss 3 (.tmp 32) (.tmp 31) (dec v17) (dec v16)) v17 v16 fun v21 =>
q_condW v21 (
q_idxSW 1 a0 v17 fun v22 =>
q_loadSW h18 v22 fun v23 =>
q_lenW (lenC tys 23 (dec v23)) v23 fun v24 =>
q_cmpW (cmpF2 .neq) 3 (binC Try.prog .neq 3 (.tmp 38) (.tmp 39) (dec v24) (dec v7)) v24 v7 fun v25 =>
q_condW v25 (
K ⟨13, 0, r0, [⟨12, 0, ⟨0, 0, 0, .nils⟩, []⟩, ⟨3, 1, r0, []⟩]⟩ h18 c19) (
q_lenW (lenC tys 23 (dec v23)) v23 fun v26 =>
@Nat.rec (fun _ => Fun 1) (fun _ _ _ => false) (fun _ f30 v27 h28 c29 =>
q_cmpW (cmpF2 .lss) 3 (binC Try.prog .lss 3 (.tmp 43) (.tmp 42) (dec v27) (dec v26)) v27 v26 fun v31 =>
q_condW v31 (
q_idxSW 1 v23 v27 fun v32 =>
q_loadSW h28 v32 fun v33 =>
q_lenW (lenC tys 46 (dec a0)) a0 fun v34 =>
q_mulW 3 9223372036854775807 (binC Try.prog .mul 3 (.tmp 49) (.tmp 51) (dec v27) (dec v34)) v27 v34 fun v35 =>
q_addW 3 9223372036854775807 (binC Try.prog .add 3 (.tmp 52) (.tmp 53) (dec v35) (dec v17)) v35 v17 fun v36 =>
q_idxSW 1 v13 v36 fun v37 =>
q_storeSW h28 v37 v33 fun h38 =>
q_addW 3 9223372036854775807 (binC Try.prog .add 3 (.tmp 43) (.const (.int .i64 (.ofNat 1))) (dec v27) (dec ⟨3, 1, r0, []⟩)) v27 ⟨3, 1, r0, []⟩ fun v39 =>
f30 v39 h38 c29) (
q_addW 3 9223372036854775807 (binC Try.prog .add 3 (.tmp 32) (.const (.int .i64 (.ofNat 1))) (dec v17) (dec ⟨3, 1, r0, []⟩)) v17 ⟨3, 1, r0, []⟩ fun v40 =>
f20 v40 h28 c29)) fu ⟨3, 0, r0, []⟩ h18 c19)) (
K ⟨13, 0, r0, [v13, ⟨3, 0, r0, []⟩]⟩ h18 c19)) fu ⟨3, 0, r0, []⟩ h14 c15)))
theorem R30_eq (Q : PrimW) (fu : Nat) (call : CallW) : curryA 1 (fnK Q Try.prog tys stl fu call e30) = R30 Q.addW Q.mulW Q.quoW Q.cmpW Q.condW Q.idxSW Q.lenW Q.loadSW Q.storeSW Q.makeSW fu call := by kernel_rfl
noncomputable def n30 : List W → HW → Nat → KW → Bool := appF 1 (R30 addW mulW quoW cmpW condW idxSW lenW loadSW storeSW makeSW 1000000 d0.fn)
theorem n30_ok : FnGood Try.prog tys stl tab 30 n30 := node_ok d0_ok (by kernel_rfl) rfl g30 (R30_eq real _ _)
/- foghorn/mix.turning -/
noncomputable def R38 (q_addW : Nat → Nat → Option CV → W → W → (W → Bool) → Bool) (q_cmpW : (Nat → Nat → Bool) → Nat → Option CV → W → W → (W → Bool) → Bool) (q_condW : W → Bool → Bool → Bool) (q_idxAW : Nat → Nat → W → W → (W → Bool) → Bool) (q_killVW : W → HW → (HW → Bool) → Bool) (q_loadSW : HW → W → (W → Bool) → Bool) (q_loadAW : Nat → HW → W → (W → Bool) → Bool) (q_storeSW : HW → W → W → (HW → Bool) → Bool) (q_storeAW : Nat → HW → W → W → (HW → Bool) → Bool) (q_allocW : Trie W → Nat → Bool → HW → Nat → KW → Bool) (fu : Nat) (call : CallW) (h0 : HW) (c0 : Nat) (K : KW) : Bool :=
q_allocW (allocT tys 59) 4 true h0 c0 fun v1 h2 c3 =>
q_allocW (allocT tys 59) 4 true h2 c3 fun v4 h5 c6 =>
@Nat.rec (fun _ => Fun 1) (fun _ _ _ => false) (fun _ f10 v7 h8 c9 =>
q_cmpW (cmpF2 .lss) 3 (binC Try.prog .lss 3 (.tmp 3) (.const (.int .i64 (.ofNat 4))) (dec v7) (dec ⟨3, 4, r0, []⟩)) v7 ⟨3, 4, r0, []⟩ fun v11 =>
q_condW v11 (
q_allocW (allocT tys 3) 1 true h8 c9 fun v12 h13 c14 =>
q_storeSW h13 v12 v7 fun h15 =>
q_loadSW h15 v12 fun v16 =>
(fun (v17 : W) =>
q_idxAW 1 4 v4 v16 fun v18 =>
q_storeSW h15 v18 v17 fun h19 =>
q_addW 3 9223372036854775807 (binC Try.prog .add 3 (.tmp 3) (.const (.int .i64 (.ofNat 1))) (dec v7) (dec ⟨3, 1, r0, []⟩)) v7 ⟨3, 1, r0, []⟩ fun v20 =>
f10 v20 h19 c14) ⟨14, 39, r0, [v12]⟩) (
q_loadAW 4 h8 v4 fun v21 =>
q_storeAW 4 h8 v1 v21 fun h22 =>
q_loadAW 4 h22 v1 fun v23 =>
q_killVW v4 h22 fun h24 =>
K v23 h24 c9)) fu ⟨3, 0, r0, []⟩ h5 c6
theorem R38_eq (Q : PrimW) (fu : Nat) (call : CallW) : curryA 0 (fnK Q Try.prog tys stl fu call e38) = R38 Q.addW Q.cmpW Q.condW Q.idxAW Q.killVW Q.loadSW Q.loadAW Q.storeSW Q.storeAW Q.allocW fu call := by kernel_rfl
noncomputable def n38 : List W → HW → Nat → KW → Bool := appF 0 (R38 addW cmpW condW idxAW killVW loadSW loadAW storeSW storeAW allocW 1000000 d0.fn)
theorem n38_ok : FnGood Try.prog tys stl tab 38 n38 := node_ok d0_ok (by kernel_rfl) rfl g38 (R38_eq real _ _)
/- foghorn/plane.Turn -/
noncomputable def R40 (q_genW : Option CV → (W → Bool) → Bool) (q_bitW : (Nat → Nat → Nat) → Nat → Nat → Option CV → W → W → (W → Bool) → Bool) (q_cmpW : (Nat → Nat → Bool) → Nat → Option CV → W → W → (W → Bool) → Bool) (q_condW : W → Bool → Bool → Bool) (fu : Nat) (call : CallW) (a0 : W) (a1 : W) (h0 : HW) (c0 : Nat) (K : KW) : Bool :=
q_genW (two Try.prog (dec a0) fun v => Builtin.real_ #[31] 32 #[v]) fun v1 =>
q_genW (two Try.prog (dec a0) fun v => Builtin.imag_ #[31] 32 #[v]) fun v2 =>
q_bitW Nat.land 3 9223372036854775807 (binC Try.prog .and 3 (.tmp 11) (.const (.int .i64 (.ofNat 3))) (dec a1) (dec ⟨3, 3, r0, []⟩)) a1 ⟨3, 3, r0, []⟩ fun v3 =>
q_cmpW (cmpF2 .eql) 3 (binC Try.prog .eql 3 (.tmp 12) (.const (.int .i64 (.ofNat 1))) (dec v3) (dec ⟨3, 1, r0, []⟩)) v3 ⟨3, 1, r0, []⟩ fun v4 =>
q_condW v4 (
q_genW (two Try.prog (dec v2) (Op.unary .neg)) fun v5 =>
q_genW (two2 Try.prog (dec v5) (dec v1) fun v u => Builtin.complex_ #[32, 32] 31 #[v, u]) fun v6 =>
K v6 h0 c0) (
q_cmpW (cmpF2 .eql) 3 (binC Try.prog .eql 3 (.tmp 12) (.const (.int .i64 (.ofNat 2))) (dec v3) (dec ⟨3, 2, r0, []⟩)) v3 ⟨3, 2, r0, []⟩ fun v7 =>
q_condW v7 (
q_genW (two Try.prog (dec v1) (Op.unary .neg)) fun v8 =>
q_genW (two Try.prog (dec v2) (Op.unary .neg)) fun v9 =>
q_genW (two2 Try.prog (dec v8) (dec v9) fun v u => Builtin.complex_ #[32, 32] 31 #[v, u]) fun v10 =>
K v10 h0 c0) (
q_cmpW (cmpF2 .eql) 3 (binC Try.prog .eql 3 (.tmp 12) (.const (.int .i64 (.ofNat 3))) (dec v3) (dec ⟨3, 3, r0, []⟩)) v3 ⟨3, 3, r0, []⟩ fun v11 =>
q_condW v11 (
q_genW (two Try.prog (dec v1) (Op.unary .neg)) fun v12 =>
q_genW (two2 Try.prog (dec v2) (dec v12) fun v u => Builtin.complex_ #[32, 32] 31 #[v, u]) fun v13 =>
K v13 h0 c0) (
K a0 h0 c0)))
theorem R40_eq (Q : PrimW) (fu : Nat) (call : CallW) : curryA 2 (fnK Q Try.prog tys stl fu call e40) = R40 Q.genW Q.bitW Q.cmpW Q.condW fu call := by kernel_rfl
noncomputable def n40 : List W → HW → Nat → KW → Bool := appF 2 (R40 genW bitW cmpW condW 1000000 d0.fn)
theorem n40_ok : FnGood Try.prog tys stl tab 40 n40 := node_ok d0_ok (by kernel_rfl) rfl g40 (R40_eq real _ _)
noncomputable def d1 : Disp := (.node 38 n38 (.node 30 n30 .leaf .leaf) (.node 40 n40 .leaf .leaf))
theorem d1_ok : CallSim Try.prog tys stl tab d1.fn := Disp.sim ⟨n38_ok, ⟨n30_ok, True.intro, True.intro⟩, ⟨n40_ok, True.intro, True.intro⟩⟩
/- foghorn/mix.turning$1 -/
noncomputable def R39 (q_loadSW : HW → W → (W → Bool) → Bool) (fu : Nat) (call : CallW) (a0 : W) (a1 : W) (h0 : HW) (c0 : Nat) (K : KW) : Bool :=
q_loadSW h0 a1 fun v1 =>
call 40 [a0, v1] h0 c0 fun v2 h3 c4 =>
K v2 h3 c4
theorem R39_eq (Q : PrimW) (fu : Nat) (call : CallW) : curryA 2 (fnK Q Try.prog tys stl fu call e39) = R39 Q.loadSW fu call := by kernel_rfl
noncomputable def n39 : List W → HW → Nat → KW → Bool := appF 2 (R39 loadSW 1000000 d1.fn)
theorem n39_ok : FnGood Try.prog tys stl tab 39 n39 := node_ok d1_ok (by kernel_rfl) rfl g39 (R39_eq real _ _)
noncomputable def d2 : Disp := (.node 39 n39 (.node 38 n38 (.node 30 n30 .leaf .leaf) .leaf) (.node 40 n40 .leaf .leaf))
theorem d2_ok : CallSim Try.prog tys stl tab d2.fn := Disp.sim ⟨n39_ok, ⟨n38_ok, ⟨n30_ok, True.intro, True.intro⟩, True.intro⟩, ⟨n40_ok, True.intro, True.intro⟩⟩
/- foghorn/mix.moved -/
noncomputable def R35 (q_addW : Nat → Nat → Option CV → W → W → (W → Bool) → Bool) (q_mulW : Nat → Nat → Option CV → W → W → (W → Bool) → Bool) (q_bitW : (Nat → Nat → Nat) → Nat → Nat → Option CV → W → W → (W → Bool) → Bool) (q_cmpW : (Nat → Nat → Bool) → Nat → Option CV → W → W → (W → Bool) → Bool) (q_condW : W → Bool → Bool → Bool) (q_idxSW : Nat → W → W → (W → Bool) → Bool) (q_idxAW : Nat → Nat → W → W → (W → Bool) → Bool) (q_lenW : Option CV → W → (W → Bool) → Bool) (q_onF : W → (FuncId → List W → Bool) → Bool) (q_killVW : W → HW → (HW → Bool) → Bool) (q_loadSW : HW → W → (W → Bool) → Bool) (q_storeSW : HW → W → W → (HW → Bool) → Bool) (q_storeAW : Nat → HW → W → W → (HW → Bool) → Bool) (q_makeSW : Nat → Nat → Nat → Kind → List W → Bool → HW → Nat → W → W → KW → Bool) (q_allocW : Trie W → Nat → Bool → HW → Nat → KW → Bool) (fu : Nat) (call : CallW) (a0 : W) (a1 : W) (h0 : HW) (c0 : Nat) (K : KW) : Bool :=
q_lenW (lenC tys 23 (dec a0)) a0 fun v1 =>
q_cmpW (cmpF2 .gtr) 3 (binC Try.prog .gtr 3 (.tmp 11) (.const (.int .i64 (.ofNat 65536))) (dec v1) (dec ⟨3, 65536, r0, []⟩)) v1 ⟨3, 65536, r0, []⟩ fun v2 =>
q_condW v2 (
q_killVW wUnd h0 fun h3 =>
K ⟨13, 0, r0, [⟨12, 0, ⟨0, 0, 0, .nils⟩, []⟩, ⟨3, 1, r0, []⟩]⟩ h3 c0) (
call 38 [] h0 c0 fun v4 h5 c6 =>
q_allocW (allocT tys 59) 4 true h5 c6 fun v7 h8 c9 =>
q_storeAW 4 h8 v7 v4 fun h10 =>
q_lenW (lenC tys 23 (dec a0)) a0 fun v11 =>
q_makeSW 16 1 99 (.cpxs .f64) [⟨12, 0, ⟨0, 0, 0, .cpx .f64 0 0⟩, []⟩] true h10 c9 v11 v11 fun v12 h13 c14 =>
q_lenW (lenC tys 23 (dec a0)) a0 fun v15 =>
@Nat.rec (fun _ => Fun 1) (fun _ _ _ => false) (fun _ f19 v16 h17 c18 =>
q_cmpW (cmpF2 .lss) 3 (binC Try.prog .lss 3 (.tmp 19) (.tmp 18) (dec v16) (dec v15)) v16 v15 fun v20 =>
q_condW v20 (
q_idxSW 1 a0 v16 fun v21 =>
q_loadSW h17 v21 fun v22 =>
q_mulW 3 9223372036854775807 (binC Try.prog .mul 3 (.tmp 26) (.tmp 27) (dec v16) (dec a1)) v16 a1 fun v23 =>
q_bitW Nat.land 3 9223372036854775807 (binC Try.prog .and 3 (.tmp 28) (.const (.int .i64 (.ofNat 3))) (dec v23) (dec ⟨3, 3, r0, []⟩)) v23 ⟨3, 3, r0, []⟩ fun v24 =>
q_idxAW 1 4 v7 v24 fun v25 =>
q_loadSW h17 v25 fun v26 =>
q_onF v26 fun g27 l28 => call g27 (appL [v22] l28) h17 c18 fun v29 h30 c31 =>
q_idxSW 1 v12 v16 fun v32 =>
q_storeSW h30 v32 v29 fun h33 =>
q_addW 3 9223372036854775807 (binC Try.prog .add 3 (.tmp 19) (.const (.int .i64 (.ofNat 1))) (dec v16) (dec ⟨3, 1, r0, []⟩)) v16 ⟨3, 1, r0, []⟩ fun v34 =>
f19 v34 h33 c31) (
q_killVW v7 h17 fun h35 =>
K ⟨13, 0, r0, [v12, ⟨3, 0, r0, []⟩]⟩ h35 c18)) fu ⟨3, 0, r0, []⟩ h13 c14)
theorem R35_eq (Q : PrimW) (fu : Nat) (call : CallW) : curryA 2 (fnK Q Try.prog tys stl fu call e35) = R35 Q.addW Q.mulW Q.bitW Q.cmpW Q.condW Q.idxSW Q.idxAW Q.lenW Q.onF Q.killVW Q.loadSW Q.storeSW Q.storeAW Q.makeSW Q.allocW fu call := by kernel_rfl
noncomputable def n35 : List W → HW → Nat → KW → Bool := appF 2 (R35 addW mulW bitW cmpW condW idxSW idxAW lenW onF killVW loadSW storeSW storeAW makeSW allocW 1000000 d2.fn)
theorem n35_ok : FnGood Try.prog tys stl tab 35 n35 := node_ok d2_ok (by kernel_rfl) rfl g35 (R35_eq real _ _)
noncomputable def d3 : Disp := (.node 38 n38 (.node 35 n35 (.node 30 n30 .leaf .leaf) .leaf) (.node 40 n40 (.node 39 n39 .leaf .leaf) .leaf))
theorem d3_ok : CallSim Try.prog tys stl tab d3.fn := Disp.sim ⟨n38_ok, ⟨n35_ok, ⟨n30_ok, True.intro, True.intro⟩, True.intro⟩, ⟨n40_ok, ⟨n39_ok, True.intro, True.intro⟩, True.intro⟩⟩
/- foghorn/mix.Up -/
noncomputable def R11 (q_tupW : W → (List W → Bool) → Bool) (q_nthW : Nat → List W → (W → Bool) → Bool) (fu : Nat) (call : CallW) (a0 : W) (a1 : W) (h0 : HW) (c0 : Nat) (K : KW) : Bool :=
call 35 [a0, a1] h0 c0 fun v1 h2 c3 =>
q_tupW v1 fun l4 => q_nthW 0 l4 fun v5 =>
q_tupW v1 fun l6 => q_nthW 1 l6 fun v7 =>
K ⟨13, 0, r0, [v5, v7]⟩ h2 c3
theorem R11_eq (Q : PrimW) (fu : Nat) (call : CallW) : curryA 2 (fnK Q Try.prog tys stl fu call e11) = R11 Q.tupW Q.nthW fu call := by kernel_rfl
noncomputable def n11 : List W → HW → Nat → KW → Bool := appF 2 (R11 tupW nthW 1000000 d3.fn)
theorem n11_ok : FnGood Try.prog tys stl tab 11 n11 := node_ok d3_ok (by kernel_rfl) rfl g11 (R11_eq real _ _)
/- foghorn/mix.Carrier -/
noncomputable def R19 (q_share : (α : Type) → α → (α → Bool) → Bool) (q_addW : Nat → Nat → Option CV → W → W → (W → Bool) → Bool) (q_cmpW : (Nat → Nat → Bool) → Nat → Option CV → W → W → (W → Bool) → Bool) (q_condW : W → Bool → Bool → Bool) (q_guardW : Bool → W → Bool → Bool → Bool) (q_pickW : W → W → W → (W → Bool) → Bool) (q_idxSW : Nat → W → W → (W → Bool) → Bool) (q_lenW : Option CV → W → (W → Bool) → Bool) (q_tupW : W → (List W → Bool) → Bool) (q_nthW : Nat → List W → (W → Bool) → Bool) (q_storeSW : HW → W → W → (HW → Bool) → Bool) (q_makeSW : Nat → Nat → Nat → Kind → List W → Bool → HW → Nat → W → W → KW → Bool) (fu : Nat) (call : CallW) (a0 : W) (a1 : W) (h0 : HW) (c0 : Nat) (K : KW) : Bool :=
q_cmpW (cmpF2 .lss) 3 (binC Try.prog .lss 3 (.tmp 8) (.const (.int .i64 (.ofNat 0))) (dec a1) (dec ⟨3, 0, r0, []⟩)) a1 ⟨3, 0, r0, []⟩ fun v1 =>
q_share _ (fun (v3 : W) (h4 : HW) (c5 : Nat) =>
q_share _ (fun (v7 : W) (h8 : HW) (c9 : Nat) =>
q_pickW v1 ⟨8, 1, r0, []⟩ v7 fun v10 =>
q_condW v10 (
K ⟨13, 0, r0, [⟨12, 0, ⟨0, 0, 0, .nils⟩, []⟩, ⟨3, 1, r0, []⟩]⟩ h8 c9) (
q_makeSW 16 1 99 (.cpxs .f64) [⟨12, 0, ⟨0, 0, 0, .cpx .f64 0 0⟩, []⟩] true h8 c9 a1 a1 fun v11 h12 c13 =>
q_lenW (lenC tys 23 (dec v11)) v11 fun v14 =>
@Nat.rec (fun _ => Fun 1) (fun _ _ _ => false) (fun _ f18 v15 h16 c17 =>
q_cmpW (cmpF2 .lss) 3 (binC Try.prog .lss 3 (.tmp 18) (.tmp 17) (dec v15) (dec v14)) v15 v14 fun v19 =>
q_condW v19 (
q_idxSW 1 v11 v15 fun v20 =>
q_storeSW h16 v20 ⟨12, 0, ⟨0, 0, 0, .cpx .f64 4607182418800017408 0⟩, []⟩ fun h21 =>
q_addW 3 9223372036854775807 (binC Try.prog .add 3 (.tmp 18) (.const (.int .i64 (.ofNat 1))) (dec v15) (dec ⟨3, 1, r0, []⟩)) v15 ⟨3, 1, r0, []⟩ fun v22 =>
f18 v22 h21 c17) (
call 35 [v11, a0] h16 c17 fun v23 h24 c25 =>
q_tupW v23 fun l26 => q_nthW 0 l26 fun v27 =>
q_tupW v23 fun l28 => q_nthW 1 l28 fun v29 =>
K ⟨13, 0, r0, [v27, v29]⟩ h24 c25)) fu ⟨3, 0, r0, []⟩ h12 c13)) fun f6 =>
q_guardW false v1 (q_cmpW (cmpF2 .gtr) 3 (binC Try.prog .gtr 3 (.tmp 11) (.const (.int .i64 (.ofNat 65536))) (dec v3) (dec ⟨3, 65536, r0, []⟩)) v3 ⟨3, 65536, r0, []⟩ fun v30 =>
f6 v30 h4 c5) (f6 wUnd h4 c5)) fun f2 =>
q_guardW false v1 (f2 a1 h0 c0) (f2 wUnd h0 c0)
theorem R19_eq (Q : PrimW) (fu : Nat) (call : CallW) : curryA 2 (fnK Q Try.prog tys stl fu call e19) = R19 Q.share Q.addW Q.cmpW Q.condW Q.guardW Q.pickW Q.idxSW Q.lenW Q.tupW Q.nthW Q.storeSW Q.makeSW fu call := by kernel_rfl
noncomputable def n19 : List W → HW → Nat → KW → Bool := appF 2 (R19 (fun _ x f => f x) addW cmpW condW guardW pickW idxSW lenW tupW nthW storeSW makeSW 1000000 d3.fn)
theorem n19_ok : FnGood Try.prog tys stl tab 19 n19 := node_ok d3_ok (by kernel_rfl) rfl g19 (R19_eq real _ _)
/- foghorn/mix.Line -/
noncomputable def R22 (q_genW : Option CV → (W → Bool) → Bool) (q_addW : Nat → Nat → Option CV → W → W → (W → Bool) → Bool) (q_mulW : Nat → Nat → Option CV → W → W → (W → Bool) → Bool) (q_cmpW : (Nat → Nat → Bool) → Nat → Option CV → W → W → (W → Bool) → Bool) (q_condW : W → Bool → Bool → Bool) (q_idxSW : Nat → W → W → (W → Bool) → Bool) (q_lenW : Option CV → W → (W → Bool) → Bool) (q_tupW : W → (List W → Bool) → Bool) (q_nthW : Nat → List W → (W → Bool) → Bool) (q_killVW : W → HW → (HW → Bool) → Bool) (q_loadSW : HW → W → (W → Bool) → Bool) (q_makeSW : Nat → Nat → Nat → Kind → List W → Bool → HW → Nat → W → W → KW → Bool) (q_buildSW : Nat → Nat → Kind → Nat → Bool → HW → Nat → Nat → List W → KW → Bool) (q_appSW : Nat → Nat → (Kind → Bool) → Bool → HW → Nat → W → W → Bool → KW → Bool) (fu : Nat) (call : CallW) (a0 : W) (h0 : HW) (c0 : Nat) (K : KW) : Bool :=
q_lenW (lenC tys 23 (dec a0)) a0 fun v1 =>
q_cmpW (cmpF2 .gtr) 3 (binC Try.prog .gtr 3 (.tmp 10) (.const (.int .i64 (.ofNat 32768))) (dec v1) (dec ⟨3, 32768, r0, []⟩)) v1 ⟨3, 32768, r0, []⟩ fun v2 =>
q_condW v2 (
K ⟨13, 0, r0, [⟨12, 0, ⟨0, 0, 0, .nils⟩, []⟩, ⟨3, 1, r0, []⟩]⟩ h0 c0) (
call 35 [a0, ⟨3, 1, r0, []⟩] h0 c0 fun v3 h4 c5 =>
q_tupW v3 fun l6 => q_nthW 0 l6 fun v7 =>
q_tupW v3 fun l8 => q_nthW 1 l8 fun v9 =>
q_cmpW (cmpF2 .neq) 3 (binC Try.prog .neq 25 (.tmp 17) (.const (.int .i64 (.ofNat 0))) (dec v9) (dec ⟨3, 0, r0, []⟩)) v9 ⟨3, 0, r0, []⟩ fun v10 =>
q_condW v10 (
K ⟨13, 0, r0, [⟨12, 0, ⟨0, 0, 0, .nils⟩, []⟩, v9]⟩ h4 c5) (
q_lenW (lenC tys 23 (dec v7)) v7 fun v11 =>
q_mulW 3 9223372036854775807 (binC Try.prog .mul 3 (.const (.int .i64 (.ofNat 2))) (.tmp 21) (dec ⟨3, 2, r0, []⟩) (dec v11)) ⟨3, 2, r0, []⟩ v11 fun v12 =>
q_makeSW 8 1 99 (.flts .f64) [⟨12, 0, ⟨0, 0, 0, .flt .f64 0⟩, []⟩] true h4 c5 ⟨3, 0, r0, []⟩ v12 fun v13 h14 c15 =>
q_lenW (lenC tys 23 (dec v7)) v7 fun v16 =>
@Nat.rec (fun _ => Fun 2) (fun _ _ _ _ => false) (fun _ f21 v17 v18 h19 c20 =>
q_cmpW (cmpF2 .lss) 3 (binC Try.prog .lss 3 (.tmp 26) (.tmp 25) (dec v18) (dec v16)) v18 v16 fun v22 =>
q_condW v22 (
q_idxSW 1 v7 v18 fun v23 =>
q_loadSW h19 v23 fun v24 =>
q_genW (two Try.prog (dec v24) fun v => Builtin.real_ #[31] 32 #[v]) fun v25 =>
q_genW (two Try.prog (dec v24) fun v => Builtin.imag_ #[31] 32 #[v]) fun v26 =>
q_buildSW 1 99 (.flts .f64) 2 true h19 c20 2 [v25, v26] fun v27 h28 c29 =>
q_appSW 8 1 (appKindOk (elemJ tys 35)) false h28 c29 v17 v27 false fun v30 h31 c32 =>
q_killVW v27 h31 fun h33 =>
q_addW 3 9223372036854775807 (binC Try.prog .add 3 (.tmp 26) (.const (.int .i64 (.ofNat 1))) (dec v18) (dec ⟨3, 1, r0, []⟩)) v18 ⟨3, 1, r0, []⟩ fun v34 =>
f21 v30 v34 h33 c32) (
K ⟨13, 0, r0, [v17, ⟨3, 0, r0, []⟩]⟩ h19 c20)) fu v13 ⟨3, 0, r0, []⟩ h14 c15))
theorem R22_eq (Q : PrimW) (fu : Nat) (call : CallW) : curryA 1 (fnK Q Try.prog tys stl fu call e22) = R22 Q.genW Q.addW Q.mulW Q.cmpW Q.condW Q.idxSW Q.lenW Q.tupW Q.nthW Q.killVW Q.loadSW Q.makeSW Q.buildSW Q.appSW fu call := by kernel_rfl
noncomputable def n22 : List W → HW → Nat → KW → Bool := appF 1 (R22 genW addW mulW cmpW condW idxSW lenW tupW nthW killVW loadSW makeSW buildSW appSW 1000000 d3.fn)
theorem n22_ok : FnGood Try.prog tys stl tab 22 n22 := node_ok d3_ok (by kernel_rfl) rfl g22 (R22_eq real _ _)
/- foghorn/mix.Unline -/
noncomputable def R25 (q_share : (α : Type) → α → (α → Bool) → Bool) (q_genW : Option CV → (W → Bool) → Bool) (q_addW : Nat → Nat → Option CV → W → W → (W → Bool) → Bool) (q_mulW : Nat → Nat → Option CV → W → W → (W → Bool) → Bool) (q_quoW : Nat → Nat → Option CV → W → W → (W → Bool) → Bool) (q_remW : Nat → Nat → Option CV → W → W → (W → Bool) → Bool) (q_cmpW : (Nat → Nat → Bool) → Nat → Option CV → W → W → (W → Bool) → Bool) (q_condW : W → Bool → Bool → Bool) (q_guardW : Bool → W → Bool → Bool → Bool) (q_pickW : W → W → W → (W → Bool) → Bool) (q_idxSW : Nat → W → W → (W → Bool) → Bool) (q_lenW : Option CV → W → (W → Bool) → Bool) (q_tupW : W → (List W → Bool) → Bool) (q_nthW : Nat → List W → (W → Bool) → Bool) (q_loadSW : HW → W → (W → Bool) → Bool) (q_storeSW : HW → W → W → (HW → Bool) → Bool) (q_makeSW : Nat → Nat → Nat → Kind → List W → Bool → HW → Nat → W → W → KW → Bool) (fu : Nat) (call : CallW) (a0 : W) (h0 : HW) (c0 : Nat) (K : KW) : Bool :=
q_lenW (lenC tys 35 (dec a0)) a0 fun v1 =>
q_cmpW (cmpF2 .gtr) 3 (binC Try.prog .gtr 3 (.tmp 7) (.const (.int .i64 (.ofNat 65536))) (dec v1) (dec ⟨3, 65536, r0, []⟩)) v1 ⟨3, 65536, r0, []⟩ fun v2 =>
q_share _ (fun (v4 : W) (h5 : HW) (c6 : Nat) =>
q_share _ (fun (v8 : W) (h9 : HW) (c10 : Nat) =>
q_share _ (fun (v12 : W) (h13 : HW) (c14 : Nat) =>
q_share _ (fun (v16 : W) (h17 : HW) (c18 : Nat) =>
q_pickW v2 ⟨8, 1, r0, []⟩ v16 fun v19 =>
q_condW v19 (
K ⟨13, 0, r0, [⟨12, 0, ⟨0, 0, 0, .nils⟩, []⟩, ⟨3, 1, r0, []⟩]⟩ h17 c18) (
q_lenW (lenC tys 35 (dec a0)) a0 fun v20 =>
q_quoW 3 9223372036854775807 (binC Try.prog .quo 3 (.tmp 16) (.const (.int .i64 (.ofNat 2))) (dec v20) (dec ⟨3, 2, r0, []⟩)) v20 ⟨3, 2, r0, []⟩ fun v21 =>
q_makeSW 16 1 99 (.cpxs .f64) [⟨12, 0, ⟨0, 0, 0, .cpx .f64 0 0⟩, []⟩] true h17 c18 v21 v21 fun v22 h23 c24 =>
q_lenW (lenC tys 23 (dec v22)) v22 fun v25 =>
@Nat.rec (fun _ => Fun 1) (fun _ _ _ => false) (fun _ f29 v26 h27 c28 =>
q_cmpW (cmpF2 .lss) 3 (binC Try.prog .lss 3 (.tmp 21) (.tmp 20) (dec v26) (dec v25)) v26 v25 fun v30 =>
q_condW v30 (
q_mulW 3 9223372036854775807 (binC Try.prog .mul 3 (.const (.int .i64 (.ofNat 2))) (.tmp 27) (dec ⟨3, 2, r0, []⟩) (dec v26)) ⟨3, 2, r0, []⟩ v26 fun v31 =>
q_idxSW 1 a0 v31 fun v32 =>
q_loadSW h27 v32 fun v33 =>
q_mulW 3 9223372036854775807 (binC Try.prog .mul 3 (.const (.int .i64 (.ofNat 2))) (.tmp 32) (dec ⟨3, 2, r0, []⟩) (dec v26)) ⟨3, 2, r0, []⟩ v26 fun v34 =>
q_addW 3 9223372036854775807 (binC Try.prog .add 3 (.tmp 33) (.const (.int .i64 (.ofNat 1))) (dec v34) (dec ⟨3, 1, r0, []⟩)) v34 ⟨3, 1, r0, []⟩ fun v35 =>
q_idxSW 1 a0 v35 fun v36 =>
q_loadSW h27 v36 fun v37 =>
q_genW (two2 Try.prog (dec v33) (dec v37) fun v u => Builtin.complex_ #[32, 32] 31 #[v, u]) fun v38 =>
q_idxSW 1 v22 v26 fun v39 =>
q_storeSW h27 v39 v38 fun h40 =>
q_addW 3 9223372036854775807 (binC Try.prog .add 3 (.tmp 21) (.const (.int .i64 (.ofNat 1))) (dec v26) (dec ⟨3, 1, r0, []⟩)) v26 ⟨3, 1, r0, []⟩ fun v41 =>
f29 v41 h40 c28) (
call 35 [v22, ⟨12, 0, ⟨0, 0, 0, .int .i64 (.negSucc 0)⟩, []⟩] h27 c28 fun v42 h43 c44 =>
q_tupW v42 fun l45 => q_nthW 0 l45 fun v46 =>
q_tupW v42 fun l47 => q_nthW 1 l47 fun v48 =>
K ⟨13, 0, r0, [v46, v48]⟩ h43 c44)) fu ⟨3, 0, r0, []⟩ h23 c24)) fun f15 =>
q_guardW false v2 (q_cmpW (cmpF2 .neq) 3 (binC Try.prog .neq 3 (.tmp 12) (.const (.int .i64 (.ofNat 0))) (dec v12) (dec ⟨3, 0, r0, []⟩)) v12 ⟨3, 0, r0, []⟩ fun v49 =>
f15 v49 h13 c14) (f15 wUnd h13 c14)) fun f11 =>
q_guardW false v2 (q_remW 3 9223372036854775807 (binC Try.prog .rem 3 (.tmp 11) (.const (.int .i64 (.ofNat 2))) (dec v8) (dec ⟨3, 2, r0, []⟩)) v8 ⟨3, 2, r0, []⟩ fun v50 =>
f11 v50 h9 c10) (f11 wUnd h9 c10)) fun f7 =>
q_guardW false v2 (q_lenW (lenC tys 35 (dec v4)) v4 fun v51 =>
f7 v51 h5 c6) (f7 wUnd h5 c6)) fun f3 =>
q_guardW false v2 (f3 a0 h0 c0) (f3 wUnd h0 c0)
theorem R25_eq (Q : PrimW) (fu : Nat) (call : CallW) : curryA 1 (fnK Q Try.prog tys stl fu call e25) = R25 Q.share Q.genW Q.addW Q.mulW Q.quoW Q.remW Q.cmpW Q.condW Q.guardW Q.pickW Q.idxSW Q.lenW Q.tupW Q.nthW Q.loadSW Q.storeSW Q.makeSW fu call := by kernel_rfl
noncomputable def n25 : List W → HW → Nat → KW → Bool := appF 1 (R25 (fun _ x f => f x) genW addW mulW quoW remW cmpW condW guardW pickW idxSW lenW tupW nthW loadSW storeSW makeSW 1000000 d3.fn)
theorem n25_ok : FnGood Try.prog tys stl tab 25 n25 := node_ok d3_ok (by kernel_rfl) rfl g25 (R25_eq real _ _)
noncomputable def d4 : Disp := (.node 30 n30 (.node 22 n22 (.node 19 n19 (.node 11 n11 .leaf .leaf) .leaf) (.node 25 n25 .leaf .leaf)) (.node 39 n39 (.node 38 n38 (.node 35 n35 .leaf .leaf) .leaf) (.node 40 n40 .leaf .leaf)))
theorem d4_ok : CallSim Try.prog tys stl tab d4.fn := Disp.sim ⟨n30_ok, ⟨n22_ok, ⟨n19_ok, ⟨n11_ok, True.intro, True.intro⟩, True.intro⟩, ⟨n25_ok, True.intro, True.intro⟩⟩, ⟨n39_ok, ⟨n38_ok, ⟨n35_ok, True.intro, True.intro⟩, True.intro⟩, ⟨n40_ok, True.intro, True.intro⟩⟩⟩
/- foghorn/foghornlaw08.MixNames -/
noncomputable def R6 (q_share : (α : Type) → α → (α → Bool) → Bool) (q_cmpW : (Nat → Nat → Bool) → Nat → Option CV → W → W → (W → Bool) → Bool) (q_guardW : Bool → W → Bool → Bool → Bool) (q_pickW : W → W → W → (W → Bool) → Bool) (q_tupW : W → (List W → Bool) → Bool) (q_nthW : Nat → List W → (W → Bool) → Bool) (q_makeSW : Nat → Nat → Nat → Kind → List W → Bool → HW → Nat → W → W → KW → Bool) (q_buildSW : Nat → Nat → Kind → Nat → Bool → HW → Nat → Nat → List W → KW → Bool) (q_andW : Bool → Bool → Bool) (fu : Nat) (call : CallW) (h0 : HW) (c0 : Nat) (K : KW) : Bool :=
q_makeSW 16 1 99 (.cpxs .f64) [⟨12, 0, ⟨0, 0, 0, .cpx .f64 0 0⟩, []⟩] true h0 c0 ⟨3, 65536, r0, []⟩ ⟨3, 65536, r0, []⟩ fun v1 h2 c3 =>
call 11 [v1, ⟨3, 1, r0, []⟩] h2 c3 fun v4 h5 c6 =>
q_tupW v4 fun l7 => q_nthW 0 l7 fun v8 =>
q_tupW v4 fun l9 => q_nthW 1 l9 fun v10 =>
q_makeSW 16 1 99 (.cpxs .f64) [⟨12, 0, ⟨0, 0, 0, .cpx .f64 0 0⟩, []⟩] true h5 c6 ⟨3, 65537, r0, []⟩ ⟨3, 65537, r0, []⟩ fun v11 h12 c13 =>
call 11 [v11, ⟨3, 1, r0, []⟩] h12 c13 fun v14 h15 c16 =>
q_tupW v14 fun l17 => q_nthW 0 l17 fun v18 =>
q_tupW v14 fun l19 => q_nthW 1 l19 fun v20 =>
q_makeSW 16 1 99 (.cpxs .f64) [⟨12, 0, ⟨0, 0, 0, .cpx .f64 0 0⟩, []⟩] true h15 c16 ⟨3, 32768, r0, []⟩ ⟨3, 32768, r0, []⟩ fun v21 h22 c23 =>
call 22 [v21] h22 c23 fun v24 h25 c26 =>
q_tupW v24 fun l27 => q_nthW 0 l27 fun v28 =>
q_tupW v24 fun l29 => q_nthW 1 l29 fun v30 =>
q_makeSW 16 1 99 (.cpxs .f64) [⟨12, 0, ⟨0, 0, 0, .cpx .f64 0 0⟩, []⟩] true h25 c26 ⟨3, 32769, r0, []⟩ ⟨3, 32769, r0, []⟩ fun v31 h32 c33 =>
call 22 [v31] h32 c33 fun v34 h35 c36 =>
q_tupW v34 fun l37 => q_nthW 0 l37 fun v38 =>
q_tupW v34 fun l39 => q_nthW 1 l39 fun v40 =>
q_makeSW 8 1 99 (.flts .f64) [⟨12, 0, ⟨0, 0, 0, .flt .f64 0⟩, []⟩] true h35 c36 ⟨3, 3, r0, []⟩ ⟨3, 3, r0, []⟩ fun v41 h42 c43 =>
call 25 [v41] h42 c43 fun v44 h45 c46 =>
q_tupW v44 fun l47 => q_nthW 0 l47 fun v48 =>
q_tupW v44 fun l49 => q_nthW 1 l49 fun v50 =>
call 19 [⟨3, 1, r0, []⟩, ⟨12, 0, ⟨0, 0, 0, .int .i64 (.negSucc 0)⟩, []⟩] h45 c46 fun v51 h52 c53 =>
q_tupW v51 fun l54 => q_nthW 0 l54 fun v55 =>
q_tupW v51 fun l56 => q_nthW 1 l56 fun v57 =>
call 19 [⟨3, 1, r0, []⟩, ⟨3, 65537, r0, []⟩] h52 c53 fun v58 h59 c60 =>
q_tupW v58 fun l61 => q_nthW 0 l61 fun v62 =>
q_tupW v58 fun l63 => q_nthW 1 l63 fun v64 =>
q_andW (q_makeSW 16 1 99 (.cpxs .f64) [⟨12, 0, ⟨0, 0, 0, .cpx .f64 0 0⟩, []⟩] true h59 c60 ⟨3, 40000, r0, []⟩ ⟨3, 40000, r0, []⟩ fun v65 h66 c67 =>
q_makeSW 16 1 99 (.cpxs .f64) [⟨12, 0, ⟨0, 0, 0, .cpx .f64 0 0⟩, []⟩] true h66 c67 ⟨3, 40000, r0, []⟩ ⟨3, 40000, r0, []⟩ fun v68 h69 c70 =>
q_buildSW 1 9 .avs 2 true h69 c70 2 [v65, v68] fun v71 h72 c73 =>
call 30 [v71] h72 c73 fun v74 h75 c76 =>
q_tupW v74 fun l77 => q_nthW 0 l77 fun v78 =>
q_tupW v74 fun l79 => q_nthW 1 l79 fun v80 =>
call 30 [⟨12, 0, ⟨0, 0, 0, .nils⟩, []⟩] h75 c76 fun v81 h82 c83 =>
q_tupW v81 fun l84 => q_nthW 0 l84 fun v85 =>
q_tupW v81 fun l86 => q_nthW 1 l86 fun v87 =>
q_cmpW (cmpF2 .eql) 3 (binC Try.prog .eql 25 (.tmp 63) (.const (.int .i64 (.ofNat 0))) (dec v10) (dec ⟨3, 0, r0, []⟩)) v10 ⟨3, 0, r0, []⟩ fun v88 =>
q_share _ (fun (v90 : W) (h91 : HW) (c92 : Nat) =>
q_share _ (fun (v94 : W) (h95 : HW) (c96 : Nat) =>
q_pickW v88 v94 ⟨8, 0, r0, []⟩ fun v97 =>
q_share _ (fun (v99 : W) (h100 : HW) (c101 : Nat) =>
q_share _ (fun (v103 : W) (h104 : HW) (c105 : Nat) =>
q_pickW v97 v103 ⟨8, 0, r0, []⟩ fun v106 =>
q_share _ (fun (v108 : W) (h109 : HW) (c110 : Nat) =>
q_share _ (fun (v112 : W) (h113 : HW) (c114 : Nat) =>
q_pickW v106 v112 ⟨8, 0, r0, []⟩ fun v115 =>
q_share _ (fun (v117 : W) (h118 : HW) (c119 : Nat) =>
q_share _ (fun (v121 : W) (h122 : HW) (c123 : Nat) =>
q_pickW v115 v121 ⟨8, 0, r0, []⟩ fun v124 =>
q_share _ (fun (v126 : W) (h127 : HW) (c128 : Nat) =>
q_share _ (fun (v130 : W) (h131 : HW) (c132 : Nat) =>
q_pickW v124 v130 ⟨8, 0, r0, []⟩ fun v133 =>
q_share _ (fun (v135 : W) (h136 : HW) (c137 : Nat) =>
q_share _ (fun (v139 : W) (h140 : HW) (c141 : Nat) =>
q_pickW v133 v139 ⟨8, 0, r0, []⟩ fun v142 =>
q_share _ (fun (v144 : W) (h145 : HW) (c146 : Nat) =>
q_share _ (fun (v148 : W) (h149 : HW) (c150 : Nat) =>
q_pickW v142 v148 ⟨8, 0, r0, []⟩ fun v151 =>
q_share _ (fun (v153 : W) (h154 : HW) (c155 : Nat) =>
q_share _ (fun (v157 : W) (h158 : HW) (c159 : Nat) =>
q_pickW v151 v157 ⟨8, 0, r0, []⟩ fun v160 =>
K v160 h158 c159) fun f156 =>
q_guardW true v151 (q_cmpW (cmpF2 .eql) 3 (binC Try.prog .eql 25 (.tmp 94) (.const (.int .i64 (.ofNat 0))) (dec v153) (dec ⟨3, 0, r0, []⟩)) v153 ⟨3, 0, r0, []⟩ fun v161 =>
f156 v161 h154 c155) (f156 wUnd h154 c155)) fun f152 =>
q_guardW true v151 (f152 v87 h149 c150) (f152 wUnd h149 c150)) fun f147 =>
q_guardW true v142 (q_cmpW (cmpF2 .eql) 3 (binC Try.prog .eql 25 (.tmp 90) (.const (.int .i64 (.ofNat 1))) (dec v144) (dec ⟨3, 1, r0, []⟩)) v144 ⟨3, 1, r0, []⟩ fun v162 =>
f147 v162 h145 c146) (f147 wUnd h145 c146)) fun f143 =>
q_guardW true v142 (f143 v80 h140 c141) (f143 wUnd h140 c141)) fun f138 =>
q_guardW true v133 (q_cmpW (cmpF2 .eql) 3 (binC Try.prog .eql 25 (.tmp 86) (.const (.int .i64 (.ofNat 1))) (dec v135) (dec ⟨3, 1, r0, []⟩)) v135 ⟨3, 1, r0, []⟩ fun v163 =>
f138 v163 h136 c137) (f138 wUnd h136 c137)) fun f134 =>
q_guardW true v133 (f134 v64 h131 c132) (f134 wUnd h131 c132)) fun f129 =>
q_guardW true v124 (q_cmpW (cmpF2 .eql) 3 (binC Try.prog .eql 25 (.tmp 82) (.const (.int .i64 (.ofNat 1))) (dec v126) (dec ⟨3, 1, r0, []⟩)) v126 ⟨3, 1, r0, []⟩ fun v164 =>
f129 v164 h127 c128) (f129 wUnd h127 c128)) fun f125 =>
q_guardW true v124 (f125 v57 h122 c123) (f125 wUnd h122 c123)) fun f120 =>
q_guardW true v115 (q_cmpW (cmpF2 .eql) 3 (binC Try.prog .eql 25 (.tmp 78) (.const (.int .i64 (.ofNat 1))) (dec v117) (dec ⟨3, 1, r0, []⟩)) v117 ⟨3, 1, r0, []⟩ fun v165 =>
f120 v165 h118 c119) (f120 wUnd h118 c119)) fun f116 =>
q_guardW true v115 (f116 v50 h113 c114) (f116 wUnd h113 c114)) fun f111 =>
q_guardW true v106 (q_cmpW (cmpF2 .eql) 3 (binC Try.prog .eql 25 (.tmp 74) (.const (.int .i64 (.ofNat 1))) (dec v108) (dec ⟨3, 1, r0, []⟩)) v108 ⟨3, 1, r0, []⟩ fun v166 =>
f111 v166 h109 c110) (f111 wUnd h109 c110)) fun f107 =>
q_guardW true v106 (f107 v40 h104 c105) (f107 wUnd h104 c105)) fun f102 =>
q_guardW true v97 (q_cmpW (cmpF2 .eql) 3 (binC Try.prog .eql 25 (.tmp 70) (.const (.int .i64 (.ofNat 0))) (dec v99) (dec ⟨3, 0, r0, []⟩)) v99 ⟨3, 0, r0, []⟩ fun v167 =>
f102 v167 h100 c101) (f102 wUnd h100 c101)) fun f98 =>
q_guardW true v97 (f98 v30 h95 c96) (f98 wUnd h95 c96)) fun f93 =>
q_guardW true v88 (q_cmpW (cmpF2 .eql) 3 (binC Try.prog .eql 25 (.tmp 66) (.const (.int .i64 (.ofNat 1))) (dec v90) (dec ⟨3, 1, r0, []⟩)) v90 ⟨3, 1, r0, []⟩ fun v168 =>
f93 v168 h91 c92) (f93 wUnd h91 c92)) fun f89 =>
q_guardW true v88 (f89 v20 h82 c83) (f89 wUnd h82 c83)) (q_andW (q_makeSW 16 1 99 (.cpxs .f64) [⟨12, 0, ⟨0, 0, 0, .cpx .f64 0 0⟩, []⟩] true h59 c60 ⟨3, 40000, r0, []⟩ ⟨3, 40000, r0, []⟩ fun v169 h170 c171 =>
q_makeSW 16 1 99 (.cpxs .f64) [⟨12, 0, ⟨0, 0, 0, .cpx .f64 0 0⟩, []⟩] true h170 c171 ⟨3, 40000, r0, []⟩ ⟨3, 40000, r0, []⟩ fun v172 h173 c174 =>
q_buildSW 1 9 .avs 2 true h173 c174 2 [v172, v169] fun v175 h176 c177 =>
call 30 [v175] h176 c177 fun v178 h179 c180 =>
q_tupW v178 fun l181 => q_nthW 0 l181 fun v182 =>
q_tupW v178 fun l183 => q_nthW 1 l183 fun v184 =>
call 30 [⟨12, 0, ⟨0, 0, 0, .nils⟩, []⟩] h179 c180 fun v185 h186 c187 =>
q_tupW v185 fun l188 => q_nthW 0 l188 fun v189 =>
q_tupW v185 fun l190 => q_nthW 1 l190 fun v191 =>
q_cmpW (cmpF2 .eql) 3 (binC Try.prog .eql 25 (.tmp 63) (.const (.int .i64 (.ofNat 0))) (dec v10) (dec ⟨3, 0, r0, []⟩)) v10 ⟨3, 0, r0, []⟩ fun v192 =>
q_share _ (fun (v194 : W) (h195 : HW) (c196 : Nat) =>
q_share _ (fun (v198 : W) (h199 : HW) (c200 : Nat) =>
q_pickW v192 v198 ⟨8, 0, r0, []⟩ fun v201 =>
q_share _ (fun (v203 : W) (h204 : HW) (c205 : Nat) =>
q_share _ (fun (v207 : W) (h208 : HW) (c209 : Nat) =>
q_pickW v201 v207 ⟨8, 0, r0, []⟩ fun v210 =>
q_share _ (fun (v212 : W) (h213 : HW) (c214 : Nat) =>
q_share _ (fun (v216 : W) (h217 : HW) (c218 : Nat) =>
q_pickW v210 v216 ⟨8, 0, r0, []⟩ fun v219 =>
q_share _ (fun (v221 : W) (h222 : HW) (c223 : Nat) =>
q_share _ (fun (v225 : W) (h226 : HW) (c227 : Nat) =>
q_pickW v219 v225 ⟨8, 0, r0, []⟩ fun v228 =>
q_share _ (fun (v230 : W) (h231 : HW) (c232 : Nat) =>
q_share _ (fun (v234 : W) (h235 : HW) (c236 : Nat) =>
q_pickW v228 v234 ⟨8, 0, r0, []⟩ fun v237 =>
q_share _ (fun (v239 : W) (h240 : HW) (c241 : Nat) =>
q_share _ (fun (v243 : W) (h244 : HW) (c245 : Nat) =>
q_pickW v237 v243 ⟨8, 0, r0, []⟩ fun v246 =>
q_share _ (fun (v248 : W) (h249 : HW) (c250 : Nat) =>
q_share _ (fun (v252 : W) (h253 : HW) (c254 : Nat) =>
q_pickW v246 v252 ⟨8, 0, r0, []⟩ fun v255 =>
q_share _ (fun (v257 : W) (h258 : HW) (c259 : Nat) =>
q_share _ (fun (v261 : W) (h262 : HW) (c263 : Nat) =>
q_pickW v255 v261 ⟨8, 0, r0, []⟩ fun v264 =>
K v264 h262 c263) fun f260 =>
q_guardW true v255 (q_cmpW (cmpF2 .eql) 3 (binC Try.prog .eql 25 (.tmp 94) (.const (.int .i64 (.ofNat 0))) (dec v257) (dec ⟨3, 0, r0, []⟩)) v257 ⟨3, 0, r0, []⟩ fun v265 =>
f260 v265 h258 c259) (f260 wUnd h258 c259)) fun f256 =>
q_guardW true v255 (f256 v191 h253 c254) (f256 wUnd h253 c254)) fun f251 =>
q_guardW true v246 (q_cmpW (cmpF2 .eql) 3 (binC Try.prog .eql 25 (.tmp 90) (.const (.int .i64 (.ofNat 1))) (dec v248) (dec ⟨3, 1, r0, []⟩)) v248 ⟨3, 1, r0, []⟩ fun v266 =>
f251 v266 h249 c250) (f251 wUnd h249 c250)) fun f247 =>
q_guardW true v246 (f247 v184 h244 c245) (f247 wUnd h244 c245)) fun f242 =>
q_guardW true v237 (q_cmpW (cmpF2 .eql) 3 (binC Try.prog .eql 25 (.tmp 86) (.const (.int .i64 (.ofNat 1))) (dec v239) (dec ⟨3, 1, r0, []⟩)) v239 ⟨3, 1, r0, []⟩ fun v267 =>
f242 v267 h240 c241) (f242 wUnd h240 c241)) fun f238 =>
q_guardW true v237 (f238 v64 h235 c236) (f238 wUnd h235 c236)) fun f233 =>
q_guardW true v228 (q_cmpW (cmpF2 .eql) 3 (binC Try.prog .eql 25 (.tmp 82) (.const (.int .i64 (.ofNat 1))) (dec v230) (dec ⟨3, 1, r0, []⟩)) v230 ⟨3, 1, r0, []⟩ fun v268 =>
f233 v268 h231 c232) (f233 wUnd h231 c232)) fun f229 =>
q_guardW true v228 (f229 v57 h226 c227) (f229 wUnd h226 c227)) fun f224 =>
q_guardW true v219 (q_cmpW (cmpF2 .eql) 3 (binC Try.prog .eql 25 (.tmp 78) (.const (.int .i64 (.ofNat 1))) (dec v221) (dec ⟨3, 1, r0, []⟩)) v221 ⟨3, 1, r0, []⟩ fun v269 =>
f224 v269 h222 c223) (f224 wUnd h222 c223)) fun f220 =>
q_guardW true v219 (f220 v50 h217 c218) (f220 wUnd h217 c218)) fun f215 =>
q_guardW true v210 (q_cmpW (cmpF2 .eql) 3 (binC Try.prog .eql 25 (.tmp 74) (.const (.int .i64 (.ofNat 1))) (dec v212) (dec ⟨3, 1, r0, []⟩)) v212 ⟨3, 1, r0, []⟩ fun v270 =>
f215 v270 h213 c214) (f215 wUnd h213 c214)) fun f211 =>
q_guardW true v210 (f211 v40 h208 c209) (f211 wUnd h208 c209)) fun f206 =>
q_guardW true v201 (q_cmpW (cmpF2 .eql) 3 (binC Try.prog .eql 25 (.tmp 70) (.const (.int .i64 (.ofNat 0))) (dec v203) (dec ⟨3, 0, r0, []⟩)) v203 ⟨3, 0, r0, []⟩ fun v271 =>
f206 v271 h204 c205) (f206 wUnd h204 c205)) fun f202 =>
q_guardW true v201 (f202 v30 h199 c200) (f202 wUnd h199 c200)) fun f197 =>
q_guardW true v192 (q_cmpW (cmpF2 .eql) 3 (binC Try.prog .eql 25 (.tmp 66) (.const (.int .i64 (.ofNat 1))) (dec v194) (dec ⟨3, 1, r0, []⟩)) v194 ⟨3, 1, r0, []⟩ fun v272 =>
f197 v272 h195 c196) (f197 wUnd h195 c196)) fun f193 =>
q_guardW true v192 (f193 v20 h186 c187) (f193 wUnd h186 c187)) (true))
theorem R6_eq (Q : PrimW) (fu : Nat) (call : CallW) : curryA 0 (fnK Q Try.prog tys stl fu call e6) = R6 Q.share Q.cmpW Q.guardW Q.pickW Q.tupW Q.nthW Q.makeSW Q.buildSW Q.andW fu call := by kernel_rfl
noncomputable def n6 : List W → HW → Nat → KW → Bool := appF 0 (R6 (fun _ x f => f x) cmpW guardW pickW tupW nthW makeSW buildSW andW 1000000 d4.fn)
theorem n6_ok : FnGood Try.prog tys stl tab 6 n6 := node_ok d4_ok (by kernel_rfl) rfl g6 (R6_eq real _ _)
noncomputable def d5 : Disp := (.node 30 n30 (.node 19 n19 (.node 11 n11 (.node 6 n6 .leaf .leaf) .leaf) (.node 25 n25 (.node 22 n22 .leaf .leaf) .leaf)) (.node 39 n39 (.node 38 n38 (.node 35 n35 .leaf .leaf) .leaf) (.node 40 n40 .leaf .leaf)))
theorem d5_ok : CallSim Try.prog tys stl tab d5.fn := Disp.sim ⟨n30_ok, ⟨n19_ok, ⟨n11_ok, ⟨n6_ok, True.intro, True.intro⟩, True.intro⟩, ⟨n25_ok, ⟨n22_ok, True.intro, True.intro⟩, True.intro⟩⟩, ⟨n39_ok, ⟨n38_ok, ⟨n35_ok, True.intro, True.intro⟩, True.intro⟩, ⟨n40_ok, True.intro, True.intro⟩⟩⟩
noncomputable abbrev dT : Disp := d5
theorem dT_ok : CallSim Try.prog tys stl tab dT.fn := d5_ok

set_option maxHeartbeats 0 in
theorem run6 : lawK dT.fn 6 = true := by kernel_rfl
namespace mixNames
open Go.ChangeShapes Go.WideShapes Go.ChangeAt Go.RowKit
theorem own : ownKnob Try.prog.godebug = none := by kernel_rfl
theorem laid : laidOutB Try.prog = true := by kernel_rfl
theorem lifted (os : Os) (started : os.Started) (H : Type) (enc : TypeId × Value → H) :
    ReturnsInHanded {} Try.checked os 6 .any (Rows.mixNamesSpec.pre6 enc Try.prog Try.f6 Rows.mixNamesRow.domain false) (Rows.mixNamesSpec.post enc Try.prog Try.f6 false true false false) := by
  refine returnsInHanded_of_change (C := Try.checked) own started (by kernel_rfl) Try.func6
    (ChangeSpec.witness6 (enc := enc) (C := Try.checked) false ⟨#[], #[], []⟩ 8 (by kernel_rfl) (by kernel_rfl) (by kernel_rfl) (by kernel_rfl)) ?_
  intro W base args ds gs before hval0 hW hcnd _
  have hW' := hW
  obtain ⟨p, q, hA0, hV, rfl, hfz, hnd⟩ := hW
  have hA : DataW.TrodAll enc Try.prog W 0 (fun _ => true) true Try.f6.params.toList args.toList ds p := hA0
  rw [Try.params6] at hA
  obtain ⟨hargs, rfl, rfl⟩ := trodAll_nil hA
  obtain rfl : args = #[] := by cases args; simp_all
  obtain ⟨rfl, rfl⟩ := trodVars_none hV
  clear hA0 hval0
  refine (lawK_true tok mixed fok dT_ok (by kernel_rfl : tab 6 = some e6) rfl run6 W).mono fun e W' ⟨he, hg⟩ => ?_
  subst he
  exact ⟨_, rfl, law_done laid rfl rfl Try.underlying4 (by kernel_rfl) hW' rfl hg⟩

theorem over : Rows.mixNamesRow.holds Try.pinned (OpenSpec.ofChange Rows.mixNamesSpec) :=
  OpenClaim.holds_of_wide 6 Try.f6 rfl rfl rfl rfl rfl rfl rfl ⟨rfl, rfl, rfl, rfl, rfl⟩ rfl rfl rfl rfl rfl (by kernel_rfl) Try.func6 (by kernel_rfl)
    (of_decide_eq_true (by kernel_rfl)) (by unfold Func.isWrapper; first | (rw [if_pos (by decide +kernel)]; kernel_rfl) | (rw [if_neg (by decide +kernel)]; exact ⟨rfl, rfl⟩))
    (fun os started H enc _ => lifted os started H enc)

theorem proved : Rows.MixNamesSaid := over
end mixNames
end Go.Proofs.Ytgcphbgkkaohdaa
