/-
  The functions that the run goes through, as tables, and the run of a function without arguments. No condition.
-/
import Derived.Test.YtancolnaoieafaaRows
import Derived.Test.YtancolnaoieafaaGx
set_option linter.unusedVariables false
set_option maxRecDepth 1000000
namespace Go.Proofs.Ytancolnaoieafaa
open Go Go.Fw
def tys : List (Nat × TyI) := [
  (1, ⟨.func, 1, 8, .nilFunc⟩),
  (2, ⟨.int .i64, 1, 8, .int .i64 0⟩),
  (3, ⟨.int .i64, 1, 8, .int .i64 0⟩),
  (4, ⟨.bool, 1, 1, .bool false⟩),
  (5, ⟨.int .u8, 1, 1, .int .u8 0⟩),
  (9, ⟨.str, 1, 16, .string (ByteArray.mk #[])⟩),
  (12, ⟨.int .u64, 1, 8, .int .u64 0⟩),
  (21, ⟨.int .i32, 1, 4, .int .i32 0⟩),
  (22, ⟨.slice 37, 1, 24, .slice none 0 0⟩),
  (23, ⟨.slice 31, 1, 24, .slice none 0 0⟩),
  (24, ⟨.func, 1, 8, .nilFunc⟩),
  (25, ⟨.int .i64, 1, 8, .int .i64 0⟩),
  (27, ⟨.func, 1, 8, .nilFunc⟩),
  (28, ⟨.func, 1, 8, .nilFunc⟩),
  (29, ⟨.func, 1, 8, .nilFunc⟩),
  (30, ⟨.func, 1, 8, .nilFunc⟩),
  (31, ⟨.cpx .f64, 1, 16, .complex .f64 0 0⟩),
  (32, ⟨.float .f64, 1, 8, .float .f64 0⟩),
  (33, ⟨.func, 1, 8, .nilFunc⟩),
  (34, ⟨.func, 1, 8, .nilFunc⟩),
  (35, ⟨.slice 32, 1, 24, .slice none 0 0⟩),
  (36, ⟨.func, 1, 8, .nilFunc⟩),
  (37, ⟨.int .u64, 1, 8, .int .u64 0⟩),
  (39, ⟨.func, 1, 8, .nilFunc⟩),
  (40, ⟨.func, 1, 8, .nilFunc⟩),
  (41, ⟨.func, 1, 8, .nilFunc⟩),
  (42, ⟨.func, 1, 8, .nilFunc⟩),
  (43, ⟨.func, 1, 8, .nilFunc⟩),
  (44, ⟨.slice 22, 1, 24, .slice none 0 0⟩),
  (45, ⟨.func, 1, 8, .nilFunc⟩),
  (46, ⟨.slice 23, 1, 24, .slice none 0 0⟩),
  (47, ⟨.func, 1, 8, .nilFunc⟩),
  (48, ⟨.func, 1, 8, .nilFunc⟩),
  (49, ⟨.func, 1, 8, .nilFunc⟩),
  (50, ⟨.func, 1, 8, .nilFunc⟩),
  (51, ⟨.func, 1, 8, .nilFunc⟩),
  (52, ⟨.slice 58, 1, 24, .slice none 0 0⟩),
  (53, ⟨.func, 1, 8, .nilFunc⟩),
  (54, ⟨.func, 1, 8, .nilFunc⟩),
  (55, ⟨.func, 1, 8, .nilFunc⟩),
  (56, ⟨.func, 1, 8, .nilFunc⟩),
  (57, ⟨.func, 1, 8, .nilFunc⟩),
  (58, ⟨.int .u16, 1, 2, .int .u16 0⟩),
  (59, ⟨.array 4 56, 4, 32, .agg #[.nilFunc, .nilFunc, .nilFunc, .nilFunc]⟩),
  (60, ⟨.func, 1, 8, .nilFunc⟩),
  (61, ⟨.func, 1, 8, .nilFunc⟩),
  (67, ⟨.func, 1, 8, .nilFunc⟩),
  (68, ⟨.int .u32, 1, 4, .int .u32 0⟩),
  (71, ⟨.func, 1, 8, .nilFunc⟩),
  (72, ⟨.ptr 5, 1, 8, .pointer none⟩)]


theorem tok : TOk Try.prog tys := tok_of ⟨⟨by kernel_rfl, by kernel_rfl⟩, ⟨by kernel_rfl, by kernel_rfl⟩, ⟨by kernel_rfl, by kernel_rfl⟩, ⟨by kernel_rfl, by kernel_rfl⟩, ⟨by kernel_rfl, by kernel_rfl⟩, ⟨by kernel_rfl, by kernel_rfl⟩, ⟨by kernel_rfl, by kernel_rfl⟩, ⟨by kernel_rfl, by kernel_rfl⟩, ⟨by kernel_rfl, by kernel_rfl⟩, ⟨by kernel_rfl, by kernel_rfl⟩, ⟨by kernel_rfl, by kernel_rfl⟩, ⟨by kernel_rfl, by kernel_rfl⟩, ⟨by kernel_rfl, by kernel_rfl⟩, ⟨by kernel_rfl, by kernel_rfl⟩, ⟨by kernel_rfl, by kernel_rfl⟩, ⟨by kernel_rfl, by kernel_rfl⟩, ⟨by kernel_rfl, by kernel_rfl⟩, ⟨by kernel_rfl, by kernel_rfl⟩, ⟨by kernel_rfl, by kernel_rfl⟩, ⟨by kernel_rfl, by kernel_rfl⟩, ⟨by kernel_rfl, by kernel_rfl⟩, ⟨by kernel_rfl, by kernel_rfl⟩, ⟨by kernel_rfl, by kernel_rfl⟩, ⟨by kernel_rfl, by kernel_rfl⟩, ⟨by kernel_rfl, by kernel_rfl⟩, ⟨by kernel_rfl, by kernel_rfl⟩, ⟨by kernel_rfl, by kernel_rfl⟩, ⟨by kernel_rfl, by kernel_rfl⟩, ⟨by kernel_rfl, by kernel_rfl⟩, ⟨by kernel_rfl, by kernel_rfl⟩, ⟨by kernel_rfl, by kernel_rfl⟩, ⟨by kernel_rfl, by kernel_rfl⟩, ⟨by kernel_rfl, by kernel_rfl⟩, ⟨by kernel_rfl, by kernel_rfl⟩, ⟨by kernel_rfl, by kernel_rfl⟩, ⟨by kernel_rfl, by kernel_rfl⟩, ⟨by kernel_rfl, by kernel_rfl⟩, ⟨by kernel_rfl, by kernel_rfl⟩, ⟨by kernel_rfl, by kernel_rfl⟩, ⟨by kernel_rfl, by kernel_rfl⟩, ⟨by kernel_rfl, by kernel_rfl⟩, ⟨by kernel_rfl, by kernel_rfl⟩, ⟨by kernel_rfl, by kernel_rfl⟩, ⟨by kernel_rfl, by kernel_rfl⟩, ⟨by kernel_rfl, by kernel_rfl⟩, ⟨by kernel_rfl, by kernel_rfl⟩, ⟨by kernel_rfl, by kernel_rfl⟩, ⟨by kernel_rfl, by kernel_rfl⟩, ⟨by kernel_rfl, by kernel_rfl⟩, ⟨by kernel_rfl, by kernel_rfl⟩, True.intro⟩
theorem mixed : Try.prog.follows .mixedOrders = true := by kernel_rfl
def inL : List Nat → Nat → Bool
  | [], _ => false
  | a :: r, n => match Nat.beq a n with | true => true | false => inL r n
def stl : Nat → Bool := inL [36, 38, 39]
/- 10: foghorn/mix.Up -/
def p10 : Nat → Option PlanC := fun _ => none
def wl10 : Nat → List Nat := fun _ => []
def wj10 : Nat → Option (List Nat) := fun _ => none
def kr10 : Nat → List Nat := fun _ => []
noncomputable def e10 : Ent := entOf Try.f10 ⟨p10, wl10, wj10, kr10, []⟩
theorem g10 : EntOk Try.prog tys stl 10 e10 := .inr ⟨rfl, Try.func10, by kernel_rfl, by kernel_rfl, by kernel_rfl, by kernel_rfl, by kernel_rfl, rfl⟩
/- 21: foghorn/mix.Line -/
def p21 : Nat → Option PlanC := fun _ => none
def wl21 : Nat → List Nat := fun
  | 8 => [6, 26]
  | _ => []
def wj21 : Nat → Option (List Nat) := fun _ => none
def kr21 : Nat → List Nat := fun
  | 10 => [35]
  | _ => []
noncomputable def e21 : Ent := entOf Try.f21 ⟨p21, wl21, wj21, kr21, []⟩
theorem g21 : EntOk Try.prog tys stl 21 e21 := .inr ⟨rfl, Try.func21, by kernel_rfl, by kernel_rfl, by kernel_rfl, by kernel_rfl, by kernel_rfl, rfl⟩
/- 22: foghorn/foghornref08.Floats -/
def p22 : Nat → Option PlanC := fun _ => none
def wl22 : Nat → List Nat := fun
  | 4 => [5]
  | _ => []
def wj22 : Nat → Option (List Nat) := fun _ => none
def kr22 : Nat → List Nat := fun _ => []
noncomputable def e22 : Ent := entOf Try.f22 ⟨p22, wl22, wj22, kr22, []⟩
theorem g22 : EntOk Try.prog tys stl 22 e22 := .inr ⟨rfl, Try.func22, by kernel_rfl, by kernel_rfl, by kernel_rfl, by kernel_rfl, by kernel_rfl, rfl⟩
/- 30: foghorn/foghornlaw08.awake -/
def p30 : Nat → Option PlanC := fun _ => none
def wl30 : Nat → List Nat := fun _ => []
def wj30 : Nat → Option (List Nat) := fun _ => none
def kr30 : Nat → List Nat := fun _ => []
noncomputable def e30 : Ent := entOf Try.f30 ⟨p30, wl30, wj30, kr30, []⟩
theorem g30 : EntOk Try.prog tys stl 30 e30 := .inr ⟨rfl, Try.func30, by kernel_rfl, by kernel_rfl, by kernel_rfl, by kernel_rfl, by kernel_rfl, rfl⟩
/- 31: foghorn/foghornref08.Same -/
def p31 : Nat → Option PlanC := fun
  | 6 => some (.op 0 false (.op 1 false (.op 2 false (.op 3 false (.op 4 false (.op 5 false (.op 6 false (.op 7 false (.op 8 false (.op 9 false (.op 10 false (.op 11 false (.op 12 false (.op 13 false (.op 14 false (.op 15 false (.op 16 false (.op 17 false (.op 18 false (.op 19 false (.op 20 false (.op 21 false (.op 22 false (.op 23 false (.op 24 false (.op 25 false (.done)))))))))))))))))))))))))))
  | _ => none
def wl31 : Nat → List Nat := fun
  | 4 => [5]
  | _ => []
def wj31 : Nat → Option (List Nat) := fun _ => none
def kr31 : Nat → List Nat := fun _ => []
noncomputable def e31 : Ent := entOf Try.f31 ⟨p31, wl31, wj31, kr31, []⟩
theorem g31 : EntOk Try.prog tys stl 31 e31 := .inr ⟨rfl, Try.func31, by kernel_rfl, by kernel_rfl, by kernel_rfl, by kernel_rfl, by kernel_rfl, rfl⟩
/- 34: foghorn/mix.moved -/
def p34 : Nat → Option PlanC := fun _ => none
def wl34 : Nat → List Nat := fun
  | 6 => [19]
  | _ => []
def wj34 : Nat → Option (List Nat) := fun _ => none
def kr34 : Nat → List Nat := fun _ => []
noncomputable def e34 : Ent := entOf Try.f34 ⟨p34, wl34, wj34, kr34, [6]⟩
theorem g34 : EntOk Try.prog tys stl 34 e34 := .inr ⟨rfl, Try.func34, by kernel_rfl, by kernel_rfl, by kernel_rfl, by kernel_rfl, by kernel_rfl, rfl⟩
/- 36: foghorn/foghornref08.Float -/
def p36 : Nat → Option PlanC := fun _ => none
def wl36 : Nat → List Nat := fun _ => []
def wj36 : Nat → Option (List Nat) := fun _ => none
def kr36 : Nat → List Nat := fun _ => []
noncomputable def e36 : Ent := entOf Try.f36 ⟨p36, wl36, wj36, kr36, []⟩
theorem g36 : EntOk Try.prog tys stl 36 e36 := .inr ⟨rfl, Try.func36, by kernel_rfl, by kernel_rfl, by kernel_rfl, by kernel_rfl, by kernel_rfl, rfl⟩
/- 37: foghorn/mix.turning -/
def p37 : Nat → Option PlanC := fun _ => none
def wl37 : Nat → List Nat := fun
  | 3 => [3]
  | _ => []
def wj37 : Nat → Option (List Nat) := fun _ => none
def kr37 : Nat → List Nat := fun _ => []
noncomputable def e37 : Ent := entOf Try.f37 ⟨p37, wl37, wj37, kr37, [1]⟩
theorem g37 : EntOk Try.prog tys stl 37 e37 := .inr ⟨rfl, Try.func37, by kernel_rfl, by kernel_rfl, by kernel_rfl, by kernel_rfl, by kernel_rfl, rfl⟩
/- 38: foghorn/mix.turning$1 -/
def p38 : Nat → Option PlanC := fun _ => none
def wl38 : Nat → List Nat := fun _ => []
def wj38 : Nat → Option (List Nat) := fun _ => none
def kr38 : Nat → List Nat := fun _ => []
noncomputable def e38 : Ent := entOf Try.f38 ⟨p38, wl38, wj38, kr38, []⟩
theorem g38 : EntOk Try.prog tys stl 38 e38 := .inr ⟨rfl, Try.func38, by kernel_rfl, by kernel_rfl, by kernel_rfl, by kernel_rfl, by kernel_rfl, rfl⟩
/- 39: foghorn/plane.Turn -/
def p39 : Nat → Option PlanC := fun _ => none
def wl39 : Nat → List Nat := fun _ => []
def wj39 : Nat → Option (List Nat) := fun _ => none
def kr39 : Nat → List Nat := fun _ => []
noncomputable def e39 : Ent := entOf Try.f39 ⟨p39, wl39, wj39, kr39, []⟩
theorem g39 : EntOk Try.prog tys stl 39 e39 := .inr ⟨rfl, Try.func39, by kernel_rfl, by kernel_rfl, by kernel_rfl, by kernel_rfl, by kernel_rfl, rfl⟩
noncomputable def ents : List (Nat × Ent) := [(10, e10), (21, e21), (22, e22), (30, e30), (31, e31), (34, e34), (36, e36), (37, e37), (38, e38), (39, e39)]
theorem goods : EntsOk Try.prog tys stl ents := ⟨g10, g21, g22, g30, g31, g34, g36, g37, g38, g39, True.intro⟩
noncomputable def tab : Nat → Option Ent := (tabOf ents).get
theorem fok : FOk Try.prog tys stl tab := fok_of goods
noncomputable def d0 : Disp := .leaf
theorem d0_ok : CallSim Try.prog tys stl tab d0.fn := Disp.sim True.intro
/- foghorn/mix.Up -/
noncomputable def R10 (q_tupW : W → (List W → Bool) → Bool) (q_nthW : Nat → List W → (W → Bool) → Bool) (fu : Nat) (call : CallW) (a0 : W) (a1 : W) (h0 : HW) (c0 : Nat) (K : KW) : Bool :=
call 34 [a0, a1] h0 c0 fun v1 h2 c3 =>
q_tupW v1 fun l4 => q_nthW 0 l4 fun v5 =>
q_tupW v1 fun l6 => q_nthW 1 l6 fun v7 =>
K ⟨13, 0, r0, [v5, v7]⟩ h2 c3
theorem R10_eq (Q : PrimW) (fu : Nat) (call : CallW) : curryA 2 (fnK Q Try.prog tys stl fu call e10) = R10 Q.tupW Q.nthW fu call := by kernel_rfl
noncomputable def n10 (call : CallW) : List W → HW → Nat → KW → Bool := appF 2 (R10 tupW nthW 1000000 call)
theorem n10_ok {call : CallW} (h : CallSim Try.prog tys stl tab call) : FnGood Try.prog tys stl tab 10 (n10 call) := node_ok h (by kernel_rfl) rfl g10 (R10_eq real _ _)
/- foghorn/mix.Line -/
noncomputable def R21 (q_genW : Option CV → (W → Bool) → Bool) (q_addW : Nat → Nat → Option CV → W → W → (W → Bool) → Bool) (q_mulW : Nat → Nat → Option CV → W → W → (W → Bool) → Bool) (q_cmpW : (Nat → Nat → Bool) → Nat → Option CV → W → W → (W → Bool) → Bool) (q_condW : W → Bool → Bool → Bool) (q_idxSW : Nat → W → W → (W → Bool) → Bool) (q_lenW : Option CV → W → (W → Bool) → Bool) (q_tupW : W → (List W → Bool) → Bool) (q_nthW : Nat → List W → (W → Bool) → Bool) (q_killVW : W → HW → (HW → Bool) → Bool) (q_loadSW : HW → W → (W → Bool) → Bool) (q_makeSW : Nat → Nat → Nat → Kind → List W → Bool → HW → Nat → W → W → KW → Bool) (q_buildSW : Nat → Nat → Kind → Nat → Bool → HW → Nat → Nat → List W → KW → Bool) (q_appSW : Nat → Nat → (Kind → Bool) → Bool → HW → Nat → W → W → Bool → KW → Bool) (fu : Nat) (call : CallW) (a0 : W) (h0 : HW) (c0 : Nat) (K : KW) : Bool :=
q_lenW (lenC tys 23 (dec a0)) a0 fun v1 =>
q_cmpW (cmpF2 .gtr) 3 (binC Try.prog .gtr 3 (.tmp 10) (.const (.int .i64 (.ofNat 32768))) (dec v1) (dec ⟨3, 32768, r0, []⟩)) v1 ⟨3, 32768, r0, []⟩ fun v2 =>
q_condW v2 (
K ⟨13, 0, r0, [⟨12, 0, ⟨0, 0, 0, .nils⟩, []⟩, ⟨3, 1, r0, []⟩]⟩ h0 c0) (
call 34 [a0, ⟨3, 1, r0, []⟩] h0 c0 fun v3 h4 c5 =>
q_tupW v3 fun l6 => q_nthW 0 l6 fun v7 =>
q_tupW v3 fun l8 => q_nthW 1 l8 fun v9 =>
q_cmpW (cmpF2 .neq) 3 (binC Try.prog .neq 25 (.tmp 17) (.const (.int .i64 (.ofNat 0))) (dec v9) (dec ⟨3, 0, r0, []⟩)) v9 ⟨3, 0, r0, []⟩ fun v10 =>
q_condW v10 (
K ⟨13, 0, r0, [⟨12, 0, ⟨0, 0, 0, .nils⟩, []⟩, v9]⟩ h4 c5) (
q_lenW (lenC tys 23 (dec v7)) v7 fun v11 =>
q_mulW 3 9223372036854775807 (binC Try.prog .mul 3 (.const (.int .i64 (.ofNat 2))) (.tmp 21) (dec ⟨3, 2, r0, []⟩) (dec v11)) ⟨3, 2, r0, []⟩ v11 fun v12 =>
q_makeSW 8 1 99 (.flts .f64) [⟨12, 0, ⟨0, 0, 0, .flt .f64 0⟩, []⟩] true h4 c5 ⟨3, 0, r0, []⟩ v12 fun v13 h14 c15 =>
q_lenW (lenC tys 23 (dec v7)) v7 fun v16 =>
@Nat.rec (fun _ => Fun 2) (fun _ _ _ _ => false) (fun _ f21 v17 v18 h19 c20 =>
q_cmpW (cmpF2 .lss) 3 (binC Try.prog .lss 3 (.tmp 26) (.tmp 25) (dec v18) (dec v16)) v18 v16 fun v22 =>
q_condW v22 (
q_idxSW 1 v7 v18 fun v23 =>
q_loadSW h19 v23 fun v24 =>
q_genW (two Try.prog (dec v24) fun v => Builtin.real_ #[31] 32 #[v]) fun v25 =>
q_genW (two Try.prog (dec v24) fun v => Builtin.imag_ #[31] 32 #[v]) fun v26 =>
q_buildSW 1 99 (.flts .f64) 2 true h19 c20 2 [v25, v26] fun v27 h28 c29 =>
q_appSW 8 1 (appKindOk (elemJ tys 35)) false h28 c29 v17 v27 false fun v30 h31 c32 =>
q_killVW v27 h31 fun h33 =>
q_addW 3 9223372036854775807 (binC Try.prog .add 3 (.tmp 26) (.const (.int .i64 (.ofNat 1))) (dec v18) (dec ⟨3, 1, r0, []⟩)) v18 ⟨3, 1, r0, []⟩ fun v34 =>
f21 v30 v34 h33 c32) (
K ⟨13, 0, r0, [v17, ⟨3, 0, r0, []⟩]⟩ h19 c20)) fu v13 ⟨3, 0, r0, []⟩ h14 c15))
theorem R21_eq (Q : PrimW) (fu : Nat) (call : CallW) : curryA 1 (fnK Q Try.prog tys stl fu call e21) = R21 Q.genW Q.addW Q.mulW Q.cmpW Q.condW Q.idxSW Q.lenW Q.tupW Q.nthW Q.killVW Q.loadSW Q.makeSW Q.buildSW Q.appSW fu call := by kernel_rfl
noncomputable def n21 (call : CallW) : List W → HW → Nat → KW → Bool := appF 1 (R21 genW addW mulW cmpW condW idxSW lenW tupW nthW killVW loadSW makeSW buildSW appSW 1000000 call)
theorem n21_ok {call : CallW} (h : CallSim Try.prog tys stl tab call) : FnGood Try.prog tys stl tab 21 (n21 call) := node_ok h (by kernel_rfl) rfl g21 (R21_eq real _ _)
/- foghorn/foghornref08.Floats -/
noncomputable def R22 (q_addW : Nat → Nat → Option CV → W → W → (W → Bool) → Bool) (q_cmpW : (Nat → Nat → Bool) → Nat → Option CV → W → W → (W → Bool) → Bool) (q_notW : Option CV → W → (W → Bool) → Bool) (q_condW : W → Bool → Bool → Bool) (q_idxSW : Nat → W → W → (W → Bool) → Bool) (q_lenW : Option CV → W → (W → Bool) → Bool) (q_loadSW : HW → W → (W → Bool) → Bool) (fu : Nat) (call : CallW) (a0 : W) (a1 : W) (h0 : HW) (c0 : Nat) (K : KW) : Bool :=
q_lenW (lenC tys 35 (dec a0)) a0 fun v1 =>
q_lenW (lenC tys 35 (dec a1)) a1 fun v2 =>
q_cmpW (cmpF2 .neq) 3 (binC Try.prog .neq 3 (.tmp 7) (.tmp 9) (dec v1) (dec v2)) v1 v2 fun v3 =>
q_condW v3 (
K ⟨8, 0, r0, []⟩ h0 c0) (
@Nat.rec (fun _ => Fun 1) (fun _ _ _ => false) (fun _ f7 v4 h5 c6 =>
q_lenW (lenC tys 35 (dec a0)) a0 fun v8 =>
q_cmpW (cmpF2 .lss) 3 (binC Try.prog .lss 3 (.tmp 11) (.tmp 13) (dec v4) (dec v8)) v4 v8 fun v9 =>
q_condW v9 (
q_idxSW 1 a0 v4 fun v10 =>
q_loadSW h5 v10 fun v11 =>
q_idxSW 1 a1 v4 fun v12 =>
q_loadSW h5 v12 fun v13 =>
call 36 [v11, v13] h5 c6 fun v14 h15 c16 =>
q_notW (two Try.prog (dec v14) (Op.unary .not)) v14 fun v17 =>
q_condW v17 (
K ⟨8, 0, r0, []⟩ h15 c16) (
q_addW 3 9223372036854775807 (binC Try.prog .add 3 (.tmp 15) (.const (.int .i64 (.ofNat 1))) (dec v4) (dec ⟨3, 1, r0, []⟩)) v4 ⟨3, 1, r0, []⟩ fun v18 =>
f7 v18 h15 c16)) (
K ⟨8, 1, r0, []⟩ h5 c6)) fu ⟨3, 0, r0, []⟩ h0 c0)
theorem R22_eq (Q : PrimW) (fu : Nat) (call : CallW) : curryA 2 (fnK Q Try.prog tys stl fu call e22) = R22 Q.addW Q.cmpW Q.notW Q.condW Q.idxSW Q.lenW Q.loadSW fu call := by kernel_rfl
noncomputable def n22 (call : CallW) : List W → HW → Nat → KW → Bool := appF 2 (R22 addW cmpW notW condW idxSW lenW loadSW 1000000 call)
theorem n22_ok {call : CallW} (h : CallSim Try.prog tys stl tab call) : FnGood Try.prog tys stl tab 22 (n22 call) := node_ok h (by kernel_rfl) rfl g22 (R22_eq real _ _)
/- foghorn/foghornlaw08.awake -/
noncomputable def R30 (q_share : (α : Type) → α → (α → Bool) → Bool) (q_cmpW : (Nat → Nat → Bool) → Nat → Option CV → W → W → (W → Bool) → Bool) (q_guardW : Bool → W → Bool → Bool → Bool) (q_pickW : W → W → W → (W → Bool) → Bool) (q_tupW : W → (List W → Bool) → Bool) (q_nthW : Nat → List W → (W → Bool) → Bool) (q_buildSW : Nat → Nat → Kind → Nat → Bool → HW → Nat → Nat → List W → KW → Bool) (fu : Nat) (call : CallW) (h0 : HW) (c0 : Nat) (K : KW) : Bool :=
q_buildSW 1 99 (.cpxs .f64) 4 true h0 c0 4 [⟨12, 0, ⟨0, 0, 0, .cpx .f64 4607182418800017408 0⟩, []⟩, ⟨12, 0, ⟨0, 0, 0, .cpx .f64 4607182418800017408 0⟩, []⟩, ⟨12, 0, ⟨0, 0, 0, .cpx .f64 4607182418800017408 0⟩, []⟩, ⟨12, 0, ⟨0, 0, 0, .cpx .f64 4607182418800017408 0⟩, []⟩] fun v1 h2 c3 =>
call 10 [v1, ⟨3, 1, r0, []⟩] h2 c3 fun v4 h5 c6 =>
q_tupW v4 fun l7 => q_nthW 0 l7 fun v8 =>
q_tupW v4 fun l9 => q_nthW 1 l9 fun v10 =>
q_buildSW 1 99 (.cpxs .f64) 2 true h5 c6 2 [⟨12, 0, ⟨0, 0, 0, .cpx .f64 4607182418800017408 4611686018427387904⟩, []⟩, ⟨12, 0, ⟨0, 0, 0, .cpx .f64 4613937818241073152 4616189618054758400⟩, []⟩] fun v11 h12 c13 =>
call 21 [v11] h12 c13 fun v14 h15 c16 =>
q_tupW v14 fun l17 => q_nthW 0 l17 fun v18 =>
q_tupW v14 fun l19 => q_nthW 1 l19 fun v20 =>
q_cmpW (cmpF2 .eql) 3 (binC Try.prog .eql 25 (.tmp 15) (.const (.int .i64 (.ofNat 0))) (dec v10) (dec ⟨3, 0, r0, []⟩)) v10 ⟨3, 0, r0, []⟩ fun v21 =>
q_share _ (fun (v23 : W) (h24 : HW) (c25 : Nat) =>
q_share _ (fun (v27 : W) (h28 : HW) (c29 : Nat) =>
q_pickW v21 v27 ⟨8, 0, r0, []⟩ fun v30 =>
q_share _ (fun (v32 : W) (h33 : HW) (c34 : Nat) =>
q_share _ (fun (v36 : W) (h37 : HW) (c38 : Nat) =>
q_share _ (fun (v40 : W) (h41 : HW) (c42 : Nat) =>
q_pickW v30 v40 ⟨8, 0, r0, []⟩ fun v43 =>
q_share _ (fun (v45 : W) (h46 : HW) (c47 : Nat) =>
q_share _ (fun (v49 : W) (h50 : HW) (c51 : Nat) =>
q_share _ (fun (v53 : W) (h54 : HW) (c55 : Nat) =>
q_pickW v43 v53 ⟨8, 0, r0, []⟩ fun v56 =>
K v56 h54 c55) fun f52 =>
q_guardW true v43 (call 22 [v45, v49] h50 c51 fun v57 h58 c59 =>
f52 v57 h58 c59) (f52 wUnd h50 c51)) fun f48 =>
q_guardW true v43 (q_buildSW 1 99 (.flts .f64) 4 true h46 c47 4 [⟨12, 0, ⟨0, 0, 0, .flt .f64 4607182418800017408⟩, []⟩, ⟨12, 0, ⟨0, 0, 0, .flt .f64 4611686018427387904⟩, []⟩, ⟨12, 0, ⟨0, 0, 0, .flt .f64 13839561654909534208⟩, []⟩, ⟨12, 0, ⟨0, 0, 0, .flt .f64 4613937818241073152⟩, []⟩] fun v60 h61 c62 =>
f48 v60 h61 c62) (f48 wUnd h46 c47)) fun f44 =>
q_guardW true v43 (f44 v18 h41 c42) (f44 wUnd h41 c42)) fun f39 =>
q_guardW true v30 (call 31 [v32, v36] h37 c38 fun v63 h64 c65 =>
f39 v63 h64 c65) (f39 wUnd h37 c38)) fun f35 =>
q_guardW true v30 (q_buildSW 1 99 (.cpxs .f64) 4 true h33 c34 4 [⟨12, 0, ⟨0, 0, 0, .cpx .f64 4607182418800017408 0⟩, []⟩, ⟨12, 0, ⟨0, 0, 0, .cpx .f64 0 4607182418800017408⟩, []⟩, ⟨12, 0, ⟨0, 0, 0, .cpx .f64 13830554455654793216 0⟩, []⟩, ⟨12, 0, ⟨0, 0, 0, .cpx .f64 0 13830554455654793216⟩, []⟩] fun v66 h67 c68 =>
f35 v66 h67 c68) (f35 wUnd h33 c34)) fun f31 =>
q_guardW true v30 (f31 v8 h28 c29) (f31 wUnd h28 c29)) fun f26 =>
q_guardW true v21 (q_cmpW (cmpF2 .eql) 3 (binC Try.prog .eql 25 (.tmp 18) (.const (.int .i64 (.ofNat 0))) (dec v23) (dec ⟨3, 0, r0, []⟩)) v23 ⟨3, 0, r0, []⟩ fun v69 =>
f26 v69 h24 c25) (f26 wUnd h24 c25)) fun f22 =>
q_guardW true v21 (f22 v20 h15 c16) (f22 wUnd h15 c16)
theorem R30_eq (Q : PrimW) (fu : Nat) (call : CallW) : curryA 0 (fnK Q Try.prog tys stl fu call e30) = R30 Q.share Q.cmpW Q.guardW Q.pickW Q.tupW Q.nthW Q.buildSW fu call := by kernel_rfl
noncomputable def n30 (call : CallW) : List W → HW → Nat → KW → Bool := appF 0 (R30 (fun _ x f => f x) cmpW guardW pickW tupW nthW buildSW 1000000 call)
theorem n30_ok {call : CallW} (h : CallSim Try.prog tys stl tab call) : FnGood Try.prog tys stl tab 30 (n30 call) := node_ok h (by kernel_rfl) rfl g30 (R30_eq real _ _)
/- foghorn/foghornref08.Same -/
noncomputable def R31 (q_share : (α : Type) → α → (α → Bool) → Bool) (q_genW : Option CV → (W → Bool) → Bool) (q_addW : Nat → Nat → Option CV → W → W → (W → Bool) → Bool) (q_cmpW : (Nat → Nat → Bool) → Nat → Option CV → W → W → (W → Bool) → Bool) (q_notW : Option CV → W → (W → Bool) → Bool) (q_condW : W → Bool → Bool → Bool) (q_guardW : Bool → W → Bool → Bool → Bool) (q_pickW : W → W → W → (W → Bool) → Bool) (q_idxSW : Nat → W → W → (W → Bool) → Bool) (q_lenW : Option CV → W → (W → Bool) → Bool) (q_knownW : W → Bool → Bool) (q_loadSW : HW → W → (W → Bool) → Bool) (fu : Nat) (call : CallW) (a0 : W) (a1 : W) (h0 : HW) (c0 : Nat) (K : KW) : Bool :=
q_lenW (lenC tys 23 (dec a0)) a0 fun v1 =>
q_lenW (lenC tys 23 (dec a1)) a1 fun v2 =>
q_cmpW (cmpF2 .neq) 3 (binC Try.prog .neq 3 (.tmp 7) (.tmp 9) (dec v1) (dec v2)) v1 v2 fun v3 =>
q_condW v3 (
K ⟨8, 0, r0, []⟩ h0 c0) (
@Nat.rec (fun _ => Fun 1) (fun _ _ _ => false) (fun _ f7 v4 h5 c6 =>
q_lenW (lenC tys 23 (dec a0)) a0 fun v8 =>
q_cmpW (cmpF2 .lss) 3 (binC Try.prog .lss 3 (.tmp 11) (.tmp 13) (dec v4) (dec v8)) v4 v8 fun v9 =>
q_condW v9 (
q_idxSW 1 a0 v4 fun v10 =>
q_loadSW h5 v10 fun v11 =>
q_genW (two Try.prog (dec v11) fun v => Builtin.real_ #[31] 32 #[v]) fun v12 =>
q_idxSW 1 a1 v4 fun v13 =>
q_loadSW h5 v13 fun v14 =>
q_genW (two Try.prog (dec v14) fun v => Builtin.real_ #[31] 32 #[v]) fun v15 =>
call 36 [v12, v15] h5 c6 fun v16 _ _ => q_knownW v16 (
q_notW (two Try.prog (dec v16) (Op.unary .not)) v16 fun v17 =>
q_share _ (fun (v19 : W) (h20 : HW) (c21 : Nat) =>
q_share _ (fun (v23 : W) (h24 : HW) (c25 : Nat) =>
q_share _ (fun (v27 : W) (h28 : HW) (c29 : Nat) =>
q_share _ (fun (v31 : W) (h32 : HW) (c33 : Nat) =>
q_share _ (fun (v35 : W) (h36 : HW) (c37 : Nat) =>
q_share _ (fun (v39 : W) (h40 : HW) (c41 : Nat) =>
q_share _ (fun (v43 : W) (h44 : HW) (c45 : Nat) =>
q_share _ (fun (v47 : W) (h48 : HW) (c49 : Nat) =>
q_share _ (fun (v51 : W) (h52 : HW) (c53 : Nat) =>
q_share _ (fun (v55 : W) (h56 : HW) (c57 : Nat) =>
q_share _ (fun (v59 : W) (h60 : HW) (c61 : Nat) =>
q_share _ (fun (v64 : W) (h65 : HW) (c66 : Nat) =>
q_pickW v17 ⟨8, 1, r0, []⟩ v64 fun v67 =>
q_condW v67 (
K ⟨8, 0, r0, []⟩ h65 c66) (
q_addW 3 9223372036854775807 (binC Try.prog .add 3 (.tmp 15) (.const (.int .i64 (.ofNat 1))) (dec v4) (dec ⟨3, 1, r0, []⟩)) v4 ⟨3, 1, r0, []⟩ fun v68 =>
f7 v68 h65 c66)) fun f63 =>
q_guardW false v17 (q_notW (two Try.prog (dec v59) (Op.unary .not)) v59 fun v69 =>
f63 v69 h60 c61) (f63 wUnd h60 c61)) fun f58 =>
q_guardW false v17 (call 36 [v35, v55] h56 c57 fun v62 _ _ => q_knownW v62 (f58 v62 h56 c57)) (f58 wUnd h56 c57)) fun f54 =>
q_guardW false v17 (q_genW (two Try.prog (dec v51) fun v => Builtin.imag_ #[31] 32 #[v]) fun v70 =>
f54 v70 h52 c53) (f54 wUnd h52 c53)) fun f50 =>
q_guardW false v17 (q_loadSW h48 v47 fun v71 =>
f50 v71 h48 c49) (f50 wUnd h48 c49)) fun f46 =>
q_guardW false v17 (q_idxSW 1 v39 v43 fun v72 =>
f46 v72 h44 c45) (f46 wUnd h44 c45)) fun f42 =>
q_guardW false v17 (f42 v4 h40 c41) (f42 wUnd h40 c41)) fun f38 =>
q_guardW false v17 (f38 a1 h36 c37) (f38 wUnd h36 c37)) fun f34 =>
q_guardW false v17 (q_genW (two Try.prog (dec v31) fun v => Builtin.imag_ #[31] 32 #[v]) fun v73 =>
f34 v73 h32 c33) (f34 wUnd h32 c33)) fun f30 =>
q_guardW false v17 (q_loadSW h28 v27 fun v74 =>
f30 v74 h28 c29) (f30 wUnd h28 c29)) fun f26 =>
q_guardW false v17 (q_idxSW 1 v19 v23 fun v75 =>
f26 v75 h24 c25) (f26 wUnd h24 c25)) fun f22 =>
q_guardW false v17 (f22 v4 h20 c21) (f22 wUnd h20 c21)) fun f18 =>
q_guardW false v17 (f18 a0 h5 c6) (f18 wUnd h5 c6))) (
K ⟨8, 1, r0, []⟩ h5 c6)) fu ⟨3, 0, r0, []⟩ h0 c0)
theorem R31_eq (Q : PrimW) (fu : Nat) (call : CallW) : curryA 2 (fnK Q Try.prog tys stl fu call e31) = R31 Q.share Q.genW Q.addW Q.cmpW Q.notW Q.condW Q.guardW Q.pickW Q.idxSW Q.lenW Q.knownW Q.loadSW fu call := by kernel_rfl
noncomputable def n31 (call : CallW) : List W → HW → Nat → KW → Bool := appF 2 (R31 (fun _ x f => f x) genW addW cmpW notW condW guardW pickW idxSW lenW knownW loadSW 1000000 call)
theorem n31_ok {call : CallW} (h : CallSim Try.prog tys stl tab call) : FnGood Try.prog tys stl tab 31 (n31 call) := node_ok h (by kernel_rfl) rfl g31 (R31_eq real _ _)
/- foghorn/mix.moved -/
noncomputable def R34 (q_addW : Nat → Nat → Option CV → W → W → (W → Bool) → Bool) (q_mulW : Nat → Nat → Option CV → W → W → (W → Bool) → Bool) (q_bitW : (Nat → Nat → Nat) → Nat → Nat → Option CV → W → W → (W → Bool) → Bool) (q_cmpW : (Nat → Nat → Bool) → Nat → Option CV → W → W → (W → Bool) → Bool) (q_condW : W → Bool → Bool → Bool) (q_idxSW : Nat → W → W → (W → Bool) → Bool) (q_idxAW : Nat → Nat → W → W → (W → Bool) → Bool) (q_lenW : Option CV → W → (W → Bool) → Bool) (q_onG : W → List W → (FuncId → List W → Bool) → Bool) (q_killVW : W → HW → (HW → Bool) → Bool) (q_loadSW : HW → W → (W → Bool) → Bool) (q_storeSW : HW → W → W → (HW → Bool) → Bool) (q_storeAW : Nat → HW → W → W → (HW → Bool) → Bool) (q_makeSW : Nat → Nat → Nat → Kind → List W → Bool → HW → Nat → W → W → KW → Bool) (q_allocW : Trie W → Nat → Bool → HW → Nat → KW → Bool) (fu : Nat) (call : CallW) (a0 : W) (a1 : W) (h0 : HW) (c0 : Nat) (K : KW) : Bool :=
q_lenW (lenC tys 23 (dec a0)) a0 fun v1 =>
q_cmpW (cmpF2 .gtr) 3 (binC Try.prog .gtr 3 (.tmp 11) (.const (.int .i64 (.ofNat 65536))) (dec v1) (dec ⟨3, 65536, r0, []⟩)) v1 ⟨3, 65536, r0, []⟩ fun v2 =>
q_condW v2 (
q_killVW wUnd h0 fun h3 =>
K ⟨13, 0, r0, [⟨12, 0, ⟨0, 0, 0, .nils⟩, []⟩, ⟨3, 1, r0, []⟩]⟩ h3 c0) (
call 37 [] h0 c0 fun v4 h5 c6 =>
q_allocW (allocT tys 59) 4 true h5 c6 fun v7 h8 c9 =>
q_storeAW 4 h8 v7 v4 fun h10 =>
q_lenW (lenC tys 23 (dec a0)) a0 fun v11 =>
q_makeSW 16 1 99 (.cpxs .f64) [⟨12, 0, ⟨0, 0, 0, .cpx .f64 0 0⟩, []⟩] true h10 c9 v11 v11 fun v12 h13 c14 =>
q_lenW (lenC tys 23 (dec a0)) a0 fun v15 =>
@Nat.rec (fun _ => Fun 1) (fun _ _ _ => false) (fun _ f19 v16 h17 c18 =>
q_cmpW (cmpF2 .lss) 3 (binC Try.prog .lss 3 (.tmp 19) (.tmp 18) (dec v16) (dec v15)) v16 v15 fun v20 =>
q_condW v20 (
q_idxSW 1 a0 v16 fun v21 =>
q_loadSW h17 v21 fun v22 =>
q_mulW 3 9223372036854775807 (binC Try.prog .mul 3 (.tmp 26) (.tmp 27) (dec v16) (dec a1)) v16 a1 fun v23 =>
q_bitW Nat.land 3 9223372036854775807 (binC Try.prog .and 3 (.tmp 28) (.const (.int .i64 (.ofNat 3))) (dec v23) (dec ⟨3, 3, r0, []⟩)) v23 ⟨3, 3, r0, []⟩ fun v24 =>
q_idxAW 1 4 v7 v24 fun v25 =>
q_loadSW h17 v25 fun v26 =>
q_onG v26 [v22] fun g27 l28 => call g27 l28 h17 c18 fun v29 h30 c31 =>
q_idxSW 1 v12 v16 fun v32 =>
q_storeSW h30 v32 v29 fun h33 =>
q_addW 3 9223372036854775807 (binC Try.prog .add 3 (.tmp 19) (.const (.int .i64 (.ofNat 1))) (dec v16) (dec ⟨3, 1, r0, []⟩)) v16 ⟨3, 1, r0, []⟩ fun v34 =>
f19 v34 h33 c31) (
q_killVW v7 h17 fun h35 =>
K ⟨13, 0, r0, [v12, ⟨3, 0, r0, []⟩]⟩ h35 c18)) fu ⟨3, 0, r0, []⟩ h13 c14)
theorem R34_eq (Q : PrimW) (fu : Nat) (call : CallW) : curryA 2 (fnK Q Try.prog tys stl fu call e34) = R34 Q.addW Q.mulW Q.bitW Q.cmpW Q.condW Q.idxSW Q.idxAW Q.lenW Q.onG Q.killVW Q.loadSW Q.storeSW Q.storeAW Q.makeSW Q.allocW fu call := by kernel_rfl
noncomputable def n34 (call : CallW) : List W → HW → Nat → KW → Bool := appF 2 (R34 addW mulW bitW cmpW condW idxSW idxAW lenW onG killVW loadSW storeSW storeAW makeSW allocW 1000000 call)
theorem n34_ok {call : CallW} (h : CallSim Try.prog tys stl tab call) : FnGood Try.prog tys stl tab 34 (n34 call) := node_ok h (by kernel_rfl) rfl g34 (R34_eq real _ _)
/- foghorn/foghornref08.Float -/
noncomputable def R36 (q_share : (α : Type) → α → (α → Bool) → Bool) (q_genW : Option CV → (W → Bool) → Bool) (q_guardW : Bool → W → Bool → Bool → Bool) (q_pickW : W → W → W → (W → Bool) → Bool) (fu : Nat) (call : CallW) (a0 : W) (a1 : W) (h0 : HW) (c0 : Nat) (K : KW) : Bool :=
q_genW (binC Try.prog .eql 32 (.tmp 5) (.tmp 6) (dec a0) (dec a1)) fun v1 =>
q_share _ (fun (v3 : W) (h4 : HW) (c5 : Nat) =>
q_share _ (fun (v7 : W) (h8 : HW) (c9 : Nat) =>
q_share _ (fun (v11 : W) (h12 : HW) (c13 : Nat) =>
q_share _ (fun (v15 : W) (h16 : HW) (c17 : Nat) =>
q_share _ (fun (v19 : W) (h20 : HW) (c21 : Nat) =>
q_share _ (fun (v23 : W) (h24 : HW) (c25 : Nat) =>
q_share _ (fun (v27 : W) (h28 : HW) (c29 : Nat) =>
q_share _ (fun (v31 : W) (h32 : HW) (c33 : Nat) =>
q_pickW v1 ⟨8, 1, r0, []⟩ v31 fun v34 =>
K v34 h32 c33) fun f30 =>
q_guardW false v1 (q_pickW v15 v27 ⟨8, 0, r0, []⟩ fun v35 =>
f30 v35 h28 c29) (f30 wUnd h28 c29)) fun f26 =>
q_guardW true v15 (q_genW (binC Try.prog .neq 32 (.tmp 13) (.tmp 14) (dec v19) (dec v23)) fun v36 =>
f26 v36 h24 c25) (f26 wUnd h24 c25)) fun f22 =>
q_guardW true v15 (f22 a1 h20 c21) (f22 wUnd h20 c21)) fun f18 =>
q_guardW true v15 (f18 a1 h16 c17) (f18 wUnd h16 c17)) fun f14 =>
q_guardW false v1 (f14 v11 h12 c13) (f14 wUnd h12 c13)) fun f10 =>
q_guardW false v1 (q_genW (binC Try.prog .neq 32 (.tmp 9) (.tmp 10) (dec v3) (dec v7)) fun v37 =>
f10 v37 h8 c9) (f10 wUnd h8 c9)) fun f6 =>
q_guardW false v1 (f6 a0 h4 c5) (f6 wUnd h4 c5)) fun f2 =>
q_guardW false v1 (f2 a0 h0 c0) (f2 wUnd h0 c0)
theorem R36_eq (Q : PrimW) (fu : Nat) (call : CallW) : curryA 2 (fnK Q Try.prog tys stl fu call e36) = R36 Q.share Q.genW Q.guardW Q.pickW fu call := by kernel_rfl
noncomputable def n36 (call : CallW) : List W → HW → Nat → KW → Bool := appF 2 (R36 (fun _ x f => f x) genW guardW pickW 1000000 call)
theorem n36_ok {call : CallW} (h : CallSim Try.prog tys stl tab call) : FnGood Try.prog tys stl tab 36 (n36 call) := node_ok h (by kernel_rfl) rfl g36 (R36_eq real _ _)
/- foghorn/mix.turning -/
noncomputable def R37 (q_addW : Nat → Nat → Option CV → W → W → (W → Bool) → Bool) (q_cmpW : (Nat → Nat → Bool) → Nat → Option CV → W → W → (W → Bool) → Bool) (q_condW : W → Bool → Bool → Bool) (q_idxAW : Nat → Nat → W → W → (W → Bool) → Bool) (q_killVW : W → HW → (HW → Bool) → Bool) (q_loadSW : HW → W → (W → Bool) → Bool) (q_loadAW : Nat → HW → W → (W → Bool) → Bool) (q_storeSW : HW → W → W → (HW → Bool) → Bool) (q_storeAW : Nat → HW → W → W → (HW → Bool) → Bool) (q_allocW : Trie W → Nat → Bool → HW → Nat → KW → Bool) (fu : Nat) (call : CallW) (h0 : HW) (c0 : Nat) (K : KW) : Bool :=
q_allocW (allocT tys 59) 4 true h0 c0 fun v1 h2 c3 =>
q_allocW (allocT tys 59) 4 true h2 c3 fun v4 h5 c6 =>
@Nat.rec (fun _ => Fun 1) (fun _ _ _ => false) (fun _ f10 v7 h8 c9 =>
q_cmpW (cmpF2 .lss) 3 (binC Try.prog .lss 3 (.tmp 3) (.const (.int .i64 (.ofNat 4))) (dec v7) (dec ⟨3, 4, r0, []⟩)) v7 ⟨3, 4, r0, []⟩ fun v11 =>
q_condW v11 (
q_allocW (allocT tys 3) 1 true h8 c9 fun v12 h13 c14 =>
q_storeSW h13 v12 v7 fun h15 =>
q_loadSW h15 v12 fun v16 =>
(fun (v17 : W) =>
q_idxAW 1 4 v4 v16 fun v18 =>
q_storeSW h15 v18 v17 fun h19 =>
q_addW 3 9223372036854775807 (binC Try.prog .add 3 (.tmp 3) (.const (.int .i64 (.ofNat 1))) (dec v7) (dec ⟨3, 1, r0, []⟩)) v7 ⟨3, 1, r0, []⟩ fun v20 =>
f10 v20 h19 c14) ⟨14, 38, r0, [v12]⟩) (
q_loadAW 4 h8 v4 fun v21 =>
q_storeAW 4 h8 v1 v21 fun h22 =>
q_loadAW 4 h22 v1 fun v23 =>
q_killVW v4 h22 fun h24 =>
K v23 h24 c9)) fu ⟨3, 0, r0, []⟩ h5 c6
theorem R37_eq (Q : PrimW) (fu : Nat) (call : CallW) : curryA 0 (fnK Q Try.prog tys stl fu call e37) = R37 Q.addW Q.cmpW Q.condW Q.idxAW Q.killVW Q.loadSW Q.loadAW Q.storeSW Q.storeAW Q.allocW fu call := by kernel_rfl
noncomputable def n37 (call : CallW) : List W → HW → Nat → KW → Bool := appF 0 (R37 addW cmpW condW idxAW killVW loadSW loadAW storeSW storeAW allocW 1000000 call)
theorem n37_ok {call : CallW} (h : CallSim Try.prog tys stl tab call) : FnGood Try.prog tys stl tab 37 (n37 call) := node_ok h (by kernel_rfl) rfl g37 (R37_eq real _ _)
/- foghorn/mix.turning$1 -/
noncomputable def R38 (q_loadSW : HW → W → (W → Bool) → Bool) (fu : Nat) (call : CallW) (a0 : W) (a1 : W) (h0 : HW) (c0 : Nat) (K : KW) : Bool :=
q_loadSW h0 a1 fun v1 =>
call 39 [a0, v1] h0 c0 fun v2 h3 c4 =>
K v2 h3 c4
theorem R38_eq (Q : PrimW) (fu : Nat) (call : CallW) : curryA 2 (fnK Q Try.prog tys stl fu call e38) = R38 Q.loadSW fu call := by kernel_rfl
noncomputable def n38 (call : CallW) : List W → HW → Nat → KW → Bool := appF 2 (R38 loadSW 1000000 call)
theorem n38_ok {call : CallW} (h : CallSim Try.prog tys stl tab call) : FnGood Try.prog tys stl tab 38 (n38 call) := node_ok h (by kernel_rfl) rfl g38 (R38_eq real _ _)
/- foghorn/plane.Turn -/
noncomputable def R39 (q_genW : Option CV → (W → Bool) → Bool) (q_bitW : (Nat → Nat → Nat) → Nat → Nat → Option CV → W → W → (W → Bool) → Bool) (q_cmpW : (Nat → Nat → Bool) → Nat → Option CV → W → W → (W → Bool) → Bool) (q_condW : W → Bool → Bool → Bool) (fu : Nat) (call : CallW) (a0 : W) (a1 : W) (h0 : HW) (c0 : Nat) (K : KW) : Bool :=
q_genW (two Try.prog (dec a0) fun v => Builtin.real_ #[31] 32 #[v]) fun v1 =>
q_genW (two Try.prog (dec a0) fun v => Builtin.imag_ #[31] 32 #[v]) fun v2 =>
q_bitW Nat.land 3 9223372036854775807 (binC Try.prog .and 3 (.tmp 11) (.const (.int .i64 (.ofNat 3))) (dec a1) (dec ⟨3, 3, r0, []⟩)) a1 ⟨3, 3, r0, []⟩ fun v3 =>
q_cmpW (cmpF2 .eql) 3 (binC Try.prog .eql 3 (.tmp 12) (.const (.int .i64 (.ofNat 1))) (dec v3) (dec ⟨3, 1, r0, []⟩)) v3 ⟨3, 1, r0, []⟩ fun v4 =>
q_condW v4 (
q_genW (two Try.prog (dec v2) (Op.unary .neg)) fun v5 =>
q_genW (two2 Try.prog (dec v5) (dec v1) fun v u => Builtin.complex_ #[32, 32] 31 #[v, u]) fun v6 =>
K v6 h0 c0) (
q_cmpW (cmpF2 .eql) 3 (binC Try.prog .eql 3 (.tmp 12) (.const (.int .i64 (.ofNat 2))) (dec v3) (dec ⟨3, 2, r0, []⟩)) v3 ⟨3, 2, r0, []⟩ fun v7 =>
q_condW v7 (
q_genW (two Try.prog (dec v1) (Op.unary .neg)) fun v8 =>
q_genW (two Try.prog (dec v2) (Op.unary .neg)) fun v9 =>
q_genW (two2 Try.prog (dec v8) (dec v9) fun v u => Builtin.complex_ #[32, 32] 31 #[v, u]) fun v10 =>
K v10 h0 c0) (
q_cmpW (cmpF2 .eql) 3 (binC Try.prog .eql 3 (.tmp 12) (.const (.int .i64 (.ofNat 3))) (dec v3) (dec ⟨3, 3, r0, []⟩)) v3 ⟨3, 3, r0, []⟩ fun v11 =>
q_condW v11 (
q_genW (two Try.prog (dec v1) (Op.unary .neg)) fun v12 =>
q_genW (two2 Try.prog (dec v2) (dec v12) fun v u => Builtin.complex_ #[32, 32] 31 #[v, u]) fun v13 =>
K v13 h0 c0) (
K a0 h0 c0)))
theorem R39_eq (Q : PrimW) (fu : Nat) (call : CallW) : curryA 2 (fnK Q Try.prog tys stl fu call e39) = R39 Q.genW Q.bitW Q.cmpW Q.condW fu call := by kernel_rfl
noncomputable def n39 (call : CallW) : List W → HW → Nat → KW → Bool := appF 2 (R39 genW bitW cmpW condW 1000000 call)
theorem n39_ok {call : CallW} (h : CallSim Try.prog tys stl tab call) : FnGood Try.prog tys stl tab 39 (n39 call) := node_ok h (by kernel_rfl) rfl g39 (R39_eq real _ _)
noncomputable def dS (call : CallW) : Disp := (.node 34 (n34 call) (.node 22 (n22 call) (.node 21 (n21 call) (.node 10 (n10 call) .leaf .leaf) .leaf) (.node 31 (n31 call) (.node 30 (n30 call) .leaf .leaf) .leaf)) (.node 38 (n38 call) (.node 37 (n37 call) (.node 36 (n36 call) .leaf .leaf) .leaf) (.node 39 (n39 call) .leaf .leaf)))
theorem dS_ok {call : CallW} (h : CallSim Try.prog tys stl tab call) : CallSim Try.prog tys stl tab (dS call).fn := Disp.sim (t := dS call) ⟨n34_ok h, ⟨n22_ok h, ⟨n21_ok h, ⟨n10_ok h, True.intro, True.intro⟩, True.intro⟩, ⟨n31_ok h, ⟨n30_ok h, True.intro, True.intro⟩, True.intro⟩⟩, ⟨n38_ok h, ⟨n37_ok h, ⟨n36_ok h, True.intro, True.intro⟩, True.intro⟩, ⟨n39_ok h, True.intro, True.intro⟩⟩⟩
noncomputable def dR (m : Nat) : Disp := @Nat.rec (fun _ => Disp) .leaf (fun _ ih => dS ih.fn) m
theorem dR_ok : ∀ m, CallSim Try.prog tys stl tab (dR m).fn
  | 0 => d0_ok
  | m + 1 => dS_ok (dR_ok m)
noncomputable abbrev dT : Disp := dR 200
theorem dT_ok : CallSim Try.prog tys stl tab dT.fn := dR_ok _
set_option maxHeartbeats 0 in
theorem run30 : lawK dT.fn 30 = true := by kernel_rfl
theorem awake_f : Fits Try.prog 30 ⟨[], [], [⟨Unit, fun _ => True, fun _ => .bool true, fun _ => []⟩]⟩ :=
  lawK_fits tok mixed fok dT_ok (by kernel_rfl : tab 30 = some e30) rfl run30
end Go.Proofs.Ytancolnaoieafaa
