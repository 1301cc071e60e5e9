/-
  The functions that the run goes through, as tables, and the run of a function without arguments. No condition.
-/
import Derived.Test.YthhbcgnpbfmonaaRows
import Derived.Test.YthhbcgnpbfmonaaGx
set_option linter.unusedVariables false
set_option maxRecDepth 1000000
namespace Go.Proofs.Ythhbcgnpbfmonaa
open Go Go.Fw
def tys : List (Nat × TyI) := [
  (1, ⟨.func, 1, 8, .nilFunc⟩),
  (2, ⟨.int .i64, 1, 8, .int .i64 0⟩),
  (3, ⟨.int .i64, 1, 8, .int .i64 0⟩),
  (4, ⟨.bool, 1, 1, .bool false⟩),
  (5, ⟨.int .u8, 1, 1, .int .u8 0⟩),
  (9, ⟨.str, 1, 16, .string (ByteArray.mk #[])⟩),
  (12, ⟨.int .u64, 1, 8, .int .u64 0⟩),
  (21, ⟨.int .i32, 1, 4, .int .i32 0⟩),
  (22, ⟨.struct [(0, 3), (1, 3), (2, 3)], 3, 24, .agg #[.int .i64 0, .int .i64 0, .int .i64 0]⟩),
  (23, ⟨.struct [(0, 3), (1, 3), (2, 3)], 3, 24, .agg #[.int .i64 0, .int .i64 0, .int .i64 0]⟩),
  (24, ⟨.slice 53, 1, 24, .slice none 0 0⟩),
  (25, ⟨.struct [(0, 3), (1, 3), (2, 3)], 3, 24, .agg #[.int .i64 0, .int .i64 0, .int .i64 0]⟩),
  (26, ⟨.int .i64, 1, 8, .int .i64 0⟩),
  (28, ⟨.func, 1, 8, .nilFunc⟩),
  (29, ⟨.func, 1, 8, .nilFunc⟩),
  (30, ⟨.slice 38, 1, 24, .slice none 0 0⟩),
  (31, ⟨.func, 1, 8, .nilFunc⟩),
  (32, ⟨.func, 1, 8, .nilFunc⟩),
  (33, ⟨.func, 1, 8, .nilFunc⟩),
  (34, ⟨.func, 1, 8, .nilFunc⟩),
  (35, ⟨.cpx .f64, 1, 16, .complex .f64 0 0⟩),
  (36, ⟨.float .f64, 1, 8, .float .f64 0⟩),
  (37, ⟨.struct [(0, 35), (1, 4)], 2, 24, .agg #[.complex .f64 0 0, .bool false]⟩),
  (38, ⟨.struct [(0, 35), (1, 4)], 2, 24, .agg #[.complex .f64 0 0, .bool false]⟩),
  (39, ⟨.func, 1, 8, .nilFunc⟩),
  (40, ⟨.func, 1, 8, .nilFunc⟩),
  (41, ⟨.struct [(0, 3), (1, 3), (2, 3)], 3, 24, .agg #[.int .i64 0, .int .i64 0, .int .i64 0]⟩),
  (42, ⟨.struct [(0, 3), (1, 3), (2, 3)], 3, 24, .agg #[.int .i64 0, .int .i64 0, .int .i64 0]⟩),
  (44, ⟨.func, 1, 8, .nilFunc⟩),
  (46, ⟨.func, 1, 8, .nilFunc⟩),
  (47, ⟨.func, 1, 8, .nilFunc⟩),
  (48, ⟨.func, 1, 8, .nilFunc⟩),
  (49, ⟨.func, 1, 8, .nilFunc⟩),
  (50, ⟨.func, 1, 8, .nilFunc⟩),
  (51, ⟨.func, 1, 8, .nilFunc⟩),
  (52, ⟨.struct [(0, 36), (1, 36), (2, 4)], 3, 24, .agg #[.float .f64 0, .float .f64 0, .bool false]⟩),
  (53, ⟨.struct [(0, 36), (1, 36), (2, 4)], 3, 24, .agg #[.float .f64 0, .float .f64 0, .bool false]⟩),
  (54, ⟨.func, 1, 8, .nilFunc⟩),
  (55, ⟨.func, 1, 8, .nilFunc⟩),
  (56, ⟨.func, 1, 8, .nilFunc⟩),
  (57, ⟨.slice 3, 1, 24, .slice none 0 0⟩),
  (58, ⟨.func, 1, 8, .nilFunc⟩),
  (59, ⟨.func, 1, 8, .nilFunc⟩),
  (60, ⟨.func, 1, 8, .nilFunc⟩),
  (61, ⟨.func, 1, 8, .nilFunc⟩),
  (62, ⟨.int .u64, 1, 8, .int .u64 0⟩),
  (63, ⟨.func, 1, 8, .nilFunc⟩),
  (64, ⟨.func, 1, 8, .nilFunc⟩),
  (70, ⟨.func, 1, 8, .nilFunc⟩),
  (71, ⟨.int .u32, 1, 4, .int .u32 0⟩),
  (74, ⟨.func, 1, 8, .nilFunc⟩),
  (75, ⟨.ptr 5, 1, 8, .pointer none⟩)]


theorem tok : TOk Try.prog tys := tok_of ⟨⟨by kernel_rfl, by kernel_rfl⟩, ⟨by kernel_rfl, by kernel_rfl⟩, ⟨by kernel_rfl, by kernel_rfl⟩, ⟨by kernel_rfl, by kernel_rfl⟩, ⟨by kernel_rfl, by kernel_rfl⟩, ⟨by kernel_rfl, by kernel_rfl⟩, ⟨by kernel_rfl, by kernel_rfl⟩, ⟨by kernel_rfl, by kernel_rfl⟩, ⟨by kernel_rfl, by kernel_rfl⟩, ⟨by kernel_rfl, by kernel_rfl⟩, ⟨by kernel_rfl, by kernel_rfl⟩, ⟨by kernel_rfl, by kernel_rfl⟩, ⟨by kernel_rfl, by kernel_rfl⟩, ⟨by kernel_rfl, by kernel_rfl⟩, ⟨by kernel_rfl, by kernel_rfl⟩, ⟨by kernel_rfl, by kernel_rfl⟩, ⟨by kernel_rfl, by kernel_rfl⟩, ⟨by kernel_rfl, by kernel_rfl⟩, ⟨by kernel_rfl, by kernel_rfl⟩, ⟨by kernel_rfl, by kernel_rfl⟩, ⟨by kernel_rfl, by kernel_rfl⟩, ⟨by kernel_rfl, by kernel_rfl⟩, ⟨by kernel_rfl, by kernel_rfl⟩, ⟨by kernel_rfl, by kernel_rfl⟩, ⟨by kernel_rfl, by kernel_rfl⟩, ⟨by kernel_rfl, by kernel_rfl⟩, ⟨by kernel_rfl, by kernel_rfl⟩, ⟨by kernel_rfl, by kernel_rfl⟩, ⟨by kernel_rfl, by kernel_rfl⟩, ⟨by kernel_rfl, by kernel_rfl⟩, ⟨by kernel_rfl, by kernel_rfl⟩, ⟨by kernel_rfl, by kernel_rfl⟩, ⟨by kernel_rfl, by kernel_rfl⟩, ⟨by kernel_rfl, by kernel_rfl⟩, ⟨by kernel_rfl, by kernel_rfl⟩, ⟨by kernel_rfl, by kernel_rfl⟩, ⟨by kernel_rfl, by kernel_rfl⟩, ⟨by kernel_rfl, by kernel_rfl⟩, ⟨by kernel_rfl, by kernel_rfl⟩, ⟨by kernel_rfl, by kernel_rfl⟩, ⟨by kernel_rfl, by kernel_rfl⟩, ⟨by kernel_rfl, by kernel_rfl⟩, ⟨by kernel_rfl, by kernel_rfl⟩, ⟨by kernel_rfl, by kernel_rfl⟩, ⟨by kernel_rfl, by kernel_rfl⟩, ⟨by kernel_rfl, by kernel_rfl⟩, ⟨by kernel_rfl, by kernel_rfl⟩, ⟨by kernel_rfl, by kernel_rfl⟩, ⟨by kernel_rfl, by kernel_rfl⟩, ⟨by kernel_rfl, by kernel_rfl⟩, ⟨by kernel_rfl, by kernel_rfl⟩, ⟨by kernel_rfl, by kernel_rfl⟩, True.intro⟩
theorem mixed : Try.prog.follows .mixedOrders = true := by kernel_rfl
def inL : List Nat → Nat → Bool
  | [], _ => false
  | a :: r, n => match Nat.beq a n with | true => true | false => inL r n
def stl : Nat → Bool := inL [20]
/- 5: foghorn/tempo.At -/
def p5 : Nat → Option PlanC := fun _ => none
def wl5 : Nat → List Nat := fun _ => []
def wj5 : Nat → Option (List Nat) := fun _ => none
def kr5 : Nat → List Nat := fun _ => []
noncomputable def e5 : Ent := entOf Try.f5 ⟨p5, wl5, wj5, kr5, [2]⟩
theorem g5 : EntOk Try.prog tys stl 5 e5 := .inr ⟨rfl, Try.func5, by kernel_rfl, by kernel_rfl, by kernel_rfl, by kernel_rfl, by kernel_rfl, rfl⟩
/- 13: foghorn/foghornlaw12.awake -/
def p13 : Nat → Option PlanC := fun _ => none
def wl13 : Nat → List Nat := fun _ => []
def wj13 : Nat → Option (List Nat) := fun _ => none
def kr13 : Nat → List Nat := fun _ => []
noncomputable def e13 : Ent := entOf Try.f13 ⟨p13, wl13, wj13, kr13, []⟩
theorem g13 : EntOk Try.prog tys stl 13 e13 := .inr ⟨rfl, Try.func13, by kernel_rfl, by kernel_rfl, by kernel_rfl, by kernel_rfl, by kernel_rfl, rfl⟩
/- 14: foghorn/tempo.Slip -/
def p14 : Nat → Option PlanC := fun _ => none
def wl14 : Nat → List Nat := fun
  | 6 => [6, 7, 10]
  | 9 => [6, 7, 45]
  | _ => []
def wj14 : Nat → Option (List Nat) := fun
  | 14 => some [6, 7]
  | _ => none
def kr14 : Nat → List Nat := fun _ => []
noncomputable def e14 : Ent := entOf Try.f14 ⟨p14, wl14, wj14, kr14, []⟩
theorem g14 : EntOk Try.prog tys stl 14 e14 := .inr ⟨rfl, Try.func14, by kernel_rfl, by kernel_rfl, by kernel_rfl, by kernel_rfl, by kernel_rfl, rfl⟩
/- 19: (foghorn/tempo.Clock).mayBe -/
def p19 : Nat → Option PlanC := fun _ => none
def wl19 : Nat → List Nat := fun _ => []
def wj19 : Nat → Option (List Nat) := fun _ => none
def kr19 : Nat → List Nat := fun _ => []
noncomputable def e19 : Ent := entOf Try.f19 ⟨p19, wl19, wj19, kr19, [1]⟩
theorem g19 : EntOk Try.prog tys stl 19 e19 := .inr ⟨rfl, Try.func19, by kernel_rfl, by kernel_rfl, by kernel_rfl, by kernel_rfl, by kernel_rfl, rfl⟩
/- 20: foghorn/tempo.isCount -/
def p20 : Nat → Option PlanC := fun _ => none
def wl20 : Nat → List Nat := fun _ => []
def wj20 : Nat → Option (List Nat) := fun _ => none
def kr20 : Nat → List Nat := fun _ => []
noncomputable def e20 : Ent := entOf Try.f20 ⟨p20, wl20, wj20, kr20, []⟩
theorem g20 : EntOk Try.prog tys stl 20 e20 := .inr ⟨rfl, Try.func20, by kernel_rfl, by kernel_rfl, by kernel_rfl, by kernel_rfl, by kernel_rfl, rfl⟩
/- 21: (foghorn/tempo.Clock).instant -/
def p21 : Nat → Option PlanC := fun _ => none
def wl21 : Nat → List Nat := fun _ => []
def wj21 : Nat → Option (List Nat) := fun _ => none
def kr21 : Nat → List Nat := fun _ => []
noncomputable def e21 : Ent := entOf Try.f21 ⟨p21, wl21, wj21, kr21, [2]⟩
theorem g21 : EntOk Try.prog tys stl 21 e21 := .inr ⟨rfl, Try.func21, by kernel_rfl, by kernel_rfl, by kernel_rfl, by kernel_rfl, by kernel_rfl, rfl⟩
/- 26: foghorn/tempo.agreement -/
def p26 : Nat → Option PlanC := fun _ => none
def wl26 : Nat → List Nat := fun _ => []
def wj26 : Nat → Option (List Nat) := fun _ => none
def kr26 : Nat → List Nat := fun _ => []
noncomputable def e26 : Ent := entOf Try.f26 ⟨p26, wl26, wj26, kr26, []⟩
theorem g26 : EntOk Try.prog tys stl 26 e26 := .inr ⟨rfl, Try.func26, by kernel_rfl, by kernel_rfl, by kernel_rfl, by kernel_rfl, by kernel_rfl, rfl⟩
/- 29: foghorn/tempo.agreement$1 -/
def p29 : Nat → Option PlanC := fun
  | 5 => some (.op 1 true (.op 5 true (.op 6 true (.op 7 true (.op 0 false (.op 2 true (.op 3 false (.op 4 false (.op 8 true (.op 9 false (.twoD 10 11 [9, 4, 3, 0] (.op 12 false (.chk [9, 4] (.op 13 false (.done)))))))))))))))
  | _ => none
def wl29 : Nat → List Nat := fun
  | 3 => [5, 6]
  | _ => []
def wj29 : Nat → Option (List Nat) := fun
  | 4 => some [5]
  | _ => none
def kr29 : Nat → List Nat := fun _ => []
noncomputable def e29 : Ent := entOf Try.f29 ⟨p29, wl29, wj29, kr29, []⟩
theorem g29 : EntOk Try.prog tys stl 29 e29 := .inr ⟨rfl, Try.func29, by kernel_rfl, by kernel_rfl, by kernel_rfl, by kernel_rfl, by kernel_rfl, rfl⟩
noncomputable def ents : List (Nat × Ent) := [(5, e5), (13, e13), (14, e14), (19, e19), (20, e20), (21, e21), (26, e26), (29, e29)]
theorem goods : EntsOk Try.prog tys stl ents := ⟨g5, g13, g14, g19, g20, g21, g26, g29, True.intro⟩
noncomputable def tab : Nat → Option Ent := (tabOf ents).get
theorem fok : FOk Try.prog tys stl tab := fok_of goods
noncomputable def d0 : Disp := .leaf
theorem d0_ok : CallSim Try.prog tys stl tab d0.fn := Disp.sim True.intro
/- foghorn/tempo.At -/
noncomputable def R5 (q_share : (α : Type) → α → (α → Bool) → Bool) (q_notW : Option CV → W → (W → Bool) → Bool) (q_condW : W → Bool → Bool → Bool) (q_guardW : Bool → W → Bool → Bool → Bool) (q_pickW : W → W → W → (W → Bool) → Bool) (q_killVW : W → HW → (HW → Bool) → Bool) (q_loadAW : Nat → HW → W → (W → Bool) → Bool) (q_boxW : HW → Nat → W → KW → Bool) (fu : Nat) (call : CallW) (a0 : W) (a1 : W) (h0 : HW) (c0 : Nat) (K : KW) : Bool :=
q_boxW h0 c0 a0 fun v1 h2 c3 =>
q_loadAW 3 h2 v1 fun v4 =>
call 19 [v4] h2 c3 fun v5 h6 c7 =>
q_notW (two Try.prog (dec v5) (Op.unary .not)) v5 fun v8 =>
q_share _ (fun (v10 : W) (h11 : HW) (c12 : Nat) =>
q_share _ (fun (v14 : W) (h15 : HW) (c16 : Nat) =>
q_share _ (fun (v18 : W) (h19 : HW) (c20 : Nat) =>
q_pickW v8 ⟨8, 1, r0, []⟩ v18 fun v21 =>
q_condW v21 (
q_killVW v1 h19 fun h22 =>
K ⟨13, 0, r0, [⟨3, 0, r0, []⟩, ⟨3, 1, r0, []⟩]⟩ h22 c20) (
q_loadAW 3 h19 v1 fun v23 =>
call 21 [v23, a1] h19 c20 fun v24 h25 c26 =>
q_killVW v1 h25 fun h27 =>
K ⟨13, 0, r0, [v24, ⟨3, 0, r0, []⟩]⟩ h27 c26)) fun f17 =>
q_guardW false v8 (q_notW (two Try.prog (dec v14) (Op.unary .not)) v14 fun v28 =>
f17 v28 h15 c16) (f17 wUnd h15 c16)) fun f13 =>
q_guardW false v8 (call 20 [v10] h11 c12 fun v29 h30 c31 =>
f13 v29 h30 c31) (f13 wUnd h11 c12)) fun f9 =>
q_guardW false v8 (f9 a1 h6 c7) (f9 wUnd h6 c7)
theorem R5_eq (Q : PrimW) (fu : Nat) (call : CallW) : curryA 2 (fnK Q Try.prog tys stl fu call e5) = R5 Q.share Q.notW Q.condW Q.guardW Q.pickW Q.killVW Q.loadAW Q.boxW fu call := by kernel_rfl
noncomputable def n5 (call : CallW) : List W → HW → Nat → KW → Bool := appF 2 (R5 (fun _ x f => f x) notW condW guardW pickW killVW loadAW boxW 1000000 call)
theorem n5_ok {call : CallW} (h : CallSim Try.prog tys stl tab call) : FnGood Try.prog tys stl tab 5 (n5 call) := node_ok h (by kernel_rfl) rfl g5 (R5_eq real _ _)
/- foghorn/foghornlaw12.awake -/
noncomputable def R13 (q_share : (α : Type) → α → (α → Bool) → Bool) (q_cmpW : (Nat → Nat → Bool) → Nat → Option CV → W → W → (W → Bool) → Bool) (q_guardW : Bool → W → Bool → Bool → Bool) (q_pickW : W → W → W → (W → Bool) → Bool) (q_tupW : W → (List W → Bool) → Bool) (q_nthW : Nat → List W → (W → Bool) → Bool) (q_buildSW : Nat → Nat → Kind → Nat → Bool → HW → Nat → Nat → List W → KW → Bool) (q_flatW : W → Bool → Bool) (fu : Nat) (call : CallW) (h0 : HW) (c0 : Nat) (K : KW) : Bool :=
q_flatW ⟨3, 3, r0, []⟩ (
q_flatW ⟨3, 5, r0, []⟩ (
q_flatW ⟨3, 2, r0, []⟩ (
(fun (v1 : W) =>
call 5 [v1, ⟨3, 3, r0, []⟩] h0 c0 fun v2 h3 c4 =>
q_tupW v2 fun l5 => q_nthW 0 l5 fun v6 =>
q_tupW v2 fun l7 => q_nthW 1 l7 fun v8 =>
q_flatW ⟨12, 0, ⟨0, 0, 0, .cpx .f64 4607182418800017408 0⟩, []⟩ (
(fun (v9 : W) =>
q_flatW ⟨12, 0, ⟨0, 0, 0, .cpx .f64 4611686018427387904 0⟩, []⟩ (
(fun (v10 : W) =>
q_flatW ⟨12, 0, ⟨0, 0, 0, .cpx .f64 4613937818241073152 0⟩, []⟩ (
(fun (v11 : W) =>
q_buildSW 2 9 .avs 6 true h3 c4 3 [v9, v10, v11] fun v12 h13 c14 =>
q_flatW ⟨12, 0, ⟨0, 0, 0, .cpx .f64 4621256167635550208 0⟩, []⟩ (
(fun (v15 : W) =>
q_flatW ⟨12, 0, ⟨0, 0, 0, .cpx .f64 4607182418800017408 0⟩, []⟩ (
(fun (v16 : W) =>
q_flatW ⟨12, 0, ⟨0, 0, 0, .cpx .f64 4611686018427387904 0⟩, []⟩ (
(fun (v17 : W) =>
q_flatW ⟨12, 0, ⟨0, 0, 0, .cpx .f64 4613937818241073152 0⟩, []⟩ (
(fun (v18 : W) =>
q_buildSW 2 9 .avs 8 true h13 c14 4 [v15, v16, v17, v18] fun v19 h20 c21 =>
call 14 [v12, v19, ⟨3, 2, r0, []⟩] h20 c21 fun v22 h23 c24 =>
q_tupW v22 fun l25 => q_nthW 0 l25 fun v26 =>
q_tupW v22 fun l27 => q_nthW 1 l27 fun v28 =>
q_tupW v22 fun l29 => q_nthW 2 l29 fun v30 =>
q_cmpW (cmpF2 .eql) 3 (binC Try.prog .eql 3 (.tmp 27) (.const (.int .i64 (.ofNat 10))) (dec v6) (dec ⟨3, 10, r0, []⟩)) v6 ⟨3, 10, r0, []⟩ fun v31 =>
q_share _ (fun (v33 : W) (h34 : HW) (c35 : Nat) =>
q_share _ (fun (v37 : W) (h38 : HW) (c39 : Nat) =>
q_pickW v31 v37 ⟨8, 0, r0, []⟩ fun v40 =>
q_share _ (fun (v42 : W) (h43 : HW) (c44 : Nat) =>
q_share _ (fun (v46 : W) (h47 : HW) (c48 : Nat) =>
q_pickW v40 v46 ⟨8, 0, r0, []⟩ fun v49 =>
q_share _ (fun (v51 : W) (h52 : HW) (c53 : Nat) =>
q_share _ (fun (v55 : W) (h56 : HW) (c57 : Nat) =>
q_pickW v49 v55 ⟨8, 0, r0, []⟩ fun v58 =>
q_share _ (fun (v60 : W) (h61 : HW) (c62 : Nat) =>
q_share _ (fun (v64 : W) (h65 : HW) (c66 : Nat) =>
q_pickW v58 v64 ⟨8, 0, r0, []⟩ fun v67 =>
K v67 h65 c66) fun f63 =>
q_guardW true v58 (q_cmpW (cmpF2 .eql) 3 (binC Try.prog .eql 26 (.tmp 42) (.const (.int .i64 (.ofNat 0))) (dec v60) (dec ⟨3, 0, r0, []⟩)) v60 ⟨3, 0, r0, []⟩ fun v68 =>
f63 v68 h61 c62) (f63 wUnd h61 c62)) fun f59 =>
q_guardW true v58 (f59 v30 h56 c57) (f59 wUnd h56 c57)) fun f54 =>
q_guardW true v49 (q_cmpW (cmpF2 .eql) 3 (binC Try.prog .eql 3 (.tmp 38) (.const (.int .i64 (.ofNat 3))) (dec v51) (dec ⟨3, 3, r0, []⟩)) v51 ⟨3, 3, r0, []⟩ fun v69 =>
f54 v69 h52 c53) (f54 wUnd h52 c53)) fun f50 =>
q_guardW true v49 (f50 v28 h47 c48) (f50 wUnd h47 c48)) fun f45 =>
q_guardW true v40 (q_cmpW (cmpF2 .eql) 3 (binC Try.prog .eql 3 (.tmp 34) (.const (.int .i64 (.ofNat 1))) (dec v42) (dec ⟨3, 1, r0, []⟩)) v42 ⟨3, 1, r0, []⟩ fun v70 =>
f45 v70 h43 c44) (f45 wUnd h43 c44)) fun f41 =>
q_guardW true v40 (f41 v26 h38 c39) (f41 wUnd h38 c39)) fun f36 =>
q_guardW true v31 (q_cmpW (cmpF2 .eql) 3 (binC Try.prog .eql 26 (.tmp 30) (.const (.int .i64 (.ofNat 0))) (dec v33) (dec ⟨3, 0, r0, []⟩)) v33 ⟨3, 0, r0, []⟩ fun v71 =>
f36 v71 h34 c35) (f36 wUnd h34 c35)) fun f32 =>
q_guardW true v31 (f32 v8 h23 c24) (f32 wUnd h23 c24)) ⟨15, 0, r0, [⟨12, 0, ⟨0, 0, 0, .cpx .f64 4613937818241073152 0⟩, []⟩, ⟨8, 0, r0, []⟩]⟩)) ⟨15, 0, r0, [⟨12, 0, ⟨0, 0, 0, .cpx .f64 4611686018427387904 0⟩, []⟩, ⟨8, 0, r0, []⟩]⟩)) ⟨15, 0, r0, [⟨12, 0, ⟨0, 0, 0, .cpx .f64 4607182418800017408 0⟩, []⟩, ⟨8, 0, r0, []⟩]⟩)) ⟨15, 0, r0, [⟨12, 0, ⟨0, 0, 0, .cpx .f64 4621256167635550208 0⟩, []⟩, ⟨8, 0, r0, []⟩]⟩)) ⟨15, 0, r0, [⟨12, 0, ⟨0, 0, 0, .cpx .f64 4613937818241073152 0⟩, []⟩, ⟨8, 0, r0, []⟩]⟩)) ⟨15, 0, r0, [⟨12, 0, ⟨0, 0, 0, .cpx .f64 4611686018427387904 0⟩, []⟩, ⟨8, 0, r0, []⟩]⟩)) ⟨15, 0, r0, [⟨12, 0, ⟨0, 0, 0, .cpx .f64 4607182418800017408 0⟩, []⟩, ⟨8, 0, r0, []⟩]⟩)) ⟨15, 0, r0, [⟨3, 3, r0, []⟩, ⟨3, 5, r0, []⟩, ⟨3, 2, r0, []⟩]⟩)))
theorem R13_eq (Q : PrimW) (fu : Nat) (call : CallW) : curryA 0 (fnK Q Try.prog tys stl fu call e13) = R13 Q.share Q.cmpW Q.guardW Q.pickW Q.tupW Q.nthW Q.buildSW Q.flatW fu call := by kernel_rfl
noncomputable def n13 (call : CallW) : List W → HW → Nat → KW → Bool := appF 0 (R13 (fun _ x f => f x) cmpW guardW pickW tupW nthW buildSW flatW 1000000 call)
theorem n13_ok {call : CallW} (h : CallSim Try.prog tys stl tab call) : FnGood Try.prog tys stl tab 13 (n13 call) := node_ok h (by kernel_rfl) rfl g13 (R13_eq real _ _)
/- foghorn/tempo.Slip -/
noncomputable def R14 (q_share : (α : Type) → α → (α → Bool) → Bool) (q_addW : Nat → Nat → Option CV → W → W → (W → Bool) → Bool) (q_cmpW : (Nat → Nat → Bool) → Nat → Option CV → W → W → (W → Bool) → Bool) (q_negW : Nat → Nat → Bool → Option CV → W → (W → Bool) → Bool) (q_condW : W → Bool → Bool → Bool) (q_guardW : Bool → W → Bool → Bool → Bool) (q_pickW : W → W → W → (W → Bool) → Bool) (q_idxSW : Nat → W → W → (W → Bool) → Bool) (q_lenW : Option CV → W → (W → Bool) → Bool) (q_onG : W → List W → (FuncId → List W → Bool) → Bool) (q_loadSW : HW → W → (W → Bool) → Bool) (q_buildSW : Nat → Nat → Kind → Nat → Bool → HW → Nat → Nat → List W → KW → Bool) (fu : Nat) (call : CallW) (a0 : W) (a1 : W) (a2 : W) (h0 : HW) (c0 : Nat) (K : KW) : Bool :=
q_lenW (lenC tys 30 (dec a0)) a0 fun v1 =>
q_cmpW (cmpF2 .gtr) 3 (binC Try.prog .gtr 3 (.tmp 15) (.const (.int .i64 (.ofNat 4096))) (dec v1) (dec ⟨3, 4096, r0, []⟩)) v1 ⟨3, 4096, r0, []⟩ fun v2 =>
q_share _ (fun (v4 : W) (h5 : HW) (c6 : Nat) =>
q_share _ (fun (v8 : W) (h9 : HW) (c10 : Nat) =>
q_share _ (fun (v12 : W) (h13 : HW) (c14 : Nat) =>
q_pickW v2 ⟨8, 1, r0, []⟩ v12 fun v15 =>
q_share _ (fun (v17 : W) (h18 : HW) (c19 : Nat) =>
q_share _ (fun (v21 : W) (h22 : HW) (c23 : Nat) =>
q_pickW v15 ⟨8, 1, r0, []⟩ v21 fun v24 =>
q_share _ (fun (v26 : W) (h27 : HW) (c28 : Nat) =>
q_share _ (fun (v30 : W) (h31 : HW) (c32 : Nat) =>
q_pickW v24 ⟨8, 1, r0, []⟩ v30 fun v33 =>
q_condW v33 (
K ⟨13, 0, r0, [⟨3, 0, r0, []⟩, ⟨3, 0, r0, []⟩, ⟨3, 1, r0, []⟩]⟩ h31 c32) (
call 26 [a0, a1] h31 c32 fun v34 h35 c36 =>
q_onG v34 [⟨3, 0, r0, []⟩] fun g37 l38 => call g37 l38 h35 c36 fun v39 h40 c41 =>
@Nat.rec (fun _ => Fun 3) (fun _ _ _ _ _ => false) (fun _ f47 v42 v43 v44 h45 c46 =>
q_cmpW (cmpF2 .leq) 3 (binC Try.prog .leq 3 (.tmp 35) (.tmp 36) (dec v44) (dec a2)) v44 a2 fun v48 =>
q_condW v48 (
q_negW 3 9223372036854775807 false (two Try.prog (dec v44) (Op.unary .neg)) v44 fun v49 =>
q_buildSW 1 3 (.ints .i64) 2 true h45 c46 2 [v44, v49] fun v50 h51 c52 =>
q_lenW (lenC tys 57 (dec v50)) v50 fun v53 =>
@Nat.rec (fun _ => Fun 3) (fun _ _ _ _ _ => false) (fun _ f59 v54 v55 v56 h57 c58 =>
q_cmpW (cmpF2 .lss) 3 (binC Try.prog .lss 3 (.tmp 45) (.tmp 44) (dec v56) (dec v53)) v56 v53 fun v60 =>
q_condW v60 (
q_share _ (fun (v61 : W) (v62 : W) (h63 : HW) (c64 : Nat) =>
q_addW 3 9223372036854775807 (binC Try.prog .add 3 (.tmp 45) (.const (.int .i64 (.ofNat 1))) (dec v56) (dec ⟨3, 1, r0, []⟩)) v56 ⟨3, 1, r0, []⟩ fun v66 =>
f59 v61 v62 v66 h63 c64) fun f65 =>
q_idxSW 1 v50 v56 fun v67 =>
q_loadSW h57 v67 fun v68 =>
q_onG v34 [v68] fun g69 l70 => call g69 l70 h57 c58 fun v71 h72 c73 =>
q_cmpW (cmpF2 .gtr) 3 (binC Try.prog .gtr 3 (.tmp 52) (.tmp 53) (dec v71) (dec v55)) v71 v55 fun v74 =>
q_condW v74 (
f65 v68 v71 h72 c73) (
f65 v54 v55 h72 c73)) (
q_addW 3 9223372036854775807 (binC Try.prog .add 3 (.tmp 38) (.const (.int .i64 (.ofNat 1))) (dec v44) (dec ⟨3, 1, r0, []⟩)) v44 ⟨3, 1, r0, []⟩ fun v75 =>
f47 v54 v55 v75 h57 c58)) fu v42 v43 ⟨3, 0, r0, []⟩ h51 c52) (
K ⟨13, 0, r0, [v42, v43, ⟨3, 0, r0, []⟩]⟩ h45 c46)) fu ⟨3, 0, r0, []⟩ v39 ⟨3, 1, r0, []⟩ h40 c41)) fun f29 =>
q_guardW false v24 (q_cmpW (cmpF2 .gtr) 3 (binC Try.prog .gtr 3 (.tmp 27) (.const (.int .i64 (.ofNat 1024))) (dec v26) (dec ⟨3, 1024, r0, []⟩)) v26 ⟨3, 1024, r0, []⟩ fun v76 =>
f29 v76 h27 c28) (f29 wUnd h27 c28)) fun f25 =>
q_guardW false v24 (f25 a2 h22 c23) (f25 wUnd h22 c23)) fun f20 =>
q_guardW false v15 (q_cmpW (cmpF2 .lss) 3 (binC Try.prog .lss 3 (.tmp 23) (.const (.int .i64 (.ofNat 0))) (dec v17) (dec ⟨3, 0, r0, []⟩)) v17 ⟨3, 0, r0, []⟩ fun v77 =>
f20 v77 h18 c19) (f20 wUnd h18 c19)) fun f16 =>
q_guardW false v15 (f16 a2 h13 c14) (f16 wUnd h13 c14)) fun f11 =>
q_guardW false v2 (q_cmpW (cmpF2 .gtr) 3 (binC Try.prog .gtr 3 (.tmp 19) (.const (.int .i64 (.ofNat 4096))) (dec v8) (dec ⟨3, 4096, r0, []⟩)) v8 ⟨3, 4096, r0, []⟩ fun v78 =>
f11 v78 h9 c10) (f11 wUnd h9 c10)) fun f7 =>
q_guardW false v2 (q_lenW (lenC tys 30 (dec v4)) v4 fun v79 =>
f7 v79 h5 c6) (f7 wUnd h5 c6)) fun f3 =>
q_guardW false v2 (f3 a1 h0 c0) (f3 wUnd h0 c0)
theorem R14_eq (Q : PrimW) (fu : Nat) (call : CallW) : curryA 3 (fnK Q Try.prog tys stl fu call e14) = R14 Q.share Q.addW Q.cmpW Q.negW Q.condW Q.guardW Q.pickW Q.idxSW Q.lenW Q.onG Q.loadSW Q.buildSW fu call := by kernel_rfl
noncomputable def n14 (call : CallW) : List W → HW → Nat → KW → Bool := appF 3 (R14 (fun _ x f => f x) addW cmpW negW condW guardW pickW idxSW lenW onG loadSW buildSW 1000000 call)
theorem n14_ok {call : CallW} (h : CallSim Try.prog tys stl tab call) : FnGood Try.prog tys stl tab 14 (n14 call) := node_ok h (by kernel_rfl) rfl g14 (R14_eq real _ _)
/- (foghorn/tempo.Clock).mayBe -/
noncomputable def R19 (q_share : (α : Type) → α → (α → Bool) → Bool) (q_cmpW : (Nat → Nat → Bool) → Nat → Option CV → W → W → (W → Bool) → Bool) (q_guardW : Bool → W → Bool → Bool → Bool) (q_pickW : W → W → W → (W → Bool) → Bool) (q_fadW : Nat → W → (W → Bool) → Bool) (q_killVW : W → HW → (HW → Bool) → Bool) (q_loadSW : HW → W → (W → Bool) → Bool) (q_boxW : HW → Nat → W → KW → Bool) (fu : Nat) (call : CallW) (a0 : W) (h0 : HW) (c0 : Nat) (K : KW) : Bool :=
q_boxW h0 c0 a0 fun v1 h2 c3 =>
q_fadW 0 v1 fun v4 =>
q_loadSW h2 v4 fun v5 =>
call 20 [v5] h2 c3 fun v6 h7 c8 =>
q_share _ (fun (v10 : W) (h11 : HW) (c12 : Nat) =>
q_share _ (fun (v14 : W) (h15 : HW) (c16 : Nat) =>
q_share _ (fun (v18 : W) (h19 : HW) (c20 : Nat) =>
q_pickW v6 v18 ⟨8, 0, r0, []⟩ fun v21 =>
q_share _ (fun (v23 : W) (h24 : HW) (c25 : Nat) =>
q_share _ (fun (v27 : W) (h28 : HW) (c29 : Nat) =>
q_share _ (fun (v31 : W) (h32 : HW) (c33 : Nat) =>
q_share _ (fun (v35 : W) (h36 : HW) (c37 : Nat) =>
q_share _ (fun (v39 : W) (h40 : HW) (c41 : Nat) =>
q_pickW v21 v39 ⟨8, 0, r0, []⟩ fun v42 =>
q_share _ (fun (v44 : W) (h45 : HW) (c46 : Nat) =>
q_share _ (fun (v48 : W) (h49 : HW) (c50 : Nat) =>
q_share _ (fun (v52 : W) (h53 : HW) (c54 : Nat) =>
q_pickW v42 v52 ⟨8, 0, r0, []⟩ fun v55 =>
q_killVW v1 h53 fun h56 =>
K v55 h56 c54) fun f51 =>
q_guardW true v42 (q_cmpW (cmpF2 .leq) 3 (binC Try.prog .leq 3 (.tmp 20) (.const (.int .i64 (.ofNat 65536))) (dec v48) (dec ⟨3, 65536, r0, []⟩)) v48 ⟨3, 65536, r0, []⟩ fun v57 =>
f51 v57 h49 c50) (f51 wUnd h49 c50)) fun f47 =>
q_guardW true v42 (q_loadSW h45 v44 fun v58 =>
f47 v58 h45 c46) (f47 wUnd h45 c46)) fun f43 =>
q_guardW true v42 (q_fadW 1 v1 fun v59 =>
f43 v59 h40 c41) (f43 wUnd h40 c41)) fun f38 =>
q_guardW true v21 (q_cmpW (cmpF2 .geq) 3 (binC Try.prog .geq 3 (.tmp 13) (.tmp 15) (dec v27) (dec v35)) v27 v35 fun v60 =>
f38 v60 h36 c37) (f38 wUnd h36 c37)) fun f34 =>
q_guardW true v21 (q_loadSW h32 v31 fun v61 =>
f34 v61 h32 c33) (f34 wUnd h32 c33)) fun f30 =>
q_guardW true v21 (q_fadW 2 v1 fun v62 =>
f30 v62 h28 c29) (f30 wUnd h28 c29)) fun f26 =>
q_guardW true v21 (q_loadSW h24 v23 fun v63 =>
f26 v63 h24 c25) (f26 wUnd h24 c25)) fun f22 =>
q_guardW true v21 (q_fadW 1 v1 fun v64 =>
f22 v64 h19 c20) (f22 wUnd h19 c20)) fun f17 =>
q_guardW true v6 (q_cmpW (cmpF2 .geq) 3 (binC Try.prog .geq 3 (.tmp 8) (.const (.int .i64 (.ofNat 1))) (dec v14) (dec ⟨3, 1, r0, []⟩)) v14 ⟨3, 1, r0, []⟩ fun v65 =>
f17 v65 h15 c16) (f17 wUnd h15 c16)) fun f13 =>
q_guardW true v6 (q_loadSW h11 v10 fun v66 =>
f13 v66 h11 c12) (f13 wUnd h11 c12)) fun f9 =>
q_guardW true v6 (q_fadW 2 v1 fun v67 =>
f9 v67 h7 c8) (f9 wUnd h7 c8)
theorem R19_eq (Q : PrimW) (fu : Nat) (call : CallW) : curryA 1 (fnK Q Try.prog tys stl fu call e19) = R19 Q.share Q.cmpW Q.guardW Q.pickW Q.fadW Q.killVW Q.loadSW Q.boxW fu call := by kernel_rfl
noncomputable def n19 (call : CallW) : List W → HW → Nat → KW → Bool := appF 1 (R19 (fun _ x f => f x) cmpW guardW pickW fadW killVW loadSW boxW 1000000 call)
theorem n19_ok {call : CallW} (h : CallSim Try.prog tys stl tab call) : FnGood Try.prog tys stl tab 19 (n19 call) := node_ok h (by kernel_rfl) rfl g19 (R19_eq real _ _)
/- foghorn/tempo.isCount -/
noncomputable def R20 (q_share : (α : Type) → α → (α → Bool) → Bool) (q_cmpW : (Nat → Nat → Bool) → Nat → Option CV → W → W → (W → Bool) → Bool) (q_guardW : Bool → W → Bool → Bool → Bool) (q_pickW : W → W → W → (W → Bool) → Bool) (fu : Nat) (call : CallW) (a0 : W) (h0 : HW) (c0 : Nat) (K : KW) : Bool :=
q_cmpW (cmpF2 .geq) 3 (binC Try.prog .geq 3 (.tmp 3) (.const (.int .i64 (.ofNat 0))) (dec a0) (dec ⟨3, 0, r0, []⟩)) a0 ⟨3, 0, r0, []⟩ fun v1 =>
q_share _ (fun (v3 : W) (h4 : HW) (c5 : Nat) =>
q_share _ (fun (v7 : W) (h8 : HW) (c9 : Nat) =>
q_pickW v1 v7 ⟨8, 0, r0, []⟩ fun v10 =>
K v10 h8 c9) fun f6 =>
q_guardW true v1 (q_cmpW (cmpF2 .leq) 3 (binC Try.prog .leq 3 (.tmp 6) (.const (.int .i64 (.ofNat 65536))) (dec v3) (dec ⟨3, 65536, r0, []⟩)) v3 ⟨3, 65536, r0, []⟩ fun v11 =>
f6 v11 h4 c5) (f6 wUnd h4 c5)) fun f2 =>
q_guardW true v1 (f2 a0 h0 c0) (f2 wUnd h0 c0)
theorem R20_eq (Q : PrimW) (fu : Nat) (call : CallW) : curryA 1 (fnK Q Try.prog tys stl fu call e20) = R20 Q.share Q.cmpW Q.guardW Q.pickW fu call := by kernel_rfl
noncomputable def n20 (call : CallW) : List W → HW → Nat → KW → Bool := appF 1 (R20 (fun _ x f => f x) cmpW guardW pickW 1000000 call)
theorem n20_ok {call : CallW} (h : CallSim Try.prog tys stl tab call) : FnGood Try.prog tys stl tab 20 (n20 call) := node_ok h (by kernel_rfl) rfl g20 (R20_eq real _ _)
/- (foghorn/tempo.Clock).instant -/
noncomputable def R21 (q_addW : Nat → Nat → Option CV → W → W → (W → Bool) → Bool) (q_mulW : Nat → Nat → Option CV → W → W → (W → Bool) → Bool) (q_quoW : Nat → Nat → Option CV → W → W → (W → Bool) → Bool) (q_fadW : Nat → W → (W → Bool) → Bool) (q_killVW : W → HW → (HW → Bool) → Bool) (q_loadSW : HW → W → (W → Bool) → Bool) (q_boxW : HW → Nat → W → KW → Bool) (fu : Nat) (call : CallW) (a0 : W) (a1 : W) (h0 : HW) (c0 : Nat) (K : KW) : Bool :=
q_boxW h0 c0 a0 fun v1 h2 c3 =>
q_fadW 0 v1 fun v4 =>
q_loadSW h2 v4 fun v5 =>
q_fadW 1 v1 fun v6 =>
q_loadSW h2 v6 fun v7 =>
q_mulW 3 9223372036854775807 (binC Try.prog .mul 3 (.tmp 7) (.tmp 9) (dec a1) (dec v7)) a1 v7 fun v8 =>
q_fadW 2 v1 fun v9 =>
q_loadSW h2 v9 fun v10 =>
q_quoW 3 9223372036854775807 (binC Try.prog .quo 3 (.tmp 10) (.tmp 12) (dec v8) (dec v10)) v8 v10 fun v11 =>
q_addW 3 9223372036854775807 (binC Try.prog .add 3 (.tmp 6) (.tmp 13) (dec v5) (dec v11)) v5 v11 fun v12 =>
q_killVW v1 h2 fun h13 =>
K v12 h13 c3
theorem R21_eq (Q : PrimW) (fu : Nat) (call : CallW) : curryA 2 (fnK Q Try.prog tys stl fu call e21) = R21 Q.addW Q.mulW Q.quoW Q.fadW Q.killVW Q.loadSW Q.boxW fu call := by kernel_rfl
noncomputable def n21 (call : CallW) : List W → HW → Nat → KW → Bool := appF 2 (R21 addW mulW quoW fadW killVW loadSW boxW 1000000 call)
theorem n21_ok {call : CallW} (h : CallSim Try.prog tys stl tab call) : FnGood Try.prog tys stl tab 21 (n21 call) := node_ok h (by kernel_rfl) rfl g21 (R21_eq real _ _)
/- foghorn/tempo.agreement -/
noncomputable def R26 (q_boxW : HW → Nat → W → KW → Bool) (fu : Nat) (call : CallW) (a0 : W) (a1 : W) (h0 : HW) (c0 : Nat) (K : KW) : Bool :=
q_boxW h0 c0 a0 fun v1 h2 c3 =>
q_boxW h2 c3 a1 fun v4 h5 c6 =>
(fun (v7 : W) =>
K v7 h5 c6) ⟨14, 29, r0, [v1, v4]⟩
theorem R26_eq (Q : PrimW) (fu : Nat) (call : CallW) : curryA 2 (fnK Q Try.prog tys stl fu call e26) = R26 Q.boxW fu call := by kernel_rfl
noncomputable def n26 (call : CallW) : List W → HW → Nat → KW → Bool := appF 2 (R26 boxW 1000000 call)
theorem n26_ok {call : CallW} (h : CallSim Try.prog tys stl tab call) : FnGood Try.prog tys stl tab 26 (n26 call) := node_ok h (by kernel_rfl) rfl g26 (R26_eq real _ _)
/- foghorn/tempo.agreement$1 -/
noncomputable def R29 (q_share : (α : Type) → α → (α → Bool) → Bool) (q_genW : Option CV → (W → Bool) → Bool) (q_addW : Nat → Nat → Option CV → W → W → (W → Bool) → Bool) (q_cmpW : (Nat → Nat → Bool) → Nat → Option CV → W → W → (W → Bool) → Bool) (q_notW : Option CV → W → (W → Bool) → Bool) (q_negW : Nat → Nat → Bool → Option CV → W → (W → Bool) → Bool) (q_condW : W → Bool → Bool → Bool) (q_guardW : Bool → W → Bool → Bool → Bool) (q_pickW : W → W → W → (W → Bool) → Bool) (q_fadW : Nat → W → (W → Bool) → Bool) (q_idxSW : Nat → W → W → (W → Bool) → Bool) (q_lenW : Option CV → W → (W → Bool) → Bool) (q_detW : W → Bool → Bool) (q_loadSW : HW → W → (W → Bool) → Bool) (q_loadAW : Nat → HW → W → (W → Bool) → Bool) (q_storeAW : Nat → HW → W → W → (HW → Bool) → Bool) (q_allocW : Trie W → Nat → Bool → HW → Nat → KW → Bool) (q_samQW : W → W → Bool → Bool) (fu : Nat) (call : CallW) (a0 : W) (a1 : W) (a2 : W) (h0 : HW) (c0 : Nat) (K : KW) : Bool :=
q_negW 3 9223372036854775807 false (two Try.prog (dec a0) (Op.unary .neg)) a0 fun v1 =>
q_genW (two2 Try.prog (dec ⟨3, 0, r0, []⟩) (dec v1) fun v u => Builtin.max_ #[3, 3] 3 #[v, u]) fun v2 =>
@Nat.rec (fun _ => Fun 2) (fun _ _ _ _ => false) (fun _ f7 v3 v4 h5 c6 =>
q_loadSW h5 a1 fun v8 =>
q_lenW (lenC tys 30 (dec v8)) v8 fun v9 =>
q_cmpW (cmpF2 .lss) 3 (binC Try.prog .lss 3 (.tmp 12) (.tmp 14) (dec v4) (dec v9)) v4 v9 fun v10 =>
q_share _ (fun (v12 : W) (h13 : HW) (c14 : Nat) =>
q_share _ (fun (v16 : W) (h17 : HW) (c18 : Nat) =>
q_share _ (fun (v20 : W) (h21 : HW) (c22 : Nat) =>
q_share _ (fun (v24 : W) (h25 : HW) (c26 : Nat) =>
q_share _ (fun (v28 : W) (h29 : HW) (c30 : Nat) =>
q_share _ (fun (v32 : W) (h33 : HW) (c34 : Nat) =>
q_pickW v10 v32 ⟨8, 0, r0, []⟩ fun v35 =>
q_condW v35 (
q_share _ (fun (v36 : W) (h37 : HW) (c38 : Nat) =>
q_addW 3 9223372036854775807 (binC Try.prog .add 3 (.tmp 24) (.const (.int .i64 (.ofNat 1))) (dec v4) (dec ⟨3, 1, r0, []⟩)) v4 ⟨3, 1, r0, []⟩ fun v40 =>
f7 v36 v40 h37 c38) fun f39 =>
q_addW 3 9223372036854775807 (binC Try.prog .add 3 (.tmp 31) (.tmp 32) (dec v4) (dec a0)) v4 a0 fun v41 =>
q_detW v41 (
q_loadSW h33 a1 fun v42 =>
q_idxSW 2 v42 v4 fun v43 =>
q_detW v43 (
q_loadAW 2 h33 v43 fun v44 =>
q_loadSW h33 a2 fun v45 =>
q_idxSW 2 v45 v41 fun v46 =>
q_detW v46 (
q_loadAW 2 h33 v46 fun v47 =>
q_allocW (allocT tys 38) 2 true h33 c34 fun v48 h49 c50 =>
q_loadAW 2 h49 v46 fun v51 =>
q_samQW v51 v47 (
q_loadSW h49 a2 fun v52 =>
q_samQW v52 v45 (
q_loadAW 2 h49 v43 fun v53 =>
q_samQW v53 v44 (
q_loadSW h49 a1 fun v54 =>
q_samQW v54 v42 (
q_allocW (allocT tys 38) 2 true h33 c34 fun v55 h56 c57 =>
q_loadAW 2 h56 v46 fun v58 =>
q_samQW v58 v47 (
q_loadSW h56 a2 fun v59 =>
q_samQW v59 v45 (
q_loadAW 2 h56 v43 fun v60 =>
q_samQW v60 v44 (
q_loadSW h56 a1 fun v61 =>
q_samQW v61 v42 (
q_allocW (allocT tys 38) 2 true h56 c57 fun v62 h63 c64 =>
q_loadAW 2 h63 v46 fun v65 =>
q_samQW v65 v47 (
q_loadSW h63 a2 fun v66 =>
q_samQW v66 v45 (
q_loadAW 2 h63 v43 fun v67 =>
q_samQW v67 v44 (
q_loadSW h63 a1 fun v68 =>
q_samQW v68 v42 (
q_storeAW 2 h63 v55 v44 fun h69 =>
q_loadAW 2 h69 v46 fun v70 =>
q_samQW v70 v47 (
q_loadSW h69 a2 fun v71 =>
q_samQW v71 v45 (
q_storeAW 2 h69 v62 v47 fun h72 =>
q_fadW 1 v55 fun v73 =>
q_loadSW h72 v73 fun v74 =>
q_notW (two Try.prog (dec v74) (Op.unary .not)) v74 fun v75 =>
q_share _ (fun (v77 : W) (h78 : HW) (c79 : Nat) =>
q_share _ (fun (v81 : W) (h82 : HW) (c83 : Nat) =>
q_share _ (fun (v85 : W) (h86 : HW) (c87 : Nat) =>
q_pickW v75 v85 ⟨8, 0, r0, []⟩ fun v88 =>
q_share _ (fun (v90 : W) (h91 : HW) (c92 : Nat) =>
q_share _ (fun (v94 : W) (h95 : HW) (c96 : Nat) =>
q_share _ (fun (v98 : W) (h99 : HW) (c100 : Nat) =>
q_share _ (fun (v102 : W) (h103 : HW) (c104 : Nat) =>
q_share _ (fun (v106 : W) (h107 : HW) (c108 : Nat) =>
q_pickW v88 v106 ⟨8, 0, r0, []⟩ fun v109 =>
q_condW v109 (
q_addW 3 9223372036854775807 (binC Try.prog .add 3 (.tmp 51) (.const (.int .i64 (.ofNat 1))) (dec v3) (dec ⟨3, 1, r0, []⟩)) v3 ⟨3, 1, r0, []⟩ fun v110 =>
f39 v110 h107 c108) (
f39 v3 h107 c108)) fun f105 =>
q_guardW true v88 (q_genW (binC Try.prog .eql 35 (.tmp 46) (.tmp 48) (dec v94) (dec v102)) fun v111 =>
f105 v111 h103 c104) (f105 wUnd h103 c104)) fun f101 =>
q_guardW true v88 (q_loadSW h99 v98 fun v112 =>
f101 v112 h99 c100) (f101 wUnd h99 c100)) fun f97 =>
q_guardW true v88 (q_fadW 0 v62 fun v113 =>
f97 v113 h95 c96) (f97 wUnd h95 c96)) fun f93 =>
q_guardW true v88 (q_loadSW h91 v90 fun v114 =>
f93 v114 h91 c92) (f93 wUnd h91 c92)) fun f89 =>
q_guardW true v88 (q_fadW 0 v55 fun v115 =>
f89 v115 h86 c87) (f89 wUnd h86 c87)) fun f84 =>
q_guardW true v75 (q_notW (two Try.prog (dec v81) (Op.unary .not)) v81 fun v116 =>
f84 v116 h82 c83) (f84 wUnd h82 c83)) fun f80 =>
q_guardW true v75 (q_loadSW h78 v77 fun v117 =>
f80 v117 h78 c79) (f80 wUnd h78 c79)) fun f76 =>
q_guardW true v75 (q_fadW 1 v62 fun v118 =>
f76 v118 h72 c64) (f76 wUnd h72 c64))))))))))))))))))) (
K v3 h33 c34)) fun f31 =>
q_guardW true v10 (q_cmpW (cmpF2 .lss) 3 (binC Try.prog .lss 3 (.tmp 19) (.tmp 21) (dec v20) (dec v28)) v20 v28 fun v119 =>
f31 v119 h29 c30) (f31 wUnd h29 c30)) fun f27 =>
q_guardW true v10 (q_lenW (lenC tys 30 (dec v24)) v24 fun v120 =>
f27 v120 h25 c26) (f27 wUnd h25 c26)) fun f23 =>
q_guardW true v10 (q_loadSW h21 a2 fun v121 =>
f23 v121 h21 c22) (f23 wUnd h21 c22)) fun f19 =>
q_guardW true v10 (q_addW 3 9223372036854775807 (binC Try.prog .add 3 (.tmp 17) (.tmp 18) (dec v12) (dec v16)) v12 v16 fun v122 =>
f19 v122 h17 c18) (f19 wUnd h17 c18)) fun f15 =>
q_guardW true v10 (f15 a0 h13 c14) (f15 wUnd h13 c14)) fun f11 =>
q_guardW true v10 (f11 v4 h5 c6) (f11 wUnd h5 c6)) fu ⟨3, 0, r0, []⟩ v2 h0 c0
theorem R29_eq (Q : PrimW) (fu : Nat) (call : CallW) : curryA 3 (fnK Q Try.prog tys stl fu call e29) = R29 Q.share Q.genW Q.addW Q.cmpW Q.notW Q.negW Q.condW Q.guardW Q.pickW Q.fadW Q.idxSW Q.lenW Q.detW Q.loadSW Q.loadAW Q.storeAW Q.allocW Q.samQW fu call := by kernel_rfl
noncomputable def n29 (call : CallW) : List W → HW → Nat → KW → Bool := appF 3 (R29 (fun _ x f => f x) genW addW cmpW notW negW condW guardW pickW fadW idxSW lenW detW loadSW loadAW storeAW allocW samQW 1000000 call)
theorem n29_ok {call : CallW} (h : CallSim Try.prog tys stl tab call) : FnGood Try.prog tys stl tab 29 (n29 call) := node_ok h (by kernel_rfl) rfl g29 (R29_eq real _ _)
noncomputable def dS (call : CallW) : Disp := (.node 20 (n20 call) (.node 14 (n14 call) (.node 13 (n13 call) (.node 5 (n5 call) .leaf .leaf) .leaf) (.node 19 (n19 call) .leaf .leaf)) (.node 26 (n26 call) (.node 21 (n21 call) .leaf .leaf) (.node 29 (n29 call) .leaf .leaf)))
theorem dS_ok {call : CallW} (h : CallSim Try.prog tys stl tab call) : CallSim Try.prog tys stl tab (dS call).fn := Disp.sim (t := dS call) ⟨n20_ok h, ⟨n14_ok h, ⟨n13_ok h, ⟨n5_ok h, True.intro, True.intro⟩, True.intro⟩, ⟨n19_ok h, True.intro, True.intro⟩⟩, ⟨n26_ok h, ⟨n21_ok h, True.intro, True.intro⟩, ⟨n29_ok h, True.intro, True.intro⟩⟩⟩
noncomputable def dR (m : Nat) : Disp := @Nat.rec (fun _ => Disp) .leaf (fun _ ih => dS ih.fn) m
theorem dR_ok : ∀ m, CallSim Try.prog tys stl tab (dR m).fn
  | 0 => d0_ok
  | m + 1 => dS_ok (dR_ok m)
noncomputable abbrev dT : Disp := dR 200
theorem dT_ok : CallSim Try.prog tys stl tab dT.fn := dR_ok _
set_option maxHeartbeats 0 in
theorem run13 : lawK dT.fn 13 = true := by kernel_rfl
theorem awake_f : Fits Try.prog 13 ⟨[], [], [⟨Unit, fun _ => True, fun _ => .bool true, fun _ => []⟩]⟩ :=
  lawK_fits tok mixed fok dT_ok (by kernel_rfl : tab 13 = some e13) rfl run13
end Go.Proofs.Ythhbcgnpbfmonaa
