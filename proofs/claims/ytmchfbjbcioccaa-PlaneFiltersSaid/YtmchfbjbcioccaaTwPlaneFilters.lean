/-
  The functions that the run goes through, as tables, and the run of a function without arguments. No condition.
-/
import Derived.Test.YtmchfbjbcioccaaRows
import Derived.Test.YtmchfbjbcioccaaGx
set_option linter.unusedVariables false
set_option maxRecDepth 1000000
namespace Go.Proofs.Ytmchfbjbcioccaa
open Go Go.Fw
def tys : List (Nat × TyI) := [
  (1, ⟨.func, 1, 8, .nilFunc⟩),
  (2, ⟨.int .i64, 1, 8, .int .i64 0⟩),
  (3, ⟨.int .i64, 1, 8, .int .i64 0⟩),
  (4, ⟨.bool, 1, 1, .bool false⟩),
  (5, ⟨.int .u8, 1, 1, .int .u8 0⟩),
  (9, ⟨.str, 1, 16, .string (ByteArray.mk #[])⟩),
  (12, ⟨.int .u64, 1, 8, .int .u64 0⟩),
  (21, ⟨.int .i32, 1, 4, .int .i32 0⟩),
  (22, ⟨.slice 36, 1, 24, .slice none 0 0⟩),
  (23, ⟨.struct [(0, 22), (1, 22), (2, 22), (3, 22), (4, 3)], 5, 104, .agg #[.slice none 0 0, .slice none 0 0, .slice none 0 0, .slice none 0 0, .int .i64 0]⟩),
  (24, ⟨.struct [(0, 22), (1, 22), (2, 22), (3, 22), (4, 3)], 5, 104, .agg #[.slice none 0 0, .slice none 0 0, .slice none 0 0, .slice none 0 0, .int .i64 0]⟩),
  (25, ⟨.slice 29, 1, 24, .slice none 0 0⟩),
  (26, ⟨.func, 1, 8, .nilFunc⟩),
  (27, ⟨.float .f64, 1, 8, .float .f64 0⟩),
  (28, ⟨.func, 1, 8, .nilFunc⟩),
  (29, ⟨.cpx .f64, 1, 16, .complex .f64 0 0⟩),
  (30, ⟨.func, 1, 8, .nilFunc⟩),
  (31, ⟨.int .i64, 1, 8, .int .i64 0⟩),
  (33, ⟨.func, 1, 8, .nilFunc⟩),
  (34, ⟨.func, 1, 8, .nilFunc⟩),
  (35, ⟨.int .i8, 1, 1, .int .i8 0⟩),
  (36, ⟨.array 2 35, 2, 2, .agg #[.int .i8 0, .int .i8 0]⟩),
  (37, ⟨.int .u32, 1, 4, .int .u32 0⟩),
  (39, ⟨.struct [(0, 2), (1, 2)], 2, 16, .agg #[.int .i64 0, .int .i64 0]⟩),
  (40, ⟨.struct [(0, 2), (1, 2)], 2, 16, .agg #[.int .i64 0, .int .i64 0]⟩),
  (41, ⟨.func, 1, 8, .nilFunc⟩),
  (42, ⟨.func, 1, 8, .nilFunc⟩),
  (43, ⟨.func, 1, 8, .nilFunc⟩),
  (44, ⟨.func, 1, 8, .nilFunc⟩),
  (45, ⟨.func, 1, 8, .nilFunc⟩),
  (46, ⟨.func, 1, 8, .nilFunc⟩),
  (52, ⟨.func, 1, 8, .nilFunc⟩),
  (55, ⟨.func, 1, 8, .nilFunc⟩),
  (56, ⟨.ptr 5, 1, 8, .pointer none⟩),
  (61, ⟨.func, 1, 8, .nilFunc⟩)]


theorem tok : TOk Try.prog tys := tok_of ⟨⟨by kernel_rfl, by kernel_rfl⟩, ⟨by kernel_rfl, by kernel_rfl⟩, ⟨by kernel_rfl, by kernel_rfl⟩, ⟨by kernel_rfl, by kernel_rfl⟩, ⟨by kernel_rfl, by kernel_rfl⟩, ⟨by kernel_rfl, by kernel_rfl⟩, ⟨by kernel_rfl, by kernel_rfl⟩, ⟨by kernel_rfl, by kernel_rfl⟩, ⟨by kernel_rfl, by kernel_rfl⟩, ⟨by kernel_rfl, by kernel_rfl⟩, ⟨by kernel_rfl, by kernel_rfl⟩, ⟨by kernel_rfl, by kernel_rfl⟩, ⟨by kernel_rfl, by kernel_rfl⟩, ⟨by kernel_rfl, by kernel_rfl⟩, ⟨by kernel_rfl, by kernel_rfl⟩, ⟨by kernel_rfl, by kernel_rfl⟩, ⟨by kernel_rfl, by kernel_rfl⟩, ⟨by kernel_rfl, by kernel_rfl⟩, ⟨by kernel_rfl, by kernel_rfl⟩, ⟨by kernel_rfl, by kernel_rfl⟩, ⟨by kernel_rfl, by kernel_rfl⟩, ⟨by kernel_rfl, by kernel_rfl⟩, ⟨by kernel_rfl, by kernel_rfl⟩, ⟨by kernel_rfl, by kernel_rfl⟩, ⟨by kernel_rfl, by kernel_rfl⟩, ⟨by kernel_rfl, by kernel_rfl⟩, ⟨by kernel_rfl, by kernel_rfl⟩, ⟨by kernel_rfl, by kernel_rfl⟩, ⟨by kernel_rfl, by kernel_rfl⟩, ⟨by kernel_rfl, by kernel_rfl⟩, ⟨by kernel_rfl, by kernel_rfl⟩, ⟨by kernel_rfl, by kernel_rfl⟩, ⟨by kernel_rfl, by kernel_rfl⟩, ⟨by kernel_rfl, by kernel_rfl⟩, ⟨by kernel_rfl, by kernel_rfl⟩, True.intro⟩
theorem mixed : Try.prog.follows .mixedOrders = true := by kernel_rfl
def inL : List Nat → Nat → Bool
  | [], _ => false
  | a :: r, n => match Nat.beq a n with | true => true | false => inL r n
def stl : Nat → Bool := inL [6, 9, 12]
/- 5: foghorn/foghornlaw03.awake -/
def p5 : Nat → Option PlanC := fun _ => none
def wl5 : Nat → List Nat := fun _ => []
def wj5 : Nat → Option (List Nat) := fun _ => none
def kr5 : Nat → List Nat := fun _ => []
noncomputable def e5 : Ent := entOf Try.f5 ⟨p5, wl5, wj5, kr5, []⟩
theorem g5 : EntOk Try.prog tys stl 5 e5 := .inr ⟨rfl, Try.func5, by kernel_rfl, by kernel_rfl, by kernel_rfl, by kernel_rfl, by kernel_rfl, rfl⟩
/- 6: foghorn/plane.Turn -/
def p6 : Nat → Option PlanC := fun _ => none
def wl6 : Nat → List Nat := fun _ => []
def wj6 : Nat → Option (List Nat) := fun _ => none
def kr6 : Nat → List Nat := fun _ => []
noncomputable def e6 : Ent := entOf Try.f6 ⟨p6, wl6, wj6, kr6, []⟩
theorem g6 : EntOk Try.prog tys stl 6 e6 := .inr ⟨rfl, Try.func6, by kernel_rfl, by kernel_rfl, by kernel_rfl, by kernel_rfl, by kernel_rfl, rfl⟩
/- 8: (foghorn/plane.Gauss).Class -/
def p8 : Nat → Option PlanC := fun _ => none
def wl8 : Nat → List Nat := fun
  | 5 => [6, 18]
  | _ => []
def wj8 : Nat → Option (List Nat) := fun _ => none
def kr8 : Nat → List Nat := fun _ => []
noncomputable def e8 : Ent := entOf Try.f8 ⟨p8, wl8, wj8, kr8, [2]⟩
theorem g8 : EntOk Try.prog tys stl 8 e8 := .inr ⟨rfl, Try.func8, by kernel_rfl, by kernel_rfl, by kernel_rfl, by kernel_rfl, by kernel_rfl, rfl⟩
/- 9: foghorn/plane.Mul -/
def p9 : Nat → Option PlanC := fun _ => none
def wl9 : Nat → List Nat := fun _ => []
def wj9 : Nat → Option (List Nat) := fun _ => none
def kr9 : Nat → List Nat := fun _ => []
noncomputable def e9 : Ent := entOf Try.f9 ⟨p9, wl9, wj9, kr9, []⟩
theorem g9 : EntOk Try.prog tys stl 9 e9 := .inr ⟨rfl, Try.func9, by kernel_rfl, by kernel_rfl, by kernel_rfl, by kernel_rfl, by kernel_rfl, rfl⟩
/- 11: (foghorn/plane.Gauss).mayBe -/
def p11 : Nat → Option PlanC := fun _ => none
def wl11 : Nat → List Nat := fun _ => []
def wj11 : Nat → Option (List Nat) := fun _ => none
def kr11 : Nat → List Nat := fun _ => []
noncomputable def e11 : Ent := entOf Try.f11 ⟨p11, wl11, wj11, kr11, [1]⟩
theorem g11 : EntOk Try.prog tys stl 11 e11 := .inr ⟨rfl, Try.func11, by kernel_rfl, by kernel_rfl, by kernel_rfl, by kernel_rfl, by kernel_rfl, rfl⟩
/- 12: foghorn/plane.isDepth -/
def p12 : Nat → Option PlanC := fun _ => none
def wl12 : Nat → List Nat := fun _ => []
def wj12 : Nat → Option (List Nat) := fun _ => none
def kr12 : Nat → List Nat := fun _ => []
noncomputable def e12 : Ent := entOf Try.f12 ⟨p12, wl12, wj12, kr12, []⟩
theorem g12 : EntOk Try.prog tys stl 12 e12 := .inr ⟨rfl, Try.func12, by kernel_rfl, by kernel_rfl, by kernel_rfl, by kernel_rfl, by kernel_rfl, rfl⟩
/- 13: (foghorn/plane.Gauss).odd -/
def p13 : Nat → Option PlanC := fun _ => none
def wl13 : Nat → List Nat := fun _ => []
def wj13 : Nat → Option (List Nat) := fun _ => none
def kr13 : Nat → List Nat := fun _ => []
noncomputable def e13 : Ent := entOf Try.f13 ⟨p13, wl13, wj13, kr13, [1]⟩
theorem g13 : EntOk Try.prog tys stl 13 e13 := .inr ⟨rfl, Try.func13, by kernel_rfl, by kernel_rfl, by kernel_rfl, by kernel_rfl, by kernel_rfl, rfl⟩
/- 14: (foghorn/plane.Gauss).divided -/
def p14 : Nat → Option PlanC := fun _ => none
def wl14 : Nat → List Nat := fun _ => []
def wj14 : Nat → Option (List Nat) := fun _ => none
def kr14 : Nat → List Nat := fun _ => []
noncomputable def e14 : Ent := entOf Try.f14 ⟨p14, wl14, wj14, kr14, [1]⟩
theorem g14 : EntOk Try.prog tys stl 14 e14 := .inr ⟨rfl, Try.func14, by kernel_rfl, by kernel_rfl, by kernel_rfl, by kernel_rfl, by kernel_rfl, rfl⟩
noncomputable def ents : List (Nat × Ent) := [(5, e5), (6, e6), (8, e8), (9, e9), (11, e11), (12, e12), (13, e13), (14, e14)]
theorem goods : EntsOk Try.prog tys stl ents := ⟨g5, g6, g8, g9, g11, g12, g13, g14, True.intro⟩
noncomputable def tab : Nat → Option Ent := (tabOf ents).get
theorem fok : FOk Try.prog tys stl tab := fok_of goods
noncomputable def d0 : Disp := .leaf
theorem d0_ok : CallSim Try.prog tys stl tab d0.fn := Disp.sim True.intro
/- foghorn/foghornlaw03.awake -/
noncomputable def R5 (q_share : (α : Type) → α → (α → Bool) → Bool) (q_genW : Option CV → (W → Bool) → Bool) (q_cmpW : (Nat → Nat → Bool) → Nat → Option CV → W → W → (W → Bool) → Bool) (q_guardW : Bool → W → Bool → Bool → Bool) (q_pickW : W → W → W → (W → Bool) → Bool) (q_tupW : W → (List W → Bool) → Bool) (q_nthW : Nat → List W → (W → Bool) → Bool) (q_flatW : W → Bool → Bool) (fu : Nat) (call : CallW) (h0 : HW) (c0 : Nat) (K : KW) : Bool :=
q_flatW ⟨3, 3, r0, []⟩ (
q_flatW ⟨3, 2, r0, []⟩ (
(fun (v1 : W) =>
call 8 [v1, ⟨3, 3, r0, []⟩] h0 c0 fun v2 h3 c4 =>
q_tupW v2 fun l5 => q_nthW 0 l5 fun v6 =>
q_tupW v2 fun l7 => q_nthW 1 l7 fun v8 =>
call 9 [⟨12, 0, ⟨0, 0, 0, .cpx .f64 4607182418800017408 4611686018427387904⟩, []⟩, ⟨12, 0, ⟨0, 0, 0, .cpx .f64 4613937818241073152 13830554455654793216⟩, []⟩] h3 c4 fun v9 h10 c11 =>
q_genW (binC Try.prog .eql 29 (.tmp 8) (.const (.complex .f64 4617315517961601024 4617315517961601024)) (dec v9) (dec ⟨12, 0, ⟨0, 0, 0, .cpx .f64 4617315517961601024 4617315517961601024⟩, []⟩)) fun v12 =>
q_share _ (fun (v14 : W) (h15 : HW) (c16 : Nat) =>
q_share _ (fun (v18 : W) (h19 : HW) (c20 : Nat) =>
q_pickW v12 v18 ⟨8, 0, r0, []⟩ fun v21 =>
q_share _ (fun (v23 : W) (h24 : HW) (c25 : Nat) =>
q_share _ (fun (v27 : W) (h28 : HW) (c29 : Nat) =>
q_pickW v21 v27 ⟨8, 0, r0, []⟩ fun v30 =>
q_share _ (fun (v32 : W) (h33 : HW) (c34 : Nat) =>
q_share _ (fun (v36 : W) (h37 : HW) (c38 : Nat) =>
q_pickW v30 v36 ⟨8, 0, r0, []⟩ fun v39 =>
K v39 h37 c38) fun f35 =>
q_guardW true v30 (q_cmpW (cmpF2 .eql) 6 (binC Try.prog .eql 37 (.tmp 19) (.const (.int .u32 (.ofNat 1))) (dec v32) (dec ⟨6, 1, r0, []⟩)) v32 ⟨6, 1, r0, []⟩ fun v40 =>
f35 v40 h33 c34) (f35 wUnd h33 c34)) fun f31 =>
q_guardW true v30 (f31 v6 h28 c29) (f31 wUnd h28 c29)) fun f26 =>
q_guardW true v21 (q_cmpW (cmpF2 .eql) 3 (binC Try.prog .eql 31 (.tmp 15) (.const (.int .i64 (.ofNat 0))) (dec v23) (dec ⟨3, 0, r0, []⟩)) v23 ⟨3, 0, r0, []⟩ fun v41 =>
f26 v41 h24 c25) (f26 wUnd h24 c25)) fun f22 =>
q_guardW true v21 (f22 v8 h19 c20) (f22 wUnd h19 c20)) fun f17 =>
q_guardW true v12 (q_genW (binC Try.prog .eql 29 (.tmp 11) (.const (.complex .f64 13835058055282163712 4607182418800017408)) (dec v14) (dec ⟨12, 0, ⟨0, 0, 0, .cpx .f64 13835058055282163712 4607182418800017408⟩, []⟩)) fun v42 =>
f17 v42 h15 c16) (f17 wUnd h15 c16)) fun f13 =>
q_guardW true v12 (call 6 [⟨12, 0, ⟨0, 0, 0, .cpx .f64 4607182418800017408 4611686018427387904⟩, []⟩, ⟨3, 1, r0, []⟩] h10 c11 fun v43 h44 c45 =>
f13 v43 h44 c45) (f13 wUnd h10 c11)) ⟨15, 0, r0, [⟨3, 3, r0, []⟩, ⟨3, 2, r0, []⟩]⟩))
theorem R5_eq (Q : PrimW) (fu : Nat) (call : CallW) : curryA 0 (fnK Q Try.prog tys stl fu call e5) = R5 Q.share Q.genW Q.cmpW Q.guardW Q.pickW Q.tupW Q.nthW Q.flatW fu call := by kernel_rfl
noncomputable def n5 (call : CallW) : List W → HW → Nat → KW → Bool := appF 0 (R5 (fun _ x f => f x) genW cmpW guardW pickW tupW nthW flatW 1000000 call)
theorem n5_ok {call : CallW} (h : CallSim Try.prog tys stl tab call) : FnGood Try.prog tys stl tab 5 (n5 call) := node_ok h (by kernel_rfl) rfl g5 (R5_eq real _ _)
/- foghorn/plane.Turn -/
noncomputable def R6 (q_genW : Option CV → (W → Bool) → Bool) (q_bitW : (Nat → Nat → Nat) → Nat → Nat → Option CV → W → W → (W → Bool) → Bool) (q_cmpW : (Nat → Nat → Bool) → Nat → Option CV → W → W → (W → Bool) → Bool) (q_condW : W → Bool → Bool → Bool) (fu : Nat) (call : CallW) (a0 : W) (a1 : W) (h0 : HW) (c0 : Nat) (K : KW) : Bool :=
q_genW (two Try.prog (dec a0) fun v => Builtin.real_ #[29] 27 #[v]) fun v1 =>
q_genW (two Try.prog (dec a0) fun v => Builtin.imag_ #[29] 27 #[v]) fun v2 =>
q_bitW Nat.land 3 9223372036854775807 (binC Try.prog .and 3 (.tmp 11) (.const (.int .i64 (.ofNat 3))) (dec a1) (dec ⟨3, 3, r0, []⟩)) a1 ⟨3, 3, r0, []⟩ fun v3 =>
q_cmpW (cmpF2 .eql) 3 (binC Try.prog .eql 3 (.tmp 12) (.const (.int .i64 (.ofNat 1))) (dec v3) (dec ⟨3, 1, r0, []⟩)) v3 ⟨3, 1, r0, []⟩ fun v4 =>
q_condW v4 (
q_genW (two Try.prog (dec v2) (Op.unary .neg)) fun v5 =>
q_genW (two2 Try.prog (dec v5) (dec v1) fun v u => Builtin.complex_ #[27, 27] 29 #[v, u]) fun v6 =>
K v6 h0 c0) (
q_cmpW (cmpF2 .eql) 3 (binC Try.prog .eql 3 (.tmp 12) (.const (.int .i64 (.ofNat 2))) (dec v3) (dec ⟨3, 2, r0, []⟩)) v3 ⟨3, 2, r0, []⟩ fun v7 =>
q_condW v7 (
q_genW (two Try.prog (dec v1) (Op.unary .neg)) fun v8 =>
q_genW (two Try.prog (dec v2) (Op.unary .neg)) fun v9 =>
q_genW (two2 Try.prog (dec v8) (dec v9) fun v u => Builtin.complex_ #[27, 27] 29 #[v, u]) fun v10 =>
K v10 h0 c0) (
q_cmpW (cmpF2 .eql) 3 (binC Try.prog .eql 3 (.tmp 12) (.const (.int .i64 (.ofNat 3))) (dec v3) (dec ⟨3, 3, r0, []⟩)) v3 ⟨3, 3, r0, []⟩ fun v11 =>
q_condW v11 (
q_genW (two Try.prog (dec v1) (Op.unary .neg)) fun v12 =>
q_genW (two2 Try.prog (dec v2) (dec v12) fun v u => Builtin.complex_ #[27, 27] 29 #[v, u]) fun v13 =>
K v13 h0 c0) (
K a0 h0 c0)))
theorem R6_eq (Q : PrimW) (fu : Nat) (call : CallW) : curryA 2 (fnK Q Try.prog tys stl fu call e6) = R6 Q.genW Q.bitW Q.cmpW Q.condW fu call := by kernel_rfl
noncomputable def n6 (call : CallW) : List W → HW → Nat → KW → Bool := appF 2 (R6 genW bitW cmpW condW 1000000 call)
theorem n6_ok {call : CallW} (h : CallSim Try.prog tys stl tab call) : FnGood Try.prog tys stl tab 6 (n6 call) := node_ok h (by kernel_rfl) rfl g6 (R6_eq real _ _)
/- (foghorn/plane.Gauss).Class -/
noncomputable def R8 (q_share : (α : Type) → α → (α → Bool) → Bool) (q_addW : Nat → Nat → Option CV → W → W → (W → Bool) → Bool) (q_subW : Nat → Nat → Option CV → W → W → (W → Bool) → Bool) (q_bitW : (Nat → Nat → Nat) → Nat → Nat → Option CV → W → W → (W → Bool) → Bool) (q_cmpW : (Nat → Nat → Bool) → Nat → Option CV → W → W → (W → Bool) → Bool) (q_shlW : Nat → Nat → Nat → Option CV → W → W → (W → Bool) → Bool) (q_notW : Option CV → W → (W → Bool) → Bool) (q_icvW : Nat → Nat → Option CV → W → (W → Bool) → Bool) (q_condW : W → Bool → Bool → Bool) (q_guardW : Bool → W → Bool → Bool → Bool) (q_pickW : W → W → W → (W → Bool) → Bool) (q_fadW : Nat → W → (W → Bool) → Bool) (q_killVW : W → HW → (HW → Bool) → Bool) (q_loadSW : HW → W → (W → Bool) → Bool) (q_loadAW : Nat → HW → W → (W → Bool) → Bool) (q_storeSW : HW → W → W → (HW → Bool) → Bool) (q_storeAW : Nat → HW → W → W → (HW → Bool) → Bool) (q_boxW : HW → Nat → W → KW → Bool) (fu : Nat) (call : CallW) (a0 : W) (a1 : W) (h0 : HW) (c0 : Nat) (K : KW) : Bool :=
q_boxW h0 c0 a0 fun v1 h2 c3 =>
q_loadAW 2 h2 v1 fun v4 =>
call 11 [v4] h2 c3 fun v5 h6 c7 =>
q_notW (two Try.prog (dec v5) (Op.unary .not)) v5 fun v8 =>
q_share _ (fun (v10 : W) (h11 : HW) (c12 : Nat) =>
q_share _ (fun (v14 : W) (h15 : HW) (c16 : Nat) =>
q_share _ (fun (v18 : W) (h19 : HW) (c20 : Nat) =>
q_pickW v8 ⟨8, 1, r0, []⟩ v18 fun v21 =>
q_condW v21 (
q_killVW v1 h19 fun h22 =>
K ⟨13, 0, r0, [⟨6, 0, r0, []⟩, ⟨3, 1, r0, []⟩]⟩ h22 c20) (
@Nat.rec (fun _ => Fun 2) (fun _ _ _ _ => false) (fun _ f27 v23 v24 h25 c26 =>
q_cmpW (cmpF2 .lss) 3 (binC Try.prog .lss 3 (.tmp 18) (.tmp 17) (dec v24) (dec a1)) v24 a1 fun v28 =>
q_condW v28 (
q_loadAW 2 h25 v1 fun v29 =>
call 13 [v29] h25 c26 fun v30 h31 c32 =>
q_icvW 6 4294967295 (convC Try.prog tys ⟨[], 0, decH h31, 0⟩ 2 37 (dec v30)) v30 fun v33 =>
q_shlW 6 4294967295 32 (binC Try.prog .shl 37 (.tmp 25) (.tmp 26) (dec v33) (dec v24)) v33 v24 fun v34 =>
q_bitW Nat.lor 6 4294967295 (binC Try.prog .or 37 (.tmp 23) (.tmp 27) (dec v23) (dec v34)) v23 v34 fun v35 =>
q_fadW 0 v1 fun v36 =>
q_loadSW h31 v36 fun v37 =>
q_subW 3 9223372036854775807 (binC Try.prog .sub 2 (.tmp 30) (.tmp 31) (dec v37) (dec v30)) v37 v30 fun v38 =>
q_fadW 0 v1 fun v39 =>
q_storeSW h31 v39 v38 fun h40 =>
q_loadAW 2 h40 v1 fun v41 =>
call 14 [v41] h40 c32 fun v42 h43 c44 =>
q_storeAW 2 h43 v1 v42 fun h45 =>
q_addW 3 9223372036854775807 (binC Try.prog .add 3 (.tmp 18) (.const (.int .i64 (.ofNat 1))) (dec v24) (dec ⟨3, 1, r0, []⟩)) v24 ⟨3, 1, r0, []⟩ fun v46 =>
f27 v35 v46 h45 c44) (
q_killVW v1 h25 fun h47 =>
K ⟨13, 0, r0, [v23, ⟨3, 0, r0, []⟩]⟩ h47 c26)) fu ⟨6, 0, r0, []⟩ ⟨3, 0, r0, []⟩ h19 c20)) fun f17 =>
q_guardW false v8 (q_notW (two Try.prog (dec v14) (Op.unary .not)) v14 fun v48 =>
f17 v48 h15 c16) (f17 wUnd h15 c16)) fun f13 =>
q_guardW false v8 (call 12 [v10] h11 c12 fun v49 h50 c51 =>
f13 v49 h50 c51) (f13 wUnd h11 c12)) fun f9 =>
q_guardW false v8 (f9 a1 h6 c7) (f9 wUnd h6 c7)
theorem R8_eq (Q : PrimW) (fu : Nat) (call : CallW) : curryA 2 (fnK Q Try.prog tys stl fu call e8) = R8 Q.share Q.addW Q.subW Q.bitW Q.cmpW Q.shlW Q.notW Q.icvW Q.condW Q.guardW Q.pickW Q.fadW Q.killVW Q.loadSW Q.loadAW Q.storeSW Q.storeAW Q.boxW fu call := by kernel_rfl
noncomputable def n8 (call : CallW) : List W → HW → Nat → KW → Bool := appF 2 (R8 (fun _ x f => f x) addW subW bitW cmpW shlW notW icvW condW guardW pickW fadW killVW loadSW loadAW storeSW storeAW boxW 1000000 call)
theorem n8_ok {call : CallW} (h : CallSim Try.prog tys stl tab call) : FnGood Try.prog tys stl tab 8 (n8 call) := node_ok h (by kernel_rfl) rfl g8 (R8_eq real _ _)
/- foghorn/plane.Mul -/
noncomputable def R9 (q_genW : Option CV → (W → Bool) → Bool) (fu : Nat) (call : CallW) (a0 : W) (a1 : W) (h0 : HW) (c0 : Nat) (K : KW) : Bool :=
q_genW (two Try.prog (dec a0) fun v => Builtin.real_ #[29] 27 #[v]) fun v1 =>
q_genW (two Try.prog (dec a1) fun v => Builtin.real_ #[29] 27 #[v]) fun v2 =>
q_genW (binC Try.prog .mul 27 (.tmp 10) (.tmp 12) (dec v1) (dec v2)) fun v3 =>
q_genW (two Try.prog (dec a0) fun v => Builtin.imag_ #[29] 27 #[v]) fun v4 =>
q_genW (two Try.prog (dec a1) fun v => Builtin.imag_ #[29] 27 #[v]) fun v5 =>
q_genW (binC Try.prog .mul 27 (.tmp 15) (.tmp 17) (dec v4) (dec v5)) fun v6 =>
q_genW (two Try.prog (dec a0) fun v => Builtin.real_ #[29] 27 #[v]) fun v7 =>
q_genW (two Try.prog (dec a1) fun v => Builtin.imag_ #[29] 27 #[v]) fun v8 =>
q_genW (binC Try.prog .mul 27 (.tmp 20) (.tmp 22) (dec v7) (dec v8)) fun v9 =>
q_genW (two Try.prog (dec a0) fun v => Builtin.imag_ #[29] 27 #[v]) fun v10 =>
q_genW (two Try.prog (dec a1) fun v => Builtin.real_ #[29] 27 #[v]) fun v11 =>
q_genW (binC Try.prog .mul 27 (.tmp 25) (.tmp 27) (dec v10) (dec v11)) fun v12 =>
q_genW (binC Try.prog .sub 27 (.tmp 29) (.tmp 30) (dec v3) (dec v6)) fun v13 =>
q_genW (binC Try.prog .add 27 (.tmp 32) (.tmp 33) (dec v9) (dec v12)) fun v14 =>
q_genW (two2 Try.prog (dec v13) (dec v14) fun v u => Builtin.complex_ #[27, 27] 29 #[v, u]) fun v15 =>
K v15 h0 c0
theorem R9_eq (Q : PrimW) (fu : Nat) (call : CallW) : curryA 2 (fnK Q Try.prog tys stl fu call e9) = R9 Q.genW fu call := by kernel_rfl
noncomputable def n9 (call : CallW) : List W → HW → Nat → KW → Bool := appF 2 (R9 genW 1000000 call)
theorem n9_ok {call : CallW} (h : CallSim Try.prog tys stl tab call) : FnGood Try.prog tys stl tab 9 (n9 call) := node_ok h (by kernel_rfl) rfl g9 (R9_eq real _ _)
/- (foghorn/plane.Gauss).mayBe -/
noncomputable def R11 (q_share : (α : Type) → α → (α → Bool) → Bool) (q_cmpW : (Nat → Nat → Bool) → Nat → Option CV → W → W → (W → Bool) → Bool) (q_guardW : Bool → W → Bool → Bool → Bool) (q_pickW : W → W → W → (W → Bool) → Bool) (q_fadW : Nat → W → (W → Bool) → Bool) (q_killVW : W → HW → (HW → Bool) → Bool) (q_loadSW : HW → W → (W → Bool) → Bool) (q_boxW : HW → Nat → W → KW → Bool) (fu : Nat) (call : CallW) (a0 : W) (h0 : HW) (c0 : Nat) (K : KW) : Bool :=
q_boxW h0 c0 a0 fun v1 h2 c3 =>
q_fadW 0 v1 fun v4 =>
q_loadSW h2 v4 fun v5 =>
q_cmpW (cmpF2 .geq) 3 (binC Try.prog .geq 2 (.tmp 4) (.const (.int .i64 (.negSucc 1073741823))) (dec v5) (dec ⟨12, 0, ⟨0, 0, 0, .int .i64 (.negSucc 1073741823)⟩, []⟩)) v5 ⟨12, 0, ⟨0, 0, 0, .int .i64 (.negSucc 1073741823)⟩, []⟩ fun v6 =>
q_share _ (fun (v8 : W) (h9 : HW) (c10 : Nat) =>
q_share _ (fun (v12 : W) (h13 : HW) (c14 : Nat) =>
q_share _ (fun (v16 : W) (h17 : HW) (c18 : Nat) =>
q_pickW v6 v16 ⟨8, 0, r0, []⟩ fun v19 =>
q_share _ (fun (v21 : W) (h22 : HW) (c23 : Nat) =>
q_share _ (fun (v25 : W) (h26 : HW) (c27 : Nat) =>
q_share _ (fun (v29 : W) (h30 : HW) (c31 : Nat) =>
q_pickW v19 v29 ⟨8, 0, r0, []⟩ fun v32 =>
q_share _ (fun (v34 : W) (h35 : HW) (c36 : Nat) =>
q_share _ (fun (v38 : W) (h39 : HW) (c40 : Nat) =>
q_share _ (fun (v42 : W) (h43 : HW) (c44 : Nat) =>
q_pickW v32 v42 ⟨8, 0, r0, []⟩ fun v45 =>
q_killVW v1 h43 fun h46 =>
K v45 h46 c44) fun f41 =>
q_guardW true v32 (q_cmpW (cmpF2 .leq) 3 (binC Try.prog .leq 2 (.tmp 18) (.const (.int .i64 (.ofNat 1073741824))) (dec v38) (dec ⟨3, 1073741824, r0, []⟩)) v38 ⟨3, 1073741824, r0, []⟩ fun v47 =>
f41 v47 h39 c40) (f41 wUnd h39 c40)) fun f37 =>
q_guardW true v32 (q_loadSW h35 v34 fun v48 =>
f37 v48 h35 c36) (f37 wUnd h35 c36)) fun f33 =>
q_guardW true v32 (q_fadW 1 v1 fun v49 =>
f33 v49 h30 c31) (f33 wUnd h30 c31)) fun f28 =>
q_guardW true v19 (q_cmpW (cmpF2 .geq) 3 (binC Try.prog .geq 2 (.tmp 13) (.const (.int .i64 (.negSucc 1073741823))) (dec v25) (dec ⟨12, 0, ⟨0, 0, 0, .int .i64 (.negSucc 1073741823)⟩, []⟩)) v25 ⟨12, 0, ⟨0, 0, 0, .int .i64 (.negSucc 1073741823)⟩, []⟩ fun v50 =>
f28 v50 h26 c27) (f28 wUnd h26 c27)) fun f24 =>
q_guardW true v19 (q_loadSW h22 v21 fun v51 =>
f24 v51 h22 c23) (f24 wUnd h22 c23)) fun f20 =>
q_guardW true v19 (q_fadW 1 v1 fun v52 =>
f20 v52 h17 c18) (f20 wUnd h17 c18)) fun f15 =>
q_guardW true v6 (q_cmpW (cmpF2 .leq) 3 (binC Try.prog .leq 2 (.tmp 8) (.const (.int .i64 (.ofNat 1073741824))) (dec v12) (dec ⟨3, 1073741824, r0, []⟩)) v12 ⟨3, 1073741824, r0, []⟩ fun v53 =>
f15 v53 h13 c14) (f15 wUnd h13 c14)) fun f11 =>
q_guardW true v6 (q_loadSW h9 v8 fun v54 =>
f11 v54 h9 c10) (f11 wUnd h9 c10)) fun f7 =>
q_guardW true v6 (q_fadW 0 v1 fun v55 =>
f7 v55 h2 c3) (f7 wUnd h2 c3)
theorem R11_eq (Q : PrimW) (fu : Nat) (call : CallW) : curryA 1 (fnK Q Try.prog tys stl fu call e11) = R11 Q.share Q.cmpW Q.guardW Q.pickW Q.fadW Q.killVW Q.loadSW Q.boxW fu call := by kernel_rfl
noncomputable def n11 (call : CallW) : List W → HW → Nat → KW → Bool := appF 1 (R11 (fun _ x f => f x) cmpW guardW pickW fadW killVW loadSW boxW 1000000 call)
theorem n11_ok {call : CallW} (h : CallSim Try.prog tys stl tab call) : FnGood Try.prog tys stl tab 11 (n11 call) := node_ok h (by kernel_rfl) rfl g11 (R11_eq real _ _)
/- foghorn/plane.isDepth -/
noncomputable def R12 (q_share : (α : Type) → α → (α → Bool) → Bool) (q_cmpW : (Nat → Nat → Bool) → Nat → Option CV → W → W → (W → Bool) → Bool) (q_guardW : Bool → W → Bool → Bool → Bool) (q_pickW : W → W → W → (W → Bool) → Bool) (fu : Nat) (call : CallW) (a0 : W) (h0 : HW) (c0 : Nat) (K : KW) : Bool :=
q_cmpW (cmpF2 .geq) 3 (binC Try.prog .geq 3 (.tmp 3) (.const (.int .i64 (.ofNat 0))) (dec a0) (dec ⟨3, 0, r0, []⟩)) a0 ⟨3, 0, r0, []⟩ fun v1 =>
q_share _ (fun (v3 : W) (h4 : HW) (c5 : Nat) =>
q_share _ (fun (v7 : W) (h8 : HW) (c9 : Nat) =>
q_pickW v1 v7 ⟨8, 0, r0, []⟩ fun v10 =>
K v10 h8 c9) fun f6 =>
q_guardW true v1 (q_cmpW (cmpF2 .leq) 3 (binC Try.prog .leq 3 (.tmp 6) (.const (.int .i64 (.ofNat 30))) (dec v3) (dec ⟨3, 30, r0, []⟩)) v3 ⟨3, 30, r0, []⟩ fun v11 =>
f6 v11 h4 c5) (f6 wUnd h4 c5)) fun f2 =>
q_guardW true v1 (f2 a0 h0 c0) (f2 wUnd h0 c0)
theorem R12_eq (Q : PrimW) (fu : Nat) (call : CallW) : curryA 1 (fnK Q Try.prog tys stl fu call e12) = R12 Q.share Q.cmpW Q.guardW Q.pickW fu call := by kernel_rfl
noncomputable def n12 (call : CallW) : List W → HW → Nat → KW → Bool := appF 1 (R12 (fun _ x f => f x) cmpW guardW pickW 1000000 call)
theorem n12_ok {call : CallW} (h : CallSim Try.prog tys stl tab call) : FnGood Try.prog tys stl tab 12 (n12 call) := node_ok h (by kernel_rfl) rfl g12 (R12_eq real _ _)
/- (foghorn/plane.Gauss).odd -/
noncomputable def R13 (q_addW : Nat → Nat → Option CV → W → W → (W → Bool) → Bool) (q_bitW : (Nat → Nat → Nat) → Nat → Nat → Option CV → W → W → (W → Bool) → Bool) (q_fadW : Nat → W → (W → Bool) → Bool) (q_killVW : W → HW → (HW → Bool) → Bool) (q_loadSW : HW → W → (W → Bool) → Bool) (q_boxW : HW → Nat → W → KW → Bool) (fu : Nat) (call : CallW) (a0 : W) (h0 : HW) (c0 : Nat) (K : KW) : Bool :=
q_boxW h0 c0 a0 fun v1 h2 c3 =>
q_fadW 0 v1 fun v4 =>
q_loadSW h2 v4 fun v5 =>
q_fadW 1 v1 fun v6 =>
q_loadSW h2 v6 fun v7 =>
q_addW 3 9223372036854775807 (binC Try.prog .add 2 (.tmp 4) (.tmp 6) (dec v5) (dec v7)) v5 v7 fun v8 =>
q_bitW Nat.land 3 9223372036854775807 (binC Try.prog .and 2 (.tmp 7) (.const (.int .i64 (.ofNat 1))) (dec v8) (dec ⟨3, 1, r0, []⟩)) v8 ⟨3, 1, r0, []⟩ fun v9 =>
q_killVW v1 h2 fun h10 =>
K v9 h10 c3
theorem R13_eq (Q : PrimW) (fu : Nat) (call : CallW) : curryA 1 (fnK Q Try.prog tys stl fu call e13) = R13 Q.addW Q.bitW Q.fadW Q.killVW Q.loadSW Q.boxW fu call := by kernel_rfl
noncomputable def n13 (call : CallW) : List W → HW → Nat → KW → Bool := appF 1 (R13 addW bitW fadW killVW loadSW boxW 1000000 call)
theorem n13_ok {call : CallW} (h : CallSim Try.prog tys stl tab call) : FnGood Try.prog tys stl tab 13 (n13 call) := node_ok h (by kernel_rfl) rfl g13 (R13_eq real _ _)
/- (foghorn/plane.Gauss).divided -/
noncomputable def R14 (q_addW : Nat → Nat → Option CV → W → W → (W → Bool) → Bool) (q_subW : Nat → Nat → Option CV → W → W → (W → Bool) → Bool) (q_quoW : Nat → Nat → Option CV → W → W → (W → Bool) → Bool) (q_fadW : Nat → W → (W → Bool) → Bool) (q_killVW : W → HW → (HW → Bool) → Bool) (q_loadSW : HW → W → (W → Bool) → Bool) (q_loadAW : Nat → HW → W → (W → Bool) → Bool) (q_storeAW : Nat → HW → W → W → (HW → Bool) → Bool) (q_allocW : Trie W → Nat → Bool → HW → Nat → KW → Bool) (q_boxW : HW → Nat → W → KW → Bool) (q_flatW : W → Bool → Bool) (fu : Nat) (call : CallW) (a0 : W) (h0 : HW) (c0 : Nat) (K : KW) : Bool :=
q_boxW h0 c0 a0 fun v1 h2 c3 =>
q_allocW (allocT tys 40) 2 true h2 c3 fun v4 h5 c6 =>
q_fadW 0 v1 fun v7 =>
q_loadSW h5 v7 fun v8 =>
q_fadW 1 v1 fun v9 =>
q_loadSW h5 v9 fun v10 =>
q_addW 3 9223372036854775807 (binC Try.prog .add 2 (.tmp 4) (.tmp 6) (dec v8) (dec v10)) v8 v10 fun v11 =>
q_quoW 3 9223372036854775807 (binC Try.prog .quo 2 (.tmp 7) (.const (.int .i64 (.ofNat 2))) (dec v11) (dec ⟨3, 2, r0, []⟩)) v11 ⟨3, 2, r0, []⟩ fun v12 =>
q_fadW 1 v1 fun v13 =>
q_loadSW h5 v13 fun v14 =>
q_fadW 0 v1 fun v15 =>
q_loadSW h5 v15 fun v16 =>
q_subW 3 9223372036854775807 (binC Try.prog .sub 2 (.tmp 10) (.tmp 12) (dec v14) (dec v16)) v14 v16 fun v17 =>
q_quoW 3 9223372036854775807 (binC Try.prog .quo 2 (.tmp 13) (.const (.int .i64 (.ofNat 2))) (dec v17) (dec ⟨3, 2, r0, []⟩)) v17 ⟨3, 2, r0, []⟩ fun v18 =>
q_flatW v12 (
q_flatW v18 (
(fun (v19 : W) =>
q_storeAW 2 h5 v4 v19 fun h20 =>
q_loadAW 2 h20 v4 fun v21 =>
q_killVW v1 h20 fun h22 =>
K v21 h22 c6) ⟨15, 0, r0, [v12, v18]⟩))
theorem R14_eq (Q : PrimW) (fu : Nat) (call : CallW) : curryA 1 (fnK Q Try.prog tys stl fu call e14) = R14 Q.addW Q.subW Q.quoW Q.fadW Q.killVW Q.loadSW Q.loadAW Q.storeAW Q.allocW Q.boxW Q.flatW fu call := by kernel_rfl
noncomputable def n14 (call : CallW) : List W → HW → Nat → KW → Bool := appF 1 (R14 addW subW quoW fadW killVW loadSW loadAW storeAW allocW boxW flatW 1000000 call)
theorem n14_ok {call : CallW} (h : CallSim Try.prog tys stl tab call) : FnGood Try.prog tys stl tab 14 (n14 call) := node_ok h (by kernel_rfl) rfl g14 (R14_eq real _ _)
noncomputable def dS (call : CallW) : Disp := (.node 11 (n11 call) (.node 8 (n8 call) (.node 6 (n6 call) (.node 5 (n5 call) .leaf .leaf) .leaf) (.node 9 (n9 call) .leaf .leaf)) (.node 13 (n13 call) (.node 12 (n12 call) .leaf .leaf) (.node 14 (n14 call) .leaf .leaf)))
theorem dS_ok {call : CallW} (h : CallSim Try.prog tys stl tab call) : CallSim Try.prog tys stl tab (dS call).fn := Disp.sim (t := dS call) ⟨n11_ok h, ⟨n8_ok h, ⟨n6_ok h, ⟨n5_ok h, True.intro, True.intro⟩, True.intro⟩, ⟨n9_ok h, True.intro, True.intro⟩⟩, ⟨n13_ok h, ⟨n12_ok h, True.intro, True.intro⟩, ⟨n14_ok h, True.intro, True.intro⟩⟩⟩
noncomputable def dR (m : Nat) : Disp := @Nat.rec (fun _ => Disp) .leaf (fun _ ih => dS ih.fn) m
theorem dR_ok : ∀ m, CallSim Try.prog tys stl tab (dR m).fn
  | 0 => d0_ok
  | m + 1 => dS_ok (dR_ok m)
noncomputable abbrev dT : Disp := dR 200
theorem dT_ok : CallSim Try.prog tys stl tab dT.fn := dR_ok _
set_option maxHeartbeats 0 in
theorem run5 : lawK dT.fn 5 = true := by kernel_rfl
theorem awake_f : Fits Try.prog 5 ⟨[], [], [⟨Unit, fun _ => True, fun _ => .bool true, fun _ => []⟩]⟩ :=
  lawK_fits tok mixed fok dT_ok (by kernel_rfl : tab 5 = some e5) rfl run5
end Go.Proofs.Ytmchfbjbcioccaa
