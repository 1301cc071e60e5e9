/-
  foghornlaw02.GridNames returns true, whatever the memory it begins in. No condition.
-/
import Derived.Test.YtkemnbnkoiilbaaRows
import Derived.Test.YtkemnbnkoiilbaaGx
import Derived.WalkKit
import Derived.ProofKit
import Derived.OpenShut
set_option linter.unusedVariables false
set_option maxRecDepth 1000000
namespace Go.Proofs.Ytkemnbnkoiilbaa
open Go Go.Fw
def tys : List (Nat × TyI) := [
  (1, ⟨.func, 1, 8, .nilFunc⟩),
  (2, ⟨.int .i64, 1, 8, .int .i64 0⟩),
  (3, ⟨.int .i64, 1, 8, .int .i64 0⟩),
  (4, ⟨.bool, 1, 1, .bool false⟩),
  (5, ⟨.int .u8, 1, 1, .int .u8 0⟩),
  (9, ⟨.str, 1, 16, .string (ByteArray.mk #[])⟩),
  (12, ⟨.int .u64, 1, 8, .int .u64 0⟩),
  (21, ⟨.int .i32, 1, 4, .int .i32 0⟩),
  (22, ⟨.int .u64, 1, 8, .int .u64 0⟩),
  (23, ⟨.float .f64, 1, 8, .float .f64 0⟩),
  (24, ⟨.func, 1, 8, .nilFunc⟩),
  (26, ⟨.func, 1, 8, .nilFunc⟩),
  (27, ⟨.int .i64, 1, 8, .int .i64 0⟩),
  (29, ⟨.func, 1, 8, .nilFunc⟩),
  (30, ⟨.func, 1, 8, .nilFunc⟩),
  (32, ⟨.func, 1, 8, .nilFunc⟩),
  (33, ⟨.func, 1, 8, .nilFunc⟩),
  (34, ⟨.func, 1, 8, .nilFunc⟩),
  (35, ⟨.func, 1, 8, .nilFunc⟩),
  (36, ⟨.slice 22, 1, 24, .slice none 0 0⟩),
  (37, ⟨.slice 39, 1, 24, .slice none 0 0⟩),
  (38, ⟨.func, 1, 8, .nilFunc⟩),
  (39, ⟨.cpx .f64, 1, 16, .complex .f64 0 0⟩),
  (40, ⟨.slice 45, 1, 24, .slice none 0 0⟩),
  (42, ⟨.func, 1, 8, .nilFunc⟩),
  (43, ⟨.func, 1, 8, .nilFunc⟩),
  (44, ⟨.struct [(0, 39), (1, 4)], 2, 24, .agg #[.complex .f64 0 0, .bool false]⟩),
  (45, ⟨.struct [(0, 39), (1, 4)], 2, 24, .agg #[.complex .f64 0 0, .bool false]⟩),
  (47, ⟨.func, 1, 8, .nilFunc⟩),
  (48, ⟨.func, 1, 8, .nilFunc⟩),
  (49, ⟨.slice 4, 1, 24, .slice none 0 0⟩),
  (50, ⟨.func, 1, 8, .nilFunc⟩),
  (51, ⟨.func, 1, 8, .nilFunc⟩),
  (52, ⟨.func, 1, 8, .nilFunc⟩),
  (53, ⟨.func, 1, 8, .nilFunc⟩),
  (54, ⟨.func, 1, 8, .nilFunc⟩),
  (55, ⟨.func, 1, 8, .nilFunc⟩),
  (56, ⟨.func, 1, 8, .nilFunc⟩),
  (57, ⟨.int .u64, 1, 8, .int .u64 0⟩),
  (58, ⟨.func, 1, 8, .nilFunc⟩),
  (64, ⟨.func, 1, 8, .nilFunc⟩),
  (65, ⟨.int .u32, 1, 4, .int .u32 0⟩),
  (68, ⟨.func, 1, 8, .nilFunc⟩),
  (69, ⟨.ptr 5, 1, 8, .pointer none⟩)]


theorem tok : TOk Try.prog tys := tok_of ⟨⟨by kernel_rfl, by kernel_rfl⟩, ⟨by kernel_rfl, by kernel_rfl⟩, ⟨by kernel_rfl, by kernel_rfl⟩, ⟨by kernel_rfl, by kernel_rfl⟩, ⟨by kernel_rfl, by kernel_rfl⟩, ⟨by kernel_rfl, by kernel_rfl⟩, ⟨by kernel_rfl, by kernel_rfl⟩, ⟨by kernel_rfl, by kernel_rfl⟩, ⟨by kernel_rfl, by kernel_rfl⟩, ⟨by kernel_rfl, by kernel_rfl⟩, ⟨by kernel_rfl, by kernel_rfl⟩, ⟨by kernel_rfl, by kernel_rfl⟩, ⟨by kernel_rfl, by kernel_rfl⟩, ⟨by kernel_rfl, by kernel_rfl⟩, ⟨by kernel_rfl, by kernel_rfl⟩, ⟨by kernel_rfl, by kernel_rfl⟩, ⟨by kernel_rfl, by kernel_rfl⟩, ⟨by kernel_rfl, by kernel_rfl⟩, ⟨by kernel_rfl, by kernel_rfl⟩, ⟨by kernel_rfl, by kernel_rfl⟩, ⟨by kernel_rfl, by kernel_rfl⟩, ⟨by kernel_rfl, by kernel_rfl⟩, ⟨by kernel_rfl, by kernel_rfl⟩, ⟨by kernel_rfl, by kernel_rfl⟩, ⟨by kernel_rfl, by kernel_rfl⟩, ⟨by kernel_rfl, by kernel_rfl⟩, ⟨by kernel_rfl, by kernel_rfl⟩, ⟨by kernel_rfl, by kernel_rfl⟩, ⟨by kernel_rfl, by kernel_rfl⟩, ⟨by kernel_rfl, by kernel_rfl⟩, ⟨by kernel_rfl, by kernel_rfl⟩, ⟨by kernel_rfl, by kernel_rfl⟩, ⟨by kernel_rfl, by kernel_rfl⟩, ⟨by kernel_rfl, by kernel_rfl⟩, ⟨by kernel_rfl, by kernel_rfl⟩, ⟨by kernel_rfl, by kernel_rfl⟩, ⟨by kernel_rfl, by kernel_rfl⟩, ⟨by kernel_rfl, by kernel_rfl⟩, ⟨by kernel_rfl, by kernel_rfl⟩, ⟨by kernel_rfl, by kernel_rfl⟩, ⟨by kernel_rfl, by kernel_rfl⟩, ⟨by kernel_rfl, by kernel_rfl⟩, ⟨by kernel_rfl, by kernel_rfl⟩, ⟨by kernel_rfl, by kernel_rfl⟩, True.intro⟩
theorem mixed : Try.prog.follows .mixedOrders = true := by kernel_rfl
def inL : List Nat → Nat → Bool
  | [], _ => false
  | a :: r, n => match Nat.beq a n with | true => true | false => inL r n
def stl : Nat → Bool := inL [9, 15, 22, 23, 24, 25, 30, 31, 32]
/- 6: foghorn/foghornlaw02.GridNames -/
def p6 : Nat → Option PlanC := fun _ => none
def wl6 : Nat → List Nat := fun _ => []
def wj6 : Nat → Option (List Nat) := fun _ => none
def kr6 : Nat → List Nat := fun _ => []
noncomputable def e6 : Ent := entOf Try.f6 ⟨p6, wl6, wj6, kr6, []⟩
theorem g6 : EntOk Try.prog stl 6 e6 := .inr ⟨rfl, Try.func6, by kernel_rfl, by kernel_rfl, by kernel_rfl, by kernel_rfl, by kernel_rfl, rfl⟩
/- 9: foghorn/grid.Near -/
def p9 : Nat → Option PlanC := fun _ => none
def wl9 : Nat → List Nat := fun _ => []
def wj9 : Nat → Option (List Nat) := fun _ => none
def kr9 : Nat → List Nat := fun _ => []
noncomputable def e9 : Ent := entOf Try.f9 ⟨p9, wl9, wj9, kr9, []⟩
theorem g9 : EntOk Try.prog stl 9 e9 := .inr ⟨rfl, Try.func9, by kernel_rfl, by kernel_rfl, by kernel_rfl, by kernel_rfl, by kernel_rfl, rfl⟩
/- 15: math.Float64bits (no Go text) -/
noncomputable def e15 : Ent := extEnt
theorem g15 : EntOk Try.prog stl 15 e15 := .inl rfl
/- 18: foghorn/grid.Door -/
def p18 : Nat → Option PlanC := fun _ => none
def wl18 : Nat → List Nat := fun
  | 5 => [19]
  | _ => []
def wj18 : Nat → Option (List Nat) := fun
  | 12 => some []
  | _ => none
def kr18 : Nat → List Nat := fun _ => []
noncomputable def e18 : Ent := entOf Try.f18 ⟨p18, wl18, wj18, kr18, []⟩
theorem g18 : EntOk Try.prog stl 18 e18 := .inr ⟨rfl, Try.func18, by kernel_rfl, by kernel_rfl, by kernel_rfl, by kernel_rfl, by kernel_rfl, rfl⟩
/- 22: math.Nextafter -/
def p22 : Nat → Option PlanC := fun _ => none
def wl22 : Nat → List Nat := fun _ => []
def wj22 : Nat → Option (List Nat) := fun _ => none
def kr22 : Nat → List Nat := fun _ => []
noncomputable def e22 : Ent := entOf Try.f22 ⟨p22, wl22, wj22, kr22, []⟩
theorem g22 : EntOk Try.prog stl 22 e22 := .inr ⟨rfl, Try.func22, by kernel_rfl, by kernel_rfl, by kernel_rfl, by kernel_rfl, by kernel_rfl, rfl⟩
/- 23: math.Float64frombits (no Go text) -/
noncomputable def e23 : Ent := extEnt
theorem g23 : EntOk Try.prog stl 23 e23 := .inl rfl
/- 24: math.Abs -/
def p24 : Nat → Option PlanC := fun _ => none
def wl24 : Nat → List Nat := fun _ => []
def wj24 : Nat → Option (List Nat) := fun _ => none
def kr24 : Nat → List Nat := fun _ => []
noncomputable def e24 : Ent := entOf Try.f24 ⟨p24, wl24, wj24, kr24, []⟩
theorem g24 : EntOk Try.prog stl 24 e24 := .inr ⟨rfl, Try.func24, by kernel_rfl, by kernel_rfl, by kernel_rfl, by kernel_rfl, by kernel_rfl, rfl⟩
/- 25: math.RoundToEven (no Go text) -/
noncomputable def e25 : Ent := extEnt
theorem g25 : EntOk Try.prog stl 25 e25 := .inl rfl
/- 30: math.IsNaN -/
def p30 : Nat → Option PlanC := fun _ => none
def wl30 : Nat → List Nat := fun _ => []
def wj30 : Nat → Option (List Nat) := fun _ => none
def kr30 : Nat → List Nat := fun _ => []
noncomputable def e30 : Ent := entOf Try.f30 ⟨p30, wl30, wj30, kr30, []⟩
theorem g30 : EntOk Try.prog stl 30 e30 := .inr ⟨rfl, Try.func30, by kernel_rfl, by kernel_rfl, by kernel_rfl, by kernel_rfl, by kernel_rfl, rfl⟩
/- 31: math.NaN -/
def p31 : Nat → Option PlanC := fun _ => none
def wl31 : Nat → List Nat := fun _ => []
def wj31 : Nat → Option (List Nat) := fun _ => none
def kr31 : Nat → List Nat := fun _ => []
noncomputable def e31 : Ent := entOf Try.f31 ⟨p31, wl31, wj31, kr31, []⟩
theorem g31 : EntOk Try.prog stl 31 e31 := .inr ⟨rfl, Try.func31, by kernel_rfl, by kernel_rfl, by kernel_rfl, by kernel_rfl, by kernel_rfl, rfl⟩
/- 32: math.Copysign -/
def p32 : Nat → Option PlanC := fun _ => none
def wl32 : Nat → List Nat := fun _ => []
def wj32 : Nat → Option (List Nat) := fun _ => none
def kr32 : Nat → List Nat := fun _ => []
noncomputable def e32 : Ent := entOf Try.f32 ⟨p32, wl32, wj32, kr32, []⟩
theorem g32 : EntOk Try.prog stl 32 e32 := .inr ⟨rfl, Try.func32, by kernel_rfl, by kernel_rfl, by kernel_rfl, by kernel_rfl, by kernel_rfl, rfl⟩
noncomputable def ents : List (Nat × Ent) := [(6, e6), (9, e9), (15, e15), (18, e18), (22, e22), (23, e23), (24, e24), (25, e25), (30, e30), (31, e31), (32, e32)]
theorem goods : EntsOk Try.prog stl ents := ⟨g6, g9, g15, g18, g22, g23, g24, g25, g30, g31, g32, True.intro⟩
noncomputable def tab : Nat → Option Ent := (tabOf ents).get
theorem fok : FOk Try.prog stl tab := fok_of goods
noncomputable def d0 : Disp := .leaf
theorem d0_ok : CallSim Try.prog tys stl tab d0.fn := Disp.sim True.intro
noncomputable def n15 : List W → HW → Nat → KW → Bool := extN Try.prog 15
theorem n15_ok : FnGood Try.prog tys stl tab 15 n15 := ext_ok (e := e15) (by kernel_rfl) rfl
noncomputable def n23 : List W → HW → Nat → KW → Bool := extN Try.prog 23
theorem n23_ok : FnGood Try.prog tys stl tab 23 n23 := ext_ok (e := e23) (by kernel_rfl) rfl
noncomputable def n25 : List W → HW → Nat → KW → Bool := extN Try.prog 25
theorem n25_ok : FnGood Try.prog tys stl tab 25 n25 := ext_ok (e := e25) (by kernel_rfl) rfl
/- math.IsNaN -/
noncomputable def R30 (q_genW : Option CV → (W → Bool) → Bool) (fu : Nat) (call : CallW) (a0 : W) (h0 : HW) (c0 : Nat) (K : KW) : Bool :=
q_genW (binC Try.prog .neq 23 (.tmp 3) (.tmp 4) (dec a0) (dec a0)) fun v1 =>
K v1 h0 c0
theorem R30_eq (Q : PrimW) (fu : Nat) (call : CallW) : curryA 1 (fnK Q Try.prog tys stl fu call e30) = R30 Q.genW fu call := by kernel_rfl
noncomputable def n30 : List W → HW → Nat → KW → Bool := appF 1 (R30 genW 1000000 d0.fn)
theorem n30_ok : FnGood Try.prog tys stl tab 30 n30 := node_ok d0_ok (by kernel_rfl) rfl g30 (R30_eq real _ _)
noncomputable def d1 : Disp := (.node 25 n25 (.node 23 n23 (.node 15 n15 .leaf .leaf) .leaf) (.node 30 n30 .leaf .leaf))
theorem d1_ok : CallSim Try.prog tys stl tab d1.fn := Disp.sim ⟨n25_ok, ⟨n23_ok, ⟨n15_ok, True.intro, True.intro⟩, True.intro⟩, ⟨n30_ok, True.intro, True.intro⟩⟩
/- math.Abs -/
noncomputable def R24 (q_genW : Option CV → (W → Bool) → Bool) (fu : Nat) (call : CallW) (a0 : W) (h0 : HW) (c0 : Nat) (K : KW) : Bool :=
call 15 [a0] h0 c0 fun v1 h2 c3 =>
q_genW (binC Try.prog .andNot 22 (.tmp 4) (.const (.int .u64 (.ofNat 9223372036854775808))) (dec v1) (dec ⟨7, 9223372036854775808, r0, []⟩)) fun v4 =>
call 23 [v4] h2 c3 fun v5 h6 c7 =>
K v5 h6 c7
theorem R24_eq (Q : PrimW) (fu : Nat) (call : CallW) : curryA 1 (fnK Q Try.prog tys stl fu call e24) = R24 Q.genW fu call := by kernel_rfl
noncomputable def n24 : List W → HW → Nat → KW → Bool := appF 1 (R24 genW 1000000 d1.fn)
theorem n24_ok : FnGood Try.prog tys stl tab 24 n24 := node_ok d1_ok (by kernel_rfl) rfl g24 (R24_eq real _ _)
/- math.NaN -/
noncomputable def R31 (fu : Nat) (call : CallW) (h0 : HW) (c0 : Nat) (K : KW) : Bool :=
call 23 [⟨7, 9221120237041090561, r0, []⟩] h0 c0 fun v1 h2 c3 =>
K v1 h2 c3
theorem R31_eq (Q : PrimW) (fu : Nat) (call : CallW) : curryA 0 (fnK Q Try.prog tys stl fu call e31) = R31 fu call := by kernel_rfl
noncomputable def n31 : List W → HW → Nat → KW → Bool := appF 0 (R31 1000000 d1.fn)
theorem n31_ok : FnGood Try.prog tys stl tab 31 n31 := node_ok d1_ok (by kernel_rfl) rfl g31 (R31_eq real _ _)
/- math.Copysign -/
noncomputable def R32 (q_genW : Option CV → (W → Bool) → Bool) (q_bitW : (Nat → Nat → Nat) → Nat → Nat → Option CV → W → W → (W → Bool) → Bool) (fu : Nat) (call : CallW) (a0 : W) (a1 : W) (h0 : HW) (c0 : Nat) (K : KW) : Bool :=
call 15 [a0] h0 c0 fun v1 h2 c3 =>
q_genW (binC Try.prog .andNot 22 (.tmp 6) (.const (.int .u64 (.ofNat 9223372036854775808))) (dec v1) (dec ⟨7, 9223372036854775808, r0, []⟩)) fun v4 =>
call 15 [a1] h2 c3 fun v5 h6 c7 =>
q_bitW Nat.land 7 18446744073709551615 (binC Try.prog .and 22 (.tmp 9) (.const (.int .u64 (.ofNat 9223372036854775808))) (dec v5) (dec ⟨7, 9223372036854775808, r0, []⟩)) v5 ⟨7, 9223372036854775808, r0, []⟩ fun v8 =>
q_bitW Nat.lor 7 18446744073709551615 (binC Try.prog .or 22 (.tmp 7) (.tmp 10) (dec v4) (dec v8)) v4 v8 fun v9 =>
call 23 [v9] h6 c7 fun v10 h11 c12 =>
K v10 h11 c12
theorem R32_eq (Q : PrimW) (fu : Nat) (call : CallW) : curryA 2 (fnK Q Try.prog tys stl fu call e32) = R32 Q.genW Q.bitW fu call := by kernel_rfl
noncomputable def n32 : List W → HW → Nat → KW → Bool := appF 2 (R32 genW bitW 1000000 d1.fn)
theorem n32_ok : FnGood Try.prog tys stl tab 32 n32 := node_ok d1_ok (by kernel_rfl) rfl g32 (R32_eq real _ _)
noncomputable def d2 : Disp := (.node 25 n25 (.node 23 n23 (.node 15 n15 .leaf .leaf) (.node 24 n24 .leaf .leaf)) (.node 31 n31 (.node 30 n30 .leaf .leaf) (.node 32 n32 .leaf .leaf)))
theorem d2_ok : CallSim Try.prog tys stl tab d2.fn := Disp.sim ⟨n25_ok, ⟨n23_ok, ⟨n15_ok, True.intro, True.intro⟩, ⟨n24_ok, True.intro, True.intro⟩⟩, ⟨n31_ok, ⟨n30_ok, True.intro, True.intro⟩, ⟨n32_ok, True.intro, True.intro⟩⟩⟩
/- foghorn/grid.Near -/
noncomputable def R9 (q_genW : Option CV → (W → Bool) → Bool) (q_notW : Option CV → W → (W → Bool) → Bool) (q_condW : W → Bool → Bool → Bool) (fu : Nat) (call : CallW) (a0 : W) (h0 : HW) (c0 : Nat) (K : KW) : Bool :=
call 24 [a0] h0 c0 fun v1 h2 c3 =>
q_genW (binC Try.prog .leq 23 (.tmp 5) (.const (.float .f64 4652218415073722368)) (dec v1) (dec ⟨12, 0, ⟨0, 0, 0, .flt .f64 4652218415073722368⟩, []⟩)) fun v4 =>
q_notW (two Try.prog (dec v4) (Op.unary .not)) v4 fun v5 =>
q_condW v5 (
K ⟨13, 0, r0, [⟨12, 0, ⟨0, 0, 0, .flt .f64 0⟩, []⟩, ⟨8, 0, r0, []⟩]⟩ h2 c3) (
q_genW (binC Try.prog .mul 23 (.tmp 8) (.const (.float .f64 4661225614328463360)) (dec a0) (dec ⟨12, 0, ⟨0, 0, 0, .flt .f64 4661225614328463360⟩, []⟩)) fun v6 =>
call 25 [v6] h2 c3 fun v7 h8 c9 =>
q_genW (binC Try.prog .quo 23 (.tmp 10) (.const (.float .f64 4661225614328463360)) (dec v7) (dec ⟨12, 0, ⟨0, 0, 0, .flt .f64 4661225614328463360⟩, []⟩)) fun v10 =>
q_genW (binC Try.prog .add 23 (.tmp 11) (.const (.float .f64 0)) (dec v10) (dec ⟨12, 0, ⟨0, 0, 0, .flt .f64 0⟩, []⟩)) fun v11 =>
K ⟨13, 0, r0, [v11, ⟨8, 1, r0, []⟩]⟩ h8 c9)
theorem R9_eq (Q : PrimW) (fu : Nat) (call : CallW) : curryA 1 (fnK Q Try.prog tys stl fu call e9) = R9 Q.genW Q.notW Q.condW fu call := by kernel_rfl
noncomputable def n9 : List W → HW → Nat → KW → Bool := appF 1 (R9 genW notW condW 1000000 d2.fn)
theorem n9_ok : FnGood Try.prog tys stl tab 9 n9 := node_ok d2_ok (by kernel_rfl) rfl g9 (R9_eq real _ _)
/- math.Nextafter -/
noncomputable def R22 (q_share : (α : Type) → α → (α → Bool) → Bool) (q_genW : Option CV → (W → Bool) → Bool) (q_addW : Nat → Nat → Option CV → W → W → (W → Bool) → Bool) (q_subW : Nat → Nat → Option CV → W → W → (W → Bool) → Bool) (q_condW : W → Bool → Bool → Bool) (q_guardW : Bool → W → Bool → Bool → Bool) (q_pickW : W → W → W → (W → Bool) → Bool) (fu : Nat) (call : CallW) (a0 : W) (a1 : W) (h0 : HW) (c0 : Nat) (K : KW) : Bool :=
call 30 [a0] h0 c0 fun v1 h2 c3 =>
q_share _ (fun (v5 : W) (h6 : HW) (c7 : Nat) =>
q_share _ (fun (v9 : W) (h10 : HW) (c11 : Nat) =>
q_pickW v1 ⟨8, 1, r0, []⟩ v9 fun v12 =>
q_condW v12 (
call 31 [] h10 c11 fun v13 h14 c15 =>
K v13 h14 c15) (
q_genW (binC Try.prog .eql 23 (.tmp 18) (.tmp 19) (dec a0) (dec a1)) fun v16 =>
q_condW v16 (
K a0 h10 c11) (
q_genW (binC Try.prog .eql 23 (.tmp 23) (.const (.float .f64 0)) (dec a0) (dec ⟨12, 0, ⟨0, 0, 0, .flt .f64 0⟩, []⟩)) fun v17 =>
q_condW v17 (
call 23 [⟨7, 1, r0, []⟩] h10 c11 fun v18 h19 c20 =>
call 32 [v18, a1] h19 c20 fun v21 h22 c23 =>
K v21 h22 c23) (
q_genW (binC Try.prog .gtr 23 (.tmp 29) (.tmp 30) (dec a1) (dec a0)) fun v24 =>
q_genW (binC Try.prog .gtr 23 (.tmp 32) (.const (.float .f64 0)) (dec a0) (dec ⟨12, 0, ⟨0, 0, 0, .flt .f64 0⟩, []⟩)) fun v25 =>
q_genW (binC Try.prog .eql 4 (.tmp 31) (.tmp 33) (dec v24) (dec v25)) fun v26 =>
q_condW v26 (
call 15 [a0] h10 c11 fun v27 h28 c29 =>
q_addW 7 18446744073709551615 (binC Try.prog .add 22 (.tmp 36) (.const (.int .u64 (.ofNat 1))) (dec v27) (dec ⟨7, 1, r0, []⟩)) v27 ⟨7, 1, r0, []⟩ fun v30 =>
call 23 [v30] h28 c29 fun v31 h32 c33 =>
K v31 h32 c33) (
call 15 [a0] h10 c11 fun v34 h35 c36 =>
q_subW 7 18446744073709551615 (binC Try.prog .sub 22 (.tmp 6) (.const (.int .u64 (.ofNat 1))) (dec v34) (dec ⟨7, 1, r0, []⟩)) v34 ⟨7, 1, r0, []⟩ fun v37 =>
call 23 [v37] h35 c36 fun v38 h39 c40 =>
K v38 h39 c40))))) fun f8 =>
q_guardW false v1 (call 30 [v5] h6 c7 fun v41 h42 c43 =>
f8 v41 h42 c43) (f8 wUnd h6 c7)) fun f4 =>
q_guardW false v1 (f4 a1 h2 c3) (f4 wUnd h2 c3)
theorem R22_eq (Q : PrimW) (fu : Nat) (call : CallW) : curryA 2 (fnK Q Try.prog tys stl fu call e22) = R22 Q.share Q.genW Q.addW Q.subW Q.condW Q.guardW Q.pickW fu call := by kernel_rfl
noncomputable def n22 : List W → HW → Nat → KW → Bool := appF 2 (R22 (fun _ x f => f x) genW addW subW condW guardW pickW 1000000 d2.fn)
theorem n22_ok : FnGood Try.prog tys stl tab 22 n22 := node_ok d2_ok (by kernel_rfl) rfl g22 (R22_eq real _ _)
noncomputable def d3 : Disp := (.node 24 n24 (.node 22 n22 (.node 15 n15 (.node 9 n9 .leaf .leaf) .leaf) (.node 23 n23 .leaf .leaf)) (.node 31 n31 (.node 30 n30 (.node 25 n25 .leaf .leaf) .leaf) (.node 32 n32 .leaf .leaf)))
theorem d3_ok : CallSim Try.prog tys stl tab d3.fn := Disp.sim ⟨n24_ok, ⟨n22_ok, ⟨n15_ok, ⟨n9_ok, True.intro, True.intro⟩, True.intro⟩, ⟨n23_ok, True.intro, True.intro⟩⟩, ⟨n31_ok, ⟨n30_ok, ⟨n25_ok, True.intro, True.intro⟩, True.intro⟩, ⟨n32_ok, True.intro, True.intro⟩⟩⟩
/- foghorn/grid.Door -/
noncomputable def R18 (q_share : (α : Type) → α → (α → Bool) → Bool) (q_genW : Option CV → (W → Bool) → Bool) (q_addW : Nat → Nat → Option CV → W → W → (W → Bool) → Bool) (q_cmpW : (Nat → Nat → Bool) → Nat → Option CV → W → W → (W → Bool) → Bool) (q_condW : W → Bool → Bool → Bool) (q_guardW : Bool → W → Bool → Bool → Bool) (q_pickW : W → W → W → (W → Bool) → Bool) (q_fadW : Nat → W → (W → Bool) → Bool) (q_idxSW : Nat → W → W → (W → Bool) → Bool) (q_lenW : Option CV → W → (W → Bool) → Bool) (q_tupW : W → (List W → Bool) → Bool) (q_nthW : Nat → List W → (W → Bool) → Bool) (q_loadSW : HW → W → (W → Bool) → Bool) (q_storeSW : HW → W → W → (HW → Bool) → Bool) (q_makeSW : Nat → Nat → Nat → Kind → List W → Bool → HW → Nat → W → W → KW → Bool) (fu : Nat) (call : CallW) (a0 : W) (h0 : HW) (c0 : Nat) (K : KW) : Bool :=
q_lenW (lenC tys 37 (dec a0)) a0 fun v1 =>
q_cmpW (cmpF2 .gtr) 3 (binC Try.prog .gtr 3 (.tmp 12) (.const (.int .i64 (.ofNat 65536))) (dec v1) (dec ⟨3, 65536, r0, []⟩)) v1 ⟨3, 65536, r0, []⟩ fun v2 =>
q_condW v2 (
K ⟨13, 0, r0, [⟨12, 0, ⟨0, 0, 0, .nils⟩, []⟩, ⟨3, 1, r0, []⟩]⟩ h0 c0) (
q_lenW (lenC tys 37 (dec a0)) a0 fun v3 =>
q_makeSW 24 2 9 .avs [⟨12, 0, ⟨0, 0, 0, .cpx .f64 0 0⟩, []⟩, ⟨8, 0, r0, []⟩] true h0 c0 v3 v3 fun v4 h5 c6 =>
q_lenW (lenC tys 37 (dec a0)) a0 fun v7 =>
@Nat.rec (fun _ => Fun 1) (fun _ _ _ => false) (fun _ f11 v8 h9 c10 =>
q_cmpW (cmpF2 .lss) 3 (binC Try.prog .lss 3 (.tmp 19) (.tmp 18) (dec v8) (dec v7)) v8 v7 fun v12 =>
q_condW v12 (
q_share _ (fun  (h13 : HW) (c14 : Nat) =>
q_addW 3 9223372036854775807 (binC Try.prog .add 3 (.tmp 19) (.const (.int .i64 (.ofNat 1))) (dec v8) (dec ⟨3, 1, r0, []⟩)) v8 ⟨3, 1, r0, []⟩ fun v16 =>
f11 v16 h13 c14) fun f15 =>
q_idxSW 1 a0 v8 fun v17 =>
q_loadSW h9 v17 fun v18 =>
q_genW (two Try.prog (dec v18) fun v => Builtin.real_ #[39] 23 #[v]) fun v19 =>
call 9 [v19] h9 c10 fun v20 h21 c22 =>
q_tupW v20 fun l23 => q_nthW 0 l23 fun v24 =>
q_tupW v20 fun l25 => q_nthW 1 l25 fun v26 =>
q_genW (two Try.prog (dec v18) fun v => Builtin.imag_ #[39] 23 #[v]) fun v27 =>
call 9 [v27] h21 c22 fun v28 h29 c30 =>
q_tupW v28 fun l31 => q_nthW 0 l31 fun v32 =>
q_tupW v28 fun l33 => q_nthW 1 l33 fun v34 =>
q_share _ (fun (v36 : W) (h37 : HW) (c38 : Nat) =>
q_pickW v26 v36 ⟨8, 0, r0, []⟩ fun v39 =>
q_condW v39 (
q_genW (two2 Try.prog (dec v24) (dec v32) fun v u => Builtin.complex_ #[23, 23] 39 #[v, u]) fun v40 =>
q_idxSW 2 v4 v8 fun v41 =>
q_fadW 0 v41 fun v42 =>
q_storeSW h37 v42 v40 fun h43 =>
f15 h43 c38) (
q_idxSW 2 v4 v8 fun v44 =>
q_fadW 1 v44 fun v45 =>
q_storeSW h37 v45 ⟨8, 1, r0, []⟩ fun h46 =>
f15 h46 c38)) fun f35 =>
q_guardW true v26 (f35 v34 h29 c30) (f35 wUnd h29 c30)) (
K ⟨13, 0, r0, [v4, ⟨3, 0, r0, []⟩]⟩ h9 c10)) fu ⟨3, 0, r0, []⟩ h5 c6)
theorem R18_eq (Q : PrimW) (fu : Nat) (call : CallW) : curryA 1 (fnK Q Try.prog tys stl fu call e18) = R18 Q.share Q.genW Q.addW Q.cmpW Q.condW Q.guardW Q.pickW Q.fadW Q.idxSW Q.lenW Q.tupW Q.nthW Q.loadSW Q.storeSW Q.makeSW fu call := by kernel_rfl
noncomputable def n18 : List W → HW → Nat → KW → Bool := appF 1 (R18 (fun _ x f => f x) genW addW cmpW condW guardW pickW fadW idxSW lenW tupW nthW loadSW storeSW makeSW 1000000 d3.fn)
theorem n18_ok : FnGood Try.prog tys stl tab 18 n18 := node_ok d3_ok (by kernel_rfl) rfl g18 (R18_eq real _ _)
noncomputable def d4 : Disp := (.node 24 n24 (.node 18 n18 (.node 15 n15 (.node 9 n9 .leaf .leaf) .leaf) (.node 23 n23 (.node 22 n22 .leaf .leaf) .leaf)) (.node 31 n31 (.node 30 n30 (.node 25 n25 .leaf .leaf) .leaf) (.node 32 n32 .leaf .leaf)))
theorem d4_ok : CallSim Try.prog tys stl tab d4.fn := Disp.sim ⟨n24_ok, ⟨n18_ok, ⟨n15_ok, ⟨n9_ok, True.intro, True.intro⟩, True.intro⟩, ⟨n23_ok, ⟨n22_ok, True.intro, True.intro⟩, True.intro⟩⟩, ⟨n31_ok, ⟨n30_ok, ⟨n25_ok, True.intro, True.intro⟩, True.intro⟩, ⟨n32_ok, True.intro, True.intro⟩⟩⟩
/- foghorn/foghornlaw02.GridNames -/
noncomputable def R6 (q_share : (α : Type) → α → (α → Bool) → Bool) (q_genW : Option CV → (W → Bool) → Bool) (q_cmpW : (Nat → Nat → Bool) → Nat → Option CV → W → W → (W → Bool) → Bool) (q_notW : Option CV → W → (W → Bool) → Bool) (q_guardW : Bool → W → Bool → Bool → Bool) (q_pickW : W → W → W → (W → Bool) → Bool) (q_tupW : W → (List W → Bool) → Bool) (q_nthW : Nat → List W → (W → Bool) → Bool) (q_makeSW : Nat → Nat → Nat → Kind → List W → Bool → HW → Nat → W → W → KW → Bool) (fu : Nat) (call : CallW) (h0 : HW) (c0 : Nat) (K : KW) : Bool :=
call 9 [⟨12, 0, ⟨0, 0, 0, .flt .f64 4652218415073722368⟩, []⟩] h0 c0 fun v1 h2 c3 =>
q_tupW v1 fun l4 => q_nthW 0 l4 fun v5 =>
q_tupW v1 fun l6 => q_nthW 1 l6 fun v7 =>
call 22 [⟨12, 0, ⟨0, 0, 0, .flt .f64 4652218415073722368⟩, []⟩, ⟨12, 0, ⟨0, 0, 0, .flt .f64 4656510908468559872⟩, []⟩] h2 c3 fun v8 h9 c10 =>
call 9 [v8] h9 c10 fun v11 h12 c13 =>
q_tupW v11 fun l14 => q_nthW 0 l14 fun v15 =>
q_tupW v11 fun l16 => q_nthW 1 l16 fun v17 =>
call 9 [⟨12, 0, ⟨0, 0, 0, .flt .f64 4555391023085256704⟩, []⟩] h12 c13 fun v18 h19 c20 =>
q_tupW v18 fun l21 => q_nthW 0 l21 fun v22 =>
q_tupW v18 fun l23 => q_nthW 1 l23 fun v24 =>
q_makeSW 16 1 99 (.cpxs .f64) [⟨12, 0, ⟨0, 0, 0, .cpx .f64 0 0⟩, []⟩] true h19 c20 ⟨3, 65536, r0, []⟩ ⟨3, 65536, r0, []⟩ fun v25 h26 c27 =>
call 18 [v25] h26 c27 fun v28 h29 c30 =>
q_tupW v28 fun l31 => q_nthW 0 l31 fun v32 =>
q_tupW v28 fun l33 => q_nthW 1 l33 fun v34 =>
q_makeSW 16 1 99 (.cpxs .f64) [⟨12, 0, ⟨0, 0, 0, .cpx .f64 0 0⟩, []⟩] true h29 c30 ⟨3, 65537, r0, []⟩ ⟨3, 65537, r0, []⟩ fun v35 h36 c37 =>
call 18 [v35] h36 c37 fun v38 h39 c40 =>
q_tupW v38 fun l41 => q_nthW 0 l41 fun v42 =>
q_tupW v38 fun l43 => q_nthW 1 l43 fun v44 =>
q_genW (binC Try.prog .eql 23 (.tmp 34) (.const (.float .f64 4652218415073722368)) (dec v5) (dec ⟨12, 0, ⟨0, 0, 0, .flt .f64 4652218415073722368⟩, []⟩)) fun v45 =>
q_share _ (fun (v47 : W) (h48 : HW) (c49 : Nat) =>
q_pickW v45 v47 ⟨8, 0, r0, []⟩ fun v50 =>
q_share _ (fun (v52 : W) (h53 : HW) (c54 : Nat) =>
q_share _ (fun (v56 : W) (h57 : HW) (c58 : Nat) =>
q_pickW v50 v56 ⟨8, 0, r0, []⟩ fun v59 =>
q_share _ (fun (v61 : W) (h62 : HW) (c63 : Nat) =>
q_share _ (fun (v65 : W) (h66 : HW) (c67 : Nat) =>
q_pickW v59 v65 ⟨8, 0, r0, []⟩ fun v68 =>
q_share _ (fun (v70 : W) (h71 : HW) (c72 : Nat) =>
q_share _ (fun (v74 : W) (h75 : HW) (c76 : Nat) =>
q_pickW v68 v74 ⟨8, 0, r0, []⟩ fun v77 =>
q_share _ (fun (v79 : W) (h80 : HW) (c81 : Nat) =>
q_pickW v77 v79 ⟨8, 0, r0, []⟩ fun v82 =>
q_share _ (fun (v84 : W) (h85 : HW) (c86 : Nat) =>
q_share _ (fun (v88 : W) (h89 : HW) (c90 : Nat) =>
q_pickW v82 v88 ⟨8, 0, r0, []⟩ fun v91 =>
q_share _ (fun (v93 : W) (h94 : HW) (c95 : Nat) =>
q_share _ (fun (v97 : W) (h98 : HW) (c99 : Nat) =>
q_pickW v91 v97 ⟨8, 0, r0, []⟩ fun v100 =>
q_pickW v100 ⟨8, 1, r0, []⟩ ⟨8, 0, r0, []⟩ fun v101 =>
q_pickW v101 ⟨8, 1, r0, []⟩ ⟨8, 0, r0, []⟩ fun v102 =>
q_pickW v102 ⟨8, 1, r0, []⟩ ⟨8, 0, r0, []⟩ fun v103 =>
q_pickW v103 ⟨8, 1, r0, []⟩ ⟨8, 0, r0, []⟩ fun v104 =>
K v104 h98 c99) fun f96 =>
q_guardW true v91 (q_cmpW (cmpF2 .eql) 3 (binC Try.prog .eql 27 (.tmp 59) (.const (.int .i64 (.ofNat 1))) (dec v93) (dec ⟨3, 1, r0, []⟩)) v93 ⟨3, 1, r0, []⟩ fun v105 =>
f96 v105 h94 c95) (f96 wUnd h94 c95)) fun f92 =>
q_guardW true v91 (f92 v44 h89 c90) (f92 wUnd h89 c90)) fun f87 =>
q_guardW true v82 (q_cmpW (cmpF2 .eql) 3 (binC Try.prog .eql 27 (.tmp 55) (.const (.int .i64 (.ofNat 0))) (dec v84) (dec ⟨3, 0, r0, []⟩)) v84 ⟨3, 0, r0, []⟩ fun v106 =>
f87 v106 h85 c86) (f87 wUnd h85 c86)) fun f83 =>
q_guardW true v82 (f83 v34 h80 c81) (f83 wUnd h80 c81)) fun f78 =>
q_guardW true v77 (f78 v24 h75 c76) (f78 wUnd h75 c76)) fun f73 =>
q_guardW true v68 (q_genW (binC Try.prog .eql 23 (.tmp 48) (.const (.float .f64 4557642822898941952)) (dec v70) (dec ⟨12, 0, ⟨0, 0, 0, .flt .f64 4557642822898941952⟩, []⟩)) fun v107 =>
f73 v107 h71 c72) (f73 wUnd h71 c72)) fun f69 =>
q_guardW true v68 (f69 v22 h66 c67) (f69 wUnd h66 c67)) fun f64 =>
q_guardW true v59 (q_notW (two Try.prog (dec v61) (Op.unary .not)) v61 fun v108 =>
f64 v108 h62 c63) (f64 wUnd h62 c63)) fun f60 =>
q_guardW true v59 (f60 v17 h57 c58) (f60 wUnd h57 c58)) fun f55 =>
q_guardW true v50 (q_genW (binC Try.prog .eql 23 (.tmp 40) (.const (.float .f64 0)) (dec v52) (dec ⟨12, 0, ⟨0, 0, 0, .flt .f64 0⟩, []⟩)) fun v109 =>
f55 v109 h53 c54) (f55 wUnd h53 c54)) fun f51 =>
q_guardW true v50 (f51 v15 h48 c49) (f51 wUnd h48 c49)) fun f46 =>
q_guardW true v45 (f46 v7 h39 c40) (f46 wUnd h39 c40)
theorem R6_eq (Q : PrimW) (fu : Nat) (call : CallW) : curryA 0 (fnK Q Try.prog tys stl fu call e6) = R6 Q.share Q.genW Q.cmpW Q.notW Q.guardW Q.pickW Q.tupW Q.nthW Q.makeSW fu call := by kernel_rfl
noncomputable def n6 : List W → HW → Nat → KW → Bool := appF 0 (R6 (fun _ x f => f x) genW cmpW notW guardW pickW tupW nthW makeSW 1000000 d4.fn)
theorem n6_ok : FnGood Try.prog tys stl tab 6 n6 := node_ok d4_ok (by kernel_rfl) rfl g6 (R6_eq real _ _)
noncomputable def d5 : Disp := (.node 23 n23 (.node 15 n15 (.node 9 n9 (.node 6 n6 .leaf .leaf) .leaf) (.node 22 n22 (.node 18 n18 .leaf .leaf) .leaf)) (.node 30 n30 (.node 25 n25 (.node 24 n24 .leaf .leaf) .leaf) (.node 32 n32 (.node 31 n31 .leaf .leaf) .leaf)))
theorem d5_ok : CallSim Try.prog tys stl tab d5.fn := Disp.sim ⟨n23_ok, ⟨n15_ok, ⟨n9_ok, ⟨n6_ok, True.intro, True.intro⟩, True.intro⟩, ⟨n22_ok, ⟨n18_ok, True.intro, True.intro⟩, True.intro⟩⟩, ⟨n30_ok, ⟨n25_ok, ⟨n24_ok, True.intro, True.intro⟩, True.intro⟩, ⟨n32_ok, ⟨n31_ok, True.intro, True.intro⟩, True.intro⟩⟩⟩
noncomputable abbrev dT : Disp := d5
theorem dT_ok : CallSim Try.prog tys stl tab dT.fn := d5_ok

set_option maxHeartbeats 0 in
theorem run6 : lawK dT.fn 6 = true := by kernel_rfl
namespace gridNames
open Go.ChangeShapes Go.WideShapes Go.ChangeAt Go.RowKit
theorem own : ownKnob Try.prog.godebug = none := by kernel_rfl
theorem laid : laidOutB Try.prog = true := by kernel_rfl
theorem lifted (os : Os) (started : os.Started) (H : Type) (enc : TypeId × Value → H) :
    ReturnsInHanded {} Try.checked os 6 .any (Rows.gridNamesSpec.pre6 enc Try.prog Try.f6 Rows.gridNamesRow.domain false) (Rows.gridNamesSpec.post enc Try.prog Try.f6 false true false false) := by
  refine returnsInHanded_of_change (C := Try.checked) own started (by kernel_rfl) Try.func6
    (ChangeSpec.witness6 (enc := enc) (C := Try.checked) false ⟨#[], #[], []⟩ 8 (by kernel_rfl) (by kernel_rfl) (by kernel_rfl) (by kernel_rfl)) ?_
  intro W base args ds gs before hval0 hW hcnd _
  have hW' := hW
  obtain ⟨p, q, hA0, hV, rfl, hfz, hnd⟩ := hW
  have hA : DataW.TrodAll enc Try.prog W 0 (fun _ => true) true Try.f6.params.toList args.toList ds p := hA0
  rw [Try.params6] at hA
  obtain ⟨hargs, rfl, rfl⟩ := trodAll_nil hA
  obtain rfl : args = #[] := by cases args; simp_all
  obtain ⟨rfl, rfl⟩ := trodVars_none hV
  clear hA0 hval0
  refine (lawK_true tok mixed fok dT_ok (by kernel_rfl : tab 6 = some e6) rfl run6 W).mono fun e W' ⟨he, hg⟩ => ?_
  subst he
  exact ⟨_, rfl, law_done laid rfl rfl Try.underlying4 (by kernel_rfl) hW' rfl hg⟩

theorem over : Rows.gridNamesRow.holds Try.pinned (OpenSpec.ofChange Rows.gridNamesSpec) :=
  OpenClaim.holds_of_wide 6 Try.f6 rfl rfl rfl rfl rfl rfl rfl ⟨rfl, rfl, rfl, rfl, rfl⟩ rfl rfl rfl rfl rfl (by kernel_rfl) Try.func6 (by kernel_rfl)
    (of_decide_eq_true (by kernel_rfl)) (by unfold Func.isWrapper; first | (rw [if_pos (by decide +kernel)]; kernel_rfl) | (rw [if_neg (by decide +kernel)]; exact ⟨rfl, rfl⟩))
    (fun os started H enc _ => lifted os started H enc)

theorem proved : Rows.GridNamesSaid := over
end gridNames
end Go.Proofs.Ytkemnbnkoiilbaa
