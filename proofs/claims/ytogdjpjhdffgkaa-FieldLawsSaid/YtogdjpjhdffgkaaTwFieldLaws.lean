/-
  The functions that the run goes through, as tables, and the run of a function without arguments. No condition.
-/
import Derived.Test.YtogdjpjhdffgkaaRows
import Derived.Test.YtogdjpjhdffgkaaGx
set_option linter.unusedVariables false
set_option maxRecDepth 1000000
namespace Go.Proofs.Ytogdjpjhdffgkaa
open Go Go.Fw
def tys : List (Nat × TyI) := [
  (1, ⟨.func, 1, 8, .nilFunc⟩),
  (2, ⟨.int .i64, 1, 8, .int .i64 0⟩),
  (3, ⟨.int .i64, 1, 8, .int .i64 0⟩),
  (4, ⟨.bool, 1, 1, .bool false⟩),
  (5, ⟨.int .u8, 1, 1, .int .u8 0⟩),
  (9, ⟨.str, 1, 16, .string (ByteArray.mk #[])⟩),
  (12, ⟨.int .u64, 1, 8, .int .u64 0⟩),
  (21, ⟨.int .i32, 1, 4, .int .i32 0⟩),
  (22, ⟨.int .i64, 1, 8, .int .i64 0⟩),
  (24, ⟨.func, 1, 8, .nilFunc⟩),
  (25, ⟨.func, 1, 8, .nilFunc⟩),
  (27, ⟨.func, 1, 8, .nilFunc⟩),
  (28, ⟨.func, 1, 8, .nilFunc⟩),
  (29, ⟨.func, 1, 8, .nilFunc⟩),
  (30, ⟨.func, 1, 8, .nilFunc⟩),
  (31, ⟨.func, 1, 8, .nilFunc⟩),
  (32, ⟨.struct [(0, 5), (1, 5), (2, 5), (3, 21), (4, 21)], 5, 12, .agg #[.int .u8 0, .int .u8 0, .int .u8 0, .int .i32 0, .int .i32 0]⟩),
  (33, ⟨.struct [(0, 5), (1, 5), (2, 5), (3, 21), (4, 21)], 5, 12, .agg #[.int .u8 0, .int .u8 0, .int .u8 0, .int .i32 0, .int .i32 0]⟩),
  (34, ⟨.func, 1, 8, .nilFunc⟩),
  (35, ⟨.func, 1, 8, .nilFunc⟩),
  (36, ⟨.func, 1, 8, .nilFunc⟩),
  (37, ⟨.int .u64, 1, 8, .int .u64 0⟩),
  (38, ⟨.slice 5, 1, 24, .slice none 0 0⟩),
  (40, ⟨.func, 1, 8, .nilFunc⟩),
  (41, ⟨.func, 1, 8, .nilFunc⟩),
  (42, ⟨.func, 1, 8, .nilFunc⟩),
  (43, ⟨.func, 1, 8, .nilFunc⟩),
  (44, ⟨.slice 38, 1, 24, .slice none 0 0⟩),
  (45, ⟨.func, 1, 8, .nilFunc⟩),
  (46, ⟨.func, 1, 8, .nilFunc⟩),
  (52, ⟨.func, 1, 8, .nilFunc⟩),
  (53, ⟨.int .u32, 1, 4, .int .u32 0⟩),
  (56, ⟨.func, 1, 8, .nilFunc⟩),
  (57, ⟨.ptr 5, 1, 8, .pointer none⟩)]


theorem tok : TOk Try.prog tys := tok_of ⟨⟨by kernel_rfl, by kernel_rfl⟩, ⟨by kernel_rfl, by kernel_rfl⟩, ⟨by kernel_rfl, by kernel_rfl⟩, ⟨by kernel_rfl, by kernel_rfl⟩, ⟨by kernel_rfl, by kernel_rfl⟩, ⟨by kernel_rfl, by kernel_rfl⟩, ⟨by kernel_rfl, by kernel_rfl⟩, ⟨by kernel_rfl, by kernel_rfl⟩, ⟨by kernel_rfl, by kernel_rfl⟩, ⟨by kernel_rfl, by kernel_rfl⟩, ⟨by kernel_rfl, by kernel_rfl⟩, ⟨by kernel_rfl, by kernel_rfl⟩, ⟨by kernel_rfl, by kernel_rfl⟩, ⟨by kernel_rfl, by kernel_rfl⟩, ⟨by kernel_rfl, by kernel_rfl⟩, ⟨by kernel_rfl, by kernel_rfl⟩, ⟨by kernel_rfl, by kernel_rfl⟩, ⟨by kernel_rfl, by kernel_rfl⟩, ⟨by kernel_rfl, by kernel_rfl⟩, ⟨by kernel_rfl, by kernel_rfl⟩, ⟨by kernel_rfl, by kernel_rfl⟩, ⟨by kernel_rfl, by kernel_rfl⟩, ⟨by kernel_rfl, by kernel_rfl⟩, ⟨by kernel_rfl, by kernel_rfl⟩, ⟨by kernel_rfl, by kernel_rfl⟩, ⟨by kernel_rfl, by kernel_rfl⟩, ⟨by kernel_rfl, by kernel_rfl⟩, ⟨by kernel_rfl, by kernel_rfl⟩, ⟨by kernel_rfl, by kernel_rfl⟩, ⟨by kernel_rfl, by kernel_rfl⟩, ⟨by kernel_rfl, by kernel_rfl⟩, ⟨by kernel_rfl, by kernel_rfl⟩, ⟨by kernel_rfl, by kernel_rfl⟩, ⟨by kernel_rfl, by kernel_rfl⟩, True.intro⟩
theorem mixed : Try.prog.follows .mixedOrders = true := by kernel_rfl
def inL : List Nat → Nat → Bool
  | [], _ => false
  | a :: r, n => match Nat.beq a n with | true => true | false => inL r n
def stl : Nat → Bool := inL [13, 22, 24]
/- 13: foghorn/field.Times -/
def p13 : Nat → Option PlanC := fun _ => none
def wl13 : Nat → List Nat := fun
  | 2 => [0, 1, 5]
  | _ => []
def wj13 : Nat → Option (List Nat) := fun _ => none
def kr13 : Nat → List Nat := fun _ => []
noncomputable def e13 : Ent := entOf Try.f13 ⟨p13, wl13, wj13, kr13, []⟩
theorem g13 : EntOk Try.prog tys stl 13 e13 := .inr ⟨rfl, Try.func13, by kernel_rfl, by kernel_rfl, by kernel_rfl, by kernel_rfl, by kernel_rfl, rfl⟩
/- 17: foghorn/foghornlaw18.awake -/
def p17 : Nat → Option PlanC := fun _ => none
def wl17 : Nat → List Nat := fun _ => []
def wj17 : Nat → Option (List Nat) := fun _ => none
def kr17 : Nat → List Nat := fun _ => []
noncomputable def e17 : Ent := entOf Try.f17 ⟨p17, wl17, wj17, kr17, []⟩
theorem g17 : EntOk Try.prog tys stl 17 e17 := .inr ⟨rfl, Try.func17, by kernel_rfl, by kernel_rfl, by kernel_rfl, by kernel_rfl, by kernel_rfl, rfl⟩
/- 20: foghorn/field.Product -/
def p20 : Nat → Option PlanC := fun _ => none
def wl20 : Nat → List Nat := fun _ => []
def wj20 : Nat → Option (List Nat) := fun _ => none
def kr20 : Nat → List Nat := fun _ => []
noncomputable def e20 : Ent := entOf Try.f20 ⟨p20, wl20, wj20, kr20, []⟩
theorem g20 : EntOk Try.prog tys stl 20 e20 := .inr ⟨rfl, Try.func20, by kernel_rfl, by kernel_rfl, by kernel_rfl, by kernel_rfl, by kernel_rfl, rfl⟩
/- 21: foghorn/foghornref18.Same -/
def p21 : Nat → Option PlanC := fun _ => none
def wl21 : Nat → List Nat := fun
  | 4 => [5]
  | _ => []
def wj21 : Nat → Option (List Nat) := fun _ => none
def kr21 : Nat → List Nat := fun _ => []
noncomputable def e21 : Ent := entOf Try.f21 ⟨p21, wl21, wj21, kr21, []⟩
theorem g21 : EntOk Try.prog tys stl 21 e21 := .inr ⟨rfl, Try.func21, by kernel_rfl, by kernel_rfl, by kernel_rfl, by kernel_rfl, by kernel_rfl, rfl⟩
/- 22: foghorn/field.tooLong -/
def p22 : Nat → Option PlanC := fun _ => none
def wl22 : Nat → List Nat := fun
  | 2 => [7]
  | _ => []
def wj22 : Nat → Option (List Nat) := fun _ => none
def kr22 : Nat → List Nat := fun _ => []
noncomputable def e22 : Ent := entOf Try.f22 ⟨p22, wl22, wj22, kr22, []⟩
theorem g22 : EntOk Try.prog tys stl 22 e22 := .inr ⟨rfl, Try.func22, by kernel_rfl, by kernel_rfl, by kernel_rfl, by kernel_rfl, by kernel_rfl, rfl⟩
/- 23: foghorn/field.product -/
def p23 : Nat → Option PlanC := fun
  | 11 => some (.op 0 false (.op 1 false (.op 2 false (.op 3 false (.op 4 false (.op 5 false (.op 6 false (.op 7 false (.op 8 false (.op 9 false (.op 10 false (.op 11 false (.done)))))))))))))
  | _ => none
def wl23 : Nat → List Nat := fun
  | 6 => [31]
  | 9 => [38]
  | _ => []
def wj23 : Nat → Option (List Nat) := fun _ => none
def kr23 : Nat → List Nat := fun _ => []
noncomputable def e23 : Ent := entOf Try.f23 ⟨p23, wl23, wj23, kr23, []⟩
theorem g23 : EntOk Try.prog tys stl 23 e23 := .inr ⟨rfl, Try.func23, by kernel_rfl, by kernel_rfl, by kernel_rfl, by kernel_rfl, by kernel_rfl, rfl⟩
/- 24: foghorn/field.trimmed -/
def p24 : Nat → Option PlanC := fun _ => none
def wl24 : Nat → List Nat := fun
  | 2 => [3]
  | _ => []
def wj24 : Nat → Option (List Nat) := fun _ => none
def kr24 : Nat → List Nat := fun _ => []
noncomputable def e24 : Ent := entOf Try.f24 ⟨p24, wl24, wj24, kr24, []⟩
theorem g24 : EntOk Try.prog tys stl 24 e24 := .inr ⟨rfl, Try.func24, by kernel_rfl, by kernel_rfl, by kernel_rfl, by kernel_rfl, by kernel_rfl, rfl⟩
noncomputable def ents : List (Nat × Ent) := [(13, e13), (17, e17), (20, e20), (21, e21), (22, e22), (23, e23), (24, e24)]
theorem goods : EntsOk Try.prog tys stl ents := ⟨g13, g17, g20, g21, g22, g23, g24, True.intro⟩
noncomputable def tab : Nat → Option Ent := (tabOf ents).get
theorem fok : FOk Try.prog tys stl tab := fok_of goods
noncomputable def d0 : Disp := .leaf
theorem d0_ok : CallSim Try.prog tys stl tab d0.fn := Disp.sim True.intro
/- foghorn/field.Times -/
noncomputable def R13 (q_bitW : (Nat → Nat → Nat) → Nat → Nat → Option CV → W → W → (W → Bool) → Bool) (q_cmpW : (Nat → Nat → Bool) → Nat → Option CV → W → W → (W → Bool) → Bool) (q_shlW : Nat → Nat → Nat → Option CV → W → W → (W → Bool) → Bool) (q_shrW : Nat → Nat → Option CV → W → W → (W → Bool) → Bool) (q_negW : Nat → Nat → Bool → Option CV → W → (W → Bool) → Bool) (q_condW : W → Bool → Bool → Bool) (fu : Nat) (call : CallW) (a0 : W) (a1 : W) (h0 : HW) (c0 : Nat) (K : KW) : Bool :=
@Nat.rec (fun _ => Fun 3) (fun _ _ _ _ _ => false) (fun _ f6 v1 v2 v3 h4 c5 =>
q_cmpW (cmpF2 .neq) 4 (binC Try.prog .neq 5 (.tmp 7) (.const (.int .u8 (.ofNat 0))) (dec v2) (dec ⟨4, 0, r0, []⟩)) v2 ⟨4, 0, r0, []⟩ fun v7 =>
q_condW v7 (
q_bitW Nat.land 4 255 (binC Try.prog .and 5 (.tmp 13) (.const (.int .u8 (.ofNat 1))) (dec v2) (dec ⟨4, 1, r0, []⟩)) v2 ⟨4, 1, r0, []⟩ fun v8 =>
q_negW 4 255 true (two Try.prog (dec v8) (Op.unary .neg)) v8 fun v9 =>
q_bitW Nat.land 4 255 (binC Try.prog .and 5 (.tmp 12) (.tmp 15) (dec v1) (dec v9)) v1 v9 fun v10 =>
q_bitW Nat.xor 4 255 (binC Try.prog .xor 5 (.tmp 11) (.tmp 16) (dec v3) (dec v10)) v3 v10 fun v11 =>
q_shrW 4 8 (binC Try.prog .shr 5 (.tmp 18) (.const (.int .u64 (.ofNat 7))) (dec v1) (dec ⟨7, 7, r0, []⟩)) v1 ⟨7, 7, r0, []⟩ fun v12 =>
q_negW 4 255 true (two Try.prog (dec v12) (Op.unary .neg)) v12 fun v13 =>
q_bitW Nat.land 4 255 (binC Try.prog .and 5 (.const (.int .u8 (.ofNat 29))) (.tmp 20) (dec ⟨4, 29, r0, []⟩) (dec v13)) ⟨4, 29, r0, []⟩ v13 fun v14 =>
q_shlW 4 255 8 (binC Try.prog .shl 5 (.tmp 22) (.const (.int .u64 (.ofNat 1))) (dec v1) (dec ⟨7, 1, r0, []⟩)) v1 ⟨7, 1, r0, []⟩ fun v15 =>
q_bitW Nat.xor 4 255 (binC Try.prog .xor 5 (.tmp 24) (.tmp 25) (dec v15) (dec v14)) v15 v14 fun v16 =>
q_shrW 4 8 (binC Try.prog .shr 5 (.tmp 9) (.const (.int .u64 (.ofNat 1))) (dec v2) (dec ⟨7, 1, r0, []⟩)) v2 ⟨7, 1, r0, []⟩ fun v17 =>
f6 v16 v17 v11 h4 c5) (
K v3 h4 c5)) fu a0 a1 ⟨4, 0, r0, []⟩ h0 c0
theorem R13_eq (Q : PrimW) (fu : Nat) (call : CallW) : curryA 2 (fnK Q Try.prog tys stl fu call e13) = R13 Q.bitW Q.cmpW Q.shlW Q.shrW Q.negW Q.condW fu call := by kernel_rfl
noncomputable def n13 : List W → HW → Nat → KW → Bool := appF 2 (R13 bitW cmpW shlW shrW negW condW 1000000 d0.fn)
theorem n13_ok : FnGood Try.prog tys stl tab 13 n13 := node_ok d0_ok (by kernel_rfl) rfl g13 (R13_eq real _ _)
/- foghorn/foghornref18.Same -/
noncomputable def R21 (q_addW : Nat → Nat → Option CV → W → W → (W → Bool) → Bool) (q_cmpW : (Nat → Nat → Bool) → Nat → Option CV → W → W → (W → Bool) → Bool) (q_condW : W → Bool → Bool → Bool) (q_idxSW : Nat → W → W → (W → Bool) → Bool) (q_lenW : Option CV → W → (W → Bool) → Bool) (q_loadSW : HW → W → (W → Bool) → Bool) (fu : Nat) (call : CallW) (a0 : W) (a1 : W) (h0 : HW) (c0 : Nat) (K : KW) : Bool :=
q_lenW (lenC tys 38 (dec a0)) a0 fun v1 =>
q_lenW (lenC tys 38 (dec a1)) a1 fun v2 =>
q_cmpW (cmpF2 .neq) 3 (binC Try.prog .neq 3 (.tmp 7) (.tmp 9) (dec v1) (dec v2)) v1 v2 fun v3 =>
q_condW v3 (
K ⟨8, 0, r0, []⟩ h0 c0) (
@Nat.rec (fun _ => Fun 1) (fun _ _ _ => false) (fun _ f7 v4 h5 c6 =>
q_lenW (lenC tys 38 (dec a0)) a0 fun v8 =>
q_cmpW (cmpF2 .lss) 3 (binC Try.prog .lss 3 (.tmp 11) (.tmp 13) (dec v4) (dec v8)) v4 v8 fun v9 =>
q_condW v9 (
q_idxSW 1 a0 v4 fun v10 =>
q_loadSW h5 v10 fun v11 =>
q_idxSW 1 a1 v4 fun v12 =>
q_loadSW h5 v12 fun v13 =>
q_cmpW (cmpF2 .neq) 4 (binC Try.prog .neq 5 (.tmp 20) (.tmp 24) (dec v11) (dec v13)) v11 v13 fun v14 =>
q_condW v14 (
K ⟨8, 0, r0, []⟩ h5 c6) (
q_addW 3 9223372036854775807 (binC Try.prog .add 3 (.tmp 15) (.const (.int .i64 (.ofNat 1))) (dec v4) (dec ⟨3, 1, r0, []⟩)) v4 ⟨3, 1, r0, []⟩ fun v15 =>
f7 v15 h5 c6)) (
K ⟨8, 1, r0, []⟩ h5 c6)) fu ⟨3, 0, r0, []⟩ h0 c0)
theorem R21_eq (Q : PrimW) (fu : Nat) (call : CallW) : curryA 2 (fnK Q Try.prog tys stl fu call e21) = R21 Q.addW Q.cmpW Q.condW Q.idxSW Q.lenW Q.loadSW fu call := by kernel_rfl
noncomputable def n21 : List W → HW → Nat → KW → Bool := appF 2 (R21 addW cmpW condW idxSW lenW loadSW 1000000 d0.fn)
theorem n21_ok : FnGood Try.prog tys stl tab 21 n21 := node_ok d0_ok (by kernel_rfl) rfl g21 (R21_eq real _ _)
/- foghorn/field.tooLong -/
noncomputable def R22 (q_addW : Nat → Nat → Option CV → W → W → (W → Bool) → Bool) (q_cmpW : (Nat → Nat → Bool) → Nat → Option CV → W → W → (W → Bool) → Bool) (q_condW : W → Bool → Bool → Bool) (q_idxSW : Nat → W → W → (W → Bool) → Bool) (q_lenW : Option CV → W → (W → Bool) → Bool) (q_loadSW : HW → W → (W → Bool) → Bool) (fu : Nat) (call : CallW) (a0 : W) (h0 : HW) (c0 : Nat) (K : KW) : Bool :=
q_lenW (lenC tys 44 (dec a0)) a0 fun v1 =>
@Nat.rec (fun _ => Fun 1) (fun _ _ _ => false) (fun _ f5 v2 h3 c4 =>
q_cmpW (cmpF2 .lss) 3 (binC Try.prog .lss 3 (.tmp 7) (.tmp 6) (dec v2) (dec v1)) v2 v1 fun v6 =>
q_condW v6 (
q_idxSW 1 a0 v2 fun v7 =>
q_loadSW h3 v7 fun v8 =>
q_lenW (lenC tys 38 (dec v8)) v8 fun v9 =>
q_cmpW (cmpF2 .gtr) 3 (binC Try.prog .gtr 3 (.tmp 12) (.const (.int .i64 (.ofNat 512))) (dec v9) (dec ⟨3, 512, r0, []⟩)) v9 ⟨3, 512, r0, []⟩ fun v10 =>
q_condW v10 (
K ⟨8, 1, r0, []⟩ h3 c4) (
q_addW 3 9223372036854775807 (binC Try.prog .add 3 (.tmp 7) (.const (.int .i64 (.ofNat 1))) (dec v2) (dec ⟨3, 1, r0, []⟩)) v2 ⟨3, 1, r0, []⟩ fun v11 =>
f5 v11 h3 c4)) (
K ⟨8, 0, r0, []⟩ h3 c4)) fu ⟨3, 0, r0, []⟩ h0 c0
theorem R22_eq (Q : PrimW) (fu : Nat) (call : CallW) : curryA 1 (fnK Q Try.prog tys stl fu call e22) = R22 Q.addW Q.cmpW Q.condW Q.idxSW Q.lenW Q.loadSW fu call := by kernel_rfl
noncomputable def n22 : List W → HW → Nat → KW → Bool := appF 1 (R22 addW cmpW condW idxSW lenW loadSW 1000000 d0.fn)
theorem n22_ok : FnGood Try.prog tys stl tab 22 n22 := node_ok d0_ok (by kernel_rfl) rfl g22 (R22_eq real _ _)
/- foghorn/field.trimmed -/
noncomputable def R24 (q_share : (α : Type) → α → (α → Bool) → Bool) (q_genW : Option CV → (W → Bool) → Bool) (q_subW : Nat → Nat → Option CV → W → W → (W → Bool) → Bool) (q_cmpW : (Nat → Nat → Bool) → Nat → Option CV → W → W → (W → Bool) → Bool) (q_condW : W → Bool → Bool → Bool) (q_guardW : Bool → W → Bool → Bool → Bool) (q_pickW : W → W → W → (W → Bool) → Bool) (q_idxSW : Nat → W → W → (W → Bool) → Bool) (q_lenW : Option CV → W → (W → Bool) → Bool) (q_loadSW : HW → W → (W → Bool) → Bool) (fu : Nat) (call : CallW) (a0 : W) (h0 : HW) (c0 : Nat) (K : KW) : Bool :=
q_lenW (lenC tys 38 (dec a0)) a0 fun v1 =>
@Nat.rec (fun _ => Fun 1) (fun _ _ _ => false) (fun _ f5 v2 h3 c4 =>
q_cmpW (cmpF2 .gtr) 3 (binC Try.prog .gtr 3 (.tmp 6) (.const (.int .i64 (.ofNat 0))) (dec v2) (dec ⟨3, 0, r0, []⟩)) v2 ⟨3, 0, r0, []⟩ fun v6 =>
q_share _ (fun (v8 : W) (h9 : HW) (c10 : Nat) =>
q_share _ (fun (v12 : W) (h13 : HW) (c14 : Nat) =>
q_share _ (fun (v16 : W) (h17 : HW) (c18 : Nat) =>
q_share _ (fun (v20 : W) (h21 : HW) (c22 : Nat) =>
q_share _ (fun (v24 : W) (h25 : HW) (c26 : Nat) =>
q_share _ (fun (v28 : W) (h29 : HW) (c30 : Nat) =>
q_pickW v6 v28 ⟨8, 0, r0, []⟩ fun v31 =>
q_condW v31 (
q_subW 3 9223372036854775807 (binC Try.prog .sub 3 (.tmp 16) (.const (.int .i64 (.ofNat 1))) (dec v2) (dec ⟨3, 1, r0, []⟩)) v2 ⟨3, 1, r0, []⟩ fun v32 =>
f5 v32 h29 c30) (
q_genW (sliceM tys ⟨[], 0, decH h29, 0⟩ 38 (dec a0) none (some (dec v2)) none) fun v33 =>
K v33 h29 c30)) fun f27 =>
q_guardW true v6 (q_cmpW (cmpF2 .eql) 4 (binC Try.prog .eql 5 (.tmp 13) (.const (.int .u8 (.ofNat 0))) (dec v24) (dec ⟨4, 0, r0, []⟩)) v24 ⟨4, 0, r0, []⟩ fun v34 =>
f27 v34 h25 c26) (f27 wUnd h25 c26)) fun f23 =>
q_guardW true v6 (q_loadSW h21 v20 fun v35 =>
f23 v35 h21 c22) (f23 wUnd h21 c22)) fun f19 =>
q_guardW true v6 (q_idxSW 1 v8 v16 fun v36 =>
f19 v36 h17 c18) (f19 wUnd h17 c18)) fun f15 =>
q_guardW true v6 (q_subW 3 9223372036854775807 (binC Try.prog .sub 3 (.tmp 10) (.const (.int .i64 (.ofNat 1))) (dec v12) (dec ⟨3, 1, r0, []⟩)) v12 ⟨3, 1, r0, []⟩ fun v37 =>
f15 v37 h13 c14) (f15 wUnd h13 c14)) fun f11 =>
q_guardW true v6 (f11 v2 h9 c10) (f11 wUnd h9 c10)) fun f7 =>
q_guardW true v6 (f7 a0 h3 c4) (f7 wUnd h3 c4)) fu v1 h0 c0
theorem R24_eq (Q : PrimW) (fu : Nat) (call : CallW) : curryA 1 (fnK Q Try.prog tys stl fu call e24) = R24 Q.share Q.genW Q.subW Q.cmpW Q.condW Q.guardW Q.pickW Q.idxSW Q.lenW Q.loadSW fu call := by kernel_rfl
noncomputable def n24 : List W → HW → Nat → KW → Bool := appF 1 (R24 (fun _ x f => f x) genW subW cmpW condW guardW pickW idxSW lenW loadSW 1000000 d0.fn)
theorem n24_ok : FnGood Try.prog tys stl tab 24 n24 := node_ok d0_ok (by kernel_rfl) rfl g24 (R24_eq real _ _)
noncomputable def d1 : Disp := (.node 22 n22 (.node 21 n21 (.node 13 n13 .leaf .leaf) .leaf) (.node 24 n24 .leaf .leaf))
theorem d1_ok : CallSim Try.prog tys stl tab d1.fn := Disp.sim ⟨n22_ok, ⟨n21_ok, ⟨n13_ok, True.intro, True.intro⟩, True.intro⟩, ⟨n24_ok, True.intro, True.intro⟩⟩
/- foghorn/field.product -/
noncomputable def R23 (q_share : (α : Type) → α → (α → Bool) → Bool) (q_addW : Nat → Nat → Option CV → W → W → (W → Bool) → Bool) (q_subW : Nat → Nat → Option CV → W → W → (W → Bool) → Bool) (q_bitW : (Nat → Nat → Nat) → Nat → Nat → Option CV → W → W → (W → Bool) → Bool) (q_cmpW : (Nat → Nat → Bool) → Nat → Option CV → W → W → (W → Bool) → Bool) (q_condW : W → Bool → Bool → Bool) (q_guardW : Bool → W → Bool → Bool → Bool) (q_pickW : W → W → W → (W → Bool) → Bool) (q_idxSW : Nat → W → W → (W → Bool) → Bool) (q_lenW : Option CV → W → (W → Bool) → Bool) (q_knownW : W → Bool → Bool) (q_loadSW : HW → W → (W → Bool) → Bool) (q_storeSW : HW → W → W → (HW → Bool) → Bool) (q_makeSW : Nat → Nat → Nat → Kind → List W → Bool → HW → Nat → W → W → KW → Bool) (fu : Nat) (call : CallW) (a0 : W) (a1 : W) (h0 : HW) (c0 : Nat) (K : KW) : Bool :=
call 24 [a0] h0 c0 fun v1 h2 c3 =>
call 24 [a1] h2 c3 fun v4 h5 c6 =>
q_lenW (lenC tys 38 (dec v1)) v1 fun v7 =>
q_cmpW (cmpF2 .eql) 3 (binC Try.prog .eql 3 (.tmp 15) (.const (.int .i64 (.ofNat 0))) (dec v7) (dec ⟨3, 0, r0, []⟩)) v7 ⟨3, 0, r0, []⟩ fun v8 =>
q_share _ (fun (v10 : W) (h11 : HW) (c12 : Nat) =>
q_share _ (fun (v14 : W) (h15 : HW) (c16 : Nat) =>
q_share _ (fun (v18 : W) (h19 : HW) (c20 : Nat) =>
q_pickW v8 ⟨8, 1, r0, []⟩ v18 fun v21 =>
q_condW v21 (
K ⟨12, 0, ⟨0, 0, 0, .nils⟩, []⟩ h19 c20) (
q_lenW (lenC tys 38 (dec v1)) v1 fun v22 =>
q_lenW (lenC tys 38 (dec v4)) v4 fun v23 =>
q_addW 3 9223372036854775807 (binC Try.prog .add 3 (.tmp 23) (.tmp 25) (dec v22) (dec v23)) v22 v23 fun v24 =>
q_subW 3 9223372036854775807 (binC Try.prog .sub 3 (.tmp 26) (.const (.int .i64 (.ofNat 1))) (dec v24) (dec ⟨3, 1, r0, []⟩)) v24 ⟨3, 1, r0, []⟩ fun v25 =>
q_makeSW 1 1 4 (.ints .u8) [⟨4, 0, r0, []⟩] true h19 c20 v25 v25 fun v26 h27 c28 =>
q_lenW (lenC tys 38 (dec v1)) v1 fun v29 =>
@Nat.rec (fun _ => Fun 1) (fun _ _ _ => false) (fun _ f33 v30 h31 c32 =>
q_cmpW (cmpF2 .lss) 3 (binC Try.prog .lss 3 (.tmp 31) (.tmp 30) (dec v30) (dec v29)) v30 v29 fun v34 =>
q_condW v34 (
q_idxSW 1 v1 v30 fun v35 =>
q_loadSW h31 v35 fun v36 =>
q_lenW (lenC tys 38 (dec v4)) v4 fun v37 =>
@Nat.rec (fun _ => Fun 1) (fun _ _ _ => false) (fun _ f41 v38 h39 c40 =>
q_cmpW (cmpF2 .lss) 3 (binC Try.prog .lss 3 (.tmp 38) (.tmp 37) (dec v38) (dec v37)) v38 v37 fun v42 =>
q_condW v42 (
q_idxSW 1 v4 v38 fun v43 =>
q_loadSW h39 v43 fun v44 =>
q_addW 3 9223372036854775807 (binC Try.prog .add 3 (.tmp 44) (.tmp 45) (dec v30) (dec v38)) v30 v38 fun v45 =>
q_idxSW 1 v26 v45 fun v46 =>
q_loadSW h39 v46 fun v47 =>
call 13 [v36, v44] h39 c40 fun v48 _ _ => q_knownW v48 (
q_bitW Nat.xor 4 255 (binC Try.prog .xor 5 (.tmp 48) (.tmp 51) (dec v47) (dec v48)) v47 v48 fun v49 =>
q_idxSW 1 v26 v45 fun v50 =>
q_storeSW h39 v50 v49 fun h51 =>
q_addW 3 9223372036854775807 (binC Try.prog .add 3 (.tmp 38) (.const (.int .i64 (.ofNat 1))) (dec v38) (dec ⟨3, 1, r0, []⟩)) v38 ⟨3, 1, r0, []⟩ fun v52 =>
f41 v52 h51 c40)) (
q_addW 3 9223372036854775807 (binC Try.prog .add 3 (.tmp 31) (.const (.int .i64 (.ofNat 1))) (dec v30) (dec ⟨3, 1, r0, []⟩)) v30 ⟨3, 1, r0, []⟩ fun v53 =>
f33 v53 h39 c40)) fu ⟨3, 0, r0, []⟩ h31 c32) (
K v26 h31 c32)) fu ⟨3, 0, r0, []⟩ h27 c28)) fun f17 =>
q_guardW false v8 (q_cmpW (cmpF2 .eql) 3 (binC Try.prog .eql 3 (.tmp 19) (.const (.int .i64 (.ofNat 0))) (dec v14) (dec ⟨3, 0, r0, []⟩)) v14 ⟨3, 0, r0, []⟩ fun v54 =>
f17 v54 h15 c16) (f17 wUnd h15 c16)) fun f13 =>
q_guardW false v8 (q_lenW (lenC tys 38 (dec v10)) v10 fun v55 =>
f13 v55 h11 c12) (f13 wUnd h11 c12)) fun f9 =>
q_guardW false v8 (f9 v4 h5 c6) (f9 wUnd h5 c6)
theorem R23_eq (Q : PrimW) (fu : Nat) (call : CallW) : curryA 2 (fnK Q Try.prog tys stl fu call e23) = R23 Q.share Q.addW Q.subW Q.bitW Q.cmpW Q.condW Q.guardW Q.pickW Q.idxSW Q.lenW Q.knownW Q.loadSW Q.storeSW Q.makeSW fu call := by kernel_rfl
noncomputable def n23 : List W → HW → Nat → KW → Bool := appF 2 (R23 (fun _ x f => f x) addW subW bitW cmpW condW guardW pickW idxSW lenW knownW loadSW storeSW makeSW 1000000 d1.fn)
theorem n23_ok : FnGood Try.prog tys stl tab 23 n23 := node_ok d1_ok (by kernel_rfl) rfl g23 (R23_eq real _ _)
noncomputable def d2 : Disp := (.node 22 n22 (.node 21 n21 (.node 13 n13 .leaf .leaf) .leaf) (.node 24 n24 (.node 23 n23 .leaf .leaf) .leaf))
theorem d2_ok : CallSim Try.prog tys stl tab d2.fn := Disp.sim ⟨n22_ok, ⟨n21_ok, ⟨n13_ok, True.intro, True.intro⟩, True.intro⟩, ⟨n24_ok, ⟨n23_ok, True.intro, True.intro⟩, True.intro⟩⟩
/- foghorn/field.Product -/
noncomputable def R20 (q_condW : W → Bool → Bool → Bool) (q_buildSW : Nat → Nat → Kind → Nat → Bool → HW → Nat → Nat → List W → KW → Bool) (fu : Nat) (call : CallW) (a0 : W) (a1 : W) (h0 : HW) (c0 : Nat) (K : KW) : Bool :=
q_buildSW 1 9 .avs 2 true h0 c0 2 [a0, a1] fun v1 h2 c3 =>
call 22 [v1] h2 c3 fun v4 h5 c6 =>
q_condW v4 (
K ⟨13, 0, r0, [⟨12, 0, ⟨0, 0, 0, .nils⟩, []⟩, ⟨3, 1, r0, []⟩]⟩ h5 c6) (
call 23 [a0, a1] h5 c6 fun v7 h8 c9 =>
q_buildSW 1 9 .avs 1 true h8 c9 1 [v7] fun v10 h11 c12 =>
call 22 [v10] h11 c12 fun v13 h14 c15 =>
q_condW v13 (
K ⟨13, 0, r0, [⟨12, 0, ⟨0, 0, 0, .nils⟩, []⟩, ⟨3, 1, r0, []⟩]⟩ h14 c15) (
K ⟨13, 0, r0, [v7, ⟨3, 0, r0, []⟩]⟩ h14 c15))
theorem R20_eq (Q : PrimW) (fu : Nat) (call : CallW) : curryA 2 (fnK Q Try.prog tys stl fu call e20) = R20 Q.condW Q.buildSW fu call := by kernel_rfl
noncomputable def n20 : List W → HW → Nat → KW → Bool := appF 2 (R20 condW buildSW 1000000 d2.fn)
theorem n20_ok : FnGood Try.prog tys stl tab 20 n20 := node_ok d2_ok (by kernel_rfl) rfl g20 (R20_eq real _ _)
noncomputable def d3 : Disp := (.node 22 n22 (.node 20 n20 (.node 13 n13 .leaf .leaf) (.node 21 n21 .leaf .leaf)) (.node 24 n24 (.node 23 n23 .leaf .leaf) .leaf))
theorem d3_ok : CallSim Try.prog tys stl tab d3.fn := Disp.sim ⟨n22_ok, ⟨n20_ok, ⟨n13_ok, True.intro, True.intro⟩, ⟨n21_ok, True.intro, True.intro⟩⟩, ⟨n24_ok, ⟨n23_ok, True.intro, True.intro⟩, True.intro⟩⟩
/- foghorn/foghornlaw18.awake -/
noncomputable def R17 (q_share : (α : Type) → α → (α → Bool) → Bool) (q_cmpW : (Nat → Nat → Bool) → Nat → Option CV → W → W → (W → Bool) → Bool) (q_guardW : Bool → W → Bool → Bool → Bool) (q_pickW : W → W → W → (W → Bool) → Bool) (q_tupW : W → (List W → Bool) → Bool) (q_nthW : Nat → List W → (W → Bool) → Bool) (q_buildSW : Nat → Nat → Kind → Nat → Bool → HW → Nat → Nat → List W → KW → Bool) (fu : Nat) (call : CallW) (h0 : HW) (c0 : Nat) (K : KW) : Bool :=
q_buildSW 1 4 (.ints .u8) 2 true h0 c0 2 [⟨4, 1, r0, []⟩, ⟨4, 1, r0, []⟩] fun v1 h2 c3 =>
q_buildSW 1 4 (.ints .u8) 2 true h2 c3 2 [⟨4, 1, r0, []⟩, ⟨4, 1, r0, []⟩] fun v4 h5 c6 =>
call 20 [v1, v4] h5 c6 fun v7 h8 c9 =>
q_tupW v7 fun l10 => q_nthW 0 l10 fun v11 =>
q_tupW v7 fun l12 => q_nthW 1 l12 fun v13 =>
call 13 [⟨4, 2, r0, []⟩, ⟨4, 128, r0, []⟩] h8 c9 fun v14 h15 c16 =>
q_cmpW (cmpF2 .eql) 4 (binC Try.prog .eql 5 (.tmp 9) (.const (.int .u8 (.ofNat 29))) (dec v14) (dec ⟨4, 29, r0, []⟩)) v14 ⟨4, 29, r0, []⟩ fun v17 =>
q_share _ (fun (v19 : W) (h20 : HW) (c21 : Nat) =>
q_share _ (fun (v23 : W) (h24 : HW) (c25 : Nat) =>
q_pickW v17 v23 ⟨8, 0, r0, []⟩ fun v26 =>
q_share _ (fun (v28 : W) (h29 : HW) (c30 : Nat) =>
q_share _ (fun (v32 : W) (h33 : HW) (c34 : Nat) =>
q_share _ (fun (v36 : W) (h37 : HW) (c38 : Nat) =>
q_pickW v26 v36 ⟨8, 0, r0, []⟩ fun v39 =>
K v39 h37 c38) fun f35 =>
q_guardW true v26 (call 21 [v28, v32] h33 c34 fun v40 h41 c42 =>
f35 v40 h41 c42) (f35 wUnd h33 c34)) fun f31 =>
q_guardW true v26 (q_buildSW 1 4 (.ints .u8) 3 true h29 c30 3 [⟨4, 1, r0, []⟩, ⟨4, 0, r0, []⟩, ⟨4, 1, r0, []⟩] fun v43 h44 c45 =>
f31 v43 h44 c45) (f31 wUnd h29 c30)) fun f27 =>
q_guardW true v26 (f27 v11 h24 c25) (f27 wUnd h24 c25)) fun f22 =>
q_guardW true v17 (q_cmpW (cmpF2 .eql) 3 (binC Try.prog .eql 22 (.tmp 12) (.const (.int .i64 (.ofNat 0))) (dec v19) (dec ⟨3, 0, r0, []⟩)) v19 ⟨3, 0, r0, []⟩ fun v46 =>
f22 v46 h20 c21) (f22 wUnd h20 c21)) fun f18 =>
q_guardW true v17 (f18 v13 h15 c16) (f18 wUnd h15 c16)
theorem R17_eq (Q : PrimW) (fu : Nat) (call : CallW) : curryA 0 (fnK Q Try.prog tys stl fu call e17) = R17 Q.share Q.cmpW Q.guardW Q.pickW Q.tupW Q.nthW Q.buildSW fu call := by kernel_rfl
noncomputable def n17 : List W → HW → Nat → KW → Bool := appF 0 (R17 (fun _ x f => f x) cmpW guardW pickW tupW nthW buildSW 1000000 d3.fn)
theorem n17_ok : FnGood Try.prog tys stl tab 17 n17 := node_ok d3_ok (by kernel_rfl) rfl g17 (R17_eq real _ _)
noncomputable def d4 : Disp := (.node 21 n21 (.node 17 n17 (.node 13 n13 .leaf .leaf) (.node 20 n20 .leaf .leaf)) (.node 23 n23 (.node 22 n22 .leaf .leaf) (.node 24 n24 .leaf .leaf)))
theorem d4_ok : CallSim Try.prog tys stl tab d4.fn := Disp.sim ⟨n21_ok, ⟨n17_ok, ⟨n13_ok, True.intro, True.intro⟩, ⟨n20_ok, True.intro, True.intro⟩⟩, ⟨n23_ok, ⟨n22_ok, True.intro, True.intro⟩, ⟨n24_ok, True.intro, True.intro⟩⟩⟩
noncomputable abbrev dT : Disp := d4
theorem dT_ok : CallSim Try.prog tys stl tab dT.fn := d4_ok
set_option maxHeartbeats 0 in
theorem run17 : lawK dT.fn 17 = true := by kernel_rfl
theorem awake_f : Fits Try.prog 17 ⟨[], [], [⟨Unit, fun _ => True, fun _ => .bool true, fun _ => []⟩]⟩ :=
  lawK_fits tok mixed fok dT_ok (by kernel_rfl : tab 17 = some e17) rfl run17
end Go.Proofs.Ytogdjpjhdffgkaa
