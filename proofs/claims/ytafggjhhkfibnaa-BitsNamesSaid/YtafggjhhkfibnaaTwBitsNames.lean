/-
  The functions that the run goes through, as tables, and the run of a function without arguments. No condition.
-/
import Derived.Test.YtafggjhhkfibnaaRows
import Derived.Test.YtafggjhhkfibnaaGx
set_option linter.unusedVariables false
set_option maxRecDepth 1000000
namespace Go.Proofs.Ytafggjhhkfibnaa
open Go Go.Fw
def tys : List (Nat × TyI) := [
  (1, ⟨.func, 1, 8, .nilFunc⟩),
  (2, ⟨.int .i64, 1, 8, .int .i64 0⟩),
  (3, ⟨.int .i64, 1, 8, .int .i64 0⟩),
  (4, ⟨.bool, 1, 1, .bool false⟩),
  (5, ⟨.int .u8, 1, 1, .int .u8 0⟩),
  (9, ⟨.str, 1, 16, .string (ByteArray.mk #[])⟩),
  (12, ⟨.int .u64, 1, 8, .int .u64 0⟩),
  (21, ⟨.int .i32, 1, 4, .int .i32 0⟩),
  (22, ⟨.func, 1, 8, .nilFunc⟩),
  (23, ⟨.slice 4, 1, 24, .slice none 0 0⟩),
  (24, ⟨.int .i64, 1, 8, .int .i64 0⟩),
  (26, ⟨.func, 1, 8, .nilFunc⟩),
  (28, ⟨.func, 1, 8, .nilFunc⟩),
  (29, ⟨.slice 3, 1, 24, .slice none 0 0⟩),
  (31, ⟨.func, 1, 8, .nilFunc⟩),
  (32, ⟨.func, 1, 8, .nilFunc⟩),
  (33, ⟨.func, 1, 8, .nilFunc⟩),
  (34, ⟨.func, 1, 8, .nilFunc⟩),
  (35, ⟨.func, 1, 8, .nilFunc⟩),
  (36, ⟨.func, 1, 8, .nilFunc⟩),
  (38, ⟨.func, 1, 8, .nilFunc⟩),
  (39, ⟨.func, 1, 8, .nilFunc⟩),
  (41, ⟨.func, 1, 8, .nilFunc⟩),
  (42, ⟨.func, 1, 8, .nilFunc⟩),
  (43, ⟨.func, 1, 8, .nilFunc⟩),
  (44, ⟨.func, 1, 8, .nilFunc⟩),
  (45, ⟨.func, 1, 8, .nilFunc⟩),
  (46, ⟨.slice 5, 1, 24, .slice none 0 0⟩),
  (47, ⟨.func, 1, 8, .nilFunc⟩),
  (48, ⟨.func, 1, 8, .nilFunc⟩),
  (49, ⟨.func, 1, 8, .nilFunc⟩),
  (50, ⟨.int .u64, 1, 8, .int .u64 0⟩),
  (51, ⟨.func, 1, 8, .nilFunc⟩),
  (52, ⟨.func, 1, 8, .nilFunc⟩),
  (53, ⟨.func, 1, 8, .nilFunc⟩),
  (59, ⟨.func, 1, 8, .nilFunc⟩),
  (60, ⟨.int .u32, 1, 4, .int .u32 0⟩),
  (63, ⟨.func, 1, 8, .nilFunc⟩),
  (64, ⟨.ptr 5, 1, 8, .pointer none⟩)]


theorem tok : TOk Try.prog tys := tok_of ⟨⟨by kernel_rfl, by kernel_rfl⟩, ⟨by kernel_rfl, by kernel_rfl⟩, ⟨by kernel_rfl, by kernel_rfl⟩, ⟨by kernel_rfl, by kernel_rfl⟩, ⟨by kernel_rfl, by kernel_rfl⟩, ⟨by kernel_rfl, by kernel_rfl⟩, ⟨by kernel_rfl, by kernel_rfl⟩, ⟨by kernel_rfl, by kernel_rfl⟩, ⟨by kernel_rfl, by kernel_rfl⟩, ⟨by kernel_rfl, by kernel_rfl⟩, ⟨by kernel_rfl, by kernel_rfl⟩, ⟨by kernel_rfl, by kernel_rfl⟩, ⟨by kernel_rfl, by kernel_rfl⟩, ⟨by kernel_rfl, by kernel_rfl⟩, ⟨by kernel_rfl, by kernel_rfl⟩, ⟨by kernel_rfl, by kernel_rfl⟩, ⟨by kernel_rfl, by kernel_rfl⟩, ⟨by kernel_rfl, by kernel_rfl⟩, ⟨by kernel_rfl, by kernel_rfl⟩, ⟨by kernel_rfl, by kernel_rfl⟩, ⟨by kernel_rfl, by kernel_rfl⟩, ⟨by kernel_rfl, by kernel_rfl⟩, ⟨by kernel_rfl, by kernel_rfl⟩, ⟨by kernel_rfl, by kernel_rfl⟩, ⟨by kernel_rfl, by kernel_rfl⟩, ⟨by kernel_rfl, by kernel_rfl⟩, ⟨by kernel_rfl, by kernel_rfl⟩, ⟨by kernel_rfl, by kernel_rfl⟩, ⟨by kernel_rfl, by kernel_rfl⟩, ⟨by kernel_rfl, by kernel_rfl⟩, ⟨by kernel_rfl, by kernel_rfl⟩, ⟨by kernel_rfl, by kernel_rfl⟩, ⟨by kernel_rfl, by kernel_rfl⟩, ⟨by kernel_rfl, by kernel_rfl⟩, ⟨by kernel_rfl, by kernel_rfl⟩, ⟨by kernel_rfl, by kernel_rfl⟩, ⟨by kernel_rfl, by kernel_rfl⟩, ⟨by kernel_rfl, by kernel_rfl⟩, ⟨by kernel_rfl, by kernel_rfl⟩, True.intro⟩
theorem mixed : Try.prog.follows .mixedOrders = true := by kernel_rfl
def inL : List Nat → Nat → Bool
  | [], _ => false
  | a :: r, n => match Nat.beq a n with | true => true | false => inL r n
def stl : Nat → Bool := inL [12, 15, 19, 20, 21, 22]
/- 4: foghorn/foghornlaw01.works -/
def p4 : Nat → Option PlanC := fun _ => none
def wl4 : Nat → List Nat := fun _ => []
def wj4 : Nat → Option (List Nat) := fun _ => none
def kr4 : Nat → List Nat := fun _ => []
noncomputable def e4 : Ent := entOf Try.f4 ⟨p4, wl4, wj4, kr4, []⟩
theorem g4 : EntOk Try.prog tys stl 4 e4 := .inr ⟨rfl, Try.func4, by kernel_rfl, by kernel_rfl, by kernel_rfl, by kernel_rfl, by kernel_rfl, rfl⟩
/- 6: foghorn/bits.Of -/
def p6 : Nat → Option PlanC := fun _ => none
def wl6 : Nat → List Nat := fun
  | 5 => [4, 15]
  | _ => []
def wj6 : Nat → Option (List Nat) := fun _ => none
def kr6 : Nat → List Nat := fun _ => []
noncomputable def e6 : Ent := entOf Try.f6 ⟨p6, wl6, wj6, kr6, []⟩
theorem g6 : EntOk Try.prog tys stl 6 e6 := .inr ⟨rfl, Try.func6, by kernel_rfl, by kernel_rfl, by kernel_rfl, by kernel_rfl, by kernel_rfl, rfl⟩
/- 7: foghorn/bits.Words -/
def p7 : Nat → Option PlanC := fun _ => none
def wl7 : Nat → List Nat := fun
  | 5 => [32]
  | 8 => [45]
  | _ => []
def wj7 : Nat → Option (List Nat) := fun
  | 13 => some []
  | _ => none
def kr7 : Nat → List Nat := fun _ => []
noncomputable def e7 : Ent := entOf Try.f7 ⟨p7, wl7, wj7, kr7, []⟩
theorem g7 : EntOk Try.prog tys stl 7 e7 := .inr ⟨rfl, Try.func7, by kernel_rfl, by kernel_rfl, by kernel_rfl, by kernel_rfl, by kernel_rfl, rfl⟩
/- 12: foghorn/bits.Weight -/
def p12 : Nat → Option PlanC := fun _ => none
def wl12 : Nat → List Nat := fun
  | 3 => [3, 8]
  | _ => []
def wj12 : Nat → Option (List Nat) := fun
  | 7 => some [3]
  | _ => none
def kr12 : Nat → List Nat := fun _ => []
noncomputable def e12 : Ent := entOf Try.f12 ⟨p12, wl12, wj12, kr12, []⟩
theorem g12 : EntOk Try.prog tys stl 12 e12 := .inr ⟨rfl, Try.func12, by kernel_rfl, by kernel_rfl, by kernel_rfl, by kernel_rfl, by kernel_rfl, rfl⟩
/- 14: foghorn/bits.Text -/
def p14 : Nat → Option PlanC := fun _ => none
def wl14 : Nat → List Nat := fun
  | 3 => [11]
  | _ => []
def wj14 : Nat → Option (List Nat) := fun
  | 8 => some []
  | _ => none
def kr14 : Nat → List Nat := fun _ => []
noncomputable def e14 : Ent := entOf Try.f14 ⟨p14, wl14, wj14, kr14, []⟩
theorem g14 : EntOk Try.prog tys stl 14 e14 := .inr ⟨rfl, Try.func14, by kernel_rfl, by kernel_rfl, by kernel_rfl, by kernel_rfl, by kernel_rfl, rfl⟩
/- 15: foghorn/bits.Gray -/
def p15 : Nat → Option PlanC := fun _ => none
def wl15 : Nat → List Nat := fun _ => []
def wj15 : Nat → Option (List Nat) := fun _ => none
def kr15 : Nat → List Nat := fun _ => []
noncomputable def e15 : Ent := entOf Try.f15 ⟨p15, wl15, wj15, kr15, []⟩
theorem g15 : EntOk Try.prog tys stl 15 e15 := .inr ⟨rfl, Try.func15, by kernel_rfl, by kernel_rfl, by kernel_rfl, by kernel_rfl, by kernel_rfl, rfl⟩
/- 16: foghorn/foghornlaw01.sameInts -/
def p16 : Nat → Option PlanC := fun _ => none
def wl16 : Nat → List Nat := fun
  | 4 => [5]
  | _ => []
def wj16 : Nat → Option (List Nat) := fun _ => none
def kr16 : Nat → List Nat := fun _ => []
noncomputable def e16 : Ent := entOf Try.f16 ⟨p16, wl16, wj16, kr16, []⟩
theorem g16 : EntOk Try.prog tys stl 16 e16 := .inr ⟨rfl, Try.func16, by kernel_rfl, by kernel_rfl, by kernel_rfl, by kernel_rfl, by kernel_rfl, rfl⟩
/- 17: foghorn/bits.Pieces -/
def p17 : Nat → Option PlanC := fun _ => none
def wl17 : Nat → List Nat := fun _ => []
def wj17 : Nat → Option (List Nat) := fun _ => none
def kr17 : Nat → List Nat := fun _ => []
noncomputable def e17 : Ent := entOf Try.f17 ⟨p17, wl17, wj17, kr17, []⟩
theorem g17 : EntOk Try.prog tys stl 17 e17 := .inr ⟨rfl, Try.func17, by kernel_rfl, by kernel_rfl, by kernel_rfl, by kernel_rfl, by kernel_rfl, rfl⟩
/- 18: foghorn/bits.appendWord -/
def p18 : Nat → Option PlanC := fun _ => none
def wl18 : Nat → List Nat := fun
  | 2 => [0, 9]
  | _ => []
def wj18 : Nat → Option (List Nat) := fun _ => none
def kr18 : Nat → List Nat := fun
  | 4 => [21]
  | _ => []
noncomputable def e18 : Ent := entOf Try.f18 ⟨p18, wl18, wj18, kr18, []⟩
theorem g18 : EntOk Try.prog tys stl 18 e18 := .inr ⟨rfl, Try.func18, by kernel_rfl, by kernel_rfl, by kernel_rfl, by kernel_rfl, by kernel_rfl, rfl⟩
/- 19: foghorn/bits.isWidth -/
def p19 : Nat → Option PlanC := fun _ => none
def wl19 : Nat → List Nat := fun _ => []
def wj19 : Nat → Option (List Nat) := fun _ => none
def kr19 : Nat → List Nat := fun _ => []
noncomputable def e19 : Ent := entOf Try.f19 ⟨p19, wl19, wj19, kr19, []⟩
theorem g19 : EntOk Try.prog tys stl 19 e19 := .inr ⟨rfl, Try.func19, by kernel_rfl, by kernel_rfl, by kernel_rfl, by kernel_rfl, by kernel_rfl, rfl⟩
/- 20: foghorn/bits.isRow -/
def p20 : Nat → Option PlanC := fun _ => none
def wl20 : Nat → List Nat := fun _ => []
def wj20 : Nat → Option (List Nat) := fun _ => none
def kr20 : Nat → List Nat := fun _ => []
noncomputable def e20 : Ent := entOf Try.f20 ⟨p20, wl20, wj20, kr20, []⟩
theorem g20 : EntOk Try.prog tys stl 20 e20 := .inr ⟨rfl, Try.func20, by kernel_rfl, by kernel_rfl, by kernel_rfl, by kernel_rfl, by kernel_rfl, rfl⟩
/- 21: foghorn/bits.isGray -/
def p21 : Nat → Option PlanC := fun _ => none
def wl21 : Nat → List Nat := fun _ => []
def wj21 : Nat → Option (List Nat) := fun _ => none
def kr21 : Nat → List Nat := fun _ => []
noncomputable def e21 : Ent := entOf Try.f21 ⟨p21, wl21, wj21, kr21, []⟩
theorem g21 : EntOk Try.prog tys stl 21 e21 := .inr ⟨rfl, Try.func21, by kernel_rfl, by kernel_rfl, by kernel_rfl, by kernel_rfl, by kernel_rfl, rfl⟩
/- 22: foghorn/bits.Pieces$1 -/
def p22 : Nat → Option PlanC := fun _ => none
def wl22 : Nat → List Nat := fun _ => []
def wj22 : Nat → Option (List Nat) := fun _ => none
def kr22 : Nat → List Nat := fun _ => []
noncomputable def e22 : Ent := entOf Try.f22 ⟨p22, wl22, wj22, kr22, []⟩
theorem g22 : EntOk Try.prog tys stl 22 e22 := .inr ⟨rfl, Try.func22, by kernel_rfl, by kernel_rfl, by kernel_rfl, by kernel_rfl, by kernel_rfl, rfl⟩
/- 23: slices.Clone[[]bool,bool] -/
def p23 : Nat → Option PlanC := fun _ => none
def wl23 : Nat → List Nat := fun _ => []
def wj23 : Nat → Option (List Nat) := fun _ => none
def kr23 : Nat → List Nat := fun _ => []
noncomputable def e23 : Ent := entOf Try.f23 ⟨p23, wl23, wj23, kr23, []⟩
theorem g23 : EntOk Try.prog tys stl 23 e23 := .inr ⟨rfl, Try.func23, by kernel_rfl, by kernel_rfl, by kernel_rfl, by kernel_rfl, by kernel_rfl, rfl⟩
/- 24: foghorn/bits.Pieces$2 -/
def p24 : Nat → Option PlanC := fun _ => none
def wl24 : Nat → List Nat := fun
  | 1 => [4]
  | _ => []
def wj24 : Nat → Option (List Nat) := fun _ => none
def kr24 : Nat → List Nat := fun _ => []
noncomputable def e24 : Ent := entOf Try.f24 ⟨p24, wl24, wj24, kr24, []⟩
theorem g24 : EntOk Try.prog tys stl 24 e24 := .inr ⟨rfl, Try.func24, by kernel_rfl, by kernel_rfl, by kernel_rfl, by kernel_rfl, by kernel_rfl, rfl⟩
noncomputable def ents : List (Nat × Ent) := [(4, e4), (6, e6), (7, e7), (12, e12), (14, e14), (15, e15), (16, e16), (17, e17), (18, e18), (19, e19), (20, e20), (21, e21), (22, e22), (23, e23), (24, e24)]
theorem goods : EntsOk Try.prog tys stl ents := ⟨g4, g6, g7, g12, g14, g15, g16, g17, g18, g19, g20, g21, g22, g23, g24, True.intro⟩
noncomputable def tab : Nat → Option Ent := (tabOf ents).get
theorem fok : FOk Try.prog tys stl tab := fok_of goods
noncomputable def d0 : Disp := .leaf
theorem d0_ok : CallSim Try.prog tys stl tab d0.fn := Disp.sim True.intro
/- foghorn/foghornlaw01.works -/
noncomputable def R4 (q_share : (α : Type) → α → (α → Bool) → Bool) (q_genW : Option CV → (W → Bool) → Bool) (q_cmpW : (Nat → Nat → Bool) → Nat → Option CV → W → W → (W → Bool) → Bool) (q_guardW : Bool → W → Bool → Bool → Bool) (q_pickW : W → W → W → (W → Bool) → Bool) (q_tupW : W → (List W → Bool) → Bool) (q_nthW : Nat → List W → (W → Bool) → Bool) (q_buildSW : Nat → Nat → Kind → Nat → Bool → HW → Nat → Nat → List W → KW → Bool) (fu : Nat) (call : CallW) (h0 : HW) (c0 : Nat) (K : KW) : Bool :=
call 6 [⟨12, 0, ⟨0, 0, 0, .str ⟨⟨[65]⟩⟩⟩, []⟩] h0 c0 fun v1 h2 c3 =>
q_tupW v1 fun l4 => q_nthW 0 l4 fun v5 =>
q_tupW v1 fun l6 => q_nthW 1 l6 fun v7 =>
call 7 [v5, ⟨3, 4, r0, []⟩] h2 c3 fun v8 h9 c10 =>
q_tupW v8 fun l11 => q_nthW 0 l11 fun v12 =>
q_tupW v8 fun l13 => q_nthW 1 l13 fun v14 =>
call 15 [⟨3, 7, r0, []⟩] h9 c10 fun v15 h16 c17 =>
q_tupW v15 fun l18 => q_nthW 0 l18 fun v19 =>
q_tupW v15 fun l20 => q_nthW 1 l20 fun v21 =>
q_cmpW (cmpF2 .eql) 3 (binC Try.prog .eql 24 (.tmp 20) (.const (.int .i64 (.ofNat 0))) (dec v7) (dec ⟨3, 0, r0, []⟩)) v7 ⟨3, 0, r0, []⟩ fun v22 =>
q_share _ (fun (v24 : W) (h25 : HW) (c26 : Nat) =>
q_share _ (fun (v28 : W) (h29 : HW) (c30 : Nat) =>
q_pickW v22 v28 ⟨8, 0, r0, []⟩ fun v31 =>
q_share _ (fun (v33 : W) (h34 : HW) (c35 : Nat) =>
q_share _ (fun (v37 : W) (h38 : HW) (c39 : Nat) =>
q_pickW v31 v37 ⟨8, 0, r0, []⟩ fun v40 =>
q_share _ (fun (v42 : W) (h43 : HW) (c44 : Nat) =>
q_share _ (fun (v46 : W) (h47 : HW) (c48 : Nat) =>
q_pickW v40 v46 ⟨8, 0, r0, []⟩ fun v49 =>
q_share _ (fun (v51 : W) (h52 : HW) (c53 : Nat) =>
q_share _ (fun (v55 : W) (h56 : HW) (c57 : Nat) =>
q_share _ (fun (v59 : W) (h60 : HW) (c61 : Nat) =>
q_pickW v49 v59 ⟨8, 0, r0, []⟩ fun v62 =>
q_share _ (fun (v64 : W) (h65 : HW) (c66 : Nat) =>
q_share _ (fun (v68 : W) (h69 : HW) (c70 : Nat) =>
q_share _ (fun (v72 : W) (h73 : HW) (c74 : Nat) =>
q_pickW v62 v72 ⟨8, 0, r0, []⟩ fun v75 =>
q_share _ (fun (v77 : W) (h78 : HW) (c79 : Nat) =>
q_share _ (fun (v81 : W) (h82 : HW) (c83 : Nat) =>
q_share _ (fun (v85 : W) (h86 : HW) (c87 : Nat) =>
q_pickW v75 v85 ⟨8, 0, r0, []⟩ fun v88 =>
q_share _ (fun (v90 : W) (h91 : HW) (c92 : Nat) =>
q_share _ (fun (v94 : W) (h95 : HW) (c96 : Nat) =>
q_share _ (fun (v98 : W) (h99 : HW) (c100 : Nat) =>
q_pickW v88 v98 ⟨8, 0, r0, []⟩ fun v101 =>
K v101 h99 c100) fun f97 =>
q_guardW true v88 (q_genW (binC Try.prog .neq 44 (.tmp 51) (.const .nilFunc) (dec v94) (dec ⟨12, 0, ⟨0, 0, 0, .nilf⟩, []⟩)) fun v102 =>
f97 v102 h95 c96) (f97 wUnd h95 c96)) fun f93 =>
q_guardW true v88 (call 17 [v90, ⟨3, 3, r0, []⟩] h91 c92 fun v103 h104 c105 =>
f93 v103 h104 c105) (f93 wUnd h91 c92)) fun f89 =>
q_guardW true v88 (f89 v5 h86 c87) (f89 wUnd h86 c87)) fun f84 =>
q_guardW true v75 (q_cmpW (cmpF2 .eql) 3 (binC Try.prog .eql 3 (.tmp 46) (.const (.int .i64 (.ofNat 2))) (dec v81) (dec ⟨3, 2, r0, []⟩)) v81 ⟨3, 2, r0, []⟩ fun v106 =>
f84 v106 h82 c83) (f84 wUnd h82 c83)) fun f80 =>
q_guardW true v75 (call 12 [v77] h78 c79 fun v107 h108 c109 =>
f80 v107 h108 c109) (f80 wUnd h78 c79)) fun f76 =>
q_guardW true v75 (f76 v5 h73 c74) (f76 wUnd h73 c74)) fun f71 =>
q_guardW true v62 (call 16 [v64, v68] h69 c70 fun v110 h111 c112 =>
f71 v110 h111 c112) (f71 wUnd h69 c70)) fun f67 =>
q_guardW true v62 (q_buildSW 1 3 (.ints .i64) 2 true h65 c66 2 [⟨3, 4, r0, []⟩, ⟨3, 1, r0, []⟩] fun v113 h114 c115 =>
f67 v113 h114 c115) (f67 wUnd h65 c66)) fun f63 =>
q_guardW true v62 (f63 v12 h60 c61) (f63 wUnd h60 c61)) fun f58 =>
q_guardW true v49 (q_genW (binC Try.prog .eql 9 (.tmp 36) (.const (.string ⟨⟨[48, 49, 48, 48, 48, 48, 48, 49]⟩⟩)) (dec v55) (dec ⟨12, 0, ⟨0, 0, 0, .str ⟨⟨[48, 49, 48, 48, 48, 48, 48, 49]⟩⟩⟩, []⟩)) fun v116 =>
f58 v116 h56 c57) (f58 wUnd h56 c57)) fun f54 =>
q_guardW true v49 (call 14 [v51] h52 c53 fun v117 h118 c119 =>
f54 v117 h118 c119) (f54 wUnd h52 c53)) fun f50 =>
q_guardW true v49 (f50 v5 h47 c48) (f50 wUnd h47 c48)) fun f45 =>
q_guardW true v40 (q_cmpW (cmpF2 .eql) 3 (binC Try.prog .eql 3 (.tmp 31) (.const (.int .i64 (.ofNat 4))) (dec v42) (dec ⟨3, 4, r0, []⟩)) v42 ⟨3, 4, r0, []⟩ fun v120 =>
f45 v120 h43 c44) (f45 wUnd h43 c44)) fun f41 =>
q_guardW true v40 (f41 v19 h38 c39) (f41 wUnd h38 c39)) fun f36 =>
q_guardW true v31 (q_cmpW (cmpF2 .eql) 3 (binC Try.prog .eql 24 (.tmp 27) (.const (.int .i64 (.ofNat 0))) (dec v33) (dec ⟨3, 0, r0, []⟩)) v33 ⟨3, 0, r0, []⟩ fun v121 =>
f36 v121 h34 c35) (f36 wUnd h34 c35)) fun f32 =>
q_guardW true v31 (f32 v21 h29 c30) (f32 wUnd h29 c30)) fun f27 =>
q_guardW true v22 (q_cmpW (cmpF2 .eql) 3 (binC Try.prog .eql 24 (.tmp 23) (.const (.int .i64 (.ofNat 0))) (dec v24) (dec ⟨3, 0, r0, []⟩)) v24 ⟨3, 0, r0, []⟩ fun v122 =>
f27 v122 h25 c26) (f27 wUnd h25 c26)) fun f23 =>
q_guardW true v22 (f23 v14 h16 c17) (f23 wUnd h16 c17)
theorem R4_eq (Q : PrimW) (fu : Nat) (call : CallW) : curryA 0 (fnK Q Try.prog tys stl fu call e4) = R4 Q.share Q.genW Q.cmpW Q.guardW Q.pickW Q.tupW Q.nthW Q.buildSW fu call := by kernel_rfl
noncomputable def n4 (call : CallW) : List W → HW → Nat → KW → Bool := appF 0 (R4 (fun _ x f => f x) genW cmpW guardW pickW tupW nthW buildSW 1000000 call)
theorem n4_ok {call : CallW} (h : CallSim Try.prog tys stl tab call) : FnGood Try.prog tys stl tab 4 (n4 call) := node_ok h (by kernel_rfl) rfl g4 (R4_eq real _ _)
/- foghorn/bits.Of -/
noncomputable def R6 (q_genW : Option CV → (W → Bool) → Bool) (q_addW : Nat → Nat → Option CV → W → W → (W → Bool) → Bool) (q_mulW : Nat → Nat → Option CV → W → W → (W → Bool) → Bool) (q_cmpW : (Nat → Nat → Bool) → Nat → Option CV → W → W → (W → Bool) → Bool) (q_icvW : Nat → Nat → Option CV → W → (W → Bool) → Bool) (q_condW : W → Bool → Bool → Bool) (q_makeSW : Nat → Nat → Nat → Kind → List W → Bool → HW → Nat → W → W → KW → Bool) (fu : Nat) (call : CallW) (a0 : W) (h0 : HW) (c0 : Nat) (K : KW) : Bool :=
q_genW (lenMC Try.prog tys ⟨[], 0, decH h0, 0⟩ 9 (dec a0)) fun v1 =>
q_cmpW (cmpF2 .gtr) 3 (binC Try.prog .gtr 3 (.tmp 7) (.const (.int .i64 (.ofNat 4096))) (dec v1) (dec ⟨3, 4096, r0, []⟩)) v1 ⟨3, 4096, r0, []⟩ fun v2 =>
q_condW v2 (
K ⟨13, 0, r0, [⟨12, 0, ⟨0, 0, 0, .nils⟩, []⟩, ⟨3, 1, r0, []⟩]⟩ h0 c0) (
q_genW (lenMC Try.prog tys ⟨[], 0, decH h0, 0⟩ 9 (dec a0)) fun v3 =>
q_mulW 3 9223372036854775807 (binC Try.prog .mul 3 (.const (.int .i64 (.ofNat 8))) (.tmp 10) (dec ⟨3, 8, r0, []⟩) (dec v3)) ⟨3, 8, r0, []⟩ v3 fun v4 =>
q_makeSW 1 1 8 .bools [⟨8, 0, r0, []⟩] true h0 c0 ⟨3, 0, r0, []⟩ v4 fun v5 h6 c7 =>
q_genW (lenMC Try.prog tys ⟨[], 0, decH h6, 0⟩ 9 (dec a0)) fun v8 =>
@Nat.rec (fun _ => Fun 2) (fun _ _ _ _ => false) (fun _ f13 v9 v10 h11 c12 =>
q_cmpW (cmpF2 .lss) 3 (binC Try.prog .lss 3 (.tmp 15) (.tmp 14) (dec v10) (dec v8)) v10 v8 fun v14 =>
q_condW v14 (
q_genW (two2 Try.prog (dec a0) (dec v10) (Instr.index 9)) fun v15 =>
q_icvW 3 9223372036854775807 (convC Try.prog tys ⟨[], 0, decH h11, 0⟩ 5 3 (dec v15)) v15 fun v16 =>
call 18 [v9, v16, ⟨3, 8, r0, []⟩] h11 c12 fun v17 h18 c19 =>
q_addW 3 9223372036854775807 (binC Try.prog .add 3 (.tmp 15) (.const (.int .i64 (.ofNat 1))) (dec v10) (dec ⟨3, 1, r0, []⟩)) v10 ⟨3, 1, r0, []⟩ fun v20 =>
f13 v17 v20 h18 c19) (
K ⟨13, 0, r0, [v9, ⟨3, 0, r0, []⟩]⟩ h11 c12)) fu v5 ⟨3, 0, r0, []⟩ h6 c7)
theorem R6_eq (Q : PrimW) (fu : Nat) (call : CallW) : curryA 1 (fnK Q Try.prog tys stl fu call e6) = R6 Q.genW Q.addW Q.mulW Q.cmpW Q.icvW Q.condW Q.makeSW fu call := by kernel_rfl
noncomputable def n6 (call : CallW) : List W → HW → Nat → KW → Bool := appF 1 (R6 genW addW mulW cmpW icvW condW makeSW 1000000 call)
theorem n6_ok {call : CallW} (h : CallSim Try.prog tys stl tab call) : FnGood Try.prog tys stl tab 6 (n6 call) := node_ok h (by kernel_rfl) rfl g6 (R6_eq real _ _)
/- foghorn/bits.Words -/
noncomputable def R7 (q_share : (α : Type) → α → (α → Bool) → Bool) (q_genW : Option CV → (W → Bool) → Bool) (q_addW : Nat → Nat → Option CV → W → W → (W → Bool) → Bool) (q_mulW : Nat → Nat → Option CV → W → W → (W → Bool) → Bool) (q_quoW : Nat → Nat → Option CV → W → W → (W → Bool) → Bool) (q_remW : Nat → Nat → Option CV → W → W → (W → Bool) → Bool) (q_bitW : (Nat → Nat → Nat) → Nat → Nat → Option CV → W → W → (W → Bool) → Bool) (q_cmpW : (Nat → Nat → Bool) → Nat → Option CV → W → W → (W → Bool) → Bool) (q_shlW : Nat → Nat → Nat → Option CV → W → W → (W → Bool) → Bool) (q_notW : Option CV → W → (W → Bool) → Bool) (q_condW : W → Bool → Bool → Bool) (q_guardW : Bool → W → Bool → Bool → Bool) (q_pickW : W → W → W → (W → Bool) → Bool) (q_idxSW : Nat → W → W → (W → Bool) → Bool) (q_lenW : Option CV → W → (W → Bool) → Bool) (q_loadSW : HW → W → (W → Bool) → Bool) (q_storeSW : HW → W → W → (HW → Bool) → Bool) (q_makeSW : Nat → Nat → Nat → Kind → List W → Bool → HW → Nat → W → W → KW → Bool) (fu : Nat) (call : CallW) (a0 : W) (a1 : W) (h0 : HW) (c0 : Nat) (K : KW) : Bool :=
call 19 [a1] h0 c0 fun v1 h2 c3 =>
q_notW (two Try.prog (dec v1) (Op.unary .not)) v1 fun v4 =>
q_share _ (fun (v6 : W) (h7 : HW) (c8 : Nat) =>
q_share _ (fun (v10 : W) (h11 : HW) (c12 : Nat) =>
q_share _ (fun (v14 : W) (h15 : HW) (c16 : Nat) =>
q_pickW v4 ⟨8, 1, r0, []⟩ v14 fun v17 =>
q_share _ (fun (v19 : W) (h20 : HW) (c21 : Nat) =>
q_share _ (fun (v23 : W) (h24 : HW) (c25 : Nat) =>
q_share _ (fun (v27 : W) (h28 : HW) (c29 : Nat) =>
q_share _ (fun (v31 : W) (h32 : HW) (c33 : Nat) =>
q_share _ (fun (v35 : W) (h36 : HW) (c37 : Nat) =>
q_pickW v17 ⟨8, 1, r0, []⟩ v35 fun v38 =>
q_condW v38 (
K ⟨13, 0, r0, [⟨12, 0, ⟨0, 0, 0, .nils⟩, []⟩, ⟨3, 1, r0, []⟩]⟩ h36 c37) (
q_lenW (lenC tys 23 (dec a0)) a0 fun v39 =>
q_quoW 3 9223372036854775807 (binC Try.prog .quo 3 (.tmp 26) (.tmp 27) (dec v39) (dec a1)) v39 a1 fun v40 =>
q_makeSW 8 1 3 (.ints .i64) [⟨3, 0, r0, []⟩] true h36 c37 v40 v40 fun v41 h42 c43 =>
q_lenW (lenC tys 29 (dec v41)) v41 fun v44 =>
@Nat.rec (fun _ => Fun 1) (fun _ _ _ => false) (fun _ f48 v45 h46 c47 =>
q_cmpW (cmpF2 .lss) 3 (binC Try.prog .lss 3 (.tmp 32) (.tmp 31) (dec v45) (dec v44)) v45 v44 fun v49 =>
q_condW v49 (
q_mulW 3 9223372036854775807 (binC Try.prog .mul 3 (.tmp 36) (.tmp 37) (dec v45) (dec a1)) v45 a1 fun v50 =>
q_addW 3 9223372036854775807 (binC Try.prog .add 3 (.tmp 39) (.const (.int .i64 (.ofNat 1))) (dec v45) (dec ⟨3, 1, r0, []⟩)) v45 ⟨3, 1, r0, []⟩ fun v51 =>
q_mulW 3 9223372036854775807 (binC Try.prog .mul 3 (.tmp 40) (.tmp 41) (dec v51) (dec a1)) v51 a1 fun v52 =>
q_genW (sliceM tys ⟨[], 0, decH h46, 0⟩ 23 (dec a0) (some (dec v50)) (some (dec v52)) none) fun v53 =>
q_lenW (lenC tys 23 (dec v53)) v53 fun v54 =>
@Nat.rec (fun _ => Fun 1) (fun _ _ _ => false) (fun _ f58 v55 h56 c57 =>
q_cmpW (cmpF2 .lss) 3 (binC Try.prog .lss 3 (.tmp 45) (.tmp 44) (dec v55) (dec v54)) v55 v54 fun v59 =>
q_condW v59 (
q_share _ (fun  (h60 : HW) (c61 : Nat) =>
q_addW 3 9223372036854775807 (binC Try.prog .add 3 (.tmp 45) (.const (.int .i64 (.ofNat 1))) (dec v55) (dec ⟨3, 1, r0, []⟩)) v55 ⟨3, 1, r0, []⟩ fun v63 =>
f58 v63 h60 c61) fun f62 =>
q_idxSW 1 v53 v55 fun v64 =>
q_loadSW h56 v64 fun v65 =>
q_idxSW 1 v41 v45 fun v66 =>
q_loadSW h56 v66 fun v67 =>
q_shlW 3 9223372036854775807 64 (binC Try.prog .shl 3 (.tmp 52) (.const (.int .u64 (.ofNat 1))) (dec v67) (dec ⟨7, 1, r0, []⟩)) v67 ⟨7, 1, r0, []⟩ fun v68 =>
q_idxSW 1 v41 v45 fun v69 =>
q_storeSW h56 v69 v68 fun h70 =>
q_condW v65 (
q_idxSW 1 v41 v45 fun v71 =>
q_loadSW h70 v71 fun v72 =>
q_bitW Nat.lor 3 9223372036854775807 (binC Try.prog .or 3 (.tmp 59) (.const (.int .i64 (.ofNat 1))) (dec v72) (dec ⟨3, 1, r0, []⟩)) v72 ⟨3, 1, r0, []⟩ fun v73 =>
q_idxSW 1 v41 v45 fun v74 =>
q_storeSW h70 v74 v73 fun h75 =>
f62 h75 c57) (
f62 h70 c57)) (
q_addW 3 9223372036854775807 (binC Try.prog .add 3 (.tmp 32) (.const (.int .i64 (.ofNat 1))) (dec v45) (dec ⟨3, 1, r0, []⟩)) v45 ⟨3, 1, r0, []⟩ fun v76 =>
f48 v76 h56 c57)) fu ⟨3, 0, r0, []⟩ h46 c47) (
K ⟨13, 0, r0, [v41, ⟨3, 0, r0, []⟩]⟩ h46 c47)) fu ⟨3, 0, r0, []⟩ h42 c43)) fun f34 =>
q_guardW false v17 (q_cmpW (cmpF2 .neq) 3 (binC Try.prog .neq 3 (.tmp 22) (.const (.int .i64 (.ofNat 0))) (dec v31) (dec ⟨3, 0, r0, []⟩)) v31 ⟨3, 0, r0, []⟩ fun v77 =>
f34 v77 h32 c33) (f34 wUnd h32 c33)) fun f30 =>
q_guardW false v17 (q_remW 3 9223372036854775807 (binC Try.prog .rem 3 (.tmp 20) (.tmp 21) (dec v23) (dec v27)) v23 v27 fun v78 =>
f30 v78 h28 c29) (f30 wUnd h28 c29)) fun f26 =>
q_guardW false v17 (f26 a1 h24 c25) (f26 wUnd h24 c25)) fun f22 =>
q_guardW false v17 (q_lenW (lenC tys 23 (dec v19)) v19 fun v79 =>
f22 v79 h20 c21) (f22 wUnd h20 c21)) fun f18 =>
q_guardW false v17 (f18 a0 h15 c16) (f18 wUnd h15 c16)) fun f13 =>
q_guardW false v4 (q_notW (two Try.prog (dec v10) (Op.unary .not)) v10 fun v80 =>
f13 v80 h11 c12) (f13 wUnd h11 c12)) fun f9 =>
q_guardW false v4 (call 20 [v6] h7 c8 fun v81 h82 c83 =>
f9 v81 h82 c83) (f9 wUnd h7 c8)) fun f5 =>
q_guardW false v4 (f5 a0 h2 c3) (f5 wUnd h2 c3)
theorem R7_eq (Q : PrimW) (fu : Nat) (call : CallW) : curryA 2 (fnK Q Try.prog tys stl fu call e7) = R7 Q.share Q.genW Q.addW Q.mulW Q.quoW Q.remW Q.bitW Q.cmpW Q.shlW Q.notW Q.condW Q.guardW Q.pickW Q.idxSW Q.lenW Q.loadSW Q.storeSW Q.makeSW fu call := by kernel_rfl
noncomputable def n7 (call : CallW) : List W → HW → Nat → KW → Bool := appF 2 (R7 (fun _ x f => f x) genW addW mulW quoW remW bitW cmpW shlW notW condW guardW pickW idxSW lenW loadSW storeSW makeSW 1000000 call)
theorem n7_ok {call : CallW} (h : CallSim Try.prog tys stl tab call) : FnGood Try.prog tys stl tab 7 (n7 call) := node_ok h (by kernel_rfl) rfl g7 (R7_eq real _ _)
/- foghorn/bits.Weight -/
noncomputable def R12 (q_share : (α : Type) → α → (α → Bool) → Bool) (q_addW : Nat → Nat → Option CV → W → W → (W → Bool) → Bool) (q_cmpW : (Nat → Nat → Bool) → Nat → Option CV → W → W → (W → Bool) → Bool) (q_condW : W → Bool → Bool → Bool) (q_idxSW : Nat → W → W → (W → Bool) → Bool) (q_lenW : Option CV → W → (W → Bool) → Bool) (q_loadSW : HW → W → (W → Bool) → Bool) (fu : Nat) (call : CallW) (a0 : W) (h0 : HW) (c0 : Nat) (K : KW) : Bool :=
q_lenW (lenC tys 23 (dec a0)) a0 fun v1 =>
@Nat.rec (fun _ => Fun 2) (fun _ _ _ _ => false) (fun _ f6 v2 v3 h4 c5 =>
q_cmpW (cmpF2 .lss) 3 (binC Try.prog .lss 3 (.tmp 8) (.tmp 7) (dec v3) (dec v1)) v3 v1 fun v7 =>
q_condW v7 (
q_share _ (fun (v8 : W) (h9 : HW) (c10 : Nat) =>
q_addW 3 9223372036854775807 (binC Try.prog .add 3 (.tmp 8) (.const (.int .i64 (.ofNat 1))) (dec v3) (dec ⟨3, 1, r0, []⟩)) v3 ⟨3, 1, r0, []⟩ fun v12 =>
f6 v8 v12 h9 c10) fun f11 =>
q_idxSW 1 a0 v3 fun v13 =>
q_loadSW h4 v13 fun v14 =>
q_condW v14 (
q_addW 3 9223372036854775807 (binC Try.prog .add 3 (.tmp 13) (.const (.int .i64 (.ofNat 1))) (dec v2) (dec ⟨3, 1, r0, []⟩)) v2 ⟨3, 1, r0, []⟩ fun v15 =>
f11 v15 h4 c5) (
f11 v2 h4 c5)) (
K v2 h4 c5)) fu ⟨3, 0, r0, []⟩ ⟨3, 0, r0, []⟩ h0 c0
theorem R12_eq (Q : PrimW) (fu : Nat) (call : CallW) : curryA 1 (fnK Q Try.prog tys stl fu call e12) = R12 Q.share Q.addW Q.cmpW Q.condW Q.idxSW Q.lenW Q.loadSW fu call := by kernel_rfl
noncomputable def n12 (call : CallW) : List W → HW → Nat → KW → Bool := appF 1 (R12 (fun _ x f => f x) addW cmpW condW idxSW lenW loadSW 1000000 call)
theorem n12_ok {call : CallW} (h : CallSim Try.prog tys stl tab call) : FnGood Try.prog tys stl tab 12 (n12 call) := node_ok h (by kernel_rfl) rfl g12 (R12_eq real _ _)
/- foghorn/bits.Text -/
noncomputable def R14 (q_share : (α : Type) → α → (α → Bool) → Bool) (q_genW : Option CV → (W → Bool) → Bool) (q_addW : Nat → Nat → Option CV → W → W → (W → Bool) → Bool) (q_cmpW : (Nat → Nat → Bool) → Nat → Option CV → W → W → (W → Bool) → Bool) (q_condW : W → Bool → Bool → Bool) (q_idxSW : Nat → W → W → (W → Bool) → Bool) (q_lenW : Option CV → W → (W → Bool) → Bool) (q_loadSW : HW → W → (W → Bool) → Bool) (q_storeSW : HW → W → W → (HW → Bool) → Bool) (q_makeSW : Nat → Nat → Nat → Kind → List W → Bool → HW → Nat → W → W → KW → Bool) (fu : Nat) (call : CallW) (a0 : W) (h0 : HW) (c0 : Nat) (K : KW) : Bool :=
q_lenW (lenC tys 23 (dec a0)) a0 fun v1 =>
q_makeSW 1 1 4 (.ints .u8) [⟨4, 0, r0, []⟩] true h0 c0 v1 v1 fun v2 h3 c4 =>
q_lenW (lenC tys 23 (dec a0)) a0 fun v5 =>
@Nat.rec (fun _ => Fun 1) (fun _ _ _ => false) (fun _ f9 v6 h7 c8 =>
q_cmpW (cmpF2 .lss) 3 (binC Try.prog .lss 3 (.tmp 11) (.tmp 10) (dec v6) (dec v5)) v6 v5 fun v10 =>
q_condW v10 (
q_share _ (fun  (h11 : HW) (c12 : Nat) =>
q_addW 3 9223372036854775807 (binC Try.prog .add 3 (.tmp 11) (.const (.int .i64 (.ofNat 1))) (dec v6) (dec ⟨3, 1, r0, []⟩)) v6 ⟨3, 1, r0, []⟩ fun v14 =>
f9 v14 h11 c12) fun f13 =>
q_idxSW 1 a0 v6 fun v15 =>
q_loadSW h7 v15 fun v16 =>
q_idxSW 1 v2 v6 fun v17 =>
q_storeSW h7 v17 ⟨4, 48, r0, []⟩ fun h18 =>
q_condW v16 (
q_idxSW 1 v2 v6 fun v19 =>
q_storeSW h18 v19 ⟨4, 49, r0, []⟩ fun h20 =>
f13 h20 c8) (
f13 h18 c8)) (
q_genW (convC Try.prog tys ⟨[], 0, decH h7, 0⟩ 46 9 (dec v2)) fun v21 =>
K v21 h7 c8)) fu ⟨3, 0, r0, []⟩ h3 c4
theorem R14_eq (Q : PrimW) (fu : Nat) (call : CallW) : curryA 1 (fnK Q Try.prog tys stl fu call e14) = R14 Q.share Q.genW Q.addW Q.cmpW Q.condW Q.idxSW Q.lenW Q.loadSW Q.storeSW Q.makeSW fu call := by kernel_rfl
noncomputable def n14 (call : CallW) : List W → HW → Nat → KW → Bool := appF 1 (R14 (fun _ x f => f x) genW addW cmpW condW idxSW lenW loadSW storeSW makeSW 1000000 call)
theorem n14_ok {call : CallW} (h : CallSim Try.prog tys stl tab call) : FnGood Try.prog tys stl tab 14 (n14 call) := node_ok h (by kernel_rfl) rfl g14 (R14_eq real _ _)
/- foghorn/bits.Gray -/
noncomputable def R15 (q_bitW : (Nat → Nat → Nat) → Nat → Nat → Option CV → W → W → (W → Bool) → Bool) (q_shrW : Nat → Nat → Option CV → W → W → (W → Bool) → Bool) (q_notW : Option CV → W → (W → Bool) → Bool) (q_condW : W → Bool → Bool → Bool) (fu : Nat) (call : CallW) (a0 : W) (h0 : HW) (c0 : Nat) (K : KW) : Bool :=
call 21 [a0] h0 c0 fun v1 h2 c3 =>
q_notW (two Try.prog (dec v1) (Op.unary .not)) v1 fun v4 =>
q_condW v4 (
K ⟨13, 0, r0, [⟨3, 0, r0, []⟩, ⟨3, 1, r0, []⟩]⟩ h2 c3) (
q_shrW 3 64 (binC Try.prog .shr 3 (.tmp 8) (.const (.int .u64 (.ofNat 1))) (dec a0) (dec ⟨7, 1, r0, []⟩)) a0 ⟨7, 1, r0, []⟩ fun v5 =>
q_bitW Nat.xor 3 9223372036854775807 (binC Try.prog .xor 3 (.tmp 7) (.tmp 9) (dec a0) (dec v5)) a0 v5 fun v6 =>
K ⟨13, 0, r0, [v6, ⟨3, 0, r0, []⟩]⟩ h2 c3)
theorem R15_eq (Q : PrimW) (fu : Nat) (call : CallW) : curryA 1 (fnK Q Try.prog tys stl fu call e15) = R15 Q.bitW Q.shrW Q.notW Q.condW fu call := by kernel_rfl
noncomputable def n15 (call : CallW) : List W → HW → Nat → KW → Bool := appF 1 (R15 bitW shrW notW condW 1000000 call)
theorem n15_ok {call : CallW} (h : CallSim Try.prog tys stl tab call) : FnGood Try.prog tys stl tab 15 (n15 call) := node_ok h (by kernel_rfl) rfl g15 (R15_eq real _ _)
/- foghorn/foghornlaw01.sameInts -/
noncomputable def R16 (q_addW : Nat → Nat → Option CV → W → W → (W → Bool) → Bool) (q_cmpW : (Nat → Nat → Bool) → Nat → Option CV → W → W → (W → Bool) → Bool) (q_condW : W → Bool → Bool → Bool) (q_idxSW : Nat → W → W → (W → Bool) → Bool) (q_lenW : Option CV → W → (W → Bool) → Bool) (q_loadSW : HW → W → (W → Bool) → Bool) (fu : Nat) (call : CallW) (a0 : W) (a1 : W) (h0 : HW) (c0 : Nat) (K : KW) : Bool :=
q_lenW (lenC tys 29 (dec a0)) a0 fun v1 =>
q_lenW (lenC tys 29 (dec a1)) a1 fun v2 =>
q_cmpW (cmpF2 .neq) 3 (binC Try.prog .neq 3 (.tmp 7) (.tmp 9) (dec v1) (dec v2)) v1 v2 fun v3 =>
q_condW v3 (
K ⟨8, 0, r0, []⟩ h0 c0) (
@Nat.rec (fun _ => Fun 1) (fun _ _ _ => false) (fun _ f7 v4 h5 c6 =>
q_lenW (lenC tys 29 (dec a0)) a0 fun v8 =>
q_cmpW (cmpF2 .lss) 3 (binC Try.prog .lss 3 (.tmp 11) (.tmp 13) (dec v4) (dec v8)) v4 v8 fun v9 =>
q_condW v9 (
q_idxSW 1 a0 v4 fun v10 =>
q_loadSW h5 v10 fun v11 =>
q_idxSW 1 a1 v4 fun v12 =>
q_loadSW h5 v12 fun v13 =>
q_cmpW (cmpF2 .neq) 3 (binC Try.prog .neq 3 (.tmp 20) (.tmp 24) (dec v11) (dec v13)) v11 v13 fun v14 =>
q_condW v14 (
K ⟨8, 0, r0, []⟩ h5 c6) (
q_addW 3 9223372036854775807 (binC Try.prog .add 3 (.tmp 15) (.const (.int .i64 (.ofNat 1))) (dec v4) (dec ⟨3, 1, r0, []⟩)) v4 ⟨3, 1, r0, []⟩ fun v15 =>
f7 v15 h5 c6)) (
K ⟨8, 1, r0, []⟩ h5 c6)) fu ⟨3, 0, r0, []⟩ h0 c0)
theorem R16_eq (Q : PrimW) (fu : Nat) (call : CallW) : curryA 2 (fnK Q Try.prog tys stl fu call e16) = R16 Q.addW Q.cmpW Q.condW Q.idxSW Q.lenW Q.loadSW fu call := by kernel_rfl
noncomputable def n16 (call : CallW) : List W → HW → Nat → KW → Bool := appF 2 (R16 addW cmpW condW idxSW lenW loadSW 1000000 call)
theorem n16_ok {call : CallW} (h : CallSim Try.prog tys stl tab call) : FnGood Try.prog tys stl tab 16 (n16 call) := node_ok h (by kernel_rfl) rfl g16 (R16_eq real _ _)
/- foghorn/bits.Pieces -/
noncomputable def R17 (q_genW : Option CV → (W → Bool) → Bool) (q_cmpW : (Nat → Nat → Bool) → Nat → Option CV → W → W → (W → Bool) → Bool) (q_condW : W → Bool → Bool → Bool) (q_lenW : Option CV → W → (W → Bool) → Bool) (q_loadSW : HW → W → (W → Bool) → Bool) (q_storeSW : HW → W → W → (HW → Bool) → Bool) (q_allocW : Trie W → Nat → Bool → HW → Nat → KW → Bool) (q_boxW : HW → Nat → W → KW → Bool) (fu : Nat) (call : CallW) (a0 : W) (a1 : W) (h0 : HW) (c0 : Nat) (K : KW) : Bool :=
q_boxW h0 c0 a1 fun v1 h2 c3 =>
q_loadSW h2 v1 fun v4 =>
q_cmpW (cmpF2 .lss) 3 (binC Try.prog .lss 3 (.tmp 6) (.const (.int .i64 (.ofNat 1))) (dec v4) (dec ⟨3, 1, r0, []⟩)) v4 ⟨3, 1, r0, []⟩ fun v5 =>
q_condW v5 (
K ⟨14, 22, r0, []⟩ h2 c3) (
call 23 [a0] h2 c3 fun v6 h7 c8 =>
q_allocW (allocT tys 23) 1 true h7 c8 fun v9 h10 c11 =>
q_storeSW h10 v9 v6 fun h12 =>
q_loadSW h12 v1 fun v13 =>
q_loadSW h12 v9 fun v14 =>
q_lenW (lenC tys 23 (dec v14)) v14 fun v15 =>
q_genW (two2 Try.prog (dec v15) (dec ⟨3, 1, r0, []⟩) fun v u => Builtin.max_ #[3, 3] 3 #[v, u]) fun v16 =>
q_genW (two2 Try.prog (dec v13) (dec v16) fun v u => Builtin.min_ #[3, 3] 3 #[v, u]) fun v17 =>
q_storeSW h12 v1 v17 fun h18 =>
(fun (v19 : W) =>
K v19 h18 c11) ⟨14, 24, r0, [v9, v1]⟩)
theorem R17_eq (Q : PrimW) (fu : Nat) (call : CallW) : curryA 2 (fnK Q Try.prog tys stl fu call e17) = R17 Q.genW Q.cmpW Q.condW Q.lenW Q.loadSW Q.storeSW Q.allocW Q.boxW fu call := by kernel_rfl
noncomputable def n17 (call : CallW) : List W → HW → Nat → KW → Bool := appF 2 (R17 genW cmpW condW lenW loadSW storeSW allocW boxW 1000000 call)
theorem n17_ok {call : CallW} (h : CallSim Try.prog tys stl tab call) : FnGood Try.prog tys stl tab 17 (n17 call) := node_ok h (by kernel_rfl) rfl g17 (R17_eq real _ _)
/- foghorn/bits.appendWord -/
noncomputable def R18 (q_addW : Nat → Nat → Option CV → W → W → (W → Bool) → Bool) (q_subW : Nat → Nat → Option CV → W → W → (W → Bool) → Bool) (q_bitW : (Nat → Nat → Nat) → Nat → Nat → Option CV → W → W → (W → Bool) → Bool) (q_cmpW : (Nat → Nat → Bool) → Nat → Option CV → W → W → (W → Bool) → Bool) (q_shrW : Nat → Nat → Option CV → W → W → (W → Bool) → Bool) (q_condW : W → Bool → Bool → Bool) (q_killVW : W → HW → (HW → Bool) → Bool) (q_buildSW : Nat → Nat → Kind → Nat → Bool → HW → Nat → Nat → List W → KW → Bool) (q_appSW : Nat → Nat → (Kind → Bool) → Bool → HW → Nat → W → W → Bool → KW → Bool) (fu : Nat) (call : CallW) (a0 : W) (a1 : W) (a2 : W) (h0 : HW) (c0 : Nat) (K : KW) : Bool :=
@Nat.rec (fun _ => Fun 2) (fun _ _ _ _ => false) (fun _ f5 v1 v2 h3 c4 =>
q_cmpW (cmpF2 .lss) 3 (binC Try.prog .lss 3 (.tmp 9) (.tmp 8) (dec v2) (dec a2)) v2 a2 fun v6 =>
q_condW v6 (
q_subW 3 9223372036854775807 (binC Try.prog .sub 3 (.tmp 14) (.const (.int .i64 (.ofNat 1))) (dec a2) (dec ⟨3, 1, r0, []⟩)) a2 ⟨3, 1, r0, []⟩ fun v7 =>
q_subW 3 9223372036854775807 (binC Try.prog .sub 3 (.tmp 15) (.tmp 16) (dec v7) (dec v2)) v7 v2 fun v8 =>
q_shrW 3 64 (binC Try.prog .shr 3 (.tmp 13) (.tmp 17) (dec a1) (dec v8)) a1 v8 fun v9 =>
q_bitW Nat.land 3 9223372036854775807 (binC Try.prog .and 3 (.tmp 18) (.const (.int .i64 (.ofNat 1))) (dec v9) (dec ⟨3, 1, r0, []⟩)) v9 ⟨3, 1, r0, []⟩ fun v10 =>
q_cmpW (cmpF2 .neq) 3 (binC Try.prog .neq 3 (.tmp 19) (.const (.int .i64 (.ofNat 0))) (dec v10) (dec ⟨3, 0, r0, []⟩)) v10 ⟨3, 0, r0, []⟩ fun v11 =>
q_buildSW 1 8 .bools 1 true h3 c4 1 [v11] fun v12 h13 c14 =>
q_appSW 1 1 (appKindOk (elemJ tys 23)) false h13 c14 v1 v12 false fun v15 h16 c17 =>
q_killVW v12 h16 fun h18 =>
q_addW 3 9223372036854775807 (binC Try.prog .add 3 (.tmp 9) (.const (.int .i64 (.ofNat 1))) (dec v2) (dec ⟨3, 1, r0, []⟩)) v2 ⟨3, 1, r0, []⟩ fun v19 =>
f5 v15 v19 h18 c17) (
K v1 h3 c4)) fu a0 ⟨3, 0, r0, []⟩ h0 c0
theorem R18_eq (Q : PrimW) (fu : Nat) (call : CallW) : curryA 3 (fnK Q Try.prog tys stl fu call e18) = R18 Q.addW Q.subW Q.bitW Q.cmpW Q.shrW Q.condW Q.killVW Q.buildSW Q.appSW fu call := by kernel_rfl
noncomputable def n18 (call : CallW) : List W → HW → Nat → KW → Bool := appF 3 (R18 addW subW bitW cmpW shrW condW killVW buildSW appSW 1000000 call)
theorem n18_ok {call : CallW} (h : CallSim Try.prog tys stl tab call) : FnGood Try.prog tys stl tab 18 (n18 call) := node_ok h (by kernel_rfl) rfl g18 (R18_eq real _ _)
/- foghorn/bits.isWidth -/
noncomputable def R19 (q_share : (α : Type) → α → (α → Bool) → Bool) (q_cmpW : (Nat → Nat → Bool) → Nat → Option CV → W → W → (W → Bool) → Bool) (q_guardW : Bool → W → Bool → Bool → Bool) (q_pickW : W → W → W → (W → Bool) → Bool) (fu : Nat) (call : CallW) (a0 : W) (h0 : HW) (c0 : Nat) (K : KW) : Bool :=
q_cmpW (cmpF2 .geq) 3 (binC Try.prog .geq 3 (.tmp 3) (.const (.int .i64 (.ofNat 1))) (dec a0) (dec ⟨3, 1, r0, []⟩)) a0 ⟨3, 1, r0, []⟩ fun v1 =>
q_share _ (fun (v3 : W) (h4 : HW) (c5 : Nat) =>
q_share _ (fun (v7 : W) (h8 : HW) (c9 : Nat) =>
q_pickW v1 v7 ⟨8, 0, r0, []⟩ fun v10 =>
K v10 h8 c9) fun f6 =>
q_guardW true v1 (q_cmpW (cmpF2 .leq) 3 (binC Try.prog .leq 3 (.tmp 6) (.const (.int .i64 (.ofNat 16))) (dec v3) (dec ⟨3, 16, r0, []⟩)) v3 ⟨3, 16, r0, []⟩ fun v11 =>
f6 v11 h4 c5) (f6 wUnd h4 c5)) fun f2 =>
q_guardW true v1 (f2 a0 h0 c0) (f2 wUnd h0 c0)
theorem R19_eq (Q : PrimW) (fu : Nat) (call : CallW) : curryA 1 (fnK Q Try.prog tys stl fu call e19) = R19 Q.share Q.cmpW Q.guardW Q.pickW fu call := by kernel_rfl
noncomputable def n19 (call : CallW) : List W → HW → Nat → KW → Bool := appF 1 (R19 (fun _ x f => f x) cmpW guardW pickW 1000000 call)
theorem n19_ok {call : CallW} (h : CallSim Try.prog tys stl tab call) : FnGood Try.prog tys stl tab 19 (n19 call) := node_ok h (by kernel_rfl) rfl g19 (R19_eq real _ _)
/- foghorn/bits.isRow -/
noncomputable def R20 (q_cmpW : (Nat → Nat → Bool) → Nat → Option CV → W → W → (W → Bool) → Bool) (q_lenW : Option CV → W → (W → Bool) → Bool) (fu : Nat) (call : CallW) (a0 : W) (h0 : HW) (c0 : Nat) (K : KW) : Bool :=
q_lenW (lenC tys 23 (dec a0)) a0 fun v1 =>
q_cmpW (cmpF2 .leq) 3 (binC Try.prog .leq 3 (.tmp 4) (.const (.int .i64 (.ofNat 32768))) (dec v1) (dec ⟨3, 32768, r0, []⟩)) v1 ⟨3, 32768, r0, []⟩ fun v2 =>
K v2 h0 c0
theorem R20_eq (Q : PrimW) (fu : Nat) (call : CallW) : curryA 1 (fnK Q Try.prog tys stl fu call e20) = R20 Q.cmpW Q.lenW fu call := by kernel_rfl
noncomputable def n20 (call : CallW) : List W → HW → Nat → KW → Bool := appF 1 (R20 cmpW lenW 1000000 call)
theorem n20_ok {call : CallW} (h : CallSim Try.prog tys stl tab call) : FnGood Try.prog tys stl tab 20 (n20 call) := node_ok h (by kernel_rfl) rfl g20 (R20_eq real _ _)
/- foghorn/bits.isGray -/
noncomputable def R21 (q_share : (α : Type) → α → (α → Bool) → Bool) (q_cmpW : (Nat → Nat → Bool) → Nat → Option CV → W → W → (W → Bool) → Bool) (q_guardW : Bool → W → Bool → Bool → Bool) (q_pickW : W → W → W → (W → Bool) → Bool) (fu : Nat) (call : CallW) (a0 : W) (h0 : HW) (c0 : Nat) (K : KW) : Bool :=
q_cmpW (cmpF2 .geq) 3 (binC Try.prog .geq 3 (.tmp 3) (.const (.int .i64 (.ofNat 0))) (dec a0) (dec ⟨3, 0, r0, []⟩)) a0 ⟨3, 0, r0, []⟩ fun v1 =>
q_share _ (fun (v3 : W) (h4 : HW) (c5 : Nat) =>
q_share _ (fun (v7 : W) (h8 : HW) (c9 : Nat) =>
q_pickW v1 v7 ⟨8, 0, r0, []⟩ fun v10 =>
K v10 h8 c9) fun f6 =>
q_guardW true v1 (q_cmpW (cmpF2 .lss) 3 (binC Try.prog .lss 3 (.tmp 6) (.const (.int .i64 (.ofNat 65536))) (dec v3) (dec ⟨3, 65536, r0, []⟩)) v3 ⟨3, 65536, r0, []⟩ fun v11 =>
f6 v11 h4 c5) (f6 wUnd h4 c5)) fun f2 =>
q_guardW true v1 (f2 a0 h0 c0) (f2 wUnd h0 c0)
theorem R21_eq (Q : PrimW) (fu : Nat) (call : CallW) : curryA 1 (fnK Q Try.prog tys stl fu call e21) = R21 Q.share Q.cmpW Q.guardW Q.pickW fu call := by kernel_rfl
noncomputable def n21 (call : CallW) : List W → HW → Nat → KW → Bool := appF 1 (R21 (fun _ x f => f x) cmpW guardW pickW 1000000 call)
theorem n21_ok {call : CallW} (h : CallSim Try.prog tys stl tab call) : FnGood Try.prog tys stl tab 21 (n21 call) := node_ok h (by kernel_rfl) rfl g21 (R21_eq real _ _)
/- foghorn/bits.Pieces$1 -/
noncomputable def R22 (fu : Nat) (call : CallW) (a0 : W) (h0 : HW) (c0 : Nat) (K : KW) : Bool :=
K ⟨13, 0, r0, []⟩ h0 c0
theorem R22_eq (Q : PrimW) (fu : Nat) (call : CallW) : curryA 1 (fnK Q Try.prog tys stl fu call e22) = R22 fu call := by kernel_rfl
noncomputable def n22 (call : CallW) : List W → HW → Nat → KW → Bool := appF 1 (R22 1000000 call)
theorem n22_ok {call : CallW} (h : CallSim Try.prog tys stl tab call) : FnGood Try.prog tys stl tab 22 (n22 call) := node_ok h (by kernel_rfl) rfl g22 (R22_eq real _ _)
/- slices.Clone[[]bool,bool] -/
noncomputable def R23 (q_genW : Option CV → (W → Bool) → Bool) (q_condW : W → Bool → Bool → Bool) (q_buildSW : Nat → Nat → Kind → Nat → Bool → HW → Nat → Nat → List W → KW → Bool) (q_appSW : Nat → Nat → (Kind → Bool) → Bool → HW → Nat → W → W → Bool → KW → Bool) (fu : Nat) (call : CallW) (a0 : W) (h0 : HW) (c0 : Nat) (K : KW) : Bool :=
q_genW (binC Try.prog .eql 23 (.tmp 3) (.const (.slice none 0 0)) (dec a0) (dec ⟨12, 0, ⟨0, 0, 0, .nils⟩, []⟩)) fun v1 =>
q_condW v1 (
K ⟨12, 0, ⟨0, 0, 0, .nils⟩, []⟩ h0 c0) (
q_buildSW 1 8 .bools 0 true h0 c0 0 [] fun v2 h3 c4 =>
q_appSW 1 1 (appKindOk (elemJ tys 23)) false h3 c4 v2 a0 false fun v5 h6 c7 =>
K v5 h6 c7)
theorem R23_eq (Q : PrimW) (fu : Nat) (call : CallW) : curryA 1 (fnK Q Try.prog tys stl fu call e23) = R23 Q.genW Q.condW Q.buildSW Q.appSW fu call := by kernel_rfl
noncomputable def n23 (call : CallW) : List W → HW → Nat → KW → Bool := appF 1 (R23 genW condW buildSW appSW 1000000 call)
theorem n23_ok {call : CallW} (h : CallSim Try.prog tys stl tab call) : FnGood Try.prog tys stl tab 23 (n23 call) := node_ok h (by kernel_rfl) rfl g23 (R23_eq real _ _)
/- foghorn/bits.Pieces$2 -/
noncomputable def R24 (q_genW : Option CV → (W → Bool) → Bool) (q_addW : Nat → Nat → Option CV → W → W → (W → Bool) → Bool) (q_cmpW : (Nat → Nat → Bool) → Nat → Option CV → W → W → (W → Bool) → Bool) (q_notW : Option CV → W → (W → Bool) → Bool) (q_condW : W → Bool → Bool → Bool) (q_lenW : Option CV → W → (W → Bool) → Bool) (q_onG : W → List W → (FuncId → List W → Bool) → Bool) (q_loadSW : HW → W → (W → Bool) → Bool) (fu : Nat) (call : CallW) (a0 : W) (a1 : W) (a2 : W) (h0 : HW) (c0 : Nat) (K : KW) : Bool :=
@Nat.rec (fun _ => Fun 1) (fun _ _ _ => false) (fun _ f4 v1 h2 c3 =>
q_loadSW h2 a1 fun v5 =>
q_lenW (lenC tys 23 (dec v5)) v5 fun v6 =>
q_cmpW (cmpF2 .lss) 3 (binC Try.prog .lss 3 (.tmp 5) (.tmp 7) (dec v1) (dec v6)) v1 v6 fun v7 =>
q_condW v7 (
q_loadSW h2 a1 fun v8 =>
q_loadSW h2 a2 fun v9 =>
q_addW 3 9223372036854775807 (binC Try.prog .add 3 (.tmp 16) (.tmp 17) (dec v1) (dec v9)) v1 v9 fun v10 =>
q_loadSW h2 a1 fun v11 =>
q_lenW (lenC tys 23 (dec v11)) v11 fun v12 =>
q_genW (two2 Try.prog (dec v10) (dec v12) fun v u => Builtin.min_ #[3, 3] 3 #[v, u]) fun v13 =>
q_genW (sliceM tys ⟨[], 0, decH h2, 0⟩ 23 (dec v8) (some (dec v1)) (some (dec v13)) none) fun v14 =>
call 23 [v14] h2 c3 fun v15 h16 c17 =>
q_onG a0 [v1, v15] fun g18 l19 => call g18 l19 h16 c17 fun v20 h21 c22 =>
q_notW (two Try.prog (dec v20) (Op.unary .not)) v20 fun v23 =>
q_condW v23 (
K ⟨13, 0, r0, []⟩ h21 c22) (
q_loadSW h21 a2 fun v24 =>
q_addW 3 9223372036854775807 (binC Try.prog .add 3 (.tmp 9) (.tmp 10) (dec v1) (dec v24)) v1 v24 fun v25 =>
f4 v25 h21 c22)) (
K ⟨13, 0, r0, []⟩ h2 c3)) fu ⟨3, 0, r0, []⟩ h0 c0
theorem R24_eq (Q : PrimW) (fu : Nat) (call : CallW) : curryA 3 (fnK Q Try.prog tys stl fu call e24) = R24 Q.genW Q.addW Q.cmpW Q.notW Q.condW Q.lenW Q.onG Q.loadSW fu call := by kernel_rfl
noncomputable def n24 (call : CallW) : List W → HW → Nat → KW → Bool := appF 3 (R24 genW addW cmpW notW condW lenW onG loadSW 1000000 call)
theorem n24_ok {call : CallW} (h : CallSim Try.prog tys stl tab call) : FnGood Try.prog tys stl tab 24 (n24 call) := node_ok h (by kernel_rfl) rfl g24 (R24_eq real _ _)
noncomputable def dS (call : CallW) : Disp := (.node 17 (n17 call) (.node 12 (n12 call) (.node 6 (n6 call) (.node 4 (n4 call) .leaf .leaf) (.node 7 (n7 call) .leaf .leaf)) (.node 15 (n15 call) (.node 14 (n14 call) .leaf .leaf) (.node 16 (n16 call) .leaf .leaf))) (.node 21 (n21 call) (.node 19 (n19 call) (.node 18 (n18 call) .leaf .leaf) (.node 20 (n20 call) .leaf .leaf)) (.node 23 (n23 call) (.node 22 (n22 call) .leaf .leaf) (.node 24 (n24 call) .leaf .leaf))))
theorem dS_ok {call : CallW} (h : CallSim Try.prog tys stl tab call) : CallSim Try.prog tys stl tab (dS call).fn := Disp.sim (t := dS call) ⟨n17_ok h, ⟨n12_ok h, ⟨n6_ok h, ⟨n4_ok h, True.intro, True.intro⟩, ⟨n7_ok h, True.intro, True.intro⟩⟩, ⟨n15_ok h, ⟨n14_ok h, True.intro, True.intro⟩, ⟨n16_ok h, True.intro, True.intro⟩⟩⟩, ⟨n21_ok h, ⟨n19_ok h, ⟨n18_ok h, True.intro, True.intro⟩, ⟨n20_ok h, True.intro, True.intro⟩⟩, ⟨n23_ok h, ⟨n22_ok h, True.intro, True.intro⟩, ⟨n24_ok h, True.intro, True.intro⟩⟩⟩⟩
noncomputable def dR (m : Nat) : Disp := @Nat.rec (fun _ => Disp) .leaf (fun _ ih => dS ih.fn) m
theorem dR_ok : ∀ m, CallSim Try.prog tys stl tab (dR m).fn
  | 0 => d0_ok
  | m + 1 => dS_ok (dR_ok m)
noncomputable abbrev dT : Disp := dR 200
theorem dT_ok : CallSim Try.prog tys stl tab dT.fn := dR_ok _
set_option maxHeartbeats 0 in
theorem run4 : lawK dT.fn 4 = true := by kernel_rfl
theorem works_f : Fits Try.prog 4 ⟨[], [], [⟨Unit, fun _ => True, fun _ => .bool true, fun _ => []⟩]⟩ :=
  lawK_fits tok mixed fok dT_ok (by kernel_rfl : tab 4 = some e4) rfl run4
end Go.Proofs.Ytafggjhhkfibnaa
