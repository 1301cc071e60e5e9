/-
  foghornlaw01.BitsRing returns true, whatever the memory it begins in. No condition.
-/
import Derived.Test.YtagndcamfjikhaaRows
import Derived.Test.YtagndcamfjikhaaGx
import Derived.WalkKit
import Derived.ProofKit
import Derived.OpenShut
set_option linter.unusedVariables false
set_option maxRecDepth 1000000
namespace Go.Proofs.Ytagndcamfjikhaa
open Go Go.Fw
def tys : List (Nat × TyI) := [
  (1, ⟨.func, 1, 8, .nilFunc⟩),
  (2, ⟨.int .i64, 1, 8, .int .i64 0⟩),
  (3, ⟨.int .i64, 1, 8, .int .i64 0⟩),
  (4, ⟨.bool, 1, 1, .bool false⟩),
  (5, ⟨.int .u8, 1, 1, .int .u8 0⟩),
  (9, ⟨.str, 1, 16, .string (ByteArray.mk #[])⟩),
  (12, ⟨.int .u64, 1, 8, .int .u64 0⟩),
  (21, ⟨.int .i32, 1, 4, .int .i32 0⟩),
  (22, ⟨.func, 1, 8, .nilFunc⟩),
  (23, ⟨.slice 4, 1, 24, .slice none 0 0⟩),
  (24, ⟨.int .i64, 1, 8, .int .i64 0⟩),
  (26, ⟨.func, 1, 8, .nilFunc⟩),
  (28, ⟨.func, 1, 8, .nilFunc⟩),
  (29, ⟨.slice 3, 1, 24, .slice none 0 0⟩),
  (31, ⟨.func, 1, 8, .nilFunc⟩),
  (32, ⟨.func, 1, 8, .nilFunc⟩),
  (33, ⟨.func, 1, 8, .nilFunc⟩),
  (34, ⟨.func, 1, 8, .nilFunc⟩),
  (35, ⟨.func, 1, 8, .nilFunc⟩),
  (36, ⟨.func, 1, 8, .nilFunc⟩),
  (38, ⟨.func, 1, 8, .nilFunc⟩),
  (39, ⟨.func, 1, 8, .nilFunc⟩),
  (41, ⟨.func, 1, 8, .nilFunc⟩),
  (43, ⟨.func, 1, 8, .nilFunc⟩),
  (44, ⟨.func, 1, 8, .nilFunc⟩),
  (45, ⟨.func, 1, 8, .nilFunc⟩),
  (46, ⟨.func, 1, 8, .nilFunc⟩),
  (47, ⟨.func, 1, 8, .nilFunc⟩),
  (48, ⟨.func, 1, 8, .nilFunc⟩),
  (49, ⟨.func, 1, 8, .nilFunc⟩),
  (50, ⟨.slice 56, 1, 24, .slice none 0 0⟩),
  (51, ⟨.func, 1, 8, .nilFunc⟩),
  (52, ⟨.func, 1, 8, .nilFunc⟩),
  (53, ⟨.func, 1, 8, .nilFunc⟩),
  (54, ⟨.func, 1, 8, .nilFunc⟩),
  (55, ⟨.struct [(0, 3), (1, 23)], 2, 32, .agg #[.int .i64 0, .slice none 0 0]⟩),
  (56, ⟨.struct [(0, 3), (1, 23)], 2, 32, .agg #[.int .i64 0, .slice none 0 0]⟩),
  (57, ⟨.func, 1, 8, .nilFunc⟩),
  (58, ⟨.func, 1, 8, .nilFunc⟩),
  (59, ⟨.func, 1, 8, .nilFunc⟩),
  (60, ⟨.func, 1, 8, .nilFunc⟩),
  (61, ⟨.func, 1, 8, .nilFunc⟩),
  (62, ⟨.slice 5, 1, 24, .slice none 0 0⟩),
  (63, ⟨.func, 1, 8, .nilFunc⟩),
  (64, ⟨.func, 1, 8, .nilFunc⟩),
  (65, ⟨.int .u64, 1, 8, .int .u64 0⟩),
  (66, ⟨.func, 1, 8, .nilFunc⟩),
  (67, ⟨.func, 1, 8, .nilFunc⟩),
  (68, ⟨.func, 1, 8, .nilFunc⟩),
  (69, ⟨.func, 1, 8, .nilFunc⟩),
  (75, ⟨.func, 1, 8, .nilFunc⟩),
  (76, ⟨.int .u32, 1, 4, .int .u32 0⟩),
  (79, ⟨.func, 1, 8, .nilFunc⟩),
  (80, ⟨.ptr 5, 1, 8, .pointer none⟩)]


theorem tok : TOk Try.prog tys := tok_of ⟨⟨by kernel_rfl, by kernel_rfl⟩, ⟨by kernel_rfl, by kernel_rfl⟩, ⟨by kernel_rfl, by kernel_rfl⟩, ⟨by kernel_rfl, by kernel_rfl⟩, ⟨by kernel_rfl, by kernel_rfl⟩, ⟨by kernel_rfl, by kernel_rfl⟩, ⟨by kernel_rfl, by kernel_rfl⟩, ⟨by kernel_rfl, by kernel_rfl⟩, ⟨by kernel_rfl, by kernel_rfl⟩, ⟨by kernel_rfl, by kernel_rfl⟩, ⟨by kernel_rfl, by kernel_rfl⟩, ⟨by kernel_rfl, by kernel_rfl⟩, ⟨by kernel_rfl, by kernel_rfl⟩, ⟨by kernel_rfl, by kernel_rfl⟩, ⟨by kernel_rfl, by kernel_rfl⟩, ⟨by kernel_rfl, by kernel_rfl⟩, ⟨by kernel_rfl, by kernel_rfl⟩, ⟨by kernel_rfl, by kernel_rfl⟩, ⟨by kernel_rfl, by kernel_rfl⟩, ⟨by kernel_rfl, by kernel_rfl⟩, ⟨by kernel_rfl, by kernel_rfl⟩, ⟨by kernel_rfl, by kernel_rfl⟩, ⟨by kernel_rfl, by kernel_rfl⟩, ⟨by kernel_rfl, by kernel_rfl⟩, ⟨by kernel_rfl, by kernel_rfl⟩, ⟨by kernel_rfl, by kernel_rfl⟩, ⟨by kernel_rfl, by kernel_rfl⟩, ⟨by kernel_rfl, by kernel_rfl⟩, ⟨by kernel_rfl, by kernel_rfl⟩, ⟨by kernel_rfl, by kernel_rfl⟩, ⟨by kernel_rfl, by kernel_rfl⟩, ⟨by kernel_rfl, by kernel_rfl⟩, ⟨by kernel_rfl, by kernel_rfl⟩, ⟨by kernel_rfl, by kernel_rfl⟩, ⟨by kernel_rfl, by kernel_rfl⟩, ⟨by kernel_rfl, by kernel_rfl⟩, ⟨by kernel_rfl, by kernel_rfl⟩, ⟨by kernel_rfl, by kernel_rfl⟩, ⟨by kernel_rfl, by kernel_rfl⟩, ⟨by kernel_rfl, by kernel_rfl⟩, ⟨by kernel_rfl, by kernel_rfl⟩, ⟨by kernel_rfl, by kernel_rfl⟩, ⟨by kernel_rfl, by kernel_rfl⟩, ⟨by kernel_rfl, by kernel_rfl⟩, ⟨by kernel_rfl, by kernel_rfl⟩, ⟨by kernel_rfl, by kernel_rfl⟩, ⟨by kernel_rfl, by kernel_rfl⟩, ⟨by kernel_rfl, by kernel_rfl⟩, ⟨by kernel_rfl, by kernel_rfl⟩, ⟨by kernel_rfl, by kernel_rfl⟩, ⟨by kernel_rfl, by kernel_rfl⟩, ⟨by kernel_rfl, by kernel_rfl⟩, ⟨by kernel_rfl, by kernel_rfl⟩, ⟨by kernel_rfl, by kernel_rfl⟩, True.intro⟩
theorem mixed : Try.prog.follows .mixedOrders = true := by kernel_rfl
def inL : List Nat → Nat → Bool
  | [], _ => false
  | a :: r, n => match Nat.beq a n with | true => true | false => inL r n
def stl : Nat → Bool := inL [22, 25, 47, 48, 49, 52]
/- 4: foghorn/foghornlaw01.BitsRing -/
def p4 : Nat → Option PlanC := fun _ => none
def wl4 : Nat → List Nat := fun
  | 4 => [1]
  | 9 => [4]
  | _ => []
def wj4 : Nat → Option (List Nat) := fun _ => none
def kr4 : Nat → List Nat := fun _ => []
noncomputable def e4 : Ent := entOf Try.f4 ⟨p4, wl4, wj4, kr4, []⟩
theorem g4 : EntOk Try.prog stl 4 e4 := .inr ⟨rfl, Try.func4, by kernel_rfl, by kernel_rfl, by kernel_rfl, by kernel_rfl, by kernel_rfl, rfl⟩
/- 14: foghorn/foghornlaw01.works -/
def p14 : Nat → Option PlanC := fun _ => none
def wl14 : Nat → List Nat := fun _ => []
def wj14 : Nat → Option (List Nat) := fun _ => none
def kr14 : Nat → List Nat := fun _ => []
noncomputable def e14 : Ent := entOf Try.f14 ⟨p14, wl14, wj14, kr14, []⟩
theorem g14 : EntOk Try.prog stl 14 e14 := .inr ⟨rfl, Try.func14, by kernel_rfl, by kernel_rfl, by kernel_rfl, by kernel_rfl, by kernel_rfl, rfl⟩
/- 16: foghorn/bits.Of -/
def p16 : Nat → Option PlanC := fun _ => none
def wl16 : Nat → List Nat := fun
  | 5 => [4, 15]
  | _ => []
def wj16 : Nat → Option (List Nat) := fun _ => none
def kr16 : Nat → List Nat := fun _ => []
noncomputable def e16 : Ent := entOf Try.f16 ⟨p16, wl16, wj16, kr16, []⟩
theorem g16 : EntOk Try.prog stl 16 e16 := .inr ⟨rfl, Try.func16, by kernel_rfl, by kernel_rfl, by kernel_rfl, by kernel_rfl, by kernel_rfl, rfl⟩
/- 17: foghorn/bits.Words -/
def p17 : Nat → Option PlanC := fun _ => none
def wl17 : Nat → List Nat := fun
  | 5 => [32]
  | 8 => [45]
  | _ => []
def wj17 : Nat → Option (List Nat) := fun
  | 13 => some []
  | _ => none
def kr17 : Nat → List Nat := fun _ => []
noncomputable def e17 : Ent := entOf Try.f17 ⟨p17, wl17, wj17, kr17, []⟩
theorem g17 : EntOk Try.prog stl 17 e17 := .inr ⟨rfl, Try.func17, by kernel_rfl, by kernel_rfl, by kernel_rfl, by kernel_rfl, by kernel_rfl, rfl⟩
/- 22: foghorn/bits.Weight -/
def p22 : Nat → Option PlanC := fun _ => none
def wl22 : Nat → List Nat := fun
  | 3 => [3, 8]
  | _ => []
def wj22 : Nat → Option (List Nat) := fun
  | 7 => some [3]
  | _ => none
def kr22 : Nat → List Nat := fun _ => []
noncomputable def e22 : Ent := entOf Try.f22 ⟨p22, wl22, wj22, kr22, []⟩
theorem g22 : EntOk Try.prog stl 22 e22 := .inr ⟨rfl, Try.func22, by kernel_rfl, by kernel_rfl, by kernel_rfl, by kernel_rfl, by kernel_rfl, rfl⟩
/- 24: foghorn/bits.Text -/
def p24 : Nat → Option PlanC := fun _ => none
def wl24 : Nat → List Nat := fun
  | 3 => [11]
  | _ => []
def wj24 : Nat → Option (List Nat) := fun
  | 8 => some []
  | _ => none
def kr24 : Nat → List Nat := fun _ => []
noncomputable def e24 : Ent := entOf Try.f24 ⟨p24, wl24, wj24, kr24, []⟩
theorem g24 : EntOk Try.prog stl 24 e24 := .inr ⟨rfl, Try.func24, by kernel_rfl, by kernel_rfl, by kernel_rfl, by kernel_rfl, by kernel_rfl, rfl⟩
/- 25: foghorn/bits.Gray -/
def p25 : Nat → Option PlanC := fun _ => none
def wl25 : Nat → List Nat := fun _ => []
def wj25 : Nat → Option (List Nat) := fun _ => none
def kr25 : Nat → List Nat := fun _ => []
noncomputable def e25 : Ent := entOf Try.f25 ⟨p25, wl25, wj25, kr25, []⟩
theorem g25 : EntOk Try.prog stl 25 e25 := .inr ⟨rfl, Try.func25, by kernel_rfl, by kernel_rfl, by kernel_rfl, by kernel_rfl, by kernel_rfl, rfl⟩
/- 31: foghorn/foghornlaw01.sameInts -/
def p31 : Nat → Option PlanC := fun _ => none
def wl31 : Nat → List Nat := fun
  | 4 => [5]
  | _ => []
def wj31 : Nat → Option (List Nat) := fun _ => none
def kr31 : Nat → List Nat := fun _ => []
noncomputable def e31 : Ent := entOf Try.f31 ⟨p31, wl31, wj31, kr31, []⟩
theorem g31 : EntOk Try.prog stl 31 e31 := .inr ⟨rfl, Try.func31, by kernel_rfl, by kernel_rfl, by kernel_rfl, by kernel_rfl, by kernel_rfl, rfl⟩
/- 43: foghorn/bits.Pieces -/
def p43 : Nat → Option PlanC := fun _ => none
def wl43 : Nat → List Nat := fun _ => []
def wj43 : Nat → Option (List Nat) := fun _ => none
def kr43 : Nat → List Nat := fun _ => []
noncomputable def e43 : Ent := entOf Try.f43 ⟨p43, wl43, wj43, kr43, []⟩
theorem g43 : EntOk Try.prog stl 43 e43 := .inr ⟨rfl, Try.func43, by kernel_rfl, by kernel_rfl, by kernel_rfl, by kernel_rfl, by kernel_rfl, rfl⟩
/- 46: foghorn/bits.appendWord -/
def p46 : Nat → Option PlanC := fun _ => none
def wl46 : Nat → List Nat := fun
  | 2 => [0, 9]
  | _ => []
def wj46 : Nat → Option (List Nat) := fun _ => none
def kr46 : Nat → List Nat := fun
  | 4 => [21]
  | _ => []
noncomputable def e46 : Ent := entOf Try.f46 ⟨p46, wl46, wj46, kr46, []⟩
theorem g46 : EntOk Try.prog stl 46 e46 := .inr ⟨rfl, Try.func46, by kernel_rfl, by kernel_rfl, by kernel_rfl, by kernel_rfl, by kernel_rfl, rfl⟩
/- 47: foghorn/bits.isWidth -/
def p47 : Nat → Option PlanC := fun _ => none
def wl47 : Nat → List Nat := fun _ => []
def wj47 : Nat → Option (List Nat) := fun _ => none
def kr47 : Nat → List Nat := fun _ => []
noncomputable def e47 : Ent := entOf Try.f47 ⟨p47, wl47, wj47, kr47, []⟩
theorem g47 : EntOk Try.prog stl 47 e47 := .inr ⟨rfl, Try.func47, by kernel_rfl, by kernel_rfl, by kernel_rfl, by kernel_rfl, by kernel_rfl, rfl⟩
/- 48: foghorn/bits.isRow -/
def p48 : Nat → Option PlanC := fun _ => none
def wl48 : Nat → List Nat := fun _ => []
def wj48 : Nat → Option (List Nat) := fun _ => none
def kr48 : Nat → List Nat := fun _ => []
noncomputable def e48 : Ent := entOf Try.f48 ⟨p48, wl48, wj48, kr48, []⟩
theorem g48 : EntOk Try.prog stl 48 e48 := .inr ⟨rfl, Try.func48, by kernel_rfl, by kernel_rfl, by kernel_rfl, by kernel_rfl, by kernel_rfl, rfl⟩
/- 49: foghorn/bits.isGray -/
def p49 : Nat → Option PlanC := fun _ => none
def wl49 : Nat → List Nat := fun _ => []
def wj49 : Nat → Option (List Nat) := fun _ => none
def kr49 : Nat → List Nat := fun _ => []
noncomputable def e49 : Ent := entOf Try.f49 ⟨p49, wl49, wj49, kr49, []⟩
theorem g49 : EntOk Try.prog stl 49 e49 := .inr ⟨rfl, Try.func49, by kernel_rfl, by kernel_rfl, by kernel_rfl, by kernel_rfl, by kernel_rfl, rfl⟩
/- 52: foghorn/bits.Pieces$1 -/
def p52 : Nat → Option PlanC := fun _ => none
def wl52 : Nat → List Nat := fun _ => []
def wj52 : Nat → Option (List Nat) := fun _ => none
def kr52 : Nat → List Nat := fun _ => []
noncomputable def e52 : Ent := entOf Try.f52 ⟨p52, wl52, wj52, kr52, []⟩
theorem g52 : EntOk Try.prog stl 52 e52 := .inr ⟨rfl, Try.func52, by kernel_rfl, by kernel_rfl, by kernel_rfl, by kernel_rfl, by kernel_rfl, rfl⟩
/- 53: slices.Clone[[]bool,bool] -/
def p53 : Nat → Option PlanC := fun _ => none
def wl53 : Nat → List Nat := fun _ => []
def wj53 : Nat → Option (List Nat) := fun _ => none
def kr53 : Nat → List Nat := fun _ => []
noncomputable def e53 : Ent := entOf Try.f53 ⟨p53, wl53, wj53, kr53, []⟩
theorem g53 : EntOk Try.prog stl 53 e53 := .inr ⟨rfl, Try.func53, by kernel_rfl, by kernel_rfl, by kernel_rfl, by kernel_rfl, by kernel_rfl, rfl⟩
/- 54: foghorn/bits.Pieces$2 -/
def p54 : Nat → Option PlanC := fun _ => none
def wl54 : Nat → List Nat := fun
  | 1 => [4]
  | _ => []
def wj54 : Nat → Option (List Nat) := fun _ => none
def kr54 : Nat → List Nat := fun _ => []
noncomputable def e54 : Ent := entOf Try.f54 ⟨p54, wl54, wj54, kr54, []⟩
theorem g54 : EntOk Try.prog stl 54 e54 := .inr ⟨rfl, Try.func54, by kernel_rfl, by kernel_rfl, by kernel_rfl, by kernel_rfl, by kernel_rfl, rfl⟩
noncomputable def ents : List (Nat × Ent) := [(4, e4), (14, e14), (16, e16), (17, e17), (22, e22), (24, e24), (25, e25), (31, e31), (43, e43), (46, e46), (47, e47), (48, e48), (49, e49), (52, e52), (53, e53), (54, e54)]
theorem goods : EntsOk Try.prog stl ents := ⟨g4, g14, g16, g17, g22, g24, g25, g31, g43, g46, g47, g48, g49, g52, g53, g54, True.intro⟩
noncomputable def tab : Nat → Option Ent := (tabOf ents).get
theorem fok : FOk Try.prog stl tab := fok_of goods
noncomputable def d0 : Disp := .leaf
theorem d0_ok : CallSim Try.prog tys stl tab d0.fn := Disp.sim True.intro
/- foghorn/bits.Weight -/
noncomputable def R22 (q_share : (α : Type) → α → (α → Bool) → Bool) (q_addW : Nat → Nat → Option CV → W → W → (W → Bool) → Bool) (q_cmpW : (Nat → Nat → Bool) → Nat → Option CV → W → W → (W → Bool) → Bool) (q_condW : W → Bool → Bool → Bool) (q_idxSW : Nat → W → W → (W → Bool) → Bool) (q_lenW : Option CV → W → (W → Bool) → Bool) (q_loadSW : HW → W → (W → Bool) → Bool) (fu : Nat) (call : CallW) (a0 : W) (h0 : HW) (c0 : Nat) (K : KW) : Bool :=
q_lenW (lenC tys 23 (dec a0)) a0 fun v1 =>
@Nat.rec (fun _ => Fun 2) (fun _ _ _ _ => false) (fun _ f6 v2 v3 h4 c5 =>
q_cmpW (cmpF2 .lss) 3 (binC Try.prog .lss 3 (.tmp 8) (.tmp 7) (dec v3) (dec v1)) v3 v1 fun v7 =>
q_condW v7 (
q_share _ (fun (v8 : W) (h9 : HW) (c10 : Nat) =>
q_addW 3 9223372036854775807 (binC Try.prog .add 3 (.tmp 8) (.const (.int .i64 (.ofNat 1))) (dec v3) (dec ⟨3, 1, r0, []⟩)) v3 ⟨3, 1, r0, []⟩ fun v12 =>
f6 v8 v12 h9 c10) fun f11 =>
q_idxSW 1 a0 v3 fun v13 =>
q_loadSW h4 v13 fun v14 =>
q_condW v14 (
q_addW 3 9223372036854775807 (binC Try.prog .add 3 (.tmp 13) (.const (.int .i64 (.ofNat 1))) (dec v2) (dec ⟨3, 1, r0, []⟩)) v2 ⟨3, 1, r0, []⟩ fun v15 =>
f11 v15 h4 c5) (
f11 v2 h4 c5)) (
K v2 h4 c5)) fu ⟨3, 0, r0, []⟩ ⟨3, 0, r0, []⟩ h0 c0
theorem R22_eq (Q : PrimW) (fu : Nat) (call : CallW) : curryA 1 (fnK Q Try.prog tys stl fu call e22) = R22 Q.share Q.addW Q.cmpW Q.condW Q.idxSW Q.lenW Q.loadSW fu call := by kernel_rfl
noncomputable def n22 : List W → HW → Nat → KW → Bool := appF 1 (R22 (fun _ x f => f x) addW cmpW condW idxSW lenW loadSW 1000000 d0.fn)
theorem n22_ok : FnGood Try.prog tys stl tab 22 n22 := node_ok d0_ok (by kernel_rfl) rfl g22 (R22_eq real _ _)
/- foghorn/bits.Text -/
noncomputable def R24 (q_share : (α : Type) → α → (α → Bool) → Bool) (q_genW : Option CV → (W → Bool) → Bool) (q_addW : Nat → Nat → Option CV → W → W → (W → Bool) → Bool) (q_cmpW : (Nat → Nat → Bool) → Nat → Option CV → W → W → (W → Bool) → Bool) (q_condW : W → Bool → Bool → Bool) (q_idxSW : Nat → W → W → (W → Bool) → Bool) (q_lenW : Option CV → W → (W → Bool) → Bool) (q_loadSW : HW → W → (W → Bool) → Bool) (q_storeSW : HW → W → W → (HW → Bool) → Bool) (q_makeSW : Nat → Nat → Nat → Kind → List W → Bool → HW → Nat → W → W → KW → Bool) (fu : Nat) (call : CallW) (a0 : W) (h0 : HW) (c0 : Nat) (K : KW) : Bool :=
q_lenW (lenC tys 23 (dec a0)) a0 fun v1 =>
q_makeSW 1 1 4 (.ints .u8) [⟨4, 0, r0, []⟩] true h0 c0 v1 v1 fun v2 h3 c4 =>
q_lenW (lenC tys 23 (dec a0)) a0 fun v5 =>
@Nat.rec (fun _ => Fun 1) (fun _ _ _ => false) (fun _ f9 v6 h7 c8 =>
q_cmpW (cmpF2 .lss) 3 (binC Try.prog .lss 3 (.tmp 11) (.tmp 10) (dec v6) (dec v5)) v6 v5 fun v10 =>
q_condW v10 (
q_share _ (fun  (h11 : HW) (c12 : Nat) =>
q_addW 3 9223372036854775807 (binC Try.prog .add 3 (.tmp 11) (.const (.int .i64 (.ofNat 1))) (dec v6) (dec ⟨3, 1, r0, []⟩)) v6 ⟨3, 1, r0, []⟩ fun v14 =>
f9 v14 h11 c12) fun f13 =>
q_idxSW 1 a0 v6 fun v15 =>
q_loadSW h7 v15 fun v16 =>
q_idxSW 1 v2 v6 fun v17 =>
q_storeSW h7 v17 ⟨4, 48, r0, []⟩ fun h18 =>
q_condW v16 (
q_idxSW 1 v2 v6 fun v19 =>
q_storeSW h18 v19 ⟨4, 49, r0, []⟩ fun h20 =>
f13 h20 c8) (
f13 h18 c8)) (
q_genW (convC Try.prog tys ⟨[], 0, decH h7, 0⟩ 62 9 (dec v2)) fun v21 =>
K v21 h7 c8)) fu ⟨3, 0, r0, []⟩ h3 c4
theorem R24_eq (Q : PrimW) (fu : Nat) (call : CallW) : curryA 1 (fnK Q Try.prog tys stl fu call e24) = R24 Q.share Q.genW Q.addW Q.cmpW Q.condW Q.idxSW Q.lenW Q.loadSW Q.storeSW Q.makeSW fu call := by kernel_rfl
noncomputable def n24 : List W → HW → Nat → KW → Bool := appF 1 (R24 (fun _ x f => f x) genW addW cmpW condW idxSW lenW loadSW storeSW makeSW 1000000 d0.fn)
theorem n24_ok : FnGood Try.prog tys stl tab 24 n24 := node_ok d0_ok (by kernel_rfl) rfl g24 (R24_eq real _ _)
/- foghorn/foghornlaw01.sameInts -/
noncomputable def R31 (q_addW : Nat → Nat → Option CV → W → W → (W → Bool) → Bool) (q_cmpW : (Nat → Nat → Bool) → Nat → Option CV → W → W → (W → Bool) → Bool) (q_condW : W → Bool → Bool → Bool) (q_idxSW : Nat → W → W → (W → Bool) → Bool) (q_lenW : Option CV → W → (W → Bool) → Bool) (q_loadSW : HW → W → (W → Bool) → Bool) (fu : Nat) (call : CallW) (a0 : W) (a1 : W) (h0 : HW) (c0 : Nat) (K : KW) : Bool :=
q_lenW (lenC tys 29 (dec a0)) a0 fun v1 =>
q_lenW (lenC tys 29 (dec a1)) a1 fun v2 =>
q_cmpW (cmpF2 .neq) 3 (binC Try.prog .neq 3 (.tmp 7) (.tmp 9) (dec v1) (dec v2)) v1 v2 fun v3 =>
q_condW v3 (
K ⟨8, 0, r0, []⟩ h0 c0) (
@Nat.rec (fun _ => Fun 1) (fun _ _ _ => false) (fun _ f7 v4 h5 c6 =>
q_lenW (lenC tys 29 (dec a0)) a0 fun v8 =>
q_cmpW (cmpF2 .lss) 3 (binC Try.prog .lss 3 (.tmp 11) (.tmp 13) (dec v4) (dec v8)) v4 v8 fun v9 =>
q_condW v9 (
q_idxSW 1 a0 v4 fun v10 =>
q_loadSW h5 v10 fun v11 =>
q_idxSW 1 a1 v4 fun v12 =>
q_loadSW h5 v12 fun v13 =>
q_cmpW (cmpF2 .neq) 3 (binC Try.prog .neq 3 (.tmp 20) (.tmp 24) (dec v11) (dec v13)) v11 v13 fun v14 =>
q_condW v14 (
K ⟨8, 0, r0, []⟩ h5 c6) (
q_addW 3 9223372036854775807 (binC Try.prog .add 3 (.tmp 15) (.const (.int .i64 (.ofNat 1))) (dec v4) (dec ⟨3, 1, r0, []⟩)) v4 ⟨3, 1, r0, []⟩ fun v15 =>
f7 v15 h5 c6)) (
K ⟨8, 1, r0, []⟩ h5 c6)) fu ⟨3, 0, r0, []⟩ h0 c0)
theorem R31_eq (Q : PrimW) (fu : Nat) (call : CallW) : curryA 2 (fnK Q Try.prog tys stl fu call e31) = R31 Q.addW Q.cmpW Q.condW Q.idxSW Q.lenW Q.loadSW fu call := by kernel_rfl
noncomputable def n31 : List W → HW → Nat → KW → Bool := appF 2 (R31 addW cmpW condW idxSW lenW loadSW 1000000 d0.fn)
theorem n31_ok : FnGood Try.prog tys stl tab 31 n31 := node_ok d0_ok (by kernel_rfl) rfl g31 (R31_eq real _ _)
/- foghorn/bits.appendWord -/
noncomputable def R46 (q_addW : Nat → Nat → Option CV → W → W → (W → Bool) → Bool) (q_subW : Nat → Nat → Option CV → W → W → (W → Bool) → Bool) (q_bitW : (Nat → Nat → Nat) → Nat → Nat → Option CV → W → W → (W → Bool) → Bool) (q_cmpW : (Nat → Nat → Bool) → Nat → Option CV → W → W → (W → Bool) → Bool) (q_shrW : Nat → Nat → Option CV → W → W → (W → Bool) → Bool) (q_condW : W → Bool → Bool → Bool) (q_killVW : W → HW → (HW → Bool) → Bool) (q_buildSW : Nat → Nat → Kind → Nat → Bool → HW → Nat → Nat → List W → KW → Bool) (q_appSW : Nat → Nat → (Kind → Bool) → Bool → HW → Nat → W → W → Bool → KW → Bool) (fu : Nat) (call : CallW) (a0 : W) (a1 : W) (a2 : W) (h0 : HW) (c0 : Nat) (K : KW) : Bool :=
@Nat.rec (fun _ => Fun 2) (fun _ _ _ _ => false) (fun _ f5 v1 v2 h3 c4 =>
q_cmpW (cmpF2 .lss) 3 (binC Try.prog .lss 3 (.tmp 9) (.tmp 8) (dec v2) (dec a2)) v2 a2 fun v6 =>
q_condW v6 (
q_subW 3 9223372036854775807 (binC Try.prog .sub 3 (.tmp 14) (.const (.int .i64 (.ofNat 1))) (dec a2) (dec ⟨3, 1, r0, []⟩)) a2 ⟨3, 1, r0, []⟩ fun v7 =>
q_subW 3 9223372036854775807 (binC Try.prog .sub 3 (.tmp 15) (.tmp 16) (dec v7) (dec v2)) v7 v2 fun v8 =>
q_shrW 3 64 (binC Try.prog .shr 3 (.tmp 13) (.tmp 17) (dec a1) (dec v8)) a1 v8 fun v9 =>
q_bitW Nat.land 3 9223372036854775807 (binC Try.prog .and 3 (.tmp 18) (.const (.int .i64 (.ofNat 1))) (dec v9) (dec ⟨3, 1, r0, []⟩)) v9 ⟨3, 1, r0, []⟩ fun v10 =>
q_cmpW (cmpF2 .neq) 3 (binC Try.prog .neq 3 (.tmp 19) (.const (.int .i64 (.ofNat 0))) (dec v10) (dec ⟨3, 0, r0, []⟩)) v10 ⟨3, 0, r0, []⟩ fun v11 =>
q_buildSW 1 8 .bools 1 true h3 c4 1 [v11] fun v12 h13 c14 =>
q_appSW 1 1 (appKindOk (elemJ tys 23)) false h13 c14 v1 v12 false fun v15 h16 c17 =>
q_killVW v12 h16 fun h18 =>
q_addW 3 9223372036854775807 (binC Try.prog .add 3 (.tmp 9) (.const (.int .i64 (.ofNat 1))) (dec v2) (dec ⟨3, 1, r0, []⟩)) v2 ⟨3, 1, r0, []⟩ fun v19 =>
f5 v15 v19 h18 c17) (
K v1 h3 c4)) fu a0 ⟨3, 0, r0, []⟩ h0 c0
theorem R46_eq (Q : PrimW) (fu : Nat) (call : CallW) : curryA 3 (fnK Q Try.prog tys stl fu call e46) = R46 Q.addW Q.subW Q.bitW Q.cmpW Q.shrW Q.condW Q.killVW Q.buildSW Q.appSW fu call := by kernel_rfl
noncomputable def n46 : List W → HW → Nat → KW → Bool := appF 3 (R46 addW subW bitW cmpW shrW condW killVW buildSW appSW 1000000 d0.fn)
theorem n46_ok : FnGood Try.prog tys stl tab 46 n46 := node_ok d0_ok (by kernel_rfl) rfl g46 (R46_eq real _ _)
/- foghorn/bits.isWidth -/
noncomputable def R47 (q_share : (α : Type) → α → (α → Bool) → Bool) (q_cmpW : (Nat → Nat → Bool) → Nat → Option CV → W → W → (W → Bool) → Bool) (q_guardW : Bool → W → Bool → Bool → Bool) (q_pickW : W → W → W → (W → Bool) → Bool) (fu : Nat) (call : CallW) (a0 : W) (h0 : HW) (c0 : Nat) (K : KW) : Bool :=
q_cmpW (cmpF2 .geq) 3 (binC Try.prog .geq 3 (.tmp 3) (.const (.int .i64 (.ofNat 1))) (dec a0) (dec ⟨3, 1, r0, []⟩)) a0 ⟨3, 1, r0, []⟩ fun v1 =>
q_share _ (fun (v3 : W) (h4 : HW) (c5 : Nat) =>
q_share _ (fun (v7 : W) (h8 : HW) (c9 : Nat) =>
q_pickW v1 v7 ⟨8, 0, r0, []⟩ fun v10 =>
K v10 h8 c9) fun f6 =>
q_guardW true v1 (q_cmpW (cmpF2 .leq) 3 (binC Try.prog .leq 3 (.tmp 6) (.const (.int .i64 (.ofNat 16))) (dec v3) (dec ⟨3, 16, r0, []⟩)) v3 ⟨3, 16, r0, []⟩ fun v11 =>
f6 v11 h4 c5) (f6 wUnd h4 c5)) fun f2 =>
q_guardW true v1 (f2 a0 h0 c0) (f2 wUnd h0 c0)
theorem R47_eq (Q : PrimW) (fu : Nat) (call : CallW) : curryA 1 (fnK Q Try.prog tys stl fu call e47) = R47 Q.share Q.cmpW Q.guardW Q.pickW fu call := by kernel_rfl
noncomputable def n47 : List W → HW → Nat → KW → Bool := appF 1 (R47 (fun _ x f => f x) cmpW guardW pickW 1000000 d0.fn)
theorem n47_ok : FnGood Try.prog tys stl tab 47 n47 := node_ok d0_ok (by kernel_rfl) rfl g47 (R47_eq real _ _)
/- foghorn/bits.isRow -/
noncomputable def R48 (q_cmpW : (Nat → Nat → Bool) → Nat → Option CV → W → W → (W → Bool) → Bool) (q_lenW : Option CV → W → (W → Bool) → Bool) (fu : Nat) (call : CallW) (a0 : W) (h0 : HW) (c0 : Nat) (K : KW) : Bool :=
q_lenW (lenC tys 23 (dec a0)) a0 fun v1 =>
q_cmpW (cmpF2 .leq) 3 (binC Try.prog .leq 3 (.tmp 4) (.const (.int .i64 (.ofNat 32768))) (dec v1) (dec ⟨3, 32768, r0, []⟩)) v1 ⟨3, 32768, r0, []⟩ fun v2 =>
K v2 h0 c0
theorem R48_eq (Q : PrimW) (fu : Nat) (call : CallW) : curryA 1 (fnK Q Try.prog tys stl fu call e48) = R48 Q.cmpW Q.lenW fu call := by kernel_rfl
noncomputable def n48 : List W → HW → Nat → KW → Bool := appF 1 (R48 cmpW lenW 1000000 d0.fn)
theorem n48_ok : FnGood Try.prog tys stl tab 48 n48 := node_ok d0_ok (by kernel_rfl) rfl g48 (R48_eq real _ _)
/- foghorn/bits.isGray -/
noncomputable def R49 (q_share : (α : Type) → α → (α → Bool) → Bool) (q_cmpW : (Nat → Nat → Bool) → Nat → Option CV → W → W → (W → Bool) → Bool) (q_guardW : Bool → W → Bool → Bool → Bool) (q_pickW : W → W → W → (W → Bool) → Bool) (fu : Nat) (call : CallW) (a0 : W) (h0 : HW) (c0 : Nat) (K : KW) : Bool :=
q_cmpW (cmpF2 .geq) 3 (binC Try.prog .geq 3 (.tmp 3) (.const (.int .i64 (.ofNat 0))) (dec a0) (dec ⟨3, 0, r0, []⟩)) a0 ⟨3, 0, r0, []⟩ fun v1 =>
q_share _ (fun (v3 : W) (h4 : HW) (c5 : Nat) =>
q_share _ (fun (v7 : W) (h8 : HW) (c9 : Nat) =>
q_pickW v1 v7 ⟨8, 0, r0, []⟩ fun v10 =>
K v10 h8 c9) fun f6 =>
q_guardW true v1 (q_cmpW (cmpF2 .lss) 3 (binC Try.prog .lss 3 (.tmp 6) (.const (.int .i64 (.ofNat 65536))) (dec v3) (dec ⟨3, 65536, r0, []⟩)) v3 ⟨3, 65536, r0, []⟩ fun v11 =>
f6 v11 h4 c5) (f6 wUnd h4 c5)) fun f2 =>
q_guardW true v1 (f2 a0 h0 c0) (f2 wUnd h0 c0)
theorem R49_eq (Q : PrimW) (fu : Nat) (call : CallW) : curryA 1 (fnK Q Try.prog tys stl fu call e49) = R49 Q.share Q.cmpW Q.guardW Q.pickW fu call := by kernel_rfl
noncomputable def n49 : List W → HW → Nat → KW → Bool := appF 1 (R49 (fun _ x f => f x) cmpW guardW pickW 1000000 d0.fn)
theorem n49_ok : FnGood Try.prog tys stl tab 49 n49 := node_ok d0_ok (by kernel_rfl) rfl g49 (R49_eq real _ _)
/- foghorn/bits.Pieces$1 -/
noncomputable def R52 (fu : Nat) (call : CallW) (a0 : W) (h0 : HW) (c0 : Nat) (K : KW) : Bool :=
K ⟨13, 0, r0, []⟩ h0 c0
theorem R52_eq (Q : PrimW) (fu : Nat) (call : CallW) : curryA 1 (fnK Q Try.prog tys stl fu call e52) = R52 fu call := by kernel_rfl
noncomputable def n52 : List W → HW → Nat → KW → Bool := appF 1 (R52 1000000 d0.fn)
theorem n52_ok : FnGood Try.prog tys stl tab 52 n52 := node_ok d0_ok (by kernel_rfl) rfl g52 (R52_eq real _ _)
/- slices.Clone[[]bool,bool] -/
noncomputable def R53 (q_genW : Option CV → (W → Bool) → Bool) (q_condW : W → Bool → Bool → Bool) (q_buildSW : Nat → Nat → Kind → Nat → Bool → HW → Nat → Nat → List W → KW → Bool) (q_appSW : Nat → Nat → (Kind → Bool) → Bool → HW → Nat → W → W → Bool → KW → Bool) (fu : Nat) (call : CallW) (a0 : W) (h0 : HW) (c0 : Nat) (K : KW) : Bool :=
q_genW (binC Try.prog .eql 23 (.tmp 3) (.const (.slice none 0 0)) (dec a0) (dec ⟨12, 0, ⟨0, 0, 0, .nils⟩, []⟩)) fun v1 =>
q_condW v1 (
K ⟨12, 0, ⟨0, 0, 0, .nils⟩, []⟩ h0 c0) (
q_buildSW 1 8 .bools 0 true h0 c0 0 [] fun v2 h3 c4 =>
q_appSW 1 1 (appKindOk (elemJ tys 23)) false h3 c4 v2 a0 false fun v5 h6 c7 =>
K v5 h6 c7)
theorem R53_eq (Q : PrimW) (fu : Nat) (call : CallW) : curryA 1 (fnK Q Try.prog tys stl fu call e53) = R53 Q.genW Q.condW Q.buildSW Q.appSW fu call := by kernel_rfl
noncomputable def n53 : List W → HW → Nat → KW → Bool := appF 1 (R53 genW condW buildSW appSW 1000000 d0.fn)
theorem n53_ok : FnGood Try.prog tys stl tab 53 n53 := node_ok d0_ok (by kernel_rfl) rfl g53 (R53_eq real _ _)
noncomputable def d1 : Disp := (.node 47 n47 (.node 31 n31 (.node 24 n24 (.node 22 n22 .leaf .leaf) .leaf) (.node 46 n46 .leaf .leaf)) (.node 52 n52 (.node 49 n49 (.node 48 n48 .leaf .leaf) .leaf) (.node 53 n53 .leaf .leaf)))
theorem d1_ok : CallSim Try.prog tys stl tab d1.fn := Disp.sim ⟨n47_ok, ⟨n31_ok, ⟨n24_ok, ⟨n22_ok, True.intro, True.intro⟩, True.intro⟩, ⟨n46_ok, True.intro, True.intro⟩⟩, ⟨n52_ok, ⟨n49_ok, ⟨n48_ok, True.intro, True.intro⟩, True.intro⟩, ⟨n53_ok, True.intro, True.intro⟩⟩⟩
/- foghorn/bits.Of -/
noncomputable def R16 (q_genW : Option CV → (W → Bool) → Bool) (q_addW : Nat → Nat → Option CV → W → W → (W → Bool) → Bool) (q_mulW : Nat → Nat → Option CV → W → W → (W → Bool) → Bool) (q_cmpW : (Nat → Nat → Bool) → Nat → Option CV → W → W → (W → Bool) → Bool) (q_icvW : Nat → Nat → Option CV → W → (W → Bool) → Bool) (q_condW : W → Bool → Bool → Bool) (q_makeSW : Nat → Nat → Nat → Kind → List W → Bool → HW → Nat → W → W → KW → Bool) (fu : Nat) (call : CallW) (a0 : W) (h0 : HW) (c0 : Nat) (K : KW) : Bool :=
q_genW (lenC tys 9 (dec a0)) fun v1 =>
q_cmpW (cmpF2 .gtr) 3 (binC Try.prog .gtr 3 (.tmp 7) (.const (.int .i64 (.ofNat 4096))) (dec v1) (dec ⟨3, 4096, r0, []⟩)) v1 ⟨3, 4096, r0, []⟩ fun v2 =>
q_condW v2 (
K ⟨13, 0, r0, [⟨12, 0, ⟨0, 0, 0, .nils⟩, []⟩, ⟨3, 1, r0, []⟩]⟩ h0 c0) (
q_genW (lenC tys 9 (dec a0)) fun v3 =>
q_mulW 3 9223372036854775807 (binC Try.prog .mul 3 (.const (.int .i64 (.ofNat 8))) (.tmp 10) (dec ⟨3, 8, r0, []⟩) (dec v3)) ⟨3, 8, r0, []⟩ v3 fun v4 =>
q_makeSW 1 1 8 .bools [⟨8, 0, r0, []⟩] true h0 c0 ⟨3, 0, r0, []⟩ v4 fun v5 h6 c7 =>
q_genW (lenC tys 9 (dec a0)) fun v8 =>
@Nat.rec (fun _ => Fun 2) (fun _ _ _ _ => false) (fun _ f13 v9 v10 h11 c12 =>
q_cmpW (cmpF2 .lss) 3 (binC Try.prog .lss 3 (.tmp 15) (.tmp 14) (dec v10) (dec v8)) v10 v8 fun v14 =>
q_condW v14 (
q_genW (two2 Try.prog (dec a0) (dec v10) (Instr.index 9)) fun v15 =>
q_icvW 3 9223372036854775807 (convC Try.prog tys ⟨[], 0, decH h11, 0⟩ 5 3 (dec v15)) v15 fun v16 =>
call 46 [v9, v16, ⟨3, 8, r0, []⟩] h11 c12 fun v17 h18 c19 =>
q_addW 3 9223372036854775807 (binC Try.prog .add 3 (.tmp 15) (.const (.int .i64 (.ofNat 1))) (dec v10) (dec ⟨3, 1, r0, []⟩)) v10 ⟨3, 1, r0, []⟩ fun v20 =>
f13 v17 v20 h18 c19) (
K ⟨13, 0, r0, [v9, ⟨3, 0, r0, []⟩]⟩ h11 c12)) fu v5 ⟨3, 0, r0, []⟩ h6 c7)
theorem R16_eq (Q : PrimW) (fu : Nat) (call : CallW) : curryA 1 (fnK Q Try.prog tys stl fu call e16) = R16 Q.genW Q.addW Q.mulW Q.cmpW Q.icvW Q.condW Q.makeSW fu call := by kernel_rfl
noncomputable def n16 : List W → HW → Nat → KW → Bool := appF 1 (R16 genW addW mulW cmpW icvW condW makeSW 1000000 d1.fn)
theorem n16_ok : FnGood Try.prog tys stl tab 16 n16 := node_ok d1_ok (by kernel_rfl) rfl g16 (R16_eq real _ _)
/- foghorn/bits.Words -/
noncomputable def R17 (q_share : (α : Type) → α → (α → Bool) → Bool) (q_genW : Option CV → (W → Bool) → Bool) (q_addW : Nat → Nat → Option CV → W → W → (W → Bool) → Bool) (q_mulW : Nat → Nat → Option CV → W → W → (W → Bool) → Bool) (q_quoW : Nat → Nat → Option CV → W → W → (W → Bool) → Bool) (q_remW : Nat → Nat → Option CV → W → W → (W → Bool) → Bool) (q_bitW : (Nat → Nat → Nat) → Nat → Nat → Option CV → W → W → (W → Bool) → Bool) (q_cmpW : (Nat → Nat → Bool) → Nat → Option CV → W → W → (W → Bool) → Bool) (q_shlW : Nat → Nat → Nat → Option CV → W → W → (W → Bool) → Bool) (q_notW : Option CV → W → (W → Bool) → Bool) (q_condW : W → Bool → Bool → Bool) (q_guardW : Bool → W → Bool → Bool → Bool) (q_pickW : W → W → W → (W → Bool) → Bool) (q_idxSW : Nat → W → W → (W → Bool) → Bool) (q_lenW : Option CV → W → (W → Bool) → Bool) (q_loadSW : HW → W → (W → Bool) → Bool) (q_storeSW : HW → W → W → (HW → Bool) → Bool) (q_makeSW : Nat → Nat → Nat → Kind → List W → Bool → HW → Nat → W → W → KW → Bool) (fu : Nat) (call : CallW) (a0 : W) (a1 : W) (h0 : HW) (c0 : Nat) (K : KW) : Bool :=
call 47 [a1] h0 c0 fun v1 h2 c3 =>
q_notW (two Try.prog (dec v1) (Op.unary .not)) v1 fun v4 =>
q_share _ (fun (v6 : W) (h7 : HW) (c8 : Nat) =>
q_share _ (fun (v10 : W) (h11 : HW) (c12 : Nat) =>
q_share _ (fun (v14 : W) (h15 : HW) (c16 : Nat) =>
q_pickW v4 ⟨8, 1, r0, []⟩ v14 fun v17 =>
q_share _ (fun (v19 : W) (h20 : HW) (c21 : Nat) =>
q_share _ (fun (v23 : W) (h24 : HW) (c25 : Nat) =>
q_share _ (fun (v27 : W) (h28 : HW) (c29 : Nat) =>
q_share _ (fun (v31 : W) (h32 : HW) (c33 : Nat) =>
q_share _ (fun (v35 : W) (h36 : HW) (c37 : Nat) =>
q_pickW v17 ⟨8, 1, r0, []⟩ v35 fun v38 =>
q_condW v38 (
K ⟨13, 0, r0, [⟨12, 0, ⟨0, 0, 0, .nils⟩, []⟩, ⟨3, 1, r0, []⟩]⟩ h36 c37) (
q_lenW (lenC tys 23 (dec a0)) a0 fun v39 =>
q_quoW 3 9223372036854775807 (binC Try.prog .quo 3 (.tmp 26) (.tmp 27) (dec v39) (dec a1)) v39 a1 fun v40 =>
q_makeSW 8 1 3 (.ints .i64) [⟨3, 0, r0, []⟩] true h36 c37 v40 v40 fun v41 h42 c43 =>
q_lenW (lenC tys 29 (dec v41)) v41 fun v44 =>
@Nat.rec (fun _ => Fun 1) (fun _ _ _ => false) (fun _ f48 v45 h46 c47 =>
q_cmpW (cmpF2 .lss) 3 (binC Try.prog .lss 3 (.tmp 32) (.tmp 31) (dec v45) (dec v44)) v45 v44 fun v49 =>
q_condW v49 (
q_mulW 3 9223372036854775807 (binC Try.prog .mul 3 (.tmp 36) (.tmp 37) (dec v45) (dec a1)) v45 a1 fun v50 =>
q_addW 3 9223372036854775807 (binC Try.prog .add 3 (.tmp 39) (.const (.int .i64 (.ofNat 1))) (dec v45) (dec ⟨3, 1, r0, []⟩)) v45 ⟨3, 1, r0, []⟩ fun v51 =>
q_mulW 3 9223372036854775807 (binC Try.prog .mul 3 (.tmp 40) (.tmp 41) (dec v51) (dec a1)) v51 a1 fun v52 =>
q_genW (sliceC tys 23 (dec a0) (some (dec v50)) (some (dec v52)) none) fun v53 =>
q_lenW (lenC tys 23 (dec v53)) v53 fun v54 =>
@Nat.rec (fun _ => Fun 1) (fun _ _ _ => false) (fun _ f58 v55 h56 c57 =>
q_cmpW (cmpF2 .lss) 3 (binC Try.prog .lss 3 (.tmp 45) (.tmp 44) (dec v55) (dec v54)) v55 v54 fun v59 =>
q_condW v59 (
q_share _ (fun  (h60 : HW) (c61 : Nat) =>
q_addW 3 9223372036854775807 (binC Try.prog .add 3 (.tmp 45) (.const (.int .i64 (.ofNat 1))) (dec v55) (dec ⟨3, 1, r0, []⟩)) v55 ⟨3, 1, r0, []⟩ fun v63 =>
f58 v63 h60 c61) fun f62 =>
q_idxSW 1 v53 v55 fun v64 =>
q_loadSW h56 v64 fun v65 =>
q_idxSW 1 v41 v45 fun v66 =>
q_loadSW h56 v66 fun v67 =>
q_shlW 3 9223372036854775807 64 (binC Try.prog .shl 3 (.tmp 52) (.const (.int .u64 (.ofNat 1))) (dec v67) (dec ⟨7, 1, r0, []⟩)) v67 ⟨7, 1, r0, []⟩ fun v68 =>
q_idxSW 1 v41 v45 fun v69 =>
q_storeSW h56 v69 v68 fun h70 =>
q_condW v65 (
q_idxSW 1 v41 v45 fun v71 =>
q_loadSW h70 v71 fun v72 =>
q_bitW Nat.lor 3 9223372036854775807 (binC Try.prog .or 3 (.tmp 59) (.const (.int .i64 (.ofNat 1))) (dec v72) (dec ⟨3, 1, r0, []⟩)) v72 ⟨3, 1, r0, []⟩ fun v73 =>
q_idxSW 1 v41 v45 fun v74 =>
q_storeSW h70 v74 v73 fun h75 =>
f62 h75 c57) (
f62 h70 c57)) (
q_addW 3 9223372036854775807 (binC Try.prog .add 3 (.tmp 32) (.const (.int .i64 (.ofNat 1))) (dec v45) (dec ⟨3, 1, r0, []⟩)) v45 ⟨3, 1, r0, []⟩ fun v76 =>
f48 v76 h56 c57)) fu ⟨3, 0, r0, []⟩ h46 c47) (
K ⟨13, 0, r0, [v41, ⟨3, 0, r0, []⟩]⟩ h46 c47)) fu ⟨3, 0, r0, []⟩ h42 c43)) fun f34 =>
q_guardW false v17 (q_cmpW (cmpF2 .neq) 3 (binC Try.prog .neq 3 (.tmp 22) (.const (.int .i64 (.ofNat 0))) (dec v31) (dec ⟨3, 0, r0, []⟩)) v31 ⟨3, 0, r0, []⟩ fun v77 =>
f34 v77 h32 c33) (f34 wUnd h32 c33)) fun f30 =>
q_guardW false v17 (q_remW 3 9223372036854775807 (binC Try.prog .rem 3 (.tmp 20) (.tmp 21) (dec v23) (dec v27)) v23 v27 fun v78 =>
f30 v78 h28 c29) (f30 wUnd h28 c29)) fun f26 =>
q_guardW false v17 (f26 a1 h24 c25) (f26 wUnd h24 c25)) fun f22 =>
q_guardW false v17 (q_lenW (lenC tys 23 (dec v19)) v19 fun v79 =>
f22 v79 h20 c21) (f22 wUnd h20 c21)) fun f18 =>
q_guardW false v17 (f18 a0 h15 c16) (f18 wUnd h15 c16)) fun f13 =>
q_guardW false v4 (q_notW (two Try.prog (dec v10) (Op.unary .not)) v10 fun v80 =>
f13 v80 h11 c12) (f13 wUnd h11 c12)) fun f9 =>
q_guardW false v4 (call 48 [v6] h7 c8 fun v81 h82 c83 =>
f9 v81 h82 c83) (f9 wUnd h7 c8)) fun f5 =>
q_guardW false v4 (f5 a0 h2 c3) (f5 wUnd h2 c3)
theorem R17_eq (Q : PrimW) (fu : Nat) (call : CallW) : curryA 2 (fnK Q Try.prog tys stl fu call e17) = R17 Q.share Q.genW Q.addW Q.mulW Q.quoW Q.remW Q.bitW Q.cmpW Q.shlW Q.notW Q.condW Q.guardW Q.pickW Q.idxSW Q.lenW Q.loadSW Q.storeSW Q.makeSW fu call := by kernel_rfl
noncomputable def n17 : List W → HW → Nat → KW → Bool := appF 2 (R17 (fun _ x f => f x) genW addW mulW quoW remW bitW cmpW shlW notW condW guardW pickW idxSW lenW loadSW storeSW makeSW 1000000 d1.fn)
theorem n17_ok : FnGood Try.prog tys stl tab 17 n17 := node_ok d1_ok (by kernel_rfl) rfl g17 (R17_eq real _ _)
/- foghorn/bits.Gray -/
noncomputable def R25 (q_bitW : (Nat → Nat → Nat) → Nat → Nat → Option CV → W → W → (W → Bool) → Bool) (q_shrW : Nat → Nat → Option CV → W → W → (W → Bool) → Bool) (q_notW : Option CV → W → (W → Bool) → Bool) (q_condW : W → Bool → Bool → Bool) (fu : Nat) (call : CallW) (a0 : W) (h0 : HW) (c0 : Nat) (K : KW) : Bool :=
call 49 [a0] h0 c0 fun v1 h2 c3 =>
q_notW (two Try.prog (dec v1) (Op.unary .not)) v1 fun v4 =>
q_condW v4 (
K ⟨13, 0, r0, [⟨3, 0, r0, []⟩, ⟨3, 1, r0, []⟩]⟩ h2 c3) (
q_shrW 3 64 (binC Try.prog .shr 3 (.tmp 8) (.const (.int .u64 (.ofNat 1))) (dec a0) (dec ⟨7, 1, r0, []⟩)) a0 ⟨7, 1, r0, []⟩ fun v5 =>
q_bitW Nat.xor 3 9223372036854775807 (binC Try.prog .xor 3 (.tmp 7) (.tmp 9) (dec a0) (dec v5)) a0 v5 fun v6 =>
K ⟨13, 0, r0, [v6, ⟨3, 0, r0, []⟩]⟩ h2 c3)
theorem R25_eq (Q : PrimW) (fu : Nat) (call : CallW) : curryA 1 (fnK Q Try.prog tys stl fu call e25) = R25 Q.bitW Q.shrW Q.notW Q.condW fu call := by kernel_rfl
noncomputable def n25 : List W → HW → Nat → KW → Bool := appF 1 (R25 bitW shrW notW condW 1000000 d1.fn)
theorem n25_ok : FnGood Try.prog tys stl tab 25 n25 := node_ok d1_ok (by kernel_rfl) rfl g25 (R25_eq real _ _)
/- foghorn/bits.Pieces -/
noncomputable def R43 (q_genW : Option CV → (W → Bool) → Bool) (q_cmpW : (Nat → Nat → Bool) → Nat → Option CV → W → W → (W → Bool) → Bool) (q_condW : W → Bool → Bool → Bool) (q_lenW : Option CV → W → (W → Bool) → Bool) (q_loadSW : HW → W → (W → Bool) → Bool) (q_storeSW : HW → W → W → (HW → Bool) → Bool) (q_allocW : Trie W → Nat → Bool → HW → Nat → KW → Bool) (q_boxW : HW → Nat → W → KW → Bool) (fu : Nat) (call : CallW) (a0 : W) (a1 : W) (h0 : HW) (c0 : Nat) (K : KW) : Bool :=
q_boxW h0 c0 a1 fun v1 h2 c3 =>
q_loadSW h2 v1 fun v4 =>
q_cmpW (cmpF2 .lss) 3 (binC Try.prog .lss 3 (.tmp 6) (.const (.int .i64 (.ofNat 1))) (dec v4) (dec ⟨3, 1, r0, []⟩)) v4 ⟨3, 1, r0, []⟩ fun v5 =>
q_condW v5 (
K ⟨14, 52, r0, []⟩ h2 c3) (
call 53 [a0] h2 c3 fun v6 h7 c8 =>
q_allocW (allocT tys 23) 1 true h7 c8 fun v9 h10 c11 =>
q_storeSW h10 v9 v6 fun h12 =>
q_loadSW h12 v1 fun v13 =>
q_loadSW h12 v9 fun v14 =>
q_lenW (lenC tys 23 (dec v14)) v14 fun v15 =>
q_genW (two2 Try.prog (dec v15) (dec ⟨3, 1, r0, []⟩) fun v u => Builtin.max_ #[3, 3] 3 #[v, u]) fun v16 =>
q_genW (two2 Try.prog (dec v13) (dec v16) fun v u => Builtin.min_ #[3, 3] 3 #[v, u]) fun v17 =>
q_storeSW h12 v1 v17 fun h18 =>
(fun (v19 : W) =>
K v19 h18 c11) ⟨14, 54, r0, [v9, v1]⟩)
theorem R43_eq (Q : PrimW) (fu : Nat) (call : CallW) : curryA 2 (fnK Q Try.prog tys stl fu call e43) = R43 Q.genW Q.cmpW Q.condW Q.lenW Q.loadSW Q.storeSW Q.allocW Q.boxW fu call := by kernel_rfl
noncomputable def n43 : List W → HW → Nat → KW → Bool := appF 2 (R43 genW cmpW condW lenW loadSW storeSW allocW boxW 1000000 d1.fn)
theorem n43_ok : FnGood Try.prog tys stl tab 43 n43 := node_ok d1_ok (by kernel_rfl) rfl g43 (R43_eq real _ _)
/- foghorn/bits.Pieces$2 -/
noncomputable def R54 (q_genW : Option CV → (W → Bool) → Bool) (q_addW : Nat → Nat → Option CV → W → W → (W → Bool) → Bool) (q_cmpW : (Nat → Nat → Bool) → Nat → Option CV → W → W → (W → Bool) → Bool) (q_notW : Option CV → W → (W → Bool) → Bool) (q_condW : W → Bool → Bool → Bool) (q_lenW : Option CV → W → (W → Bool) → Bool) (q_onF : W → (FuncId → List W → Bool) → Bool) (q_loadSW : HW → W → (W → Bool) → Bool) (fu : Nat) (call : CallW) (a0 : W) (a1 : W) (a2 : W) (h0 : HW) (c0 : Nat) (K : KW) : Bool :=
@Nat.rec (fun _ => Fun 1) (fun _ _ _ => false) (fun _ f4 v1 h2 c3 =>
q_loadSW h2 a1 fun v5 =>
q_lenW (lenC tys 23 (dec v5)) v5 fun v6 =>
q_cmpW (cmpF2 .lss) 3 (binC Try.prog .lss 3 (.tmp 5) (.tmp 7) (dec v1) (dec v6)) v1 v6 fun v7 =>
q_condW v7 (
q_loadSW h2 a1 fun v8 =>
q_loadSW h2 a2 fun v9 =>
q_addW 3 9223372036854775807 (binC Try.prog .add 3 (.tmp 16) (.tmp 17) (dec v1) (dec v9)) v1 v9 fun v10 =>
q_loadSW h2 a1 fun v11 =>
q_lenW (lenC tys 23 (dec v11)) v11 fun v12 =>
q_genW (two2 Try.prog (dec v10) (dec v12) fun v u => Builtin.min_ #[3, 3] 3 #[v, u]) fun v13 =>
q_genW (sliceC tys 23 (dec v8) (some (dec v1)) (some (dec v13)) none) fun v14 =>
call 53 [v14] h2 c3 fun v15 h16 c17 =>
q_onF a0 fun g18 l19 => call g18 (appL [v1, v15] l19) h16 c17 fun v20 h21 c22 =>
q_notW (two Try.prog (dec v20) (Op.unary .not)) v20 fun v23 =>
q_condW v23 (
K ⟨13, 0, r0, []⟩ h21 c22) (
q_loadSW h21 a2 fun v24 =>
q_addW 3 9223372036854775807 (binC Try.prog .add 3 (.tmp 9) (.tmp 10) (dec v1) (dec v24)) v1 v24 fun v25 =>
f4 v25 h21 c22)) (
K ⟨13, 0, r0, []⟩ h2 c3)) fu ⟨3, 0, r0, []⟩ h0 c0
theorem R54_eq (Q : PrimW) (fu : Nat) (call : CallW) : curryA 3 (fnK Q Try.prog tys stl fu call e54) = R54 Q.genW Q.addW Q.cmpW Q.notW Q.condW Q.lenW Q.onF Q.loadSW fu call := by kernel_rfl
noncomputable def n54 : List W → HW → Nat → KW → Bool := appF 3 (R54 genW addW cmpW notW condW lenW onF loadSW 1000000 d1.fn)
theorem n54_ok : FnGood Try.prog tys stl tab 54 n54 := node_ok d1_ok (by kernel_rfl) rfl g54 (R54_eq real _ _)
noncomputable def d2 : Disp := (.node 46 n46 (.node 24 n24 (.node 17 n17 (.node 16 n16 .leaf .leaf) (.node 22 n22 .leaf .leaf)) (.node 31 n31 (.node 25 n25 .leaf .leaf) (.node 43 n43 .leaf .leaf))) (.node 52 n52 (.node 48 n48 (.node 47 n47 .leaf .leaf) (.node 49 n49 .leaf .leaf)) (.node 54 n54 (.node 53 n53 .leaf .leaf) .leaf)))
theorem d2_ok : CallSim Try.prog tys stl tab d2.fn := Disp.sim ⟨n46_ok, ⟨n24_ok, ⟨n17_ok, ⟨n16_ok, True.intro, True.intro⟩, ⟨n22_ok, True.intro, True.intro⟩⟩, ⟨n31_ok, ⟨n25_ok, True.intro, True.intro⟩, ⟨n43_ok, True.intro, True.intro⟩⟩⟩, ⟨n52_ok, ⟨n48_ok, ⟨n47_ok, True.intro, True.intro⟩, ⟨n49_ok, True.intro, True.intro⟩⟩, ⟨n54_ok, ⟨n53_ok, True.intro, True.intro⟩, True.intro⟩⟩⟩
/- foghorn/foghornlaw01.works -/
noncomputable def R14 (q_share : (α : Type) → α → (α → Bool) → Bool) (q_genW : Option CV → (W → Bool) → Bool) (q_cmpW : (Nat → Nat → Bool) → Nat → Option CV → W → W → (W → Bool) → Bool) (q_guardW : Bool → W → Bool → Bool → Bool) (q_pickW : W → W → W → (W → Bool) → Bool) (q_tupW : W → (List W → Bool) → Bool) (q_nthW : Nat → List W → (W → Bool) → Bool) (q_buildSW : Nat → Nat → Kind → Nat → Bool → HW → Nat → Nat → List W → KW → Bool) (fu : Nat) (call : CallW) (h0 : HW) (c0 : Nat) (K : KW) : Bool :=
call 16 [⟨12, 0, ⟨0, 0, 0, .str ⟨⟨[65]⟩⟩⟩, []⟩] h0 c0 fun v1 h2 c3 =>
q_tupW v1 fun l4 => q_nthW 0 l4 fun v5 =>
q_tupW v1 fun l6 => q_nthW 1 l6 fun v7 =>
call 17 [v5, ⟨3, 4, r0, []⟩] h2 c3 fun v8 h9 c10 =>
q_tupW v8 fun l11 => q_nthW 0 l11 fun v12 =>
q_tupW v8 fun l13 => q_nthW 1 l13 fun v14 =>
call 25 [⟨3, 7, r0, []⟩] h9 c10 fun v15 h16 c17 =>
q_tupW v15 fun l18 => q_nthW 0 l18 fun v19 =>
q_tupW v15 fun l20 => q_nthW 1 l20 fun v21 =>
q_cmpW (cmpF2 .eql) 3 (binC Try.prog .eql 24 (.tmp 20) (.const (.int .i64 (.ofNat 0))) (dec v7) (dec ⟨3, 0, r0, []⟩)) v7 ⟨3, 0, r0, []⟩ fun v22 =>
q_share _ (fun (v24 : W) (h25 : HW) (c26 : Nat) =>
q_share _ (fun (v28 : W) (h29 : HW) (c30 : Nat) =>
q_pickW v22 v28 ⟨8, 0, r0, []⟩ fun v31 =>
q_share _ (fun (v33 : W) (h34 : HW) (c35 : Nat) =>
q_share _ (fun (v37 : W) (h38 : HW) (c39 : Nat) =>
q_pickW v31 v37 ⟨8, 0, r0, []⟩ fun v40 =>
q_share _ (fun (v42 : W) (h43 : HW) (c44 : Nat) =>
q_share _ (fun (v46 : W) (h47 : HW) (c48 : Nat) =>
q_pickW v40 v46 ⟨8, 0, r0, []⟩ fun v49 =>
q_share _ (fun (v51 : W) (h52 : HW) (c53 : Nat) =>
q_share _ (fun (v55 : W) (h56 : HW) (c57 : Nat) =>
q_share _ (fun (v59 : W) (h60 : HW) (c61 : Nat) =>
q_pickW v49 v59 ⟨8, 0, r0, []⟩ fun v62 =>
q_share _ (fun (v64 : W) (h65 : HW) (c66 : Nat) =>
q_share _ (fun (v68 : W) (h69 : HW) (c70 : Nat) =>
q_share _ (fun (v72 : W) (h73 : HW) (c74 : Nat) =>
q_pickW v62 v72 ⟨8, 0, r0, []⟩ fun v75 =>
q_share _ (fun (v77 : W) (h78 : HW) (c79 : Nat) =>
q_share _ (fun (v81 : W) (h82 : HW) (c83 : Nat) =>
q_share _ (fun (v85 : W) (h86 : HW) (c87 : Nat) =>
q_pickW v75 v85 ⟨8, 0, r0, []⟩ fun v88 =>
q_share _ (fun (v90 : W) (h91 : HW) (c92 : Nat) =>
q_share _ (fun (v94 : W) (h95 : HW) (c96 : Nat) =>
q_share _ (fun (v98 : W) (h99 : HW) (c100 : Nat) =>
q_pickW v88 v98 ⟨8, 0, r0, []⟩ fun v101 =>
K v101 h99 c100) fun f97 =>
q_guardW true v88 (q_genW (binC Try.prog .neq 53 (.tmp 51) (.const .nilFunc) (dec v94) (dec ⟨12, 0, ⟨0, 0, 0, .nilf⟩, []⟩)) fun v102 =>
f97 v102 h95 c96) (f97 wUnd h95 c96)) fun f93 =>
q_guardW true v88 (call 43 [v90, ⟨3, 3, r0, []⟩] h91 c92 fun v103 h104 c105 =>
f93 v103 h104 c105) (f93 wUnd h91 c92)) fun f89 =>
q_guardW true v88 (f89 v5 h86 c87) (f89 wUnd h86 c87)) fun f84 =>
q_guardW true v75 (q_cmpW (cmpF2 .eql) 3 (binC Try.prog .eql 3 (.tmp 46) (.const (.int .i64 (.ofNat 2))) (dec v81) (dec ⟨3, 2, r0, []⟩)) v81 ⟨3, 2, r0, []⟩ fun v106 =>
f84 v106 h82 c83) (f84 wUnd h82 c83)) fun f80 =>
q_guardW true v75 (call 22 [v77] h78 c79 fun v107 h108 c109 =>
f80 v107 h108 c109) (f80 wUnd h78 c79)) fun f76 =>
q_guardW true v75 (f76 v5 h73 c74) (f76 wUnd h73 c74)) fun f71 =>
q_guardW true v62 (call 31 [v64, v68] h69 c70 fun v110 h111 c112 =>
f71 v110 h111 c112) (f71 wUnd h69 c70)) fun f67 =>
q_guardW true v62 (q_buildSW 1 3 (.ints .i64) 2 true h65 c66 2 [⟨3, 4, r0, []⟩, ⟨3, 1, r0, []⟩] fun v113 h114 c115 =>
f67 v113 h114 c115) (f67 wUnd h65 c66)) fun f63 =>
q_guardW true v62 (f63 v12 h60 c61) (f63 wUnd h60 c61)) fun f58 =>
q_guardW true v49 (q_genW (binC Try.prog .eql 9 (.tmp 36) (.const (.string ⟨⟨[48, 49, 48, 48, 48, 48, 48, 49]⟩⟩)) (dec v55) (dec ⟨12, 0, ⟨0, 0, 0, .str ⟨⟨[48, 49, 48, 48, 48, 48, 48, 49]⟩⟩⟩, []⟩)) fun v116 =>
f58 v116 h56 c57) (f58 wUnd h56 c57)) fun f54 =>
q_guardW true v49 (call 24 [v51] h52 c53 fun v117 h118 c119 =>
f54 v117 h118 c119) (f54 wUnd h52 c53)) fun f50 =>
q_guardW true v49 (f50 v5 h47 c48) (f50 wUnd h47 c48)) fun f45 =>
q_guardW true v40 (q_cmpW (cmpF2 .eql) 3 (binC Try.prog .eql 3 (.tmp 31) (.const (.int .i64 (.ofNat 4))) (dec v42) (dec ⟨3, 4, r0, []⟩)) v42 ⟨3, 4, r0, []⟩ fun v120 =>
f45 v120 h43 c44) (f45 wUnd h43 c44)) fun f41 =>
q_guardW true v40 (f41 v19 h38 c39) (f41 wUnd h38 c39)) fun f36 =>
q_guardW true v31 (q_cmpW (cmpF2 .eql) 3 (binC Try.prog .eql 24 (.tmp 27) (.const (.int .i64 (.ofNat 0))) (dec v33) (dec ⟨3, 0, r0, []⟩)) v33 ⟨3, 0, r0, []⟩ fun v121 =>
f36 v121 h34 c35) (f36 wUnd h34 c35)) fun f32 =>
q_guardW true v31 (f32 v21 h29 c30) (f32 wUnd h29 c30)) fun f27 =>
q_guardW true v22 (q_cmpW (cmpF2 .eql) 3 (binC Try.prog .eql 24 (.tmp 23) (.const (.int .i64 (.ofNat 0))) (dec v24) (dec ⟨3, 0, r0, []⟩)) v24 ⟨3, 0, r0, []⟩ fun v122 =>
f27 v122 h25 c26) (f27 wUnd h25 c26)) fun f23 =>
q_guardW true v22 (f23 v14 h16 c17) (f23 wUnd h16 c17)
theorem R14_eq (Q : PrimW) (fu : Nat) (call : CallW) : curryA 0 (fnK Q Try.prog tys stl fu call e14) = R14 Q.share Q.genW Q.cmpW Q.guardW Q.pickW Q.tupW Q.nthW Q.buildSW fu call := by kernel_rfl
noncomputable def n14 : List W → HW → Nat → KW → Bool := appF 0 (R14 (fun _ x f => f x) genW cmpW guardW pickW tupW nthW buildSW 1000000 d2.fn)
theorem n14_ok : FnGood Try.prog tys stl tab 14 n14 := node_ok d2_ok (by kernel_rfl) rfl g14 (R14_eq real _ _)
noncomputable def d3 : Disp := (.node 43 n43 (.node 22 n22 (.node 16 n16 (.node 14 n14 .leaf .leaf) (.node 17 n17 .leaf .leaf)) (.node 25 n25 (.node 24 n24 .leaf .leaf) (.node 31 n31 .leaf .leaf))) (.node 49 n49 (.node 47 n47 (.node 46 n46 .leaf .leaf) (.node 48 n48 .leaf .leaf)) (.node 53 n53 (.node 52 n52 .leaf .leaf) (.node 54 n54 .leaf .leaf))))
theorem d3_ok : CallSim Try.prog tys stl tab d3.fn := Disp.sim ⟨n43_ok, ⟨n22_ok, ⟨n16_ok, ⟨n14_ok, True.intro, True.intro⟩, ⟨n17_ok, True.intro, True.intro⟩⟩, ⟨n25_ok, ⟨n24_ok, True.intro, True.intro⟩, ⟨n31_ok, True.intro, True.intro⟩⟩⟩, ⟨n49_ok, ⟨n47_ok, ⟨n46_ok, True.intro, True.intro⟩, ⟨n48_ok, True.intro, True.intro⟩⟩, ⟨n53_ok, ⟨n52_ok, True.intro, True.intro⟩, ⟨n54_ok, True.intro, True.intro⟩⟩⟩⟩
/- foghorn/foghornlaw01.BitsRing -/
noncomputable def R4 (q_share : (α : Type) → α → (α → Bool) → Bool) (q_addW : Nat → Nat → Option CV → W → W → (W → Bool) → Bool) (q_subW : Nat → Nat → Option CV → W → W → (W → Bool) → Bool) (q_remW : Nat → Nat → Option CV → W → W → (W → Bool) → Bool) (q_bitW : (Nat → Nat → Nat) → Nat → Nat → Option CV → W → W → (W → Bool) → Bool) (q_cmpW : (Nat → Nat → Bool) → Nat → Option CV → W → W → (W → Bool) → Bool) (q_shlW : Nat → Nat → Nat → Option CV → W → W → (W → Bool) → Bool) (q_notW : Option CV → W → (W → Bool) → Bool) (q_condW : W → Bool → Bool → Bool) (q_guardW : Bool → W → Bool → Bool → Bool) (q_pickW : W → W → W → (W → Bool) → Bool) (q_idxSW : Nat → W → W → (W → Bool) → Bool) (q_tupW : W → (List W → Bool) → Bool) (q_nthW : Nat → List W → (W → Bool) → Bool) (q_loadSW : HW → W → (W → Bool) → Bool) (q_storeSW : HW → W → W → (HW → Bool) → Bool) (q_makeSW : Nat → Nat → Nat → Kind → List W → Bool → HW → Nat → W → W → KW → Bool) (fu : Nat) (call : CallW) (h0 : HW) (c0 : Nat) (K : KW) : Bool :=
call 14 [] h0 c0 fun v1 h2 c3 =>
q_notW (two Try.prog (dec v1) (Op.unary .not)) v1 fun v4 =>
q_condW v4 (
K ⟨8, 0, r0, []⟩ h2 c3) (
@Nat.rec (fun _ => Fun 1) (fun _ _ _ => false) (fun _ f8 v5 h6 c7 =>
q_cmpW (cmpF2 .leq) 3 (binC Try.prog .leq 3 (.tmp 12) (.const (.int .i64 (.ofNat 16))) (dec v5) (dec ⟨3, 16, r0, []⟩)) v5 ⟨3, 16, r0, []⟩ fun v9 =>
q_condW v9 (
q_shlW 3 9223372036854775807 64 (binC Try.prog .shl 3 (.const (.int .i64 (.ofNat 1))) (.tmp 16) (dec ⟨3, 1, r0, []⟩) (dec v5)) ⟨3, 1, r0, []⟩ v5 fun v10 =>
q_makeSW 1 1 8 .bools [⟨8, 0, r0, []⟩] true h6 c7 v10 v10 fun v11 h12 c13 =>
@Nat.rec (fun _ => Fun 1) (fun _ _ _ => false) (fun _ f17 v14 h15 c16 =>
q_cmpW (cmpF2 .lss) 3 (binC Try.prog .lss 3 (.tmp 20) (.tmp 21) (dec v14) (dec v10)) v14 v10 fun v18 =>
q_condW v18 (
call 25 [v14] h15 c16 fun v19 h20 c21 =>
q_tupW v19 fun l22 => q_nthW 0 l22 fun v23 =>
q_tupW v19 fun l24 => q_nthW 1 l24 fun v25 =>
q_addW 3 9223372036854775807 (binC Try.prog .add 3 (.tmp 31) (.const (.int .i64 (.ofNat 1))) (dec v14) (dec ⟨3, 1, r0, []⟩)) v14 ⟨3, 1, r0, []⟩ fun v26 =>
q_remW 3 9223372036854775807 (binC Try.prog .rem 3 (.tmp 32) (.tmp 33) (dec v26) (dec v10)) v26 v10 fun v27 =>
call 25 [v27] h20 c21 fun v28 h29 c30 =>
q_tupW v28 fun l31 => q_nthW 0 l31 fun v32 =>
q_tupW v28 fun l33 => q_nthW 1 l33 fun v34 =>
q_cmpW (cmpF2 .neq) 3 (binC Try.prog .neq 24 (.tmp 38) (.const (.int .i64 (.ofNat 0))) (dec v25) (dec ⟨3, 0, r0, []⟩)) v25 ⟨3, 0, r0, []⟩ fun v35 =>
q_share _ (fun (v37 : W) (h38 : HW) (c39 : Nat) =>
q_share _ (fun (v41 : W) (h42 : HW) (c43 : Nat) =>
q_pickW v35 ⟨8, 1, r0, []⟩ v41 fun v44 =>
q_share _ (fun (v46 : W) (h47 : HW) (c48 : Nat) =>
q_share _ (fun (v50 : W) (h51 : HW) (c52 : Nat) =>
q_pickW v44 ⟨8, 1, r0, []⟩ v50 fun v53 =>
q_share _ (fun (v55 : W) (h56 : HW) (c57 : Nat) =>
q_share _ (fun (v59 : W) (h60 : HW) (c61 : Nat) =>
q_share _ (fun (v63 : W) (h64 : HW) (c65 : Nat) =>
q_pickW v53 ⟨8, 1, r0, []⟩ v63 fun v66 =>
q_share _ (fun (v68 : W) (h69 : HW) (c70 : Nat) =>
q_share _ (fun (v72 : W) (h73 : HW) (c74 : Nat) =>
q_pickW v66 ⟨8, 1, r0, []⟩ v72 fun v75 =>
q_share _ (fun (v77 : W) (h78 : HW) (c79 : Nat) =>
q_share _ (fun (v81 : W) (h82 : HW) (c83 : Nat) =>
q_share _ (fun (v85 : W) (h86 : HW) (c87 : Nat) =>
q_pickW v75 ⟨8, 1, r0, []⟩ v85 fun v88 =>
q_share _ (fun (v90 : W) (h91 : HW) (c92 : Nat) =>
q_share _ (fun (v94 : W) (h95 : HW) (c96 : Nat) =>
q_share _ (fun (v98 : W) (h99 : HW) (c100 : Nat) =>
q_share _ (fun (v102 : W) (h103 : HW) (c104 : Nat) =>
q_pickW v88 ⟨8, 1, r0, []⟩ v102 fun v105 =>
q_condW v105 (
K ⟨8, 0, r0, []⟩ h103 c104) (
q_idxSW 1 v11 v23 fun v106 =>
q_storeSW h103 v106 ⟨8, 1, r0, []⟩ fun h107 =>
q_bitW Nat.xor 3 9223372036854775807 (binC Try.prog .xor 3 (.tmp 71) (.tmp 72) (dec v23) (dec v32)) v23 v32 fun v108 =>
q_cmpW (cmpF2 .eql) 3 (binC Try.prog .eql 3 (.tmp 74) (.const (.int .i64 (.ofNat 0))) (dec v108) (dec ⟨3, 0, r0, []⟩)) v108 ⟨3, 0, r0, []⟩ fun v109 =>
q_share _ (fun (v111 : W) (h112 : HW) (c113 : Nat) =>
q_share _ (fun (v115 : W) (h116 : HW) (c117 : Nat) =>
q_share _ (fun (v119 : W) (h120 : HW) (c121 : Nat) =>
q_share _ (fun (v123 : W) (h124 : HW) (c125 : Nat) =>
q_share _ (fun (v127 : W) (h128 : HW) (c129 : Nat) =>
q_pickW v109 ⟨8, 1, r0, []⟩ v127 fun v130 =>
q_condW v130 (
K ⟨8, 0, r0, []⟩ h128 c129) (
q_addW 3 9223372036854775807 (binC Try.prog .add 3 (.tmp 23) (.const (.int .i64 (.ofNat 1))) (dec v14) (dec ⟨3, 1, r0, []⟩)) v14 ⟨3, 1, r0, []⟩ fun v131 =>
f17 v131 h128 c129)) fun f126 =>
q_guardW false v109 (q_cmpW (cmpF2 .neq) 3 (binC Try.prog .neq 3 (.tmp 80) (.const (.int .i64 (.ofNat 0))) (dec v123) (dec ⟨3, 0, r0, []⟩)) v123 ⟨3, 0, r0, []⟩ fun v132 =>
f126 v132 h124 c125) (f126 wUnd h124 c125)) fun f122 =>
q_guardW false v109 (q_bitW Nat.land 3 9223372036854775807 (binC Try.prog .and 3 (.tmp 77) (.tmp 79) (dec v111) (dec v119)) v111 v119 fun v133 =>
f122 v133 h120 c121) (f122 wUnd h120 c121)) fun f118 =>
q_guardW false v109 (q_subW 3 9223372036854775807 (binC Try.prog .sub 3 (.tmp 78) (.const (.int .i64 (.ofNat 1))) (dec v115) (dec ⟨3, 1, r0, []⟩)) v115 ⟨3, 1, r0, []⟩ fun v134 =>
f118 v134 h116 c117) (f118 wUnd h116 c117)) fun f114 =>
q_guardW false v109 (f114 v108 h112 c113) (f114 wUnd h112 c113)) fun f110 =>
q_guardW false v109 (f110 v108 h107 c104) (f110 wUnd h107 c104))) fun f101 =>
q_guardW false v88 (q_loadSW h99 v98 fun v135 =>
f101 v135 h99 c100) (f101 wUnd h99 c100)) fun f97 =>
q_guardW false v88 (q_idxSW 1 v90 v94 fun v136 =>
f97 v136 h95 c96) (f97 wUnd h95 c96)) fun f93 =>
q_guardW false v88 (f93 v23 h91 c92) (f93 wUnd h91 c92)) fun f89 =>
q_guardW false v88 (f89 v11 h86 c87) (f89 wUnd h86 c87)) fun f84 =>
q_guardW false v75 (q_cmpW (cmpF2 .geq) 3 (binC Try.prog .geq 3 (.tmp 58) (.tmp 59) (dec v77) (dec v81)) v77 v81 fun v137 =>
f84 v137 h82 c83) (f84 wUnd h82 c83)) fun f80 =>
q_guardW false v75 (f80 v10 h78 c79) (f80 wUnd h78 c79)) fun f76 =>
q_guardW false v75 (f76 v32 h73 c74) (f76 wUnd h73 c74)) fun f71 =>
q_guardW false v66 (q_cmpW (cmpF2 .lss) 3 (binC Try.prog .lss 3 (.tmp 54) (.const (.int .i64 (.ofNat 0))) (dec v68) (dec ⟨3, 0, r0, []⟩)) v68 ⟨3, 0, r0, []⟩ fun v138 =>
f71 v138 h69 c70) (f71 wUnd h69 c70)) fun f67 =>
q_guardW false v66 (f67 v32 h64 c65) (f67 wUnd h64 c65)) fun f62 =>
q_guardW false v53 (q_cmpW (cmpF2 .geq) 3 (binC Try.prog .geq 3 (.tmp 49) (.tmp 50) (dec v55) (dec v59)) v55 v59 fun v139 =>
f62 v139 h60 c61) (f62 wUnd h60 c61)) fun f58 =>
q_guardW false v53 (f58 v10 h56 c57) (f58 wUnd h56 c57)) fun f54 =>
q_guardW false v53 (f54 v23 h51 c52) (f54 wUnd h51 c52)) fun f49 =>
q_guardW false v44 (q_cmpW (cmpF2 .lss) 3 (binC Try.prog .lss 3 (.tmp 45) (.const (.int .i64 (.ofNat 0))) (dec v46) (dec ⟨3, 0, r0, []⟩)) v46 ⟨3, 0, r0, []⟩ fun v140 =>
f49 v140 h47 c48) (f49 wUnd h47 c48)) fun f45 =>
q_guardW false v44 (f45 v23 h42 c43) (f45 wUnd h42 c43)) fun f40 =>
q_guardW false v35 (q_cmpW (cmpF2 .neq) 3 (binC Try.prog .neq 24 (.tmp 41) (.const (.int .i64 (.ofNat 0))) (dec v37) (dec ⟨3, 0, r0, []⟩)) v37 ⟨3, 0, r0, []⟩ fun v141 =>
f40 v141 h38 c39) (f40 wUnd h38 c39)) fun f36 =>
q_guardW false v35 (f36 v34 h29 c30) (f36 wUnd h29 c30)) (
q_addW 3 9223372036854775807 (binC Try.prog .add 3 (.tmp 14) (.const (.int .i64 (.ofNat 1))) (dec v5) (dec ⟨3, 1, r0, []⟩)) v5 ⟨3, 1, r0, []⟩ fun v142 =>
f8 v142 h15 c16)) fu ⟨3, 0, r0, []⟩ h12 c13) (
K ⟨8, 1, r0, []⟩ h6 c7)) fu ⟨3, 1, r0, []⟩ h2 c3)
theorem R4_eq (Q : PrimW) (fu : Nat) (call : CallW) : curryA 0 (fnK Q Try.prog tys stl fu call e4) = R4 Q.share Q.addW Q.subW Q.remW Q.bitW Q.cmpW Q.shlW Q.notW Q.condW Q.guardW Q.pickW Q.idxSW Q.tupW Q.nthW Q.loadSW Q.storeSW Q.makeSW fu call := by kernel_rfl
noncomputable def n4 : List W → HW → Nat → KW → Bool := appF 0 (R4 (fun _ x f => f x) addW subW remW bitW cmpW shlW notW condW guardW pickW idxSW tupW nthW loadSW storeSW makeSW 1000000 d3.fn)
theorem n4_ok : FnGood Try.prog tys stl tab 4 n4 := node_ok d3_ok (by kernel_rfl) rfl g4 (R4_eq real _ _)
noncomputable def d4 : Disp := (.node 43 n43 (.node 22 n22 (.node 16 n16 (.node 14 n14 (.node 4 n4 .leaf .leaf) .leaf) (.node 17 n17 .leaf .leaf)) (.node 25 n25 (.node 24 n24 .leaf .leaf) (.node 31 n31 .leaf .leaf))) (.node 49 n49 (.node 47 n47 (.node 46 n46 .leaf .leaf) (.node 48 n48 .leaf .leaf)) (.node 53 n53 (.node 52 n52 .leaf .leaf) (.node 54 n54 .leaf .leaf))))
theorem d4_ok : CallSim Try.prog tys stl tab d4.fn := Disp.sim ⟨n43_ok, ⟨n22_ok, ⟨n16_ok, ⟨n14_ok, ⟨n4_ok, True.intro, True.intro⟩, True.intro⟩, ⟨n17_ok, True.intro, True.intro⟩⟩, ⟨n25_ok, ⟨n24_ok, True.intro, True.intro⟩, ⟨n31_ok, True.intro, True.intro⟩⟩⟩, ⟨n49_ok, ⟨n47_ok, ⟨n46_ok, True.intro, True.intro⟩, ⟨n48_ok, True.intro, True.intro⟩⟩, ⟨n53_ok, ⟨n52_ok, True.intro, True.intro⟩, ⟨n54_ok, True.intro, True.intro⟩⟩⟩⟩
noncomputable abbrev dT : Disp := d4
theorem dT_ok : CallSim Try.prog tys stl tab dT.fn := d4_ok

set_option maxHeartbeats 0 in
theorem run4 : lawK dT.fn 4 = true := by kernel_rfl
namespace bitsRing
open Go.ChangeShapes Go.WideShapes Go.ChangeAt Go.RowKit
theorem own : ownKnob Try.prog.godebug = none := by kernel_rfl
theorem laid : laidOutB Try.prog = true := by kernel_rfl
theorem lifted (os : Os) (started : os.Started) (H : Type) (enc : TypeId × Value → H) :
    ReturnsInHanded {} Try.checked os 4 .any (Rows.bitsRingSpec.pre6 enc Try.prog Try.f4 Rows.bitsRingRow.domain false) (Rows.bitsRingSpec.post enc Try.prog Try.f4 false true false false) := by
  refine returnsInHanded_of_change (C := Try.checked) own started (by kernel_rfl) Try.func4
    (ChangeSpec.witness6 (enc := enc) (C := Try.checked) false ⟨#[], #[], []⟩ 8 (by kernel_rfl) (by kernel_rfl) (by kernel_rfl) (by kernel_rfl)) ?_
  intro W base args ds gs before hval0 hW hcnd _
  have hW' := hW
  obtain ⟨p, q, hA0, hV, rfl, hfz, hnd⟩ := hW
  have hA : DataW.TrodAll enc Try.prog W 0 (fun _ => true) true Try.f4.params.toList args.toList ds p := hA0
  rw [Try.params4] at hA
  obtain ⟨hargs, rfl, rfl⟩ := trodAll_nil hA
  obtain rfl : args = #[] := by cases args; simp_all
  obtain ⟨rfl, rfl⟩ := trodVars_none hV
  clear hA0 hval0
  refine (lawK_true tok mixed fok dT_ok (by kernel_rfl : tab 4 = some e4) rfl run4 W).mono fun e W' ⟨he, hg⟩ => ?_
  subst he
  exact ⟨_, rfl, law_done laid rfl rfl Try.underlying4 (by kernel_rfl) hW' rfl hg⟩

theorem over : Rows.bitsRingRow.holds Try.pinned (OpenSpec.ofChange Rows.bitsRingSpec) :=
  OpenClaim.holds_of_wide 4 Try.f4 rfl rfl rfl rfl rfl rfl rfl ⟨rfl, rfl, rfl, rfl, rfl⟩ rfl rfl rfl rfl rfl (by kernel_rfl) Try.func4 (by kernel_rfl)
    (of_decide_eq_true (by kernel_rfl)) (by unfold Func.isWrapper; first | (rw [if_pos (by decide +kernel)]; kernel_rfl) | (rw [if_neg (by decide +kernel)]; exact ⟨rfl, rfl⟩))
    (fun os started H enc _ => lifted os started H enc)

theorem proved : Rows.BitsRingSaid := over
end bitsRing
end Go.Proofs.Ytagndcamfjikhaa
