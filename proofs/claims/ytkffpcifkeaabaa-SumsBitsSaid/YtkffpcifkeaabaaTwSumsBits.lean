/-
  The functions that the run goes through, as tables, and the run of a function without arguments. No condition.
-/
import Derived.Test.YtkffpcifkeaabaaRows
import Derived.Test.YtkffpcifkeaabaaGx
set_option linter.unusedVariables false
set_option maxRecDepth 1000000
namespace Go.Proofs.Ytkffpcifkeaabaa
open Go Go.Fw
def tys : List (Nat × TyI) := [
  (1, ⟨.func, 1, 8, .nilFunc⟩),
  (2, ⟨.int .i64, 1, 8, .int .i64 0⟩),
  (3, ⟨.int .i64, 1, 8, .int .i64 0⟩),
  (4, ⟨.bool, 1, 1, .bool false⟩),
  (5, ⟨.int .u8, 1, 1, .int .u8 0⟩),
  (9, ⟨.str, 1, 16, .string (ByteArray.mk #[])⟩),
  (12, ⟨.int .u64, 1, 8, .int .u64 0⟩),
  (21, ⟨.int .i32, 1, 4, .int .i32 0⟩),
  (22, ⟨.slice 4, 1, 24, .slice none 0 0⟩),
  (23, ⟨.int .u16, 1, 2, .int .u16 0⟩),
  (24, ⟨.int .u32, 1, 4, .int .u32 0⟩),
  (25, ⟨.int .i64, 1, 8, .int .i64 0⟩),
  (27, ⟨.func, 1, 8, .nilFunc⟩),
  (28, ⟨.func, 1, 8, .nilFunc⟩),
  (30, ⟨.func, 1, 8, .nilFunc⟩),
  (31, ⟨.func, 1, 8, .nilFunc⟩),
  (32, ⟨.func, 1, 8, .nilFunc⟩),
  (33, ⟨.func, 1, 8, .nilFunc⟩),
  (34, ⟨.func, 1, 8, .nilFunc⟩),
  (36, ⟨.func, 1, 8, .nilFunc⟩),
  (37, ⟨.func, 1, 8, .nilFunc⟩),
  (38, ⟨.func, 1, 8, .nilFunc⟩),
  (39, ⟨.func, 1, 8, .nilFunc⟩),
  (40, ⟨.func, 1, 8, .nilFunc⟩),
  (41, ⟨.func, 1, 8, .nilFunc⟩),
  (42, ⟨.func, 1, 8, .nilFunc⟩),
  (43, ⟨.func, 1, 8, .nilFunc⟩),
  (44, ⟨.struct [(0, 22), (1, 22), (2, 24), (3, 24), (4, 3)], 5, 64, .agg #[.slice none 0 0, .slice none 0 0, .int .u32 0, .int .u32 0, .int .i64 0]⟩),
  (45, ⟨.struct [(0, 22), (1, 22), (2, 24), (3, 24), (4, 3)], 5, 64, .agg #[.slice none 0 0, .slice none 0 0, .int .u32 0, .int .u32 0, .int .i64 0]⟩),
  (46, ⟨.func, 1, 8, .nilFunc⟩),
  (47, ⟨.func, 1, 8, .nilFunc⟩),
  (48, ⟨.func, 1, 8, .nilFunc⟩),
  (49, ⟨.func, 1, 8, .nilFunc⟩),
  (50, ⟨.func, 1, 8, .nilFunc⟩),
  (51, ⟨.func, 1, 8, .nilFunc⟩),
  (53, ⟨.func, 1, 8, .nilFunc⟩),
  (55, ⟨.func, 1, 8, .nilFunc⟩),
  (56, ⟨.func, 1, 8, .nilFunc⟩),
  (57, ⟨.func, 1, 8, .nilFunc⟩),
  (58, ⟨.func, 1, 8, .nilFunc⟩),
  (59, ⟨.func, 1, 8, .nilFunc⟩),
  (60, ⟨.func, 1, 8, .nilFunc⟩),
  (61, ⟨.func, 1, 8, .nilFunc⟩),
  (62, ⟨.func, 1, 8, .nilFunc⟩),
  (63, ⟨.func, 1, 8, .nilFunc⟩),
  (64, ⟨.func, 1, 8, .nilFunc⟩),
  (65, ⟨.func, 1, 8, .nilFunc⟩),
  (66, ⟨.func, 1, 8, .nilFunc⟩),
  (67, ⟨.func, 1, 8, .nilFunc⟩),
  (68, ⟨.func, 1, 8, .nilFunc⟩),
  (69, ⟨.func, 1, 8, .nilFunc⟩),
  (70, ⟨.func, 1, 8, .nilFunc⟩),
  (71, ⟨.func, 1, 8, .nilFunc⟩),
  (72, ⟨.int .u64, 1, 8, .int .u64 0⟩),
  (73, ⟨.slice 5, 1, 24, .slice none 0 0⟩),
  (74, ⟨.func, 1, 8, .nilFunc⟩),
  (75, ⟨.func, 1, 8, .nilFunc⟩),
  (76, ⟨.func, 1, 8, .nilFunc⟩),
  (77, ⟨.func, 1, 8, .nilFunc⟩),
  (78, ⟨.func, 1, 8, .nilFunc⟩),
  (79, ⟨.func, 1, 8, .nilFunc⟩),
  (80, ⟨.func, 1, 8, .nilFunc⟩),
  (81, ⟨.slice 3, 1, 24, .slice none 0 0⟩),
  (82, ⟨.slice 22, 1, 24, .slice none 0 0⟩),
  (83, ⟨.func, 1, 8, .nilFunc⟩),
  (84, ⟨.func, 1, 8, .nilFunc⟩),
  (90, ⟨.func, 1, 8, .nilFunc⟩),
  (93, ⟨.func, 1, 8, .nilFunc⟩),
  (94, ⟨.ptr 5, 1, 8, .pointer none⟩)]


theorem tok : TOk Try.prog tys := tok_of ⟨⟨by kernel_rfl, by kernel_rfl⟩, ⟨by kernel_rfl, by kernel_rfl⟩, ⟨by kernel_rfl, by kernel_rfl⟩, ⟨by kernel_rfl, by kernel_rfl⟩, ⟨by kernel_rfl, by kernel_rfl⟩, ⟨by kernel_rfl, by kernel_rfl⟩, ⟨by kernel_rfl, by kernel_rfl⟩, ⟨by kernel_rfl, by kernel_rfl⟩, ⟨by kernel_rfl, by kernel_rfl⟩, ⟨by kernel_rfl, by kernel_rfl⟩, ⟨by kernel_rfl, by kernel_rfl⟩, ⟨by kernel_rfl, by kernel_rfl⟩, ⟨by kernel_rfl, by kernel_rfl⟩, ⟨by kernel_rfl, by kernel_rfl⟩, ⟨by kernel_rfl, by kernel_rfl⟩, ⟨by kernel_rfl, by kernel_rfl⟩, ⟨by kernel_rfl, by kernel_rfl⟩, ⟨by kernel_rfl, by kernel_rfl⟩, ⟨by kernel_rfl, by kernel_rfl⟩, ⟨by kernel_rfl, by kernel_rfl⟩, ⟨by kernel_rfl, by kernel_rfl⟩, ⟨by kernel_rfl, by kernel_rfl⟩, ⟨by kernel_rfl, by kernel_rfl⟩, ⟨by kernel_rfl, by kernel_rfl⟩, ⟨by kernel_rfl, by kernel_rfl⟩, ⟨by kernel_rfl, by kernel_rfl⟩, ⟨by kernel_rfl, by kernel_rfl⟩, ⟨by kernel_rfl, by kernel_rfl⟩, ⟨by kernel_rfl, by kernel_rfl⟩, ⟨by kernel_rfl, by kernel_rfl⟩, ⟨by kernel_rfl, by kernel_rfl⟩, ⟨by kernel_rfl, by kernel_rfl⟩, ⟨by kernel_rfl, by kernel_rfl⟩, ⟨by kernel_rfl, by kernel_rfl⟩, ⟨by kernel_rfl, by kernel_rfl⟩, ⟨by kernel_rfl, by kernel_rfl⟩, ⟨by kernel_rfl, by kernel_rfl⟩, ⟨by kernel_rfl, by kernel_rfl⟩, ⟨by kernel_rfl, by kernel_rfl⟩, ⟨by kernel_rfl, by kernel_rfl⟩, ⟨by kernel_rfl, by kernel_rfl⟩, ⟨by kernel_rfl, by kernel_rfl⟩, ⟨by kernel_rfl, by kernel_rfl⟩, ⟨by kernel_rfl, by kernel_rfl⟩, ⟨by kernel_rfl, by kernel_rfl⟩, ⟨by kernel_rfl, by kernel_rfl⟩, ⟨by kernel_rfl, by kernel_rfl⟩, ⟨by kernel_rfl, by kernel_rfl⟩, ⟨by kernel_rfl, by kernel_rfl⟩, ⟨by kernel_rfl, by kernel_rfl⟩, ⟨by kernel_rfl, by kernel_rfl⟩, ⟨by kernel_rfl, by kernel_rfl⟩, ⟨by kernel_rfl, by kernel_rfl⟩, ⟨by kernel_rfl, by kernel_rfl⟩, ⟨by kernel_rfl, by kernel_rfl⟩, ⟨by kernel_rfl, by kernel_rfl⟩, ⟨by kernel_rfl, by kernel_rfl⟩, ⟨by kernel_rfl, by kernel_rfl⟩, ⟨by kernel_rfl, by kernel_rfl⟩, ⟨by kernel_rfl, by kernel_rfl⟩, ⟨by kernel_rfl, by kernel_rfl⟩, ⟨by kernel_rfl, by kernel_rfl⟩, ⟨by kernel_rfl, by kernel_rfl⟩, ⟨by kernel_rfl, by kernel_rfl⟩, ⟨by kernel_rfl, by kernel_rfl⟩, ⟨by kernel_rfl, by kernel_rfl⟩, ⟨by kernel_rfl, by kernel_rfl⟩, ⟨by kernel_rfl, by kernel_rfl⟩, ⟨by kernel_rfl, by kernel_rfl⟩, True.intro⟩
theorem mixed : Try.prog.follows .mixedOrders = true := by kernel_rfl
def inL : List Nat → Nat → Bool
  | [], _ => false
  | a :: r, n => match Nat.beq a n with | true => true | false => inL r n
def stl : Nat → Bool := inL [9, 11, 34, 35, 52, 53, 54, 58]
/- 9: foghorn/sums.Sum16 -/
def p9 : Nat → Option PlanC := fun _ => none
def wl9 : Nat → List Nat := fun _ => []
def wj9 : Nat → Option (List Nat) := fun _ => none
def kr9 : Nat → List Nat := fun _ => []
noncomputable def e9 : Ent := entOf Try.f9 ⟨p9, wl9, wj9, kr9, []⟩
theorem g9 : EntOk Try.prog tys stl 9 e9 := .inr ⟨rfl, Try.func9, by kernel_rfl, by kernel_rfl, by kernel_rfl, by kernel_rfl, by kernel_rfl, rfl⟩
/- 11: foghorn/sums.On16 -/
def p11 : Nat → Option PlanC := fun _ => none
def wl11 : Nat → List Nat := fun _ => []
def wj11 : Nat → Option (List Nat) := fun _ => none
def kr11 : Nat → List Nat := fun _ => []
noncomputable def e11 : Ent := entOf Try.f11 ⟨p11, wl11, wj11, kr11, []⟩
theorem g11 : EntOk Try.prog tys stl 11 e11 := .inr ⟨rfl, Try.func11, by kernel_rfl, by kernel_rfl, by kernel_rfl, by kernel_rfl, by kernel_rfl, rfl⟩
/- 12: foghorn/foghornlaw24.awake -/
def p12 : Nat → Option PlanC := fun _ => none
def wl12 : Nat → List Nat := fun _ => []
def wj12 : Nat → Option (List Nat) := fun _ => none
def kr12 : Nat → List Nat := fun _ => []
noncomputable def e12 : Ent := entOf Try.f12 ⟨p12, wl12, wj12, kr12, []⟩
theorem g12 : EntOk Try.prog tys stl 12 e12 := .inr ⟨rfl, Try.func12, by kernel_rfl, by kernel_rfl, by kernel_rfl, by kernel_rfl, by kernel_rfl, rfl⟩
/- 24: foghorn/sums.Bytes16 -/
def p24 : Nat → Option PlanC := fun _ => none
def wl24 : Nat → List Nat := fun _ => []
def wj24 : Nat → Option (List Nat) := fun _ => none
def kr24 : Nat → List Nat := fun _ => []
noncomputable def e24 : Ent := entOf Try.f24 ⟨p24, wl24, wj24, kr24, []⟩
theorem g24 : EntOk Try.prog tys stl 24 e24 := .inr ⟨rfl, Try.func24, by kernel_rfl, by kernel_rfl, by kernel_rfl, by kernel_rfl, by kernel_rfl, rfl⟩
/- 25: foghorn/sums.Bytes32 -/
def p25 : Nat → Option PlanC := fun _ => none
def wl25 : Nat → List Nat := fun _ => []
def wj25 : Nat → Option (List Nat) := fun _ => none
def kr25 : Nat → List Nat := fun _ => []
noncomputable def e25 : Ent := entOf Try.f25 ⟨p25, wl25, wj25, kr25, []⟩
theorem g25 : EntOk Try.prog tys stl 25 e25 := .inr ⟨rfl, Try.func25, by kernel_rfl, by kernel_rfl, by kernel_rfl, by kernel_rfl, by kernel_rfl, rfl⟩
/- 34: foghorn/sums.next[uint32] -/
def p34 : Nat → Option PlanC := fun _ => none
def wl34 : Nat → List Nat := fun _ => []
def wj34 : Nat → Option (List Nat) := fun
  | 5 => some [0]
  | _ => none
def kr34 : Nat → List Nat := fun _ => []
noncomputable def e34 : Ent := entOf Try.f34 ⟨p34, wl34, wj34, kr34, []⟩
theorem g34 : EntOk Try.prog tys stl 34 e34 := .inr ⟨rfl, Try.func34, by kernel_rfl, by kernel_rfl, by kernel_rfl, by kernel_rfl, by kernel_rfl, rfl⟩
/- 35: foghorn/sums.on[uint16] -/
def p35 : Nat → Option PlanC := fun _ => none
def wl35 : Nat → List Nat := fun
  | 2 => [0, 11]
  | _ => []
def wj35 : Nat → Option (List Nat) := fun _ => none
def kr35 : Nat → List Nat := fun _ => []
noncomputable def e35 : Ent := entOf Try.f35 ⟨p35, wl35, wj35, kr35, []⟩
theorem g35 : EntOk Try.prog tys stl 35 e35 := .inr ⟨rfl, Try.func35, by kernel_rfl, by kernel_rfl, by kernel_rfl, by kernel_rfl, by kernel_rfl, rfl⟩
/- 47: foghorn/sums.ofBytes[uint16] -/
def p47 : Nat → Option PlanC := fun _ => none
def wl47 : Nat → List Nat := fun
  | 3 => [5, 12]
  | 6 => [5, 8]
  | _ => []
def wj47 : Nat → Option (List Nat) := fun _ => none
def kr47 : Nat → List Nat := fun _ => []
noncomputable def e47 : Ent := entOf Try.f47 ⟨p47, wl47, wj47, kr47, []⟩
theorem g47 : EntOk Try.prog tys stl 47 e47 := .inr ⟨rfl, Try.func47, by kernel_rfl, by kernel_rfl, by kernel_rfl, by kernel_rfl, by kernel_rfl, rfl⟩
/- 48: foghorn/sums.ofBytes[uint32] -/
def p48 : Nat → Option PlanC := fun _ => none
def wl48 : Nat → List Nat := fun
  | 3 => [5, 12]
  | 6 => [5, 8]
  | _ => []
def wj48 : Nat → Option (List Nat) := fun _ => none
def kr48 : Nat → List Nat := fun _ => []
noncomputable def e48 : Ent := entOf Try.f48 ⟨p48, wl48, wj48, kr48, []⟩
theorem g48 : EntOk Try.prog tys stl 48 e48 := .inr ⟨rfl, Try.func48, by kernel_rfl, by kernel_rfl, by kernel_rfl, by kernel_rfl, by kernel_rfl, rfl⟩
/- 52: foghorn/sums.wide[uint32] -/
def p52 : Nat → Option PlanC := fun _ => none
def wl52 : Nat → List Nat := fun _ => []
def wj52 : Nat → Option (List Nat) := fun _ => none
def kr52 : Nat → List Nat := fun _ => []
noncomputable def e52 : Ent := entOf Try.f52 ⟨p52, wl52, wj52, kr52, []⟩
theorem g52 : EntOk Try.prog tys stl 52 e52 := .inr ⟨rfl, Try.func52, by kernel_rfl, by kernel_rfl, by kernel_rfl, by kernel_rfl, by kernel_rfl, rfl⟩
/- 53: foghorn/sums.next[uint16] -/
def p53 : Nat → Option PlanC := fun _ => none
def wl53 : Nat → List Nat := fun _ => []
def wj53 : Nat → Option (List Nat) := fun
  | 5 => some [0]
  | _ => none
def kr53 : Nat → List Nat := fun _ => []
noncomputable def e53 : Ent := entOf Try.f53 ⟨p53, wl53, wj53, kr53, []⟩
theorem g53 : EntOk Try.prog tys stl 53 e53 := .inr ⟨rfl, Try.func53, by kernel_rfl, by kernel_rfl, by kernel_rfl, by kernel_rfl, by kernel_rfl, rfl⟩
/- 54: foghorn/sums.wide[uint16] -/
def p54 : Nat → Option PlanC := fun _ => none
def wl54 : Nat → List Nat := fun _ => []
def wj54 : Nat → Option (List Nat) := fun _ => none
def kr54 : Nat → List Nat := fun _ => []
noncomputable def e54 : Ent := entOf Try.f54 ⟨p54, wl54, wj54, kr54, []⟩
theorem g54 : EntOk Try.prog tys stl 54 e54 := .inr ⟨rfl, Try.func54, by kernel_rfl, by kernel_rfl, by kernel_rfl, by kernel_rfl, by kernel_rfl, rfl⟩
/- 58: math/bits.Len32 -/
def p58 : Nat → Option PlanC := fun _ => none
def wl58 : Nat → List Nat := fun _ => []
def wj58 : Nat → Option (List Nat) := fun
  | 4 => some [0, 2]
  | 7 => some [0, 2]
  | _ => none
def kr58 : Nat → List Nat := fun _ => []
noncomputable def e58 : Ent := entOf Try.f58 ⟨p58, wl58, wj58, kr58, []⟩
theorem g58 : EntOk Try.prog tys stl 58 e58 := .inr ⟨rfl, Try.func58, by kernel_rfl, by kernel_rfl, by kernel_rfl, by kernel_rfl, by kernel_rfl, rfl⟩
noncomputable def ents : List (Nat × Ent) := [(9, e9), (11, e11), (12, e12), (24, e24), (25, e25), (34, e34), (35, e35), (47, e47), (48, e48), (52, e52), (53, e53), (54, e54), (58, e58)]
theorem goods : EntsOk Try.prog tys stl ents := ⟨g9, g11, g12, g24, g25, g34, g35, g47, g48, g52, g53, g54, g58, True.intro⟩
noncomputable def tab : Nat → Option Ent := (tabOf ents).get
theorem fok : FOk Try.prog tys stl tab := fok_of goods
noncomputable def d0 : Disp := .leaf
theorem d0_ok : CallSim Try.prog tys stl tab d0.fn := Disp.sim True.intro
/- foghorn/sums.Sum16 -/
noncomputable def R9 (q_tupW : W → (List W → Bool) → Bool) (q_nthW : Nat → List W → (W → Bool) → Bool) (fu : Nat) (call : CallW) (a0 : W) (h0 : HW) (c0 : Nat) (K : KW) : Bool :=
call 11 [⟨5, 0, r0, []⟩, a0] h0 c0 fun v1 h2 c3 =>
q_tupW v1 fun l4 => q_nthW 0 l4 fun v5 =>
q_tupW v1 fun l6 => q_nthW 1 l6 fun v7 =>
K ⟨13, 0, r0, [v5, v7]⟩ h2 c3
theorem R9_eq (Q : PrimW) (fu : Nat) (call : CallW) : curryA 1 (fnK Q Try.prog tys stl fu call e9) = R9 Q.tupW Q.nthW fu call := by kernel_rfl
noncomputable def n9 (call : CallW) : List W → HW → Nat → KW → Bool := appF 1 (R9 tupW nthW 1000000 call)
theorem n9_ok {call : CallW} (h : CallSim Try.prog tys stl tab call) : FnGood Try.prog tys stl tab 9 (n9 call) := node_ok h (by kernel_rfl) rfl g9 (R9_eq real _ _)
/- foghorn/sums.On16 -/
noncomputable def R11 (q_cmpW : (Nat → Nat → Bool) → Nat → Option CV → W → W → (W → Bool) → Bool) (q_condW : W → Bool → Bool → Bool) (q_lenW : Option CV → W → (W → Bool) → Bool) (fu : Nat) (call : CallW) (a0 : W) (a1 : W) (h0 : HW) (c0 : Nat) (K : KW) : Bool :=
q_lenW (lenC tys 22 (dec a1)) a1 fun v1 =>
q_cmpW (cmpF2 .gtr) 3 (binC Try.prog .gtr 3 (.tmp 7) (.const (.int .i64 (.ofNat 32768))) (dec v1) (dec ⟨3, 32768, r0, []⟩)) v1 ⟨3, 32768, r0, []⟩ fun v2 =>
q_condW v2 (
K ⟨13, 0, r0, [⟨5, 0, r0, []⟩, ⟨3, 1, r0, []⟩]⟩ h0 c0) (
call 35 [a0, ⟨5, 4129, r0, []⟩, a1] h0 c0 fun v3 h4 c5 =>
K ⟨13, 0, r0, [v3, ⟨3, 0, r0, []⟩]⟩ h4 c5)
theorem R11_eq (Q : PrimW) (fu : Nat) (call : CallW) : curryA 2 (fnK Q Try.prog tys stl fu call e11) = R11 Q.cmpW Q.condW Q.lenW fu call := by kernel_rfl
noncomputable def n11 (call : CallW) : List W → HW → Nat → KW → Bool := appF 2 (R11 cmpW condW lenW 1000000 call)
theorem n11_ok {call : CallW} (h : CallSim Try.prog tys stl tab call) : FnGood Try.prog tys stl tab 11 (n11 call) := node_ok h (by kernel_rfl) rfl g11 (R11_eq real _ _)
/- foghorn/foghornlaw24.awake -/
noncomputable def R12 (q_share : (α : Type) → α → (α → Bool) → Bool) (q_cmpW : (Nat → Nat → Bool) → Nat → Option CV → W → W → (W → Bool) → Bool) (q_guardW : Bool → W → Bool → Bool → Bool) (q_pickW : W → W → W → (W → Bool) → Bool) (q_tupW : W → (List W → Bool) → Bool) (q_nthW : Nat → List W → (W → Bool) → Bool) (q_buildSW : Nat → Nat → Kind → Nat → Bool → HW → Nat → Nat → List W → KW → Bool) (fu : Nat) (call : CallW) (h0 : HW) (c0 : Nat) (K : KW) : Bool :=
q_buildSW 1 8 .bools 1 true h0 c0 1 [⟨8, 1, r0, []⟩] fun v1 h2 c3 =>
call 9 [v1] h2 c3 fun v4 h5 c6 =>
q_tupW v4 fun l7 => q_nthW 0 l7 fun v8 =>
q_tupW v4 fun l9 => q_nthW 1 l9 fun v10 =>
q_cmpW (cmpF2 .eql) 5 (binC Try.prog .eql 23 (.tmp 8) (.const (.int .u16 (.ofNat 4129))) (dec v8) (dec ⟨5, 4129, r0, []⟩)) v8 ⟨5, 4129, r0, []⟩ fun v11 =>
q_share _ (fun (v13 : W) (h14 : HW) (c15 : Nat) =>
q_share _ (fun (v17 : W) (h18 : HW) (c19 : Nat) =>
q_pickW v11 v17 ⟨8, 0, r0, []⟩ fun v20 =>
q_share _ (fun (v22 : W) (h23 : HW) (c24 : Nat) =>
q_share _ (fun (v26 : W) (h27 : HW) (c28 : Nat) =>
q_pickW v20 v26 ⟨8, 0, r0, []⟩ fun v29 =>
q_share _ (fun (v31 : W) (h32 : HW) (c33 : Nat) =>
q_share _ (fun (v35 : W) (h36 : HW) (c37 : Nat) =>
q_pickW v29 v35 ⟨8, 0, r0, []⟩ fun v38 =>
K v38 h36 c37) fun f34 =>
q_guardW true v29 (q_cmpW (cmpF2 .eql) 6 (binC Try.prog .eql 24 (.tmp 19) (.const (.int .u32 (.ofNat 2309065087))) (dec v31) (dec ⟨6, 2309065087, r0, []⟩)) v31 ⟨6, 2309065087, r0, []⟩ fun v39 =>
f34 v39 h32 c33) (f34 wUnd h32 c33)) fun f30 =>
q_guardW true v29 (call 25 [⟨12, 0, ⟨0, 0, 0, .str ⟨⟨[49, 50, 51, 52, 53, 54, 55, 56, 57]⟩⟩⟩, []⟩] h27 c28 fun v40 h41 c42 =>
f30 v40 h41 c42) (f30 wUnd h27 c28)) fun f25 =>
q_guardW true v20 (q_cmpW (cmpF2 .eql) 5 (binC Try.prog .eql 23 (.tmp 15) (.const (.int .u16 (.ofNat 12739))) (dec v22) (dec ⟨5, 12739, r0, []⟩)) v22 ⟨5, 12739, r0, []⟩ fun v43 =>
f25 v43 h23 c24) (f25 wUnd h23 c24)) fun f21 =>
q_guardW true v20 (call 24 [⟨12, 0, ⟨0, 0, 0, .str ⟨⟨[49, 50, 51, 52, 53, 54, 55, 56, 57]⟩⟩⟩, []⟩] h18 c19 fun v44 h45 c46 =>
f21 v44 h45 c46) (f21 wUnd h18 c19)) fun f16 =>
q_guardW true v11 (q_cmpW (cmpF2 .eql) 3 (binC Try.prog .eql 25 (.tmp 11) (.const (.int .i64 (.ofNat 0))) (dec v13) (dec ⟨3, 0, r0, []⟩)) v13 ⟨3, 0, r0, []⟩ fun v47 =>
f16 v47 h14 c15) (f16 wUnd h14 c15)) fun f12 =>
q_guardW true v11 (f12 v10 h5 c6) (f12 wUnd h5 c6)
theorem R12_eq (Q : PrimW) (fu : Nat) (call : CallW) : curryA 0 (fnK Q Try.prog tys stl fu call e12) = R12 Q.share Q.cmpW Q.guardW Q.pickW Q.tupW Q.nthW Q.buildSW fu call := by kernel_rfl
noncomputable def n12 (call : CallW) : List W → HW → Nat → KW → Bool := appF 0 (R12 (fun _ x f => f x) cmpW guardW pickW tupW nthW buildSW 1000000 call)
theorem n12_ok {call : CallW} (h : CallSim Try.prog tys stl tab call) : FnGood Try.prog tys stl tab 12 (n12 call) := node_ok h (by kernel_rfl) rfl g12 (R12_eq real _ _)
/- foghorn/sums.Bytes16 -/
noncomputable def R24 (fu : Nat) (call : CallW) (a0 : W) (h0 : HW) (c0 : Nat) (K : KW) : Bool :=
call 47 [⟨5, 4129, r0, []⟩, a0] h0 c0 fun v1 h2 c3 =>
K v1 h2 c3
theorem R24_eq (Q : PrimW) (fu : Nat) (call : CallW) : curryA 1 (fnK Q Try.prog tys stl fu call e24) = R24 fu call := by kernel_rfl
noncomputable def n24 (call : CallW) : List W → HW → Nat → KW → Bool := appF 1 (R24 1000000 call)
theorem n24_ok {call : CallW} (h : CallSim Try.prog tys stl tab call) : FnGood Try.prog tys stl tab 24 (n24 call) := node_ok h (by kernel_rfl) rfl g24 (R24_eq real _ _)
/- foghorn/sums.Bytes32 -/
noncomputable def R25 (fu : Nat) (call : CallW) (a0 : W) (h0 : HW) (c0 : Nat) (K : KW) : Bool :=
call 48 [⟨6, 79764919, r0, []⟩, a0] h0 c0 fun v1 h2 c3 =>
K v1 h2 c3
theorem R25_eq (Q : PrimW) (fu : Nat) (call : CallW) : curryA 1 (fnK Q Try.prog tys stl fu call e25) = R25 fu call := by kernel_rfl
noncomputable def n25 (call : CallW) : List W → HW → Nat → KW → Bool := appF 1 (R25 1000000 call)
theorem n25_ok {call : CallW} (h : CallSim Try.prog tys stl tab call) : FnGood Try.prog tys stl tab 25 (n25 call) := node_ok h (by kernel_rfl) rfl g25 (R25_eq real _ _)
/- foghorn/sums.next[uint32] -/
noncomputable def R34 (q_share : (α : Type) → α → (α → Bool) → Bool) (q_genW : Option CV → (W → Bool) → Bool) (q_subW : Nat → Nat → Option CV → W → W → (W → Bool) → Bool) (q_bitW : (Nat → Nat → Nat) → Nat → Nat → Option CV → W → W → (W → Bool) → Bool) (q_cmpW : (Nat → Nat → Bool) → Nat → Option CV → W → W → (W → Bool) → Bool) (q_shlW : Nat → Nat → Nat → Option CV → W → W → (W → Bool) → Bool) (q_shrW : Nat → Nat → Option CV → W → W → (W → Bool) → Bool) (q_condW : W → Bool → Bool → Bool) (fu : Nat) (call : CallW) (a0 : W) (a1 : W) (a2 : W) (h0 : HW) (c0 : Nat) (K : KW) : Bool :=
call 52 [a0] h0 c0 fun v1 h2 c3 =>
q_subW 3 9223372036854775807 (binC Try.prog .sub 3 (.tmp 10) (.const (.int .i64 (.ofNat 1))) (dec v1) (dec ⟨3, 1, r0, []⟩)) v1 ⟨3, 1, r0, []⟩ fun v4 =>
q_shrW 6 32 (binC Try.prog .shr 24 (.tmp 8) (.tmp 11) (dec a0) (dec v4)) a0 v4 fun v5 =>
q_cmpW (cmpF2 .neq) 6 (binC Try.prog .neq 24 (.tmp 12) (.const (.int .u32 (.ofNat 0))) (dec v5) (dec ⟨6, 0, r0, []⟩)) v5 ⟨6, 0, r0, []⟩ fun v6 =>
q_shlW 6 4294967295 32 (binC Try.prog .shl 24 (.tmp 14) (.const (.int .u64 (.ofNat 1))) (dec a0) (dec ⟨7, 1, r0, []⟩)) a0 ⟨7, 1, r0, []⟩ fun v7 =>
q_share _ (fun (v8 : W) (h9 : HW) (c10 : Nat) =>
K v8 h9 c10) fun f11 =>
q_genW (binC Try.prog .neq 4 (.tmp 16) (.tmp 17) (dec v6) (dec a2)) fun v12 =>
q_condW v12 (
q_bitW Nat.xor 6 4294967295 (binC Try.prog .xor 24 (.tmp 19) (.tmp 20) (dec v7) (dec a1)) v7 a1 fun v13 =>
f11 v13 h2 c3) (
f11 v7 h2 c3)
theorem R34_eq (Q : PrimW) (fu : Nat) (call : CallW) : curryA 3 (fnK Q Try.prog tys stl fu call e34) = R34 Q.share Q.genW Q.subW Q.bitW Q.cmpW Q.shlW Q.shrW Q.condW fu call := by kernel_rfl
noncomputable def n34 (call : CallW) : List W → HW → Nat → KW → Bool := appF 3 (R34 (fun _ x f => f x) genW subW bitW cmpW shlW shrW condW 1000000 call)
theorem n34_ok {call : CallW} (h : CallSim Try.prog tys stl tab call) : FnGood Try.prog tys stl tab 34 (n34 call) := node_ok h (by kernel_rfl) rfl g34 (R34_eq real _ _)
/- foghorn/sums.on[uint16] -/
noncomputable def R35 (q_addW : Nat → Nat → Option CV → W → W → (W → Bool) → Bool) (q_cmpW : (Nat → Nat → Bool) → Nat → Option CV → W → W → (W → Bool) → Bool) (q_condW : W → Bool → Bool → Bool) (q_idxSW : Nat → W → W → (W → Bool) → Bool) (q_lenW : Option CV → W → (W → Bool) → Bool) (q_loadSW : HW → W → (W → Bool) → Bool) (fu : Nat) (call : CallW) (a0 : W) (a1 : W) (a2 : W) (h0 : HW) (c0 : Nat) (K : KW) : Bool :=
q_lenW (lenC tys 22 (dec a2)) a2 fun v1 =>
@Nat.rec (fun _ => Fun 2) (fun _ _ _ _ => false) (fun _ f6 v2 v3 h4 c5 =>
q_cmpW (cmpF2 .lss) 3 (binC Try.prog .lss 3 (.tmp 11) (.tmp 10) (dec v3) (dec v1)) v3 v1 fun v7 =>
q_condW v7 (
q_idxSW 1 a2 v3 fun v8 =>
q_loadSW h4 v8 fun v9 =>
call 53 [v2, a1, v9] h4 c5 fun v10 h11 c12 =>
q_addW 3 9223372036854775807 (binC Try.prog .add 3 (.tmp 11) (.const (.int .i64 (.ofNat 1))) (dec v3) (dec ⟨3, 1, r0, []⟩)) v3 ⟨3, 1, r0, []⟩ fun v13 =>
f6 v10 v13 h11 c12) (
K v2 h4 c5)) fu a0 ⟨3, 0, r0, []⟩ h0 c0
theorem R35_eq (Q : PrimW) (fu : Nat) (call : CallW) : curryA 3 (fnK Q Try.prog tys stl fu call e35) = R35 Q.addW Q.cmpW Q.condW Q.idxSW Q.lenW Q.loadSW fu call := by kernel_rfl
noncomputable def n35 (call : CallW) : List W → HW → Nat → KW → Bool := appF 3 (R35 addW cmpW condW idxSW lenW loadSW 1000000 call)
theorem n35_ok {call : CallW} (h : CallSim Try.prog tys stl tab call) : FnGood Try.prog tys stl tab 35 (n35 call) := node_ok h (by kernel_rfl) rfl g35 (R35_eq real _ _)
/- foghorn/sums.ofBytes[uint16] -/
noncomputable def R47 (q_addW : Nat → Nat → Option CV → W → W → (W → Bool) → Bool) (q_subW : Nat → Nat → Option CV → W → W → (W → Bool) → Bool) (q_bitW : (Nat → Nat → Nat) → Nat → Nat → Option CV → W → W → (W → Bool) → Bool) (q_cmpW : (Nat → Nat → Bool) → Nat → Option CV → W → W → (W → Bool) → Bool) (q_shrW : Nat → Nat → Option CV → W → W → (W → Bool) → Bool) (q_condW : W → Bool → Bool → Bool) (q_idxSW : Nat → W → W → (W → Bool) → Bool) (q_lenW : Option CV → W → (W → Bool) → Bool) (q_loadSW : HW → W → (W → Bool) → Bool) (q_bytW : Bool → HW → Nat → W → KW → Bool) (fu : Nat) (call : CallW) (a0 : W) (a1 : W) (h0 : HW) (c0 : Nat) (K : KW) : Bool :=
q_bytW (bytOk tys 9 73) h0 c0 a1 fun v1 h2 c3 =>
q_lenW (lenC tys 73 (dec v1)) v1 fun v4 =>
@Nat.rec (fun _ => Fun 2) (fun _ _ _ _ => false) (fun _ f9 v5 v6 h7 c8 =>
q_cmpW (cmpF2 .lss) 3 (binC Try.prog .lss 3 (.tmp 12) (.tmp 11) (dec v6) (dec v4)) v6 v4 fun v10 =>
q_condW v10 (
q_idxSW 1 v1 v6 fun v11 =>
q_loadSW h7 v11 fun v12 =>
@Nat.rec (fun _ => Fun 2) (fun _ _ _ _ => false) (fun _ f17 v13 v14 h15 c16 =>
q_cmpW (cmpF2 .geq) 3 (binC Try.prog .geq 3 (.tmp 16) (.const (.int .i64 (.ofNat 0))) (dec v14) (dec ⟨3, 0, r0, []⟩)) v14 ⟨3, 0, r0, []⟩ fun v18 =>
q_condW v18 (
q_shrW 4 8 (binC Try.prog .shr 5 (.tmp 22) (.tmp 23) (dec v12) (dec v14)) v12 v14 fun v19 =>
q_bitW Nat.land 4 255 (binC Try.prog .and 5 (.tmp 24) (.const (.int .u8 (.ofNat 1))) (dec v19) (dec ⟨4, 1, r0, []⟩)) v19 ⟨4, 1, r0, []⟩ fun v20 =>
q_cmpW (cmpF2 .neq) 4 (binC Try.prog .neq 5 (.tmp 25) (.const (.int .u8 (.ofNat 0))) (dec v20) (dec ⟨4, 0, r0, []⟩)) v20 ⟨4, 0, r0, []⟩ fun v21 =>
call 53 [v13, a0, v21] h15 c16 fun v22 h23 c24 =>
q_subW 3 9223372036854775807 (binC Try.prog .sub 3 (.tmp 18) (.const (.int .i64 (.ofNat 1))) (dec v14) (dec ⟨3, 1, r0, []⟩)) v14 ⟨3, 1, r0, []⟩ fun v25 =>
f17 v22 v25 h23 c24) (
q_addW 3 9223372036854775807 (binC Try.prog .add 3 (.tmp 12) (.const (.int .i64 (.ofNat 1))) (dec v6) (dec ⟨3, 1, r0, []⟩)) v6 ⟨3, 1, r0, []⟩ fun v26 =>
f9 v13 v26 h15 c16)) fu v5 ⟨3, 7, r0, []⟩ h7 c8) (
K v5 h7 c8)) fu ⟨5, 0, r0, []⟩ ⟨3, 0, r0, []⟩ h2 c3
theorem R47_eq (Q : PrimW) (fu : Nat) (call : CallW) : curryA 2 (fnK Q Try.prog tys stl fu call e47) = R47 Q.addW Q.subW Q.bitW Q.cmpW Q.shrW Q.condW Q.idxSW Q.lenW Q.loadSW Q.bytW fu call := by kernel_rfl
noncomputable def n47 (call : CallW) : List W → HW → Nat → KW → Bool := appF 2 (R47 addW subW bitW cmpW shrW condW idxSW lenW loadSW bytW 1000000 call)
theorem n47_ok {call : CallW} (h : CallSim Try.prog tys stl tab call) : FnGood Try.prog tys stl tab 47 (n47 call) := node_ok h (by kernel_rfl) rfl g47 (R47_eq real _ _)
/- foghorn/sums.ofBytes[uint32] -/
noncomputable def R48 (q_addW : Nat → Nat → Option CV → W → W → (W → Bool) → Bool) (q_subW : Nat → Nat → Option CV → W → W → (W → Bool) → Bool) (q_bitW : (Nat → Nat → Nat) → Nat → Nat → Option CV → W → W → (W → Bool) → Bool) (q_cmpW : (Nat → Nat → Bool) → Nat → Option CV → W → W → (W → Bool) → Bool) (q_shrW : Nat → Nat → Option CV → W → W → (W → Bool) → Bool) (q_condW : W → Bool → Bool → Bool) (q_idxSW : Nat → W → W → (W → Bool) → Bool) (q_lenW : Option CV → W → (W → Bool) → Bool) (q_loadSW : HW → W → (W → Bool) → Bool) (q_bytW : Bool → HW → Nat → W → KW → Bool) (fu : Nat) (call : CallW) (a0 : W) (a1 : W) (h0 : HW) (c0 : Nat) (K : KW) : Bool :=
q_bytW (bytOk tys 9 73) h0 c0 a1 fun v1 h2 c3 =>
q_lenW (lenC tys 73 (dec v1)) v1 fun v4 =>
@Nat.rec (fun _ => Fun 2) (fun _ _ _ _ => false) (fun _ f9 v5 v6 h7 c8 =>
q_cmpW (cmpF2 .lss) 3 (binC Try.prog .lss 3 (.tmp 12) (.tmp 11) (dec v6) (dec v4)) v6 v4 fun v10 =>
q_condW v10 (
q_idxSW 1 v1 v6 fun v11 =>
q_loadSW h7 v11 fun v12 =>
@Nat.rec (fun _ => Fun 2) (fun _ _ _ _ => false) (fun _ f17 v13 v14 h15 c16 =>
q_cmpW (cmpF2 .geq) 3 (binC Try.prog .geq 3 (.tmp 16) (.const (.int .i64 (.ofNat 0))) (dec v14) (dec ⟨3, 0, r0, []⟩)) v14 ⟨3, 0, r0, []⟩ fun v18 =>
q_condW v18 (
q_shrW 4 8 (binC Try.prog .shr 5 (.tmp 22) (.tmp 23) (dec v12) (dec v14)) v12 v14 fun v19 =>
q_bitW Nat.land 4 255 (binC Try.prog .and 5 (.tmp 24) (.const (.int .u8 (.ofNat 1))) (dec v19) (dec ⟨4, 1, r0, []⟩)) v19 ⟨4, 1, r0, []⟩ fun v20 =>
q_cmpW (cmpF2 .neq) 4 (binC Try.prog .neq 5 (.tmp 25) (.const (.int .u8 (.ofNat 0))) (dec v20) (dec ⟨4, 0, r0, []⟩)) v20 ⟨4, 0, r0, []⟩ fun v21 =>
call 34 [v13, a0, v21] h15 c16 fun v22 h23 c24 =>
q_subW 3 9223372036854775807 (binC Try.prog .sub 3 (.tmp 18) (.const (.int .i64 (.ofNat 1))) (dec v14) (dec ⟨3, 1, r0, []⟩)) v14 ⟨3, 1, r0, []⟩ fun v25 =>
f17 v22 v25 h23 c24) (
q_addW 3 9223372036854775807 (binC Try.prog .add 3 (.tmp 12) (.const (.int .i64 (.ofNat 1))) (dec v6) (dec ⟨3, 1, r0, []⟩)) v6 ⟨3, 1, r0, []⟩ fun v26 =>
f9 v13 v26 h15 c16)) fu v5 ⟨3, 7, r0, []⟩ h7 c8) (
K v5 h7 c8)) fu ⟨6, 0, r0, []⟩ ⟨3, 0, r0, []⟩ h2 c3
theorem R48_eq (Q : PrimW) (fu : Nat) (call : CallW) : curryA 2 (fnK Q Try.prog tys stl fu call e48) = R48 Q.addW Q.subW Q.bitW Q.cmpW Q.shrW Q.condW Q.idxSW Q.lenW Q.loadSW Q.bytW fu call := by kernel_rfl
noncomputable def n48 (call : CallW) : List W → HW → Nat → KW → Bool := appF 2 (R48 addW subW bitW cmpW shrW condW idxSW lenW loadSW bytW 1000000 call)
theorem n48_ok {call : CallW} (h : CallSim Try.prog tys stl tab call) : FnGood Try.prog tys stl tab 48 (n48 call) := node_ok h (by kernel_rfl) rfl g48 (R48_eq real _ _)
/- foghorn/sums.wide[uint32] -/
noncomputable def R52 (q_genW : Option CV → (W → Bool) → Bool) (q_icvW : Nat → Nat → Option CV → W → (W → Bool) → Bool) (fu : Nat) (call : CallW) (a0 : W) (h0 : HW) (c0 : Nat) (K : KW) : Bool :=
q_icvW 6 4294967295 (convC Try.prog tys ⟨[], 0, decH h0, 0⟩ 3 24 (dec ⟨3, 0, r0, []⟩)) ⟨3, 0, r0, []⟩ fun v1 =>
q_genW (two Try.prog (dec v1) (Op.unary .xor)) fun v2 =>
call 58 [v2] h0 c0 fun v3 h4 c5 =>
K v3 h4 c5
theorem R52_eq (Q : PrimW) (fu : Nat) (call : CallW) : curryA 1 (fnK Q Try.prog tys stl fu call e52) = R52 Q.genW Q.icvW fu call := by kernel_rfl
noncomputable def n52 (call : CallW) : List W → HW → Nat → KW → Bool := appF 1 (R52 genW icvW 1000000 call)
theorem n52_ok {call : CallW} (h : CallSim Try.prog tys stl tab call) : FnGood Try.prog tys stl tab 52 (n52 call) := node_ok h (by kernel_rfl) rfl g52 (R52_eq real _ _)
/- foghorn/sums.next[uint16] -/
noncomputable def R53 (q_share : (α : Type) → α → (α → Bool) → Bool) (q_genW : Option CV → (W → Bool) → Bool) (q_subW : Nat → Nat → Option CV → W → W → (W → Bool) → Bool) (q_bitW : (Nat → Nat → Nat) → Nat → Nat → Option CV → W → W → (W → Bool) → Bool) (q_cmpW : (Nat → Nat → Bool) → Nat → Option CV → W → W → (W → Bool) → Bool) (q_shlW : Nat → Nat → Nat → Option CV → W → W → (W → Bool) → Bool) (q_shrW : Nat → Nat → Option CV → W → W → (W → Bool) → Bool) (q_condW : W → Bool → Bool → Bool) (fu : Nat) (call : CallW) (a0 : W) (a1 : W) (a2 : W) (h0 : HW) (c0 : Nat) (K : KW) : Bool :=
call 54 [a0] h0 c0 fun v1 h2 c3 =>
q_subW 3 9223372036854775807 (binC Try.prog .sub 3 (.tmp 10) (.const (.int .i64 (.ofNat 1))) (dec v1) (dec ⟨3, 1, r0, []⟩)) v1 ⟨3, 1, r0, []⟩ fun v4 =>
q_shrW 5 16 (binC Try.prog .shr 23 (.tmp 8) (.tmp 11) (dec a0) (dec v4)) a0 v4 fun v5 =>
q_cmpW (cmpF2 .neq) 5 (binC Try.prog .neq 23 (.tmp 12) (.const (.int .u16 (.ofNat 0))) (dec v5) (dec ⟨5, 0, r0, []⟩)) v5 ⟨5, 0, r0, []⟩ fun v6 =>
q_shlW 5 65535 16 (binC Try.prog .shl 23 (.tmp 14) (.const (.int .u64 (.ofNat 1))) (dec a0) (dec ⟨7, 1, r0, []⟩)) a0 ⟨7, 1, r0, []⟩ fun v7 =>
q_share _ (fun (v8 : W) (h9 : HW) (c10 : Nat) =>
K v8 h9 c10) fun f11 =>
q_genW (binC Try.prog .neq 4 (.tmp 16) (.tmp 17) (dec v6) (dec a2)) fun v12 =>
q_condW v12 (
q_bitW Nat.xor 5 65535 (binC Try.prog .xor 23 (.tmp 19) (.tmp 20) (dec v7) (dec a1)) v7 a1 fun v13 =>
f11 v13 h2 c3) (
f11 v7 h2 c3)
theorem R53_eq (Q : PrimW) (fu : Nat) (call : CallW) : curryA 3 (fnK Q Try.prog tys stl fu call e53) = R53 Q.share Q.genW Q.subW Q.bitW Q.cmpW Q.shlW Q.shrW Q.condW fu call := by kernel_rfl
noncomputable def n53 (call : CallW) : List W → HW → Nat → KW → Bool := appF 3 (R53 (fun _ x f => f x) genW subW bitW cmpW shlW shrW condW 1000000 call)
theorem n53_ok {call : CallW} (h : CallSim Try.prog tys stl tab call) : FnGood Try.prog tys stl tab 53 (n53 call) := node_ok h (by kernel_rfl) rfl g53 (R53_eq real _ _)
/- foghorn/sums.wide[uint16] -/
noncomputable def R54 (q_genW : Option CV → (W → Bool) → Bool) (q_icvW : Nat → Nat → Option CV → W → (W → Bool) → Bool) (fu : Nat) (call : CallW) (a0 : W) (h0 : HW) (c0 : Nat) (K : KW) : Bool :=
q_icvW 5 65535 (convC Try.prog tys ⟨[], 0, decH h0, 0⟩ 3 23 (dec ⟨3, 0, r0, []⟩)) ⟨3, 0, r0, []⟩ fun v1 =>
q_genW (two Try.prog (dec v1) (Op.unary .xor)) fun v2 =>
q_icvW 6 4294967295 (convC Try.prog tys ⟨[], 0, decH h0, 0⟩ 23 24 (dec v2)) v2 fun v3 =>
call 58 [v3] h0 c0 fun v4 h5 c6 =>
K v4 h5 c6
theorem R54_eq (Q : PrimW) (fu : Nat) (call : CallW) : curryA 1 (fnK Q Try.prog tys stl fu call e54) = R54 Q.genW Q.icvW fu call := by kernel_rfl
noncomputable def n54 (call : CallW) : List W → HW → Nat → KW → Bool := appF 1 (R54 genW icvW 1000000 call)
theorem n54_ok {call : CallW} (h : CallSim Try.prog tys stl tab call) : FnGood Try.prog tys stl tab 54 (n54 call) := node_ok h (by kernel_rfl) rfl g54 (R54_eq real _ _)
/- math/bits.Len32 -/
noncomputable def R58 (q_share : (α : Type) → α → (α → Bool) → Bool) (q_genW : Option CV → (W → Bool) → Bool) (q_addW : Nat → Nat → Option CV → W → W → (W → Bool) → Bool) (q_cmpW : (Nat → Nat → Bool) → Nat → Option CV → W → W → (W → Bool) → Bool) (q_shrW : Nat → Nat → Option CV → W → W → (W → Bool) → Bool) (q_icvW : Nat → Nat → Option CV → W → (W → Bool) → Bool) (q_condW : W → Bool → Bool → Bool) (fu : Nat) (call : CallW) (a0 : W) (h0 : HW) (c0 : Nat) (K : KW) : Bool :=
q_share _ (fun (v1 : W) (v2 : W) (h3 : HW) (c4 : Nat) =>
q_share _ (fun (v6 : W) (v7 : W) (h8 : HW) (c9 : Nat) =>
q_icvW 4 255 (convC Try.prog tys ⟨[], 0, decH h8, 0⟩ 24 5 (dec v6)) v6 fun v11 =>
q_genW (two2 Try.prog (dec ⟨12, 0, ⟨0, 0, 0, .str ⟨⟨[0, 1, 2, 2, 3, 3, 3, 3, 4, 4, 4, 4, 4, 4, 4, 4, 5, 5, 5, 5, 5, 5, 5, 5, 5, 5, 5, 5, 5, 5, 5, 5, 6, 6, 6, 6, 6, 6, 6, 6, 6, 6, 6, 6, 6, 6, 6, 6, 6, 6, 6, 6, 6, 6, 6, 6, 6, 6, 6, 6, 6, 6, 6, 6, 7, 7, 7, 7, 7, 7, 7, 7, 7, 7, 7, 7, 7, 7, 7, 7, 7, 7, 7, 7, 7, 7, 7, 7, 7, 7, 7, 7, 7, 7, 7, 7, 7, 7, 7, 7, 7, 7, 7, 7, 7, 7, 7, 7, 7, 7, 7, 7, 7, 7, 7, 7, 7, 7, 7, 7, 7, 7, 7, 7, 7, 7, 7, 7, 8, 8, 8, 8, 8, 8, 8, 8, 8, 8, 8, 8, 8, 8, 8, 8, 8, 8, 8, 8, 8, 8, 8, 8, 8, 8, 8, 8, 8, 8, 8, 8, 8, 8, 8, 8, 8, 8, 8, 8, 8, 8, 8, 8, 8, 8, 8, 8, 8, 8, 8, 8, 8, 8, 8, 8, 8, 8, 8, 8, 8, 8, 8, 8, 8, 8, 8, 8, 8, 8, 8, 8, 8, 8, 8, 8, 8, 8, 8, 8, 8, 8, 8, 8, 8, 8, 8, 8, 8, 8, 8, 8, 8, 8, 8, 8, 8, 8, 8, 8, 8, 8, 8, 8, 8, 8, 8, 8, 8, 8, 8, 8, 8, 8, 8, 8, 8, 8, 8, 8, 8, 8, 8, 8, 8, 8, 8, 8]⟩⟩⟩, []⟩) (dec v11) (Instr.index 9)) fun v12 =>
q_icvW 3 9223372036854775807 (convC Try.prog tys ⟨[], 0, decH h8, 0⟩ 5 3 (dec v12)) v12 fun v13 =>
q_addW 3 9223372036854775807 (binC Try.prog .add 3 (.tmp 13) (.tmp 17) (dec v7) (dec v13)) v7 v13 fun v14 =>
K v14 h8 c9) fun f10 =>
q_cmpW (cmpF2 .geq) 6 (binC Try.prog .geq 24 (.tmp 7) (.const (.int .u32 (.ofNat 256))) (dec v1) (dec ⟨6, 256, r0, []⟩)) v1 ⟨6, 256, r0, []⟩ fun v15 =>
q_condW v15 (
q_shrW 6 32 (binC Try.prog .shr 24 (.tmp 9) (.const (.int .u64 (.ofNat 8))) (dec v1) (dec ⟨7, 8, r0, []⟩)) v1 ⟨7, 8, r0, []⟩ fun v16 =>
q_addW 3 9223372036854775807 (binC Try.prog .add 3 (.tmp 11) (.const (.int .i64 (.ofNat 8))) (dec v2) (dec ⟨3, 8, r0, []⟩)) v2 ⟨3, 8, r0, []⟩ fun v17 =>
f10 v16 v17 h3 c4) (
f10 v1 v2 h3 c4)) fun f5 =>
q_cmpW (cmpF2 .geq) 6 (binC Try.prog .geq 24 (.tmp 3) (.const (.int .u32 (.ofNat 65536))) (dec a0) (dec ⟨6, 65536, r0, []⟩)) a0 ⟨6, 65536, r0, []⟩ fun v18 =>
q_condW v18 (
q_shrW 6 32 (binC Try.prog .shr 24 (.tmp 5) (.const (.int .u64 (.ofNat 16))) (dec a0) (dec ⟨7, 16, r0, []⟩)) a0 ⟨7, 16, r0, []⟩ fun v19 =>
f5 v19 ⟨3, 16, r0, []⟩ h0 c0) (
f5 a0 ⟨3, 0, r0, []⟩ h0 c0)
theorem R58_eq (Q : PrimW) (fu : Nat) (call : CallW) : curryA 1 (fnK Q Try.prog tys stl fu call e58) = R58 Q.share Q.genW Q.addW Q.cmpW Q.shrW Q.icvW Q.condW fu call := by kernel_rfl
noncomputable def n58 (call : CallW) : List W → HW → Nat → KW → Bool := appF 1 (R58 (fun _ x f => f x) genW addW cmpW shrW icvW condW 1000000 call)
theorem n58_ok {call : CallW} (h : CallSim Try.prog tys stl tab call) : FnGood Try.prog tys stl tab 58 (n58 call) := node_ok h (by kernel_rfl) rfl g58 (R58_eq real _ _)
noncomputable def dS (call : CallW) : Disp := (.node 35 (n35 call) (.node 24 (n24 call) (.node 11 (n11 call) (.node 9 (n9 call) .leaf .leaf) (.node 12 (n12 call) .leaf .leaf)) (.node 34 (n34 call) (.node 25 (n25 call) .leaf .leaf) .leaf)) (.node 53 (n53 call) (.node 48 (n48 call) (.node 47 (n47 call) .leaf .leaf) (.node 52 (n52 call) .leaf .leaf)) (.node 58 (n58 call) (.node 54 (n54 call) .leaf .leaf) .leaf)))
theorem dS_ok {call : CallW} (h : CallSim Try.prog tys stl tab call) : CallSim Try.prog tys stl tab (dS call).fn := Disp.sim (t := dS call) ⟨n35_ok h, ⟨n24_ok h, ⟨n11_ok h, ⟨n9_ok h, True.intro, True.intro⟩, ⟨n12_ok h, True.intro, True.intro⟩⟩, ⟨n34_ok h, ⟨n25_ok h, True.intro, True.intro⟩, True.intro⟩⟩, ⟨n53_ok h, ⟨n48_ok h, ⟨n47_ok h, True.intro, True.intro⟩, ⟨n52_ok h, True.intro, True.intro⟩⟩, ⟨n58_ok h, ⟨n54_ok h, True.intro, True.intro⟩, True.intro⟩⟩⟩
noncomputable def dR (m : Nat) : Disp := @Nat.rec (fun _ => Disp) .leaf (fun _ ih => dS ih.fn) m
theorem dR_ok : ∀ m, CallSim Try.prog tys stl tab (dR m).fn
  | 0 => d0_ok
  | m + 1 => dS_ok (dR_ok m)
noncomputable abbrev dT : Disp := dR 200
theorem dT_ok : CallSim Try.prog tys stl tab dT.fn := dR_ok _
set_option maxHeartbeats 0 in
theorem run12 : lawK dT.fn 12 = true := by kernel_rfl
theorem awake_f : Fits Try.prog 12 ⟨[], [], [⟨Unit, fun _ => True, fun _ => .bool true, fun _ => []⟩]⟩ :=
  lawK_fits tok mixed fok dT_ok (by kernel_rfl : tab 12 = some e12) rfl run12
set_option maxHeartbeats 0 in
theorem runw32 : dT.fn 52 [wAny] .nil 0 (fun w _ _ => isI 3 32 w) = true := by kernel_rfl
theorem wide32_T : Fits Try.prog 52 ⟨[.any], [], [⟨Unit, fun _ => True, fun _ => .int .i64 32, fun _ => []⟩]⟩ :=
  call_fits tok mixed fok dT_ok (by kernel_rfl : tab 52 = some e52) rfl (args := [wAny]) (axs := [.any]) (fun τ => by simp [Rels, Rel, dec_any]) (res := .int .i64 32) rfl (K := fun w _ _ => isI 3 32 w) (fun w hp c h => isI_res rfl h) runw32
set_option maxHeartbeats 0 in
theorem runw16 : dT.fn 54 [wAny] .nil 0 (fun w _ _ => isI 3 16 w) = true := by kernel_rfl
theorem wide16_T : Fits Try.prog 54 ⟨[.any], [], [⟨Unit, fun _ => True, fun _ => .int .i64 16, fun _ => []⟩]⟩ :=
  call_fits tok mixed fok dT_ok (by kernel_rfl : tab 54 = some e54) rfl (args := [wAny]) (axs := [.any]) (fun τ => by simp [Rels, Rel, dec_any]) (res := .int .i64 16) rfl (K := fun w _ _ => isI 3 16 w) (fun w hp c h => isI_res rfl h) runw16
end Go.Proofs.Ytkffpcifkeaabaa
