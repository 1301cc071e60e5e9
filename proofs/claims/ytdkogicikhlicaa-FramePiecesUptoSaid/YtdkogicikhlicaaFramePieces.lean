/-
  For any kind, number, message, most bytes and any row of frames of at most 1048576 places: Pieces and Join answer as the document does, twice, and nothing that was handed in is changed.
-/
import Derived.Test.YtdkogicikhlicaaRows
import Derived.Test.YtdkogicikhlicaaFv
import Derived.Test.YtdkogicikhlicaaFa
import Derived.WalkKit
import Derived.JoinedCond
import Derived.Deep.CondSized
import Derived.ProofKit
import Derived.OpenShut
import Derived.SizedLaws
import Derived.ChangeMaps5
set_option linter.unusedSimpArgs false
set_option linter.unusedVariables false
set_option linter.unusedVariables false
set_option linter.unusedSimpArgs false
namespace Go.Proofs.Ytdkogicikhlicaa
open Go Go.Fw
def tyL : List (Nat × TyI) := [
  (1, ⟨.func, 1, 8, .nilFunc⟩),
  (2, ⟨.int .i64, 1, 8, .int .i64 0⟩),
  (3, ⟨.int .i64, 1, 8, .int .i64 0⟩),
  (4, ⟨.bool, 1, 1, .bool false⟩),
  (5, ⟨.int .u8, 1, 1, .int .u8 0⟩),
  (9, ⟨.str, 1, 16, .string (ByteArray.mk #[])⟩),
  (12, ⟨.int .u64, 1, 8, .int .u64 0⟩),
  (21, ⟨.int .i32, 1, 4, .int .i32 0⟩),
  (22, ⟨.struct [(0, 5), (1, 5), (2, 4), (3, 9)], 4, 24, .agg #[.int .u8 0, .int .u8 0, .bool false, .string (ByteArray.mk #[])]⟩),
  (23, ⟨.struct [(0, 5), (1, 5), (2, 4), (3, 9)], 4, 24, .agg #[.int .u8 0, .int .u8 0, .bool false, .string (ByteArray.mk #[])]⟩),
  (24, ⟨.int .i64, 1, 8, .int .i64 0⟩),
  (26, ⟨.func, 1, 8, .nilFunc⟩),
  (28, ⟨.func, 1, 8, .nilFunc⟩),
  (29, ⟨.func, 1, 8, .nilFunc⟩),
  (30, ⟨.func, 1, 8, .nilFunc⟩),
  (31, ⟨.slice 37, 1, 24, .slice none 0 0⟩),
  (32, ⟨.func, 1, 8, .nilFunc⟩),
  (33, ⟨.func, 1, 8, .nilFunc⟩),
  (34, ⟨.func, 1, 8, .nilFunc⟩),
  (35, ⟨.func, 1, 8, .nilFunc⟩),
  (36, ⟨.struct [(0, 3), (1, 23)], 5, 32, .agg #[.int .i64 0, .int .u8 0, .int .u8 0, .bool false, .string (ByteArray.mk #[])]⟩),
  (37, ⟨.struct [(0, 3), (1, 23)], 5, 32, .agg #[.int .i64 0, .int .u8 0, .int .u8 0, .bool false, .string (ByteArray.mk #[])]⟩),
  (38, ⟨.func, 1, 8, .nilFunc⟩),
  (39, ⟨.slice 23, 1, 24, .slice none 0 0⟩),
  (41, ⟨.func, 1, 8, .nilFunc⟩),
  (42, ⟨.func, 1, 8, .nilFunc⟩),
  (43, ⟨.func, 1, 8, .nilFunc⟩),
  (44, ⟨.func, 1, 8, .nilFunc⟩),
  (45, ⟨.func, 1, 8, .nilFunc⟩),
  (46, ⟨.slice 3, 1, 24, .slice none 0 0⟩),
  (47, ⟨.func, 1, 8, .nilFunc⟩),
  (48, ⟨.func, 1, 8, .nilFunc⟩),
  (49, ⟨.int .u64, 1, 8, .int .u64 0⟩),
  (50, ⟨.func, 1, 8, .nilFunc⟩),
  (51, ⟨.int .u32, 1, 4, .int .u32 0⟩),
  (52, ⟨.slice 5, 1, 24, .slice none 0 0⟩),
  (53, ⟨.func, 1, 8, .nilFunc⟩),
  (54, ⟨.func, 1, 8, .nilFunc⟩),
  (55, ⟨.array 5 5, 5, 5, .agg #[.int .u8 0, .int .u8 0, .int .u8 0, .int .u8 0, .int .u8 0]⟩),
  (56, ⟨.array 5 5, 5, 5, .agg #[.int .u8 0, .int .u8 0, .int .u8 0, .int .u8 0, .int .u8 0]⟩),
  (57, ⟨.func, 1, 8, .nilFunc⟩),
  (58, ⟨.func, 1, 8, .nilFunc⟩),
  (59, ⟨.int .u64, 1, 8, .int .u64 0⟩),
  (60, ⟨.func, 1, 8, .nilFunc⟩),
  (62, ⟨.func, 1, 8, .nilFunc⟩),
  (64, ⟨.func, 1, 8, .nilFunc⟩),
  (65, ⟨.func, 1, 8, .nilFunc⟩),
  (66, ⟨.func, 1, 8, .nilFunc⟩),
  (67, ⟨.func, 1, 8, .nilFunc⟩),
  (68, ⟨.int .u16, 1, 2, .int .u16 0⟩),
  (69, ⟨.func, 1, 8, .nilFunc⟩),
  (70, ⟨.func, 1, 8, .nilFunc⟩),
  (71, ⟨.func, 1, 8, .nilFunc⟩),
  (72, ⟨.func, 1, 8, .nilFunc⟩),
  (73, ⟨.func, 1, 8, .nilFunc⟩),
  (74, ⟨.func, 1, 8, .nilFunc⟩),
  (75, ⟨.func, 1, 8, .nilFunc⟩),
  (76, ⟨.func, 1, 8, .nilFunc⟩),
  (82, ⟨.func, 1, 8, .nilFunc⟩),
  (85, ⟨.func, 1, 8, .nilFunc⟩),
  (86, ⟨.ptr 5, 1, 8, .pointer none⟩)]
theorem tokL : TOk Try.prog tyL := tokl_of ⟨⟨by kernel_rfl, by kernel_rfl⟩, ⟨by kernel_rfl, by kernel_rfl⟩, ⟨by kernel_rfl, by kernel_rfl⟩, ⟨by kernel_rfl, by kernel_rfl⟩, ⟨by kernel_rfl, by kernel_rfl⟩, ⟨by kernel_rfl, by kernel_rfl⟩, ⟨by kernel_rfl, by kernel_rfl⟩, ⟨by kernel_rfl, by kernel_rfl⟩, ⟨by kernel_rfl, by kernel_rfl⟩, ⟨by kernel_rfl, by kernel_rfl⟩, ⟨by kernel_rfl, by kernel_rfl⟩, ⟨by kernel_rfl, by kernel_rfl⟩, ⟨by kernel_rfl, by kernel_rfl⟩, ⟨by kernel_rfl, by kernel_rfl⟩, ⟨by kernel_rfl, by kernel_rfl⟩, ⟨by kernel_rfl, by kernel_rfl⟩, ⟨by kernel_rfl, by kernel_rfl⟩, ⟨by kernel_rfl, by kernel_rfl⟩, ⟨by kernel_rfl, by kernel_rfl⟩, ⟨by kernel_rfl, by kernel_rfl⟩, ⟨by kernel_rfl, by kernel_rfl⟩, ⟨by kernel_rfl, by kernel_rfl⟩, ⟨by kernel_rfl, by kernel_rfl⟩, ⟨by kernel_rfl, by kernel_rfl⟩, ⟨by kernel_rfl, by kernel_rfl⟩, ⟨by kernel_rfl, by kernel_rfl⟩, ⟨by kernel_rfl, by kernel_rfl⟩, ⟨by kernel_rfl, by kernel_rfl⟩, ⟨by kernel_rfl, by kernel_rfl⟩, ⟨by kernel_rfl, by kernel_rfl⟩, ⟨by kernel_rfl, by kernel_rfl⟩, ⟨by kernel_rfl, by kernel_rfl⟩, ⟨by kernel_rfl, by kernel_rfl⟩, ⟨by kernel_rfl, by kernel_rfl⟩, ⟨by kernel_rfl, by kernel_rfl⟩, ⟨by kernel_rfl, by kernel_rfl⟩, ⟨by kernel_rfl, by kernel_rfl⟩, ⟨by kernel_rfl, by kernel_rfl⟩, ⟨by kernel_rfl, by kernel_rfl⟩, ⟨by kernel_rfl, by kernel_rfl⟩, ⟨by kernel_rfl, by kernel_rfl⟩, ⟨by kernel_rfl, by kernel_rfl⟩, ⟨by kernel_rfl, by kernel_rfl⟩, ⟨by kernel_rfl, by kernel_rfl⟩, ⟨by kernel_rfl, by kernel_rfl⟩, ⟨by kernel_rfl, by kernel_rfl⟩, ⟨by kernel_rfl, by kernel_rfl⟩, ⟨by kernel_rfl, by kernel_rfl⟩, ⟨by kernel_rfl, by kernel_rfl⟩, ⟨by kernel_rfl, by kernel_rfl⟩, ⟨by kernel_rfl, by kernel_rfl⟩, ⟨by kernel_rfl, by kernel_rfl⟩, ⟨by kernel_rfl, by kernel_rfl⟩, ⟨by kernel_rfl, by kernel_rfl⟩, ⟨by kernel_rfl, by kernel_rfl⟩, ⟨by kernel_rfl, by kernel_rfl⟩, ⟨by kernel_rfl, by kernel_rfl⟩, ⟨by kernel_rfl, by kernel_rfl⟩, ⟨by kernel_rfl, by kernel_rfl⟩, ⟨by kernel_rfl, by kernel_rfl⟩, ⟨by kernel_rfl, by kernel_rfl⟩, True.intro⟩
theorem mixedL : Try.prog.follows .mixedOrders = true := by kernel_rfl
theorem i64max : IntKind.i64.max = 9223372036854775807 := rfl
theorem u8max : IntKind.u8.max = 255 := rfl
theorem u16max : IntKind.u16.max = 65535 := rfl
theorem u32max : IntKind.u32.max = 4294967295 := rfl
theorem u64max : IntKind.u64.max = 18446744073709551615 := rfl
def qf : Nat → Bool := fun f => match f with | 1000052 => true | _ => false
def cfgs (k : Nat) : Cfg := { T := tyL, sgn := fun _ => false, wr := fun _ => false, k := k, q := qf }
def numOut (D : List Seg) (x : AV) : FOut := ⟨Unit, fun _ => True, fun _ => x, fun _ => D⟩
end Go.Proofs.Ytdkogicikhlicaa

set_option linter.unusedVariables false
set_option linter.unusedSimpArgs false
namespace Go.Proofs.Ytdkogicikhlicaa
open Go Go.Fw
def bytL (s : ByteArray) : List Int := s.data.toList.map (fun b => (b.toNat : Int))
theorem bytL_len (s : ByteArray) : (bytL s).length = s.size := by unfold bytL; rw [List.length_map]; rfl
end Go.Proofs.Ytdkogicikhlicaa

set_option linter.unusedVariables false
set_option linter.unusedSimpArgs false
namespace Go.Proofs.Ytdkogicikhlicaa
open Go Go.Fw
def tx (l : List Int) : ByteArray := ⟨⟨l.map fun n => UInt8.ofNat n.toNat⟩⟩
def frA (k n : Int) (m : Bool) (b : ByteArray) : AV := .agg [.int .u8 k, .int .u8 n, .bool m, .str b]
theorem u8wrap (n : Int) : IntKind.u8.wrap n = n % 256 := by
  unfold IntKind.wrap
  simp [IntKind.bits, IntKind.signed]
end Go.Proofs.Ytdkogicikhlicaa

set_option linter.unusedVariables false
set_option linter.unusedSimpArgs false
namespace Go.Proofs.Ytdkogicikhlicaa
open Go Go.Fw
def h0 (k : Int) (m : Bool) : Int := 16 * k + (if m then 1 else 0)
noncomputable def c24 : Code := (Try.f24.body).getD .skip
def mayB (k : Int) (b : ByteArray) : Bool := decide (1 ≤ k) && (decide (k ≤ 15) && decide (b.size ≤ 240))
set_option maxHeartbeats 0 in
set_option maxRecDepth 100000 in
theorem mayBe_f (k n : Int) (m : Bool) (b : ByteArray) : Fits Try.prog 24 ⟨[frA k n m b], [], [numOut [] (.bool (mayB k b))]⟩ := by
  refine fits_of_body (C := cfgs 0) (c := c24) (ts := [2]) tokL mixedL (fun _ => none) (fun _ => none)
    Try.func24 (by kernel_rfl) (by kernel_rfl) (by kernel_rfl) (by kernel_rfl) rfl ?_
  conv => whnf
  refine tst_in (fun h1 => ?_) (fun h1' => ?_)
  · skip
    rw [dLe_eq] at h1
    have h1 : 1 ≤ k := by simpa using h1
    conv => whnf
    refine tst_in (fun h2 => ?_) (fun h2' => ?_)
    · skip
      rw [dLe_eq] at h2
      have h2 : k ≤ 15 := by simpa using h2
      conv => whnf
      refine .inl ⟨(), [], ?_⟩
      conv => whnf
      repeat' (first | exact True.intro | rfl | refine And.intro ?_ ?_)
      all_goals (conv => whnf)
      repeat' (first | exact True.intro | rfl | refine And.intro ?_ ?_)
      all_goals (try omega)
      all_goals (rw [dLe_eq]; unfold mayB; simp [h1, h2]; omega)
    · skip
      rw [dLe_eq] at h2'
      have h2 : ¬ k ≤ 15 := by simpa using h2'
      conv => whnf
      refine .inl ⟨(), [], ?_⟩
      conv => whnf
      repeat' (first | exact True.intro | rfl | refine And.intro ?_ ?_)
      all_goals (conv => whnf)
      repeat' (first | exact True.intro | rfl | refine And.intro ?_ ?_)
      all_goals (try omega)
      all_goals (unfold mayB; simp [h1, h2])
  · skip
    rw [dLe_eq] at h1'
    have h1 : ¬ 1 ≤ k := by simpa using h1'
    conv => whnf
    refine .inl ⟨(), [], ?_⟩
    conv => whnf
    repeat' (first | exact True.intro | rfl | refine And.intro ?_ ?_)
    all_goals (conv => whnf)
    repeat' (first | exact True.intro | rfl | refine And.intro ?_ ?_)
    all_goals (try omega)
    all_goals (unfold mayB; simp [h1])
noncomputable def c27 : Code := (Try.f27.body).getD .skip
set_option maxHeartbeats 0 in
set_option maxRecDepth 100000 in
theorem May_f (k n : Int) (m : Bool) (b : ByteArray) : Fits Try.prog 27 ⟨[frA k n m b], [], [numOut [] (.bool (mayB k b))]⟩ := by
  refine fits_of_body (C := cfgs 0) (c := c27) (ts := [2]) tokL mixedL (fun _ => none) (fun _ => none)
    Try.func27 (by kernel_rfl) (by kernel_rfl) (by kernel_rfl) (by kernel_rfl) rfl ?_
  conv => whnf
  refine tst_in (fun h1 => ?_) (fun h1' => ?_)
  · skip
    rw [dLe_eq] at h1
    have h1 : 1 ≤ k := by simpa using h1
    conv => whnf
    refine tst_in (fun h2 => ?_) (fun h2' => ?_)
    · skip
      rw [dLe_eq] at h2
      have h2 : k ≤ 15 := by simpa using h2
      conv => whnf
      refine .inl ⟨(), [], ?_⟩
      conv => whnf
      repeat' (first | exact True.intro | rfl | refine And.intro ?_ ?_)
      all_goals (conv => whnf)
      repeat' (first | exact True.intro | rfl | refine And.intro ?_ ?_)
      all_goals (try omega)
      all_goals (rw [dLe_eq]; unfold mayB; simp [h1, h2]; omega)
    · skip
      rw [dLe_eq] at h2'
      have h2 : ¬ k ≤ 15 := by simpa using h2'
      conv => whnf
      refine .inl ⟨(), [], ?_⟩
      conv => whnf
      repeat' (first | exact True.intro | rfl | refine And.intro ?_ ?_)
      all_goals (conv => whnf)
      repeat' (first | exact True.intro | rfl | refine And.intro ?_ ?_)
      all_goals (try omega)
      all_goals (unfold mayB; simp [h1, h2])
  · skip
    rw [dLe_eq] at h1'
    have h1 : ¬ 1 ≤ k := by simpa using h1'
    conv => whnf
    refine .inl ⟨(), [], ?_⟩
    conv => whnf
    repeat' (first | exact True.intro | rfl | refine And.intro ?_ ?_)
    all_goals (conv => whnf)
    repeat' (first | exact True.intro | rfl | refine And.intro ?_ ?_)
    all_goals (try omega)
    all_goals (unfold mayB; simp [h1])
end Go.Proofs.Ytdkogicikhlicaa

set_option linter.unusedVariables false
set_option linter.unusedSimpArgs false
namespace Go.Proofs.Ytdkogicikhlicaa
open Go Go.Fw
end Go.Proofs.Ytdkogicikhlicaa

set_option linter.unusedVariables false
set_option linter.unusedSimpArgs false
namespace Go.Proofs.Ytdkogicikhlicaa
open Go Go.Fw
theorem toList_inj {a b : ByteArray} : a.toList = b.toList ↔ a = b := by
  rw [ByteArray.toList_eq, ByteArray.toList_eq]
  constructor
  · intro h
    exact ByteArray.ext (Array.toList_inj.1 h)
  · rintro rfl; rfl
theorem beq_bytes (a b : ByteArray) : (a.toList == b.toList) = decide (a = b) := by
  rw [Bool.eq_iff_iff, beq_iff_eq, decide_eq_true_eq, toList_inj]
end Go.Proofs.Ytdkogicikhlicaa

set_option linter.unusedVariables false
set_option linter.unusedSimpArgs false
namespace Go.Proofs.Ytdkogicikhlicaa
open Go Go.Fw
theorem bytL_extract (s : ByteArray) (a b : Nat) : bytL (s.extract a b) = ((bytL s).drop a).take (b - a) := by
  unfold bytL
  rw [ByteArray.data_extract, Array.toList_extract, List.extract_eq_take_drop, List.map_take, List.map_drop]
theorem bytL_inj {a b : ByteArray} (h : bytL a = bytL b) : a = b := by
  unfold bytL at h
  refine ByteArray.ext (Array.toList_inj.1 (List.map_inj_right (f := fun b : UInt8 => (b.toNat : Int)) ?_ |>.1 h))
  intro x y hxy
  exact UInt8.toNat_inj.1 (by have : (x.toNat : Int) = (y.toNat : Int) := hxy; omega)
theorem bytL_tx (l : List Int) (h : ∀ x ∈ l, 0 ≤ x ∧ x < 256) : bytL (tx l) = l := by
  unfold bytL tx
  show (l.map _).map _ = l
  rw [List.map_map]
  conv => rhs; rw [← List.map_id l]
  refine List.map_congr_left fun x hx => ?_
  have := h x hx
  simp only [Function.comp_apply, id_eq, UInt8.toNat_ofNat']
  omega
theorem tx_bytL (s : ByteArray) : tx (bytL s) = s := by
  refine bytL_inj (bytL_tx _ fun x hx => ?_)
  unfold bytL at hx
  obtain ⟨b, _, rfl⟩ := List.mem_map.1 hx
  have := UInt8.toNat_lt b
  omega
theorem extract_all (x : ByteArray) (n : Nat) (h : x.size ≤ n) : x.extract 0 n = x := by
  refine bytL_inj ?_
  rw [bytL_extract, List.drop_zero]
  exact List.take_of_length_le (by rw [bytL_len]; omega)
def frS (o : Bool) (K N : List Int) (M : List Bool) (B : List ByteArray) : Seg := .seg o (.cols [.ints .u8 K, .ints .u8 N, .bools M, .strs B])
def pcR (L mo : Nat) : Nat := (L - 1) / mo
def pcN (n0 : Int) (i : Nat) : Int := (n0 + i) % 256
def pcB (s : ByteArray) (mo i : Nat) : ByteArray := (s.extract (i * mo) s.size).extract 0 mo
structure FT where
  q : Nat
  tK : List Int
  tN : List Int
  tM : List Bool
  tB : List ByteArray
def FT.ok (t : FT) : Prop := t.tK.length = t.q ∧ t.tN.length = t.q ∧ t.tM.length = t.q ∧ t.tB.length = t.q
noncomputable def c16 : Code := (Try.f16.body).getD .skip
def st16 (k n0 : Int) (s : ByteArray) (mo i q : Nat) (tK tN : List Int) (tM : List Bool) (tB : List ByteArray) : St :=
  ⟨slotsAt 55 [(0, .int .u8 k), (1, .int .u8 (pcN n0 i)), (2, .str (s.extract (i * mo) s.size)), (3, .int .i64 mo), (10, .slice 0 0 i (i + q))],
    [frS true (tb (fun _ => k) i ++ tK) (tb (pcN n0) i ++ tN) (tb (fun _ => true) i ++ tM) (tb (pcB s mo) i ++ tB)]⟩
def inv16 (k n0 : Int) (s : ByteArray) (mo : Nat) : LInv := ⟨Nat × FT, fun x => st16 k n0 s mo x.1 x.2.q x.2.tK x.2.tN x.2.tM x.2.tB, fun x => (x.1 = 0 ∨ x.1 * mo < s.size) ∧ x.2.ok, fun x => s.size - x.1 * mo⟩
theorem pcR_eq {L mo i : Nat} (hmo : 0 < mo) (h1 : i = 0 ∨ i * mo < L) (h2 : L ≤ (i + 1) * mo) : i = pcR L mo := by
  unfold pcR
  symm
  refine Nat.div_eq_of_lt_le ?_ ?_
  · rcases h1 with rfl | h1 <;> omega
  · have : 0 < (i + 1) * mo := Nat.mul_pos (by omega) hmo
    omega
theorem push_tb {α : Type} (F : Nat → α) (t t1 : List α) (i : Nat) (x : α) (hx : x = F i) : List.take i (List.drop 0 (tb F i ++ t)) ++ [x] ++ t1 = tb F (i + 1) ++ t1 := by
  rw [List.drop_zero, List.take_left' (tab_len F i), hx, tab_snoc]
set_option maxHeartbeats 0 in
set_option maxRecDepth 100000 in
theorem Pieces_f (k n0 : Int) (s : ByteArray) (mo : Nat) (hk : 1 ≤ k) (hk2 : k ≤ 15) (hn : 0 ≤ n0) (hn2 : n0 ≤ 255) (hs : s.size ≤ 32768) (hmo : 1 ≤ mo) (hmo2 : mo ≤ 240) :
    Fits Try.prog 16 ⟨[.int .u8 k, .int .u8 n0, .str s, .int .i64 mo], [], [⟨FT, fun t => t.ok, fun t => .tup [.slice 0 0 (pcR s.size mo + 1) (pcR s.size mo + 1 + t.q), .int .i64 0],
      fun t => [frS true (tb (fun _ => k) (pcR s.size mo + 1) ++ t.tK) (tb (pcN n0) (pcR s.size mo + 1) ++ t.tN) (tb (fun i => decide (i < pcR s.size mo)) (pcR s.size mo + 1) ++ t.tM) (tb (pcB s mo) (pcR s.size mo + 1) ++ t.tB)]⟩]⟩ := by
  refine fits_of_body (C := cfgs 0) (c := c16) (ts := [8, 9]) tokL mixedL (fun | 4 => some (inv16 k n0 s mo) | _ => none) (fun _ => none)
    Try.func16 (by kernel_rfl) (by kernel_rfl) (by kernel_rfl) (by kernel_rfl) rfl ?_
  conv => whnf
  repeat (first
    | (refine And.intro ?_ ?_; (focus (first | omega | decide | exact EqOk.mk (by kernel_rfl) (by kernel_rfl) (by kernel_rfl) | exact Int.natCast_nonneg _ | ((repeat' refine And.intro ?_ ?_) <;> first | omega | exact Int.natCast_nonneg _ | (simp only [i64max, u8max, u16max, u32max, u64max]; omega) | (simp only [mulSz_eq, Cont.len, colsLen, Col.len, List.length_cons, List.length_nil, List.length_replicate, List.length_append]; first | done | omega) | (simp [mulSz, Cont.len, bne]; first | done | omega)))); conv => whnf)
    | (refine tst_in ?_ ?_; (focus (intro h_; exfalso; first | omega | ((try simp only [decide_eq_true_eq, decide_eq_false_iff_not] at h_); omega) | (simp [mulSz, Cont.len, bne] at h_; first | done | omega))); intro _; conv => whnf)
    | (refine tst_in ?_ ?_; rotate_left; (focus (intro h_; exfalso; first | omega | ((try simp only [decide_eq_true_eq, decide_eq_false_iff_not] at h_); omega) | (simp [mulSz, Cont.len, bne] at h_; first | done | omega))); intro _; conv => whnf)
    | (refine ⟨0, (show _ = _ by omega), ?_⟩; conv => whnf))
  refine ⟨⟨[9], (0, ⟨0, [], [], [], []⟩), ?_, ⟨.inl rfl, rfl, rfl, rfl, rfl⟩⟩, ?_⟩
  · show stLe _ _ (st16 k n0 s mo 0 0 [] [] [] []) _
    conv => whnf
    repeat' (first | exact True.intro | rfl | refine And.intro ?_ ?_)
    all_goals (conv => whnf)
    repeat' (first | exact True.intro | rfl | refine And.intro ?_ ?_)
    all_goals (try omega)
    · unfold pcN; omega
    · rw [Nat.zero_mul]; exact extract_all s _ (Nat.le_refl _)
  · intro ⟨i, q, tK, tN, tM, tB⟩ ⟨(hi : i = 0 ∨ i * mo < s.size), (h1 : tK.length = q), (h2 : tN.length = q), (h3 : tM.length = q), (h4 : tB.length = q)⟩
    show forceSt (st16 k n0 s mo i q tK tN tM tB) _
    have hz : (s.extract (i * mo) s.size).size = s.size - i * mo := by rw [ByteArray.size_extract]; omega
    have hm1 : (i + 1) * mo = i * mo + mo := by rw [Nat.add_mul, Nat.one_mul]
    have hil : i ≤ i * mo := Nat.le_mul_of_pos_right i (by omega)
    have hN : 0 ≤ pcN n0 i ∧ pcN n0 i ≤ 255 := by unfold pcN; omega
    conv => whnf
    refine tst_in (fun h5 => ?_) (fun h5' => ?_)
    · skip
      have h5 : mo < s.size - i * mo := by rw [hz] at h5; rw [dLt_eq] at h5; simp at h5; omega
      conv => whnf
      repeat (first
        | (refine And.intro ?_ ?_; (focus (first | omega | decide | exact EqOk.mk (by kernel_rfl) (by kernel_rfl) (by kernel_rfl) | exact Int.natCast_nonneg _ | ((repeat' refine And.intro ?_ ?_) <;> first | omega | exact Int.natCast_nonneg _ | (simp only [i64max, u8max, u16max, u32max, u64max]; omega) | (simp only [mulSz_eq, Cont.len, colsLen, Col.len, List.length_cons, List.length_nil, List.length_replicate, List.length_append, tab_len, h1, h2, h3, h4, hz, List.length_take, List.length_drop]; first | done | omega) | (simp [mulSz, Cont.len, bne, tab_len, h1, h2, h3, h4, hz, List.length_take, List.length_drop]; first | done | omega)))); conv => whnf)
        | (refine tst_in ?_ ?_; (focus (intro h_; exfalso; first | omega | ((try simp only [decide_eq_true_eq, decide_eq_false_iff_not] at h_); omega) | (simp [mulSz, Cont.len, bne, tab_len, h1, h2, h3, h4, hz, List.length_take, List.length_drop] at h_; first | done | omega))); intro _; conv => whnf)
        | (refine tst_in ?_ ?_; rotate_left; (focus (intro h_; exfalso; first | omega | ((try simp only [decide_eq_true_eq, decide_eq_false_iff_not] at h_); omega) | (simp [mulSz, Cont.len, bne, tab_len, h1, h2, h3, h4, hz, List.length_take, List.length_drop] at h_; first | done | omega))); intro _; conv => whnf)
        | (refine ⟨(i), (show _ = _ by omega), ?_⟩; conv => whnf)
        | (refine ⟨(i), 0, (show _ = _ by omega), ?_⟩; conv => whnf)
        | (refine ⟨(i), 1, (show _ = _ by omega), ?_⟩; conv => whnf)
        | (refine ⟨(i), 2, (show _ = _ by omega), ?_⟩; conv => whnf)
        | (refine ⟨(i), 3, (show _ = _ by omega), ?_⟩; conv => whnf)
        | (refine ⟨(i), 4, (show _ = _ by omega), ?_⟩; conv => whnf)
        | (refine ⟨(i), 5, (show _ = _ by omega), ?_⟩; conv => whnf)
        | (refine ⟨0, (show _ = _ by omega), ?_⟩; conv => whnf))
      intro q' u1 g1 u2 g2 u3 g3 u4 g4
      conv => whnf
      repeat (first
        | (refine And.intro ?_ ?_; (focus (first | omega | decide | exact EqOk.mk (by kernel_rfl) (by kernel_rfl) (by kernel_rfl) | exact Int.natCast_nonneg _ | ((repeat' refine And.intro ?_ ?_) <;> first | omega | exact Int.natCast_nonneg _ | (simp only [i64max, u8max, u16max, u32max, u64max]; omega) | (simp only [mulSz_eq, Cont.len, colsLen, Col.len, List.length_cons, List.length_nil, List.length_replicate, List.length_append]; first | done | omega) | (simp [mulSz, Cont.len, bne]; first | done | omega)))); conv => whnf)
        | (refine tst_in ?_ ?_; (focus (intro h_; exfalso; first | omega | ((try simp only [decide_eq_true_eq, decide_eq_false_iff_not] at h_); omega) | (simp [mulSz, Cont.len, bne] at h_; first | done | omega))); intro _; conv => whnf)
        | (refine tst_in ?_ ?_; rotate_left; (focus (intro h_; exfalso; first | omega | ((try simp only [decide_eq_true_eq, decide_eq_false_iff_not] at h_); omega) | (simp [mulSz, Cont.len, bne] at h_; first | done | omega))); intro _; conv => whnf)
        | (refine ⟨0, (show _ = _ by omega), ?_⟩; conv => whnf))
      have hlt : s.size - (i + 1) * mo < s.size - i * mo := by omega
      refine ⟨[2], (i + 1, ⟨q', u1, u2, u3, u4⟩), ?_, ⟨.inr (by show (i + 1) * mo < s.size; omega), g1, g2, g3, g4⟩, hlt⟩
      show stLe _ _ (st16 k n0 s mo (i + 1) q' u1 u2 u3 u4) _
      conv => whnf
      repeat' (first | exact True.intro | rfl | refine And.intro ?_ ?_)
      all_goals (conv => whnf)
      repeat' (first | exact True.intro | rfl | refine And.intro ?_ ?_)
      all_goals (try omega)
      · rw [u8wrap]; unfold pcN; omega
      · rw [ByteArray.extract_extract, hm1]
        congr 1
        all_goals (first | omega | (rw [hz]; omega))
      · exact (push_tb (fun _ => k) tK u1 i _ rfl).symm
      · exact (push_tb (pcN n0) tN u2 i _ rfl).symm
      · exact (push_tb (fun _ => true) tM u3 i _ rfl).symm
      · refine (push_tb (pcB s mo) tB u4 i _ ?_).symm
        rfl
    · skip
      have h5 : s.size - i * mo ≤ mo := by rw [hz] at h5'; rw [dLt_eq] at h5'; simp at h5'; omega
      have hr : i = pcR s.size mo := pcR_eq hmo hi (by omega)
      conv => whnf
      repeat (first
        | (refine And.intro ?_ ?_; (focus (first | omega | decide | exact EqOk.mk (by kernel_rfl) (by kernel_rfl) (by kernel_rfl) | exact Int.natCast_nonneg _ | ((repeat' refine And.intro ?_ ?_) <;> first | omega | exact Int.natCast_nonneg _ | (simp only [i64max, u8max, u16max, u32max, u64max]; omega) | (simp only [mulSz_eq, Cont.len, colsLen, Col.len, List.length_cons, List.length_nil, List.length_replicate, List.length_append, tab_len, h1, h2, h3, h4, hz, List.length_take, List.length_drop]; first | done | omega) | (simp [mulSz, Cont.len, bne, tab_len, h1, h2, h3, h4, hz, List.length_take, List.length_drop]; first | done | omega)))); conv => whnf)
        | (refine tst_in ?_ ?_; (focus (intro h_; exfalso; first | omega | ((try simp only [decide_eq_true_eq, decide_eq_false_iff_not] at h_); omega) | (simp [mulSz, Cont.len, bne, tab_len, h1, h2, h3, h4, hz, List.length_take, List.length_drop] at h_; first | done | omega))); intro _; conv => whnf)
        | (refine tst_in ?_ ?_; rotate_left; (focus (intro h_; exfalso; first | omega | ((try simp only [decide_eq_true_eq, decide_eq_false_iff_not] at h_); omega) | (simp [mulSz, Cont.len, bne, tab_len, h1, h2, h3, h4, hz, List.length_take, List.length_drop] at h_; first | done | omega))); intro _; conv => whnf)
        | (refine ⟨(i), (show _ = _ by omega), ?_⟩; conv => whnf)
        | (refine ⟨(i), 0, (show _ = _ by omega), ?_⟩; conv => whnf)
        | (refine ⟨(i), 1, (show _ = _ by omega), ?_⟩; conv => whnf)
        | (refine ⟨(i), 2, (show _ = _ by omega), ?_⟩; conv => whnf)
        | (refine ⟨(i), 3, (show _ = _ by omega), ?_⟩; conv => whnf)
        | (refine ⟨(i), 4, (show _ = _ by omega), ?_⟩; conv => whnf)
        | (refine ⟨(i), 5, (show _ = _ by omega), ?_⟩; conv => whnf)
        | (refine ⟨0, (show _ = _ by omega), ?_⟩; conv => whnf))
      intro q' u1 g1 u2 g2 u3 g3 u4 g4
      conv => whnf
      repeat (first
        | (refine And.intro ?_ ?_; (focus (first | omega | decide | exact EqOk.mk (by kernel_rfl) (by kernel_rfl) (by kernel_rfl) | exact Int.natCast_nonneg _ | ((repeat' refine And.intro ?_ ?_) <;> first | omega | exact Int.natCast_nonneg _ | (simp only [i64max, u8max, u16max, u32max, u64max]; omega) | (simp only [mulSz_eq, Cont.len, colsLen, Col.len, List.length_cons, List.length_nil, List.length_replicate, List.length_append]; first | done | omega) | (simp [mulSz, Cont.len, bne]; first | done | omega)))); conv => whnf)
        | (refine tst_in ?_ ?_; (focus (intro h_; exfalso; first | omega | ((try simp only [decide_eq_true_eq, decide_eq_false_iff_not] at h_); omega) | (simp [mulSz, Cont.len, bne] at h_; first | done | omega))); intro _; conv => whnf)
        | (refine tst_in ?_ ?_; rotate_left; (focus (intro h_; exfalso; first | omega | ((try simp only [decide_eq_true_eq, decide_eq_false_iff_not] at h_); omega) | (simp [mulSz, Cont.len, bne] at h_; first | done | omega))); intro _; conv => whnf)
        | (refine ⟨0, (show _ = _ by omega), ?_⟩; conv => whnf))
      refine .inl ⟨⟨q', u1, u2, u3, u4⟩, [2], ?_⟩
      rw [← hr]
      conv => whnf
      repeat' (first | exact True.intro | rfl | refine And.intro ?_ ?_)
      all_goals (conv => whnf)
      repeat' (first | exact True.intro | rfl | refine And.intro ?_ ?_)
      all_goals (try omega)
      · exact (push_tb (fun _ => k) tK u1 i _ rfl).symm
      · exact (push_tb (pcN n0) tN u2 i _ rfl).symm
      · rw [show tb (fun j => decide (j < i)) (i + 1) = tb (fun _ => true) i ++ [false] by
          rw [← tab_snoc, decide_eq_false (by omega)]
          congr 1
          exact tab_congr fun j hj => decide_eq_true hj]
        rw [List.drop_zero, List.take_left' (tab_len _ i)]; rfl
      · refine (push_tb (pcB s mo) tB u4 i _ ?_).symm
        unfold pcB
        rw [extract_all _ _ (by rw [hz]; exact h5)]
end Go.Proofs.Ytdkogicikhlicaa

set_option linter.unusedVariables false
set_option linter.unusedSimpArgs false
namespace Go.Proofs.Ytdkogicikhlicaa
open Go Go.Fw
noncomputable def c13 : Code := (Try.f13.body).getD .skip
theorem eqSelf (b : ByteArray) : (b.toList == b.toList) = true := by rw [beq_bytes]; simp
set_option maxHeartbeats 0 in
set_option maxRecDepth 100000 in
theorem SameF_f (k n : Int) (m : Bool) (b : ByteArray) : Fits Try.prog 13 ⟨[frA k n m b, frA k n m b], [], [numOut [] (.bool true)]⟩ := by
  have h1 : decide (k = k) = true := by simp
  have h2 : decide (n = n) = true := by simp
  have h3 : (m == m) = true := by simp
  have h4 := eqSelf b
  refine fits_of_body (C := cfgs 0) (c := c13) (ts := [4]) tokL mixedL (fun _ => none) (fun _ => none)
    Try.func13 (by kernel_rfl) (by kernel_rfl) (by kernel_rfl) (by kernel_rfl) rfl ?_
  unfold frA
  conv => whnf
  repeat (first
    | (refine And.intro ?_ ?_; (focus (first | omega | decide | exact EqOk.mk (by kernel_rfl) (by kernel_rfl) (by kernel_rfl) | exact Int.natCast_nonneg _ | ((repeat' refine And.intro ?_ ?_) <;> first | omega | exact Int.natCast_nonneg _ | (simp only [i64max, u8max, u16max, u32max, u64max]; omega) | (simp only [mulSz_eq, Cont.len, colsLen, Col.len, List.length_cons, List.length_nil, List.length_replicate, List.length_append]; first | done | omega) | (simp [mulSz, Cont.len, bne]; first | done | omega)))); conv => whnf)
    | (refine tst_in ?_ ?_; (focus (intro h_; exfalso; first | omega | ((try simp only [decide_eq_true_eq, decide_eq_false_iff_not] at h_); omega) | (simp [mulSz, Cont.len, bne] at h_; first | done | omega))); intro _; conv => whnf)
    | (refine tst_in ?_ ?_; rotate_left; (focus (intro h_; exfalso; first | omega | ((try simp only [decide_eq_true_eq, decide_eq_false_iff_not] at h_); omega) | (simp [mulSz, Cont.len, bne] at h_; first | done | omega))); intro _; conv => whnf)
    | (refine ⟨0, (show _ = _ by omega), ?_⟩; conv => whnf))
  refine .inl ⟨(), [], ?_⟩
  conv => whnf
  repeat' (first | exact True.intro | rfl | refine And.intro ?_ ?_)
  all_goals (conv => whnf)
  repeat' (first | exact True.intro | rfl | refine And.intro ?_ ?_)
  all_goals (try omega)
  rw [h4]
structure FR where
  K : Nat → Int
  N : Nat → Int
  M : Nat → Bool
  B : Nat → ByteArray
def FR.seg (f : FR) (o : Bool) (n : Nat) (t : FT) : Seg := frS o (tb f.K n ++ t.tK) (tb f.N n ++ t.tN) (tb f.M n ++ t.tM) (tb f.B n ++ t.tB)
noncomputable def c18 : Code := (Try.f18.body).getD .skip
def st18 (f : FR) (n ca cb : Nat) (t u : FT) (i : Nat) : St := ⟨slotsAt 27 [(0, .slice 0 0 n ca), (1, .slice 1 0 n cb), (5, .int .i64 i)], [f.seg false n t, f.seg false n u]⟩
def inv18 (f : FR) (n ca cb : Nat) (t u : FT) : LInv := ⟨Nat, fun i => st18 f n ca cb t u i, fun i => i ≤ n, fun i => n - i⟩
set_option maxHeartbeats 0 in
set_option maxRecDepth 100000 in
theorem SameAll_f (f : FR) (n ca cb : Nat) (t u : FT) (hn : n ≤ 2932031007317) (hca : n ≤ ca) (hcb : n ≤ cb) (ht : t.ok) (hu : u.ok) :
    Fits Try.prog 18 ⟨[.slice 0 0 n ca, .slice 1 0 n cb], [f.seg false n t, f.seg false n u], [numOut [.dead, .dead] (.bool true)]⟩ := by
  obtain ⟨t1, t2, t3, t4⟩ := id ht
  obtain ⟨u1, u2, u3, u4⟩ := id hu
  unfold FR.seg
  refine fits_of_body (C := cfgs 2) (c := c18) (ts := [4]) tokL mixedL (fun | 4 => some (inv18 f n ca cb t u) | _ => none) (fun _ => none)
    Try.func18 (by kernel_rfl) (by kernel_rfl) (by kernel_rfl) (by kernel_rfl) rfl ?_
  conv => whnf
  repeat (first
    | (refine And.intro ?_ ?_; (focus (first | omega | decide | exact EqOk.mk (by kernel_rfl) (by kernel_rfl) (by kernel_rfl) | exact Int.natCast_nonneg _ | ((repeat' refine And.intro ?_ ?_) <;> first | omega | exact Int.natCast_nonneg _ | (simp only [i64max, u8max, u16max, u32max, u64max]; omega) | (simp only [mulSz_eq, Cont.len, colsLen, Col.len, List.length_cons, List.length_nil, List.length_replicate, List.length_append]; first | done | omega) | (simp [mulSz, Cont.len, bne]; first | done | omega)))); conv => whnf)
    | (refine tst_in ?_ ?_; (focus (intro h_; exfalso; first | omega | ((try simp only [decide_eq_true_eq, decide_eq_false_iff_not] at h_); omega) | (simp [mulSz, Cont.len, bne] at h_; first | done | omega))); intro _; conv => whnf)
    | (refine tst_in ?_ ?_; rotate_left; (focus (intro h_; exfalso; first | omega | ((try simp only [decide_eq_true_eq, decide_eq_false_iff_not] at h_); omega) | (simp [mulSz, Cont.len, bne] at h_; first | done | omega))); intro _; conv => whnf)
    | (refine ⟨0, (show _ = _ by omega), ?_⟩; conv => whnf))
  refine ⟨⟨[0, 1], (0 : Nat), ?_, Nat.zero_le _⟩, ?_⟩
  · show stLe _ _ (st18 f n ca cb t u 0) _
    conv => whnf
    repeat' (first | exact True.intro | rfl | refine And.intro ?_ ?_)
    all_goals (conv => whnf)
    repeat' (first | exact True.intro | rfl | refine And.intro ?_ ?_)
    all_goals (try omega)
  · intro (i : Nat) (hi : i ≤ n)
    show forceSt (st18 f n ca cb t u i) _
    conv => whnf
    repeat (first
      | (refine And.intro ?_ ?_; (focus (first | omega | decide | exact EqOk.mk (by kernel_rfl) (by kernel_rfl) (by kernel_rfl) | exact Int.natCast_nonneg _ | ((repeat' refine And.intro ?_ ?_) <;> first | omega | exact Int.natCast_nonneg _ | (simp only [i64max, u8max, u16max, u32max, u64max]; omega) | (simp only [mulSz_eq, Cont.len, colsLen, Col.len, List.length_cons, List.length_nil, List.length_replicate, List.length_append]; first | done | omega) | (simp [mulSz, Cont.len, bne]; first | done | omega)))); conv => whnf)
      | (refine tst_in ?_ ?_; (focus (intro h_; exfalso; first | omega | ((try simp only [decide_eq_true_eq, decide_eq_false_iff_not] at h_); omega) | (simp [mulSz, Cont.len, bne] at h_; first | done | omega))); intro _; conv => whnf)
      | (refine tst_in ?_ ?_; rotate_left; (focus (intro h_; exfalso; first | omega | ((try simp only [decide_eq_true_eq, decide_eq_false_iff_not] at h_); omega) | (simp [mulSz, Cont.len, bne] at h_; first | done | omega))); intro _; conv => whnf)
      | (refine ⟨0, (show _ = _ by omega), ?_⟩; conv => whnf))
    refine tst_in (fun hlt => ?_) (fun hge => ?_)
    · skip
      have hlt : i < n := by simp at hlt; omega
      have SF := SameF_f (f.K i) (f.N i) (f.M i) (f.B i)
      unfold frA at SF
      have a1 : (tb f.K n ++ t.tK).getD i 0 = f.K i := tab_app _ _ _ hlt
      have a2 : (tb f.N n ++ t.tN).getD i 0 = f.N i := tab_app _ _ _ hlt
      have a3 : (tb f.M n ++ t.tM).getD i false = f.M i := tab_app _ _ _ hlt
      have a4 : (tb f.B n ++ t.tB).getD i ByteArray.empty = f.B i := tab_app _ _ _ hlt
      have b1 : (tb f.K n ++ u.tK).getD i 0 = f.K i := tab_app _ _ _ hlt
      have b2 : (tb f.N n ++ u.tN).getD i 0 = f.N i := tab_app _ _ _ hlt
      have b3 : (tb f.M n ++ u.tM).getD i false = f.M i := tab_app _ _ _ hlt
      have b4 : (tb f.B n ++ u.tB).getD i ByteArray.empty = f.B i := tab_app _ _ _ hlt
      conv => whnf
      repeat (first
        | (refine And.intro ?_ ?_; (focus (first | omega | decide | exact EqOk.mk (by kernel_rfl) (by kernel_rfl) (by kernel_rfl) | exact Int.natCast_nonneg _ | ((repeat' refine And.intro ?_ ?_) <;> first | omega | exact Int.natCast_nonneg _ | (simp only [i64max, u8max, u16max, u32max, u64max]; omega) | (simp only [mulSz_eq, Cont.len, colsLen, Col.len, List.length_cons, List.length_nil, List.length_replicate, List.length_append, tab_len, t1, t2, t3, t4, u1, u2, u3, u4]; first | done | omega) | (simp [mulSz, Cont.len, bne, tab_len, t1, t2, t3, t4, u1, u2, u3, u4]; first | done | omega)))); conv => whnf)
        | (refine tst_in ?_ ?_; (focus (intro h_; exfalso; first | omega | ((try simp only [decide_eq_true_eq, decide_eq_false_iff_not] at h_); omega) | (simp [mulSz, Cont.len, bne, tab_len, t1, t2, t3, t4, u1, u2, u3, u4] at h_; first | done | omega))); intro _; conv => whnf)
        | (refine tst_in ?_ ?_; rotate_left; (focus (intro h_; exfalso; first | omega | ((try simp only [decide_eq_true_eq, decide_eq_false_iff_not] at h_); omega) | (simp [mulSz, Cont.len, bne, tab_len, t1, t2, t3, t4, u1, u2, u3, u4] at h_; first | done | omega))); intro _; conv => whnf)
        | (refine ⟨(i), (show _ = _ by omega), ?_⟩; conv => whnf)
        | (refine ⟨(i), 0, (show _ = _ by omega), ?_⟩; conv => whnf)
        | (refine ⟨(i), 1, (show _ = _ by omega), ?_⟩; conv => whnf)
        | (refine ⟨(i), 2, (show _ = _ by omega), ?_⟩; conv => whnf)
        | (refine ⟨(i), 3, (show _ = _ by omega), ?_⟩; conv => whnf)
        | (refine ⟨(i), 4, (show _ = _ by omega), ?_⟩; conv => whnf)
        | (refine ⟨(i), 5, (show _ = _ by omega), ?_⟩; conv => whnf)
        | (refine ⟨0, (show _ = _ by omega), ?_⟩; conv => whnf))
      rw [a1, a2, a3, a4, b1, b2, b3, b4]
      refine ⟨_, [], SF, ?_⟩
      conv => whnf
      iterate 2
       refine And.intro ?_ ?_
       focus
        conv => whnf
        repeat' (first | exact True.intro | rfl | refine And.intro ?_ ?_ | omega)
        all_goals (conv => whnf)
        all_goals (try (first | rfl | omega | (simp; done)))
      conv => whnf
      refine ⟨?_, True.intro⟩
      intro _ _
      conv => whnf
      conv => whnf
      repeat (first
        | (refine And.intro ?_ ?_; (focus (first | omega | decide | exact EqOk.mk (by kernel_rfl) (by kernel_rfl) (by kernel_rfl) | exact Int.natCast_nonneg _ | ((repeat' refine And.intro ?_ ?_) <;> first | omega | exact Int.natCast_nonneg _ | (simp only [i64max, u8max, u16max, u32max, u64max]; omega) | (simp only [mulSz_eq, Cont.len, colsLen, Col.len, List.length_cons, List.length_nil, List.length_replicate, List.length_append]; first | done | omega) | (simp [mulSz, Cont.len, bne]; first | done | omega)))); conv => whnf)
        | (refine tst_in ?_ ?_; (focus (intro h_; exfalso; first | omega | ((try simp only [decide_eq_true_eq, decide_eq_false_iff_not] at h_); omega) | (simp [mulSz, Cont.len, bne] at h_; first | done | omega))); intro _; conv => whnf)
        | (refine tst_in ?_ ?_; rotate_left; (focus (intro h_; exfalso; first | omega | ((try simp only [decide_eq_true_eq, decide_eq_false_iff_not] at h_); omega) | (simp [mulSz, Cont.len, bne] at h_; first | done | omega))); intro _; conv => whnf)
        | (refine ⟨0, (show _ = _ by omega), ?_⟩; conv => whnf))
      refine ⟨[0, 1], i + 1, ?_, (by show i + 1 ≤ n; omega), (by show n - (i + 1) < n - i; omega)⟩
      show stLe _ _ (st18 f n ca cb t u (i + 1)) _
      conv => whnf
      repeat' (first | exact True.intro | rfl | refine And.intro ?_ ?_)
      all_goals (conv => whnf)
      repeat' (first | exact True.intro | rfl | refine And.intro ?_ ?_)
      all_goals (try omega)
    · skip
      have hge : i = n := by simp at hge; omega
      subst hge
      conv => whnf
      repeat (first
        | (refine And.intro ?_ ?_; (focus (first | omega | decide | exact EqOk.mk (by kernel_rfl) (by kernel_rfl) (by kernel_rfl) | exact Int.natCast_nonneg _ | ((repeat' refine And.intro ?_ ?_) <;> first | omega | exact Int.natCast_nonneg _ | (simp only [i64max, u8max, u16max, u32max, u64max]; omega) | (simp only [mulSz_eq, Cont.len, colsLen, Col.len, List.length_cons, List.length_nil, List.length_replicate, List.length_append]; first | done | omega) | (simp [mulSz, Cont.len, bne]; first | done | omega)))); conv => whnf)
        | (refine tst_in ?_ ?_; (focus (intro h_; exfalso; first | omega | ((try simp only [decide_eq_true_eq, decide_eq_false_iff_not] at h_); omega) | (simp [mulSz, Cont.len, bne] at h_; first | done | omega))); intro _; conv => whnf)
        | (refine tst_in ?_ ?_; rotate_left; (focus (intro h_; exfalso; first | omega | ((try simp only [decide_eq_true_eq, decide_eq_false_iff_not] at h_); omega) | (simp [mulSz, Cont.len, bne] at h_; first | done | omega))); intro _; conv => whnf)
        | (refine ⟨0, (show _ = _ by omega), ?_⟩; conv => whnf))
      refine .inl ⟨(), [0, 1], ?_⟩
      conv => whnf
      repeat' (first | exact True.intro | rfl | refine And.intro ?_ ?_)
      all_goals (conv => whnf)
      repeat' (first | exact True.intro | rfl | refine And.intro ?_ ?_)
      all_goals (try omega)
end Go.Proofs.Ytdkogicikhlicaa

set_option linter.unusedVariables false
set_option linter.unusedSimpArgs false
namespace Go.Proofs.Ytdkogicikhlicaa
open Go Go.Fw
/-- The pieces, by what stands at each place. -/
def okP (k : Int) (L : Nat) (mo : Int) : Prop := 1 ≤ k ∧ k ≤ 15 ∧ L ≤ 32768 ∧ 1 ≤ mo ∧ mo ≤ 240
def pFR (k n0 : Int) (s : ByteArray) (mo : Nat) : FR := ⟨fun _ => k, pcN n0, fun i => decide (i < pcR s.size mo), pcB s mo⟩
def nilOut : FOut := ⟨FT, fun t => t.ok, fun t => .tup [.slice 0 0 0 (0 + t.q), .int .i64 1], fun t => [frS true t.tK t.tN t.tM t.tB]⟩
set_option maxHeartbeats 0 in
set_option maxRecDepth 100000 in
theorem Pieces_n (k n0 mo : Int) (s : ByteArray) (hk : 0 ≤ k ∧ k ≤ 255) (hmo : -9223372036854775808 ≤ mo ∧ mo ≤ 9223372036854775807) (hs : s.size ≤ 9223372036854775807) (h : ¬ okP k s.size mo) :
    Fits Try.prog 16 ⟨[.int .u8 k, .int .u8 n0, .str s, .int .i64 mo], [], [nilOut]⟩ := by
  refine fits_of_body (C := cfgs 0) (c := c16) (ts := [8, 9]) tokL mixedL (fun _ => none) (fun _ => none)
    Try.func16 (by kernel_rfl) (by kernel_rfl) (by kernel_rfl) (by kernel_rfl) rfl ?_
  unfold okP at h
  by_cases h1 : 1 ≤ k
  · by_cases h2 : k ≤ 15
    · by_cases h3 : s.size ≤ 32768
      · by_cases h4 : 1 ≤ mo
        · have h5 : ¬ mo ≤ 240 := fun q => h ⟨h1, h2, h3, h4, q⟩
          conv => whnf
          repeat (first
            | (refine And.intro ?_ ?_; (focus (first | omega | decide | exact EqOk.mk (by kernel_rfl) (by kernel_rfl) (by kernel_rfl) | exact Int.natCast_nonneg _ | ((repeat' refine And.intro ?_ ?_) <;> first | omega | exact Int.natCast_nonneg _ | (simp only [i64max, u8max, u16max, u32max, u64max]; omega) | (simp only [mulSz_eq, Cont.len, colsLen, Col.len, List.length_cons, List.length_nil, List.length_replicate, List.length_append]; first | done | omega) | (simp [mulSz, Cont.len, bne]; first | done | omega)))); conv => whnf)
            | (refine tst_in ?_ ?_; (focus (intro h_; exfalso; first | omega | ((try simp only [decide_eq_true_eq, decide_eq_false_iff_not] at h_); omega) | (simp [mulSz, Cont.len, bne] at h_; first | done | omega))); intro _; conv => whnf)
            | (refine tst_in ?_ ?_; rotate_left; (focus (intro h_; exfalso; first | omega | ((try simp only [decide_eq_true_eq, decide_eq_false_iff_not] at h_); omega) | (simp [mulSz, Cont.len, bne] at h_; first | done | omega))); intro _; conv => whnf)
            | (refine ⟨0, (show _ = _ by omega), ?_⟩; conv => whnf))
          refine .inl ⟨⟨0, [], [], [], []⟩, [9], ?_⟩
          conv => whnf
          repeat' (first | exact True.intro | rfl | refine And.intro ?_ ?_)
          all_goals (conv => whnf)
          repeat' (first | exact True.intro | rfl | refine And.intro ?_ ?_)
          all_goals (try omega)
        · skip
          conv => whnf
          repeat (first
            | (refine And.intro ?_ ?_; (focus (first | omega | decide | exact EqOk.mk (by kernel_rfl) (by kernel_rfl) (by kernel_rfl) | exact Int.natCast_nonneg _ | ((repeat' refine And.intro ?_ ?_) <;> first | omega | exact Int.natCast_nonneg _ | (simp only [i64max, u8max, u16max, u32max, u64max]; omega) | (simp only [mulSz_eq, Cont.len, colsLen, Col.len, List.length_cons, List.length_nil, List.length_replicate, List.length_append]; first | done | omega) | (simp [mulSz, Cont.len, bne]; first | done | omega)))); conv => whnf)
            | (refine tst_in ?_ ?_; (focus (intro h_; exfalso; first | omega | ((try simp only [decide_eq_true_eq, decide_eq_false_iff_not] at h_); omega) | (simp [mulSz, Cont.len, bne] at h_; first | done | omega))); intro _; conv => whnf)
            | (refine tst_in ?_ ?_; rotate_left; (focus (intro h_; exfalso; first | omega | ((try simp only [decide_eq_true_eq, decide_eq_false_iff_not] at h_); omega) | (simp [mulSz, Cont.len, bne] at h_; first | done | omega))); intro _; conv => whnf)
            | (refine ⟨0, (show _ = _ by omega), ?_⟩; conv => whnf))
          refine .inl ⟨⟨0, [], [], [], []⟩, [9], ?_⟩
          conv => whnf
          repeat' (first | exact True.intro | rfl | refine And.intro ?_ ?_)
          all_goals (conv => whnf)
          repeat' (first | exact True.intro | rfl | refine And.intro ?_ ?_)
          all_goals (try omega)
      · skip
        conv => whnf
        repeat (first
          | (refine And.intro ?_ ?_; (focus (first | omega | decide | exact EqOk.mk (by kernel_rfl) (by kernel_rfl) (by kernel_rfl) | exact Int.natCast_nonneg _ | ((repeat' refine And.intro ?_ ?_) <;> first | omega | exact Int.natCast_nonneg _ | (simp only [i64max, u8max, u16max, u32max, u64max]; omega) | (simp only [mulSz_eq, Cont.len, colsLen, Col.len, List.length_cons, List.length_nil, List.length_replicate, List.length_append]; first | done | omega) | (simp [mulSz, Cont.len, bne]; first | done | omega)))); conv => whnf)
          | (refine tst_in ?_ ?_; (focus (intro h_; exfalso; first | omega | ((try simp only [decide_eq_true_eq, decide_eq_false_iff_not] at h_); omega) | (simp [mulSz, Cont.len, bne] at h_; first | done | omega))); intro _; conv => whnf)
          | (refine tst_in ?_ ?_; rotate_left; (focus (intro h_; exfalso; first | omega | ((try simp only [decide_eq_true_eq, decide_eq_false_iff_not] at h_); omega) | (simp [mulSz, Cont.len, bne] at h_; first | done | omega))); intro _; conv => whnf)
          | (refine ⟨0, (show _ = _ by omega), ?_⟩; conv => whnf))
        refine .inl ⟨⟨0, [], [], [], []⟩, [9], ?_⟩
        conv => whnf
        repeat' (first | exact True.intro | rfl | refine And.intro ?_ ?_)
        all_goals (conv => whnf)
        repeat' (first | exact True.intro | rfl | refine And.intro ?_ ?_)
        all_goals (try omega)
    · skip
      conv => whnf
      repeat (first
        | (refine And.intro ?_ ?_; (focus (first | omega | decide | exact EqOk.mk (by kernel_rfl) (by kernel_rfl) (by kernel_rfl) | exact Int.natCast_nonneg _ | ((repeat' refine And.intro ?_ ?_) <;> first | omega | exact Int.natCast_nonneg _ | (simp only [i64max, u8max, u16max, u32max, u64max]; omega) | (simp only [mulSz_eq, Cont.len, colsLen, Col.len, List.length_cons, List.length_nil, List.length_replicate, List.length_append]; first | done | omega) | (simp [mulSz, Cont.len, bne]; first | done | omega)))); conv => whnf)
        | (refine tst_in ?_ ?_; (focus (intro h_; exfalso; first | omega | ((try simp only [decide_eq_true_eq, decide_eq_false_iff_not] at h_); omega) | (simp [mulSz, Cont.len, bne] at h_; first | done | omega))); intro _; conv => whnf)
        | (refine tst_in ?_ ?_; rotate_left; (focus (intro h_; exfalso; first | omega | ((try simp only [decide_eq_true_eq, decide_eq_false_iff_not] at h_); omega) | (simp [mulSz, Cont.len, bne] at h_; first | done | omega))); intro _; conv => whnf)
        | (refine ⟨0, (show _ = _ by omega), ?_⟩; conv => whnf))
      refine .inl ⟨⟨0, [], [], [], []⟩, [9], ?_⟩
      conv => whnf
      repeat' (first | exact True.intro | rfl | refine And.intro ?_ ?_)
      all_goals (conv => whnf)
      repeat' (first | exact True.intro | rfl | refine And.intro ?_ ?_)
      all_goals (try omega)
  · skip
    conv => whnf
    repeat (first
      | (refine And.intro ?_ ?_; (focus (first | omega | decide | exact EqOk.mk (by kernel_rfl) (by kernel_rfl) (by kernel_rfl) | exact Int.natCast_nonneg _ | ((repeat' refine And.intro ?_ ?_) <;> first | omega | exact Int.natCast_nonneg _ | (simp only [i64max, u8max, u16max, u32max, u64max]; omega) | (simp only [mulSz_eq, Cont.len, colsLen, Col.len, List.length_cons, List.length_nil, List.length_replicate, List.length_append]; first | done | omega) | (simp [mulSz, Cont.len, bne]; first | done | omega)))); conv => whnf)
      | (refine tst_in ?_ ?_; (focus (intro h_; exfalso; first | omega | ((try simp only [decide_eq_true_eq, decide_eq_false_iff_not] at h_); omega) | (simp [mulSz, Cont.len, bne] at h_; first | done | omega))); intro _; conv => whnf)
      | (refine tst_in ?_ ?_; rotate_left; (focus (intro h_; exfalso; first | omega | ((try simp only [decide_eq_true_eq, decide_eq_false_iff_not] at h_); omega) | (simp [mulSz, Cont.len, bne] at h_; first | done | omega))); intro _; conv => whnf)
      | (refine ⟨0, (show _ = _ by omega), ?_⟩; conv => whnf))
    refine .inl ⟨⟨0, [], [], [], []⟩, [9], ?_⟩
    conv => whnf
    repeat' (first | exact True.intro | rfl | refine And.intro ?_ ?_)
    all_goals (conv => whnf)
    repeat' (first | exact True.intro | rfl | refine And.intro ?_ ?_)
    all_goals (try omega)
noncomputable def c17 : Code := (Try.f17.body).getD .skip
set_option maxHeartbeats 0 in
set_option maxRecDepth 100000 in
theorem rPieces_n (k n0 mo : Int) (s : ByteArray) (hk : 0 ≤ k ∧ k ≤ 255) (hmo : -9223372036854775808 ≤ mo ∧ mo ≤ 9223372036854775807) (hs : s.size ≤ 9223372036854775807) (h : ¬ okP k s.size mo) :
    Fits Try.prog 17 ⟨[.int .u8 k, .int .u8 n0, .str s, .int .i64 mo], [], [nilOut]⟩ := by
  refine fits_of_body (C := cfgs 0) (c := c17) (ts := [8, 9]) tokL mixedL (fun _ => none) (fun _ => none)
    Try.func17 (by kernel_rfl) (by kernel_rfl) (by kernel_rfl) (by kernel_rfl) rfl ?_
  unfold okP at h
  by_cases h1 : 1 ≤ k
  · by_cases h2 : k ≤ 15
    · by_cases h3 : s.size ≤ 32768
      · by_cases h4 : 1 ≤ mo
        · have h5 : ¬ mo ≤ 240 := fun q => h ⟨h1, h2, h3, h4, q⟩
          conv => whnf
          repeat (first
            | (refine And.intro ?_ ?_; (focus (first | omega | decide | exact EqOk.mk (by kernel_rfl) (by kernel_rfl) (by kernel_rfl) | exact Int.natCast_nonneg _ | ((repeat' refine And.intro ?_ ?_) <;> first | omega | exact Int.natCast_nonneg _ | (simp only [i64max, u8max, u16max, u32max, u64max]; omega) | (simp only [mulSz_eq, Cont.len, colsLen, Col.len, List.length_cons, List.length_nil, List.length_replicate, List.length_append]; first | done | omega) | (simp [mulSz, Cont.len, bne]; first | done | omega)))); conv => whnf)
            | (refine tst_in ?_ ?_; (focus (intro h_; exfalso; first | omega | ((try simp only [decide_eq_true_eq, decide_eq_false_iff_not] at h_); omega) | (simp [mulSz, Cont.len, bne] at h_; first | done | omega))); intro _; conv => whnf)
            | (refine tst_in ?_ ?_; rotate_left; (focus (intro h_; exfalso; first | omega | ((try simp only [decide_eq_true_eq, decide_eq_false_iff_not] at h_); omega) | (simp [mulSz, Cont.len, bne] at h_; first | done | omega))); intro _; conv => whnf)
            | (refine ⟨0, (show _ = _ by omega), ?_⟩; conv => whnf))
          refine .inl ⟨⟨0, [], [], [], []⟩, [9], ?_⟩
          conv => whnf
          repeat' (first | exact True.intro | rfl | refine And.intro ?_ ?_)
          all_goals (conv => whnf)
          repeat' (first | exact True.intro | rfl | refine And.intro ?_ ?_)
          all_goals (try omega)
        · skip
          conv => whnf
          repeat (first
            | (refine And.intro ?_ ?_; (focus (first | omega | decide | exact EqOk.mk (by kernel_rfl) (by kernel_rfl) (by kernel_rfl) | exact Int.natCast_nonneg _ | ((repeat' refine And.intro ?_ ?_) <;> first | omega | exact Int.natCast_nonneg _ | (simp only [i64max, u8max, u16max, u32max, u64max]; omega) | (simp only [mulSz_eq, Cont.len, colsLen, Col.len, List.length_cons, List.length_nil, List.length_replicate, List.length_append]; first | done | omega) | (simp [mulSz, Cont.len, bne]; first | done | omega)))); conv => whnf)
            | (refine tst_in ?_ ?_; (focus (intro h_; exfalso; first | omega | ((try simp only [decide_eq_true_eq, decide_eq_false_iff_not] at h_); omega) | (simp [mulSz, Cont.len, bne] at h_; first | done | omega))); intro _; conv => whnf)
            | (refine tst_in ?_ ?_; rotate_left; (focus (intro h_; exfalso; first | omega | ((try simp only [decide_eq_true_eq, decide_eq_false_iff_not] at h_); omega) | (simp [mulSz, Cont.len, bne] at h_; first | done | omega))); intro _; conv => whnf)
            | (refine ⟨0, (show _ = _ by omega), ?_⟩; conv => whnf))
          refine .inl ⟨⟨0, [], [], [], []⟩, [9], ?_⟩
          conv => whnf
          repeat' (first | exact True.intro | rfl | refine And.intro ?_ ?_)
          all_goals (conv => whnf)
          repeat' (first | exact True.intro | rfl | refine And.intro ?_ ?_)
          all_goals (try omega)
      · skip
        conv => whnf
        repeat (first
          | (refine And.intro ?_ ?_; (focus (first | omega | decide | exact EqOk.mk (by kernel_rfl) (by kernel_rfl) (by kernel_rfl) | exact Int.natCast_nonneg _ | ((repeat' refine And.intro ?_ ?_) <;> first | omega | exact Int.natCast_nonneg _ | (simp only [i64max, u8max, u16max, u32max, u64max]; omega) | (simp only [mulSz_eq, Cont.len, colsLen, Col.len, List.length_cons, List.length_nil, List.length_replicate, List.length_append]; first | done | omega) | (simp [mulSz, Cont.len, bne]; first | done | omega)))); conv => whnf)
          | (refine tst_in ?_ ?_; (focus (intro h_; exfalso; first | omega | ((try simp only [decide_eq_true_eq, decide_eq_false_iff_not] at h_); omega) | (simp [mulSz, Cont.len, bne] at h_; first | done | omega))); intro _; conv => whnf)
          | (refine tst_in ?_ ?_; rotate_left; (focus (intro h_; exfalso; first | omega | ((try simp only [decide_eq_true_eq, decide_eq_false_iff_not] at h_); omega) | (simp [mulSz, Cont.len, bne] at h_; first | done | omega))); intro _; conv => whnf)
          | (refine ⟨0, (show _ = _ by omega), ?_⟩; conv => whnf))
        refine .inl ⟨⟨0, [], [], [], []⟩, [9], ?_⟩
        conv => whnf
        repeat' (first | exact True.intro | rfl | refine And.intro ?_ ?_)
        all_goals (conv => whnf)
        repeat' (first | exact True.intro | rfl | refine And.intro ?_ ?_)
        all_goals (try omega)
    · skip
      conv => whnf
      repeat (first
        | (refine And.intro ?_ ?_; (focus (first | omega | decide | exact EqOk.mk (by kernel_rfl) (by kernel_rfl) (by kernel_rfl) | exact Int.natCast_nonneg _ | ((repeat' refine And.intro ?_ ?_) <;> first | omega | exact Int.natCast_nonneg _ | (simp only [i64max, u8max, u16max, u32max, u64max]; omega) | (simp only [mulSz_eq, Cont.len, colsLen, Col.len, List.length_cons, List.length_nil, List.length_replicate, List.length_append]; first | done | omega) | (simp [mulSz, Cont.len, bne]; first | done | omega)))); conv => whnf)
        | (refine tst_in ?_ ?_; (focus (intro h_; exfalso; first | omega | ((try simp only [decide_eq_true_eq, decide_eq_false_iff_not] at h_); omega) | (simp [mulSz, Cont.len, bne] at h_; first | done | omega))); intro _; conv => whnf)
        | (refine tst_in ?_ ?_; rotate_left; (focus (intro h_; exfalso; first | omega | ((try simp only [decide_eq_true_eq, decide_eq_false_iff_not] at h_); omega) | (simp [mulSz, Cont.len, bne] at h_; first | done | omega))); intro _; conv => whnf)
        | (refine ⟨0, (show _ = _ by omega), ?_⟩; conv => whnf))
      refine .inl ⟨⟨0, [], [], [], []⟩, [9], ?_⟩
      conv => whnf
      repeat' (first | exact True.intro | rfl | refine And.intro ?_ ?_)
      all_goals (conv => whnf)
      repeat' (first | exact True.intro | rfl | refine And.intro ?_ ?_)
      all_goals (try omega)
  · skip
    conv => whnf
    repeat (first
      | (refine And.intro ?_ ?_; (focus (first | omega | decide | exact EqOk.mk (by kernel_rfl) (by kernel_rfl) (by kernel_rfl) | exact Int.natCast_nonneg _ | ((repeat' refine And.intro ?_ ?_) <;> first | omega | exact Int.natCast_nonneg _ | (simp only [i64max, u8max, u16max, u32max, u64max]; omega) | (simp only [mulSz_eq, Cont.len, colsLen, Col.len, List.length_cons, List.length_nil, List.length_replicate, List.length_append]; first | done | omega) | (simp [mulSz, Cont.len, bne]; first | done | omega)))); conv => whnf)
      | (refine tst_in ?_ ?_; (focus (intro h_; exfalso; first | omega | ((try simp only [decide_eq_true_eq, decide_eq_false_iff_not] at h_); omega) | (simp [mulSz, Cont.len, bne] at h_; first | done | omega))); intro _; conv => whnf)
      | (refine tst_in ?_ ?_; rotate_left; (focus (intro h_; exfalso; first | omega | ((try simp only [decide_eq_true_eq, decide_eq_false_iff_not] at h_); omega) | (simp [mulSz, Cont.len, bne] at h_; first | done | omega))); intro _; conv => whnf)
      | (refine ⟨0, (show _ = _ by omega), ?_⟩; conv => whnf))
    refine .inl ⟨⟨0, [], [], [], []⟩, [9], ?_⟩
    conv => whnf
    repeat' (first | exact True.intro | rfl | refine And.intro ?_ ?_)
    all_goals (conv => whnf)
    repeat' (first | exact True.intro | rfl | refine And.intro ?_ ?_)
    all_goals (try omega)
end Go.Proofs.Ytdkogicikhlicaa

set_option linter.unusedVariables false
set_option linter.unusedSimpArgs false
namespace Go.Proofs.Ytdkogicikhlicaa
open Go Go.Fw
def mF (j i : Nat) : Bool := decide (i < j)
theorem setM (j : Nat) (t : List Bool) : (tb (mF j) (j + 1) ++ t).set j true = tb (mF (j + 1)) (j + 1) ++ t := by
  rw [List.set_append_left j true (by rw [tab_len]; omega)]
  congr 1
  apply row_ext false (by simp [tab_len])
  intro i hi
  rw [List.length_set, tab_len] at hi
  rw [g_set, tab_get _ _ hi, tab_get _ _ hi, tab_len]
  unfold mF
  by_cases h : j = i
  · rw [if_pos ⟨h, by omega⟩, decide_eq_true (by omega)]
  · rw [if_neg (fun q => h q.1)]
    by_cases h2 : i < j
    · rw [decide_eq_true h2, decide_eq_true (by omega)]
    · rw [decide_eq_false h2, decide_eq_false (by omega)]
theorem pcB_eq (s : ByteArray) (mo j : Nat) : pcB s mo j = s.extract (j * mo) (min (j * mo + mo) s.size) := by
  unfold pcB; rw [ByteArray.extract_extract, Nat.add_zero]
def st17 (k n0 : Int) (s : ByteArray) (mo j : Nat) (t : FT) : St :=
  ⟨slotsAt 75 [(0, .int .u8 k), (1, .int .u8 n0), (2, .str s), (3, .int .i64 mo), (10, .slice 0 0 (j + 1) (j + 1 + t.q)), (11, .int .i64 (((j + 1) * mo : Nat) : Int))],
    [frS true (tb (fun _ => k) (j + 1) ++ t.tK) (tb (pcN n0) (j + 1) ++ t.tN) (tb (mF j) (j + 1) ++ t.tM) (tb (pcB s mo) (j + 1) ++ t.tB)]⟩
def inv17 (k n0 : Int) (s : ByteArray) (mo : Nat) : LInv := ⟨Nat × FT, fun x => st17 k n0 s mo x.1 x.2, fun x => (x.1 = 0 ∨ x.1 * mo < s.size) ∧ x.2.ok, fun x => s.size - x.1 * mo⟩
set_option maxHeartbeats 0 in
set_option maxRecDepth 100000 in
theorem rPieces_f (k n0 : Int) (s : ByteArray) (mo : Nat) (hk : 1 ≤ k) (hk2 : k ≤ 15) (hn : 0 ≤ n0) (hn2 : n0 ≤ 255) (hs : s.size ≤ 32768) (hmo : 1 ≤ mo) (hmo2 : mo ≤ 240) :
    Fits Try.prog 17 ⟨[.int .u8 k, .int .u8 n0, .str s, .int .i64 mo], [], [⟨FT, fun t => t.ok, fun t => .tup [.slice 0 0 (pcR s.size mo + 1) (pcR s.size mo + 1 + t.q), .int .i64 0],
      fun t => [frS true (tb (fun _ => k) (pcR s.size mo + 1) ++ t.tK) (tb (pcN n0) (pcR s.size mo + 1) ++ t.tN) (tb (mF (pcR s.size mo)) (pcR s.size mo + 1) ++ t.tM) (tb (pcB s mo) (pcR s.size mo + 1) ++ t.tB)]⟩]⟩ := by
  refine fits_of_body (C := cfgs 0) (c := c17) (ts := [8, 9]) tokL mixedL (fun | 5 => some (inv17 k n0 s mo) | _ => none) (fun _ => none)
    Try.func17 (by kernel_rfl) (by kernel_rfl) (by kernel_rfl) (by kernel_rfl) rfl ?_
  conv => whnf
  repeat (first
    | (refine And.intro ?_ ?_; (focus (first | omega | decide | exact EqOk.mk (by kernel_rfl) (by kernel_rfl) (by kernel_rfl) | exact Int.natCast_nonneg _ | ((repeat' refine And.intro ?_ ?_) <;> first | omega | exact Int.natCast_nonneg _ | (simp only [i64max, u8max, u16max, u32max, u64max]; omega) | (simp only [mulSz_eq, Cont.len, colsLen, Col.len, List.length_cons, List.length_nil, List.length_replicate, List.length_append]; first | done | omega) | (simp [mulSz, Cont.len, bne]; first | done | omega)))); conv => whnf)
    | (refine tst_in ?_ ?_; (focus (intro h_; exfalso; first | omega | ((try simp only [decide_eq_true_eq, decide_eq_false_iff_not] at h_); omega) | (simp [mulSz, Cont.len, bne] at h_; first | done | omega))); intro _; conv => whnf)
    | (refine tst_in ?_ ?_; rotate_left; (focus (intro h_; exfalso; first | omega | ((try simp only [decide_eq_true_eq, decide_eq_false_iff_not] at h_); omega) | (simp [mulSz, Cont.len, bne] at h_; first | done | omega))); intro _; conv => whnf)
    | (refine ⟨0, (show _ = _ by omega), ?_⟩; conv => whnf))
  refine ⟨⟨[0], (0, ⟨0, [], [], [], []⟩), ?_, ⟨.inl rfl, rfl, rfl, rfl, rfl⟩⟩, ?_⟩
  · show stLe _ _ (st17 k n0 s mo 0 ⟨0, [], [], [], []⟩) _
    conv => whnf
    repeat' (first | exact True.intro | rfl | refine And.intro ?_ ?_)
    all_goals (conv => whnf)
    repeat' (first | exact True.intro | rfl | refine And.intro ?_ ?_)
    all_goals (try omega)
    · show [pcN n0 0] = [n0]
      congr 1; unfold pcN; omega
    · show [pcB s mo 0] = [s.extract 0 (min (mo : Int) (s.size : Int)).toNat]
      rw [pcB_eq, Nat.zero_mul, Nat.zero_add]
      congr 2; omega
  · intro ⟨j, t⟩ ⟨(hj : j = 0 ∨ j * mo < s.size), (ht : t.ok)⟩
    show forceSt (st17 k n0 s mo j t) _
    obtain ⟨(h1 : t.tK.length = t.q), (h2 : t.tN.length = t.q), (h3 : t.tM.length = t.q), (h4 : t.tB.length = t.q)⟩ := id ht
    have hm1 : (j + 1) * mo = j * mo + mo := by rw [Nat.add_mul, Nat.one_mul]
    have hjl : j ≤ j * mo := Nat.le_mul_of_pos_right j (by omega)
    conv => whnf
    repeat (first
      | (refine And.intro ?_ ?_; (focus (first | omega | decide | exact EqOk.mk (by kernel_rfl) (by kernel_rfl) (by kernel_rfl) | exact Int.natCast_nonneg _ | ((repeat' refine And.intro ?_ ?_) <;> first | omega | exact Int.natCast_nonneg _ | (simp only [i64max, u8max, u16max, u32max, u64max]; omega) | (simp only [mulSz_eq, Cont.len, colsLen, Col.len, List.length_cons, List.length_nil, List.length_replicate, List.length_append]; first | done | omega) | (simp [mulSz, Cont.len, bne]; first | done | omega)))); conv => whnf)
      | (refine tst_in ?_ ?_; (focus (intro h_; exfalso; first | omega | ((try simp only [decide_eq_true_eq, decide_eq_false_iff_not] at h_); omega) | (simp [mulSz, Cont.len, bne] at h_; first | done | omega))); intro _; conv => whnf)
      | (refine tst_in ?_ ?_; rotate_left; (focus (intro h_; exfalso; first | omega | ((try simp only [decide_eq_true_eq, decide_eq_false_iff_not] at h_); omega) | (simp [mulSz, Cont.len, bne] at h_; first | done | omega))); intro _; conv => whnf)
      | (refine ⟨0, (show _ = _ by omega), ?_⟩; conv => whnf))
    refine tst_in (fun h5 => ?_) (fun h5' => ?_)
    · skip
      have h5 : (j + 1) * mo < s.size := by have h6 : (((j + 1) * mo : Nat) : Int) < (s.size : Int) := of_decide_eq_true (by rw [dLt_eq] at h5; exact h5); omega
      conv => whnf
      repeat (first
        | (refine And.intro ?_ ?_; (focus (first | omega | decide | exact EqOk.mk (by kernel_rfl) (by kernel_rfl) (by kernel_rfl) | exact Int.natCast_nonneg _ | ((repeat' refine And.intro ?_ ?_) <;> first | omega | exact Int.natCast_nonneg _ | (simp only [i64max, u8max, u16max, u32max, u64max]; omega) | (simp only [mulSz_eq, Cont.len, colsLen, Col.len, List.length_cons, List.length_nil, List.length_replicate, List.length_append, tab_len, h1, h2, h3, h4, List.length_take, List.length_drop, List.length_set]; first | done | omega) | (simp [mulSz, Cont.len, bne, tab_len, h1, h2, h3, h4, List.length_take, List.length_drop, List.length_set]; first | done | omega)))); conv => whnf)
        | (refine tst_in ?_ ?_; (focus (intro h_; exfalso; first | omega | ((try simp only [decide_eq_true_eq, decide_eq_false_iff_not] at h_); omega) | (simp [mulSz, Cont.len, bne, tab_len, h1, h2, h3, h4, List.length_take, List.length_drop, List.length_set] at h_; first | done | omega))); intro _; conv => whnf)
        | (refine tst_in ?_ ?_; rotate_left; (focus (intro h_; exfalso; first | omega | ((try simp only [decide_eq_true_eq, decide_eq_false_iff_not] at h_); omega) | (simp [mulSz, Cont.len, bne, tab_len, h1, h2, h3, h4, List.length_take, List.length_drop, List.length_set] at h_; first | done | omega))); intro _; conv => whnf)
        | (refine ⟨(j), (show _ = _ by omega), ?_⟩; conv => whnf)
        | (refine ⟨(j), 0, (show _ = _ by omega), ?_⟩; conv => whnf)
        | (refine ⟨(j), 1, (show _ = _ by omega), ?_⟩; conv => whnf)
        | (refine ⟨(j), 2, (show _ = _ by omega), ?_⟩; conv => whnf)
        | (refine ⟨(j), 3, (show _ = _ by omega), ?_⟩; conv => whnf)
        | (refine ⟨(j), 4, (show _ = _ by omega), ?_⟩; conv => whnf)
        | (refine ⟨(j), 5, (show _ = _ by omega), ?_⟩; conv => whnf)
        | (refine ⟨0, (show _ = _ by omega), ?_⟩; conv => whnf))
      intro q' u1 g1 u2 g2 u3 g3 u4 g4
      conv => whnf
      repeat (first
        | (refine And.intro ?_ ?_; (focus (first | omega | decide | exact EqOk.mk (by kernel_rfl) (by kernel_rfl) (by kernel_rfl) | exact Int.natCast_nonneg _ | ((repeat' refine And.intro ?_ ?_) <;> first | omega | exact Int.natCast_nonneg _ | (simp only [i64max, u8max, u16max, u32max, u64max]; omega) | (simp only [mulSz_eq, Cont.len, colsLen, Col.len, List.length_cons, List.length_nil, List.length_replicate, List.length_append]; first | done | omega) | (simp [mulSz, Cont.len, bne]; first | done | omega)))); conv => whnf)
        | (refine tst_in ?_ ?_; (focus (intro h_; exfalso; first | omega | ((try simp only [decide_eq_true_eq, decide_eq_false_iff_not] at h_); omega) | (simp [mulSz, Cont.len, bne] at h_; first | done | omega))); intro _; conv => whnf)
        | (refine tst_in ?_ ?_; rotate_left; (focus (intro h_; exfalso; first | omega | ((try simp only [decide_eq_true_eq, decide_eq_false_iff_not] at h_); omega) | (simp [mulSz, Cont.len, bne] at h_; first | done | omega))); intro _; conv => whnf)
        | (refine ⟨0, (show _ = _ by omega), ?_⟩; conv => whnf))
      have hm2 : (j + 1 + 1) * mo = (j + 1) * mo + mo := by rw [Nat.add_mul (j + 1), Nat.one_mul]
      have hlt : s.size - (j + 1) * mo < s.size - j * mo := by omega
      refine ⟨[2], (j + 1, ⟨q', u1, u2, u3, u4⟩), ?_, ⟨.inr h5, g1, g2, g3, g4⟩, hlt⟩
      show stLe _ _ (st17 k n0 s mo (j + 1) ⟨q', u1, u2, u3, u4⟩) _
      conv => whnf
      repeat' (first | exact True.intro | rfl | refine And.intro ?_ ?_)
      all_goals (conv => whnf)
      repeat' (first | exact True.intro | rfl | refine And.intro ?_ ?_)
      all_goals (try omega)
      all_goals (first
        | (show (((j + 1 + 1) * mo : Nat) : Int) = _; rw [hm2]; omega)
        | exact (push_tb (fun _ => k) t.tK u1 (j + 1) _ rfl).symm
        | exact (push_tb (pcN n0) t.tN u2 (j + 1) _ (by rw [u8wrap, u8wrap]; unfold pcN; omega)).symm
        | exact (by rw [setM]; exact (push_tb (mF (j + 1)) t.tM u3 (j + 1) _ (by unfold mF; simp)).symm)
        | exact (push_tb (pcB s mo) t.tB u4 (j + 1) _ (by rw [pcB_eq]; congr 1; omega)).symm
        | skip)
    · skip
      have h5 : s.size ≤ (j + 1) * mo := by have h6 : ¬ (((j + 1) * mo : Nat) : Int) < (s.size : Int) := of_decide_eq_false (by rw [dLt_eq] at h5'; exact h5'); omega
      have hr : j = pcR s.size mo := pcR_eq hmo hj (by omega)
      conv => whnf
      repeat (first
        | (refine And.intro ?_ ?_; (focus (first | omega | decide | exact EqOk.mk (by kernel_rfl) (by kernel_rfl) (by kernel_rfl) | exact Int.natCast_nonneg _ | ((repeat' refine And.intro ?_ ?_) <;> first | omega | exact Int.natCast_nonneg _ | (simp only [i64max, u8max, u16max, u32max, u64max]; omega) | (simp only [mulSz_eq, Cont.len, colsLen, Col.len, List.length_cons, List.length_nil, List.length_replicate, List.length_append]; first | done | omega) | (simp [mulSz, Cont.len, bne]; first | done | omega)))); conv => whnf)
        | (refine tst_in ?_ ?_; (focus (intro h_; exfalso; first | omega | ((try simp only [decide_eq_true_eq, decide_eq_false_iff_not] at h_); omega) | (simp [mulSz, Cont.len, bne] at h_; first | done | omega))); intro _; conv => whnf)
        | (refine tst_in ?_ ?_; rotate_left; (focus (intro h_; exfalso; first | omega | ((try simp only [decide_eq_true_eq, decide_eq_false_iff_not] at h_); omega) | (simp [mulSz, Cont.len, bne] at h_; first | done | omega))); intro _; conv => whnf)
        | (refine ⟨0, (show _ = _ by omega), ?_⟩; conv => whnf))
      refine .inl ⟨t, [0], ?_⟩
      rw [← hr]
      conv => whnf
      repeat' (first | exact True.intro | rfl | refine And.intro ?_ ?_)
      all_goals (conv => whnf)
      repeat' (first | exact True.intro | rfl | refine And.intro ?_ ?_)
      all_goals (try omega)
end Go.Proofs.Ytdkogicikhlicaa

set_option linter.unusedVariables false
set_option linter.unusedSimpArgs false
namespace Go.Proofs.Ytdkogicikhlicaa
open Go Go.Fw
def goodI (f : FR) (i : Nat) : Prop := mayB (f.K i) (f.B i) = true
def stepI (f : FR) (n i : Nat) : Prop := f.K i = f.K 0 ∧ f.N i = (f.N 0 + (i : Int)) % 256 ∧ f.M i = decide (i + 1 < n)
def cat (f : FR) : Nat → List Int
  | 0 => []
  | i + 1 => cat f i ++ bytL (f.B i)
/-- What Join says of a row. -/
inductive Joins (f : FR) (n : Nat) : ByteArray → Int → Prop
  | bad (i : Nat) (hi : i < n) (h : ¬ goodI f i) : Joins f n ⟨#[]⟩ 1
  | none (h : n = 0) : Joins f n ⟨#[]⟩ 4
  | form (i : Nat) (hg : ∀ j, j < n → goodI f j) (hi : i < n) (h : ¬ stepI f n i) : Joins f n ⟨#[]⟩ 4
  | long (hn : 0 < n) (hg : ∀ j, j < n → goodI f j) (hs : ∀ j, j < n → stepI f n j) (h : 32768 < (cat f n).length) : Joins f n ⟨#[]⟩ 1
  | all (X : ByteArray) (hn : 0 < n) (hg : ∀ j, j < n → goodI f j) (hs : ∀ j, j < n → stepI f n j) (h : (cat f n).length ≤ 32768) (hX : bytL X = cat f n) : Joins f n X 0
noncomputable def c20 : Code := (Try.f20.body).getD .skip
def st20a (f : FR) (n ca : Nat) (t : FT) (i : Nat) : St := ⟨slotsAt 79 [(0, .slice 0 0 n ca), (4, .int .i64 i)], [f.seg false n t]⟩
def inv20a (f : FR) (n ca : Nat) (t : FT) : LInv := ⟨Nat, fun i => st20a f n ca t i, fun i => i ≤ n ∧ ∀ j, j < i → goodI f j, fun i => n - i⟩
set_option maxHeartbeats 0 in
set_option maxRecDepth 100000 in
theorem rJoin_bad (f : FR) (n ca : Nat) (t : FT) (hn : n ≤ 2932031007317) (hca : n ≤ ca) (ht : t.ok) (b : Nat) (hb : b < n) (hbad : ¬ goodI f b) :
    Fits Try.prog 20 ⟨[.slice 0 0 n ca], [f.seg false n t], [numOut [.dead] (.tup [.str ⟨#[]⟩, .int .i64 1])]⟩ := by
  obtain ⟨t1, t2, t3, t4⟩ := id ht
  unfold FR.seg
  refine fits_of_body (C := cfgs 1) (c := c20) (ts := [2, 3]) tokL mixedL (fun | 2 => some (inv20a f n ca t) | _ => none) (fun _ => none)
    Try.func20 (by kernel_rfl) (by kernel_rfl) (by kernel_rfl) (by kernel_rfl) rfl ?_
  conv => whnf
  repeat (first
    | (refine And.intro ?_ ?_; (focus (first | omega | decide | exact EqOk.mk (by kernel_rfl) (by kernel_rfl) (by kernel_rfl) | exact Int.natCast_nonneg _ | ((repeat' refine And.intro ?_ ?_) <;> first | omega | exact Int.natCast_nonneg _ | (simp only [i64max, u8max, u16max, u32max, u64max]; omega) | (simp only [mulSz_eq, Cont.len, colsLen, Col.len, List.length_cons, List.length_nil, List.length_replicate, List.length_append]; first | done | omega) | (simp [mulSz, Cont.len, bne]; first | done | omega)))); conv => whnf)
    | (refine tst_in ?_ ?_; (focus (intro h_; exfalso; first | omega | ((try simp only [decide_eq_true_eq, decide_eq_false_iff_not] at h_); omega) | (simp [mulSz, Cont.len, bne] at h_; first | done | omega))); intro _; conv => whnf)
    | (refine tst_in ?_ ?_; rotate_left; (focus (intro h_; exfalso; first | omega | ((try simp only [decide_eq_true_eq, decide_eq_false_iff_not] at h_); omega) | (simp [mulSz, Cont.len, bne] at h_; first | done | omega))); intro _; conv => whnf)
    | (refine ⟨0, (show _ = _ by omega), ?_⟩; conv => whnf))
  refine ⟨⟨[0], (0 : Nat), ?_, Nat.zero_le _, fun j hj => absurd hj (by omega)⟩, ?_⟩
  · show stLe _ _ (st20a f n ca t 0) _
    conv => whnf
    repeat' (first | exact True.intro | rfl | refine And.intro ?_ ?_)
    all_goals (conv => whnf)
    repeat' (first | exact True.intro | rfl | refine And.intro ?_ ?_)
    all_goals (try omega)
  · intro (i : Nat) ⟨(hi : i ≤ n), (hg : ∀ j, j < i → goodI f j)⟩
    show forceSt (st20a f n ca t i) _
    conv => whnf
    repeat (first
      | (refine And.intro ?_ ?_; (focus (first | omega | decide | exact EqOk.mk (by kernel_rfl) (by kernel_rfl) (by kernel_rfl) | exact Int.natCast_nonneg _ | ((repeat' refine And.intro ?_ ?_) <;> first | omega | exact Int.natCast_nonneg _ | (simp only [i64max, u8max, u16max, u32max, u64max]; omega) | (simp only [mulSz_eq, Cont.len, colsLen, Col.len, List.length_cons, List.length_nil, List.length_replicate, List.length_append]; first | done | omega) | (simp [mulSz, Cont.len, bne]; first | done | omega)))); conv => whnf)
      | (refine tst_in ?_ ?_; (focus (intro h_; exfalso; first | omega | ((try simp only [decide_eq_true_eq, decide_eq_false_iff_not] at h_); omega) | (simp [mulSz, Cont.len, bne] at h_; first | done | omega))); intro _; conv => whnf)
      | (refine tst_in ?_ ?_; rotate_left; (focus (intro h_; exfalso; first | omega | ((try simp only [decide_eq_true_eq, decide_eq_false_iff_not] at h_); omega) | (simp [mulSz, Cont.len, bne] at h_; first | done | omega))); intro _; conv => whnf)
      | (refine ⟨0, (show _ = _ by omega), ?_⟩; conv => whnf))
    refine tst_in (fun hlt => ?_) (fun hge => ?_)
    · skip
      have hlt : i < n := by simp at hlt; omega
      have MF := May_f (f.K i) (f.N i) (f.M i) (f.B i)
      unfold frA at MF
      have a1 : (tb f.K n ++ t.tK).getD i 0 = f.K i := tab_app _ _ _ hlt
      have a2 : (tb f.N n ++ t.tN).getD i 0 = f.N i := tab_app _ _ _ hlt
      have a3 : (tb f.M n ++ t.tM).getD i false = f.M i := tab_app _ _ _ hlt
      have a4 : (tb f.B n ++ t.tB).getD i ByteArray.empty = f.B i := tab_app _ _ _ hlt
      conv => whnf
      repeat (first
        | (refine And.intro ?_ ?_; (focus (first | omega | decide | exact EqOk.mk (by kernel_rfl) (by kernel_rfl) (by kernel_rfl) | exact Int.natCast_nonneg _ | ((repeat' refine And.intro ?_ ?_) <;> first | omega | exact Int.natCast_nonneg _ | (simp only [i64max, u8max, u16max, u32max, u64max]; omega) | (simp only [mulSz_eq, Cont.len, colsLen, Col.len, List.length_cons, List.length_nil, List.length_replicate, List.length_append, tab_len, t1, t2, t3, t4]; first | done | omega) | (simp [mulSz, Cont.len, bne, tab_len, t1, t2, t3, t4]; first | done | omega)))); conv => whnf)
        | (refine tst_in ?_ ?_; (focus (intro h_; exfalso; first | omega | ((try simp only [decide_eq_true_eq, decide_eq_false_iff_not] at h_); omega) | (simp [mulSz, Cont.len, bne, tab_len, t1, t2, t3, t4] at h_; first | done | omega))); intro _; conv => whnf)
        | (refine tst_in ?_ ?_; rotate_left; (focus (intro h_; exfalso; first | omega | ((try simp only [decide_eq_true_eq, decide_eq_false_iff_not] at h_); omega) | (simp [mulSz, Cont.len, bne, tab_len, t1, t2, t3, t4] at h_; first | done | omega))); intro _; conv => whnf)
        | (refine ⟨(i), (show _ = _ by omega), ?_⟩; conv => whnf)
        | (refine ⟨(i), 0, (show _ = _ by omega), ?_⟩; conv => whnf)
        | (refine ⟨(i), 1, (show _ = _ by omega), ?_⟩; conv => whnf)
        | (refine ⟨(i), 2, (show _ = _ by omega), ?_⟩; conv => whnf)
        | (refine ⟨(i), 3, (show _ = _ by omega), ?_⟩; conv => whnf)
        | (refine ⟨(i), 4, (show _ = _ by omega), ?_⟩; conv => whnf)
        | (refine ⟨(i), 5, (show _ = _ by omega), ?_⟩; conv => whnf)
        | (refine ⟨0, (show _ = _ by omega), ?_⟩; conv => whnf))
      rw [a1, a2, a3, a4]
      by_cases hm : mayB (f.K i) (f.B i) = true
      · rw [hm] at MF
        refine ⟨_, [], MF, ?_⟩
        conv => whnf
        iterate 2
         refine And.intro ?_ ?_
         focus
          conv => whnf
          repeat' (first | exact True.intro | rfl | refine And.intro ?_ ?_ | omega)
          all_goals (conv => whnf)
          all_goals (try (first | rfl | omega | (simp; done)))
        conv => whnf
        refine ⟨?_, True.intro⟩
        intro _ _
        conv => whnf
        conv => whnf
        repeat (first
          | (refine And.intro ?_ ?_; (focus (first | omega | decide | exact EqOk.mk (by kernel_rfl) (by kernel_rfl) (by kernel_rfl) | exact Int.natCast_nonneg _ | ((repeat' refine And.intro ?_ ?_) <;> first | omega | exact Int.natCast_nonneg _ | (simp only [i64max, u8max, u16max, u32max, u64max]; omega) | (simp only [mulSz_eq, Cont.len, colsLen, Col.len, List.length_cons, List.length_nil, List.length_replicate, List.length_append]; first | done | omega) | (simp [mulSz, Cont.len, bne]; first | done | omega)))); conv => whnf)
          | (refine tst_in ?_ ?_; (focus (intro h_; exfalso; first | omega | ((try simp only [decide_eq_true_eq, decide_eq_false_iff_not] at h_); omega) | (simp [mulSz, Cont.len, bne] at h_; first | done | omega))); intro _; conv => whnf)
          | (refine tst_in ?_ ?_; rotate_left; (focus (intro h_; exfalso; first | omega | ((try simp only [decide_eq_true_eq, decide_eq_false_iff_not] at h_); omega) | (simp [mulSz, Cont.len, bne] at h_; first | done | omega))); intro _; conv => whnf)
          | (refine ⟨0, (show _ = _ by omega), ?_⟩; conv => whnf))
        refine ⟨[0], i + 1, ?_, ⟨(by show i + 1 ≤ n; omega), fun j hj => by by_cases h : j = i; subst h; exact hm; exact hg j (by omega)⟩, (by show n - (i + 1) < n - i; omega)⟩
        show stLe _ _ (st20a f n ca t (i + 1)) _
        conv => whnf
        repeat' (first | exact True.intro | rfl | refine And.intro ?_ ?_)
        all_goals (conv => whnf)
        repeat' (first | exact True.intro | rfl | refine And.intro ?_ ?_)
        all_goals (try omega)
      · rw [Bool.eq_false_iff.2 hm] at MF
        refine ⟨_, [], MF, ?_⟩
        conv => whnf
        iterate 2
         refine And.intro ?_ ?_
         focus
          conv => whnf
          repeat' (first | exact True.intro | rfl | refine And.intro ?_ ?_ | omega)
          all_goals (conv => whnf)
          all_goals (try (first | rfl | omega | (simp; done)))
        conv => whnf
        refine ⟨?_, True.intro⟩
        intro _ _
        conv => whnf
        conv => whnf
        repeat (first
          | (refine And.intro ?_ ?_; (focus (first | omega | decide | exact EqOk.mk (by kernel_rfl) (by kernel_rfl) (by kernel_rfl) | exact Int.natCast_nonneg _ | ((repeat' refine And.intro ?_ ?_) <;> first | omega | exact Int.natCast_nonneg _ | (simp only [i64max, u8max, u16max, u32max, u64max]; omega) | (simp only [mulSz_eq, Cont.len, colsLen, Col.len, List.length_cons, List.length_nil, List.length_replicate, List.length_append]; first | done | omega) | (simp [mulSz, Cont.len, bne]; first | done | omega)))); conv => whnf)
          | (refine tst_in ?_ ?_; (focus (intro h_; exfalso; first | omega | ((try simp only [decide_eq_true_eq, decide_eq_false_iff_not] at h_); omega) | (simp [mulSz, Cont.len, bne] at h_; first | done | omega))); intro _; conv => whnf)
          | (refine tst_in ?_ ?_; rotate_left; (focus (intro h_; exfalso; first | omega | ((try simp only [decide_eq_true_eq, decide_eq_false_iff_not] at h_); omega) | (simp [mulSz, Cont.len, bne] at h_; first | done | omega))); intro _; conv => whnf)
          | (refine ⟨0, (show _ = _ by omega), ?_⟩; conv => whnf))
        refine .inl ⟨(), [0], ?_⟩
        conv => whnf
        repeat' (first | exact True.intro | rfl | refine And.intro ?_ ?_)
        all_goals (conv => whnf)
        repeat' (first | exact True.intro | rfl | refine And.intro ?_ ?_)
        all_goals (try omega)
    · skip
      have hge : i = n := by simp at hge; omega
      exact absurd (hg b (by omega)) hbad
end Go.Proofs.Ytdkogicikhlicaa

set_option linter.unusedVariables false
set_option linter.unusedSimpArgs false
namespace Go.Proofs.Ytdkogicikhlicaa
open Go Go.Fw
def st20b (f : FR) (n ca : Nat) (t : FT) (i : Nat) (u : List Int) : St := ⟨slotsAt 79 [(0, .slice 0 0 n ca), (5, .slice 1 0 (cat f i).length ((cat f i).length + u.length)), (6, .int .i64 i)], [f.seg false n t, .seg true (.ints .u8 (cat f i ++ u))]⟩
def inv20b (f : FR) (n ca : Nat) (t : FT) : LInv := ⟨Nat × List Int, fun x => st20b f n ca t x.1 x.2, fun x => x.1 ≤ n ∧ ∀ j, j < x.1 → stepI f n j, fun x => n - x.1⟩
theorem cat_len (f : FR) : ∀ n, (∀ j, j < n → goodI f j) → (cat f n).length ≤ 240 * n
  | 0, _ => Nat.le_refl _
  | n + 1, h => by
    have ih := cat_len f n (fun j hj => h j (by omega))
    have hb := h n (by omega)
    have : (f.B n).size ≤ 240 := by
      unfold goodI mayB at hb; simp at hb; omega
    show (cat f n ++ bytL (f.B n)).length ≤ _
    rw [List.length_append, bytL_len]; omega
theorem form_of {f : FR} {n : Nat} {X : ByteArray} {e : Int} (hg : ∀ j, j < n → goodI f j) (hJ : Joins f n X e) {i : Nat} (hi : i < n) (h : ¬ stepI f n i) : X = ⟨#[]⟩ ∧ e = 4 := by
  cases hJ with
  | bad j hj h => exact absurd (hg j hj) h
  | none h => omega
  | form j _ hi h => exact ⟨rfl, rfl⟩
  | long hn _ hs _ => exact absurd (hs i hi) h
  | all X hn _ hs _ _ => exact absurd (hs i hi) h
theorem long_of {f : FR} {n : Nat} {X : ByteArray} {e : Int} (hg : ∀ j, j < n → goodI f j) (hJ : Joins f n X e) (hn : 0 < n) (hs : ∀ j, j < n → stepI f n j) (h : 32768 < (cat f n).length) : X = ⟨#[]⟩ ∧ e = 1 := by
  cases hJ with
  | bad j hj h => exact absurd (hg j hj) h
  | none h => omega
  | form j _ hi h => exact absurd (hs j hi) h
  | long hn _ hs _ => exact ⟨rfl, rfl⟩
  | all X hn _ hs h _ => omega
theorem all_of {f : FR} {n : Nat} {X : ByteArray} {e : Int} (hg : ∀ j, j < n → goodI f j) (hJ : Joins f n X e) (hn : 0 < n) (hs : ∀ j, j < n → stepI f n j) (h : (cat f n).length ≤ 32768) : bytL X = cat f n ∧ e = 0 := by
  cases hJ with
  | bad j hj h => exact absurd (hg j hj) h
  | none h => omega
  | form j _ hi h => exact absurd (hs j hi) h
  | long hn _ hs _ => omega
  | all X hn _ hs h hX => exact ⟨hX, rfl⟩
set_option maxHeartbeats 0 in
set_option maxRecDepth 100000 in
theorem rJoin_good (f : FR) (n ca : Nat) (t : FT) (X : ByteArray) (e : Int) (hn : n ≤ 1048576) (hca : n ≤ ca) (ht : t.ok) (hg0 : ∀ j, j < n → goodI f j) (hr : ∀ i, i < n → (0 ≤ f.K i ∧ f.K i ≤ 255) ∧ 0 ≤ f.N i ∧ f.N i ≤ 255) (hJ : Joins f n X e) :
    Fits Try.prog 20 ⟨[.slice 0 0 n ca], [f.seg false n t], [numOut [.dead] (.tup [.str X, .int .i64 e])]⟩ := by
  obtain ⟨t1, t2, t3, t4⟩ := id ht
  unfold FR.seg
  refine fits_of_body (C := cfgs 1) (c := c20) (ts := [2, 3]) tokL mixedL (fun | 2 => some (inv20a f n ca t) | 10 => some (inv20b f n ca t) | _ => none) (fun _ => none)
    Try.func20 (by kernel_rfl) (by kernel_rfl) (by kernel_rfl) (by kernel_rfl) rfl ?_
  conv => whnf
  repeat (first
    | (refine And.intro ?_ ?_; (focus (first | omega | decide | exact EqOk.mk (by kernel_rfl) (by kernel_rfl) (by kernel_rfl) | exact Int.natCast_nonneg _ | ((repeat' refine And.intro ?_ ?_) <;> first | omega | exact Int.natCast_nonneg _ | (simp only [i64max, u8max, u16max, u32max, u64max]; omega) | (simp only [mulSz_eq, Cont.len, colsLen, Col.len, List.length_cons, List.length_nil, List.length_replicate, List.length_append]; first | done | omega) | (simp [mulSz, Cont.len, bne]; first | done | omega)))); conv => whnf)
    | (refine tst_in ?_ ?_; (focus (intro h_; exfalso; first | omega | ((try simp only [decide_eq_true_eq, decide_eq_false_iff_not] at h_); omega) | (simp [mulSz, Cont.len, bne] at h_; first | done | omega))); intro _; conv => whnf)
    | (refine tst_in ?_ ?_; rotate_left; (focus (intro h_; exfalso; first | omega | ((try simp only [decide_eq_true_eq, decide_eq_false_iff_not] at h_); omega) | (simp [mulSz, Cont.len, bne] at h_; first | done | omega))); intro _; conv => whnf)
    | (refine ⟨0, (show _ = _ by omega), ?_⟩; conv => whnf))
  refine ⟨⟨[0], (0 : Nat), ?_, Nat.zero_le _, fun j hj => absurd hj (by omega)⟩, ?_⟩
  · show stLe _ _ (st20a f n ca t 0) _
    conv => whnf
    repeat' (first | exact True.intro | rfl | refine And.intro ?_ ?_)
    all_goals (conv => whnf)
    repeat' (first | exact True.intro | rfl | refine And.intro ?_ ?_)
    all_goals (try omega)
  · intro (i : Nat) ⟨(hi : i ≤ n), (hg : ∀ j, j < i → goodI f j)⟩
    show forceSt (st20a f n ca t i) _
    conv => whnf
    repeat (first
      | (refine And.intro ?_ ?_; (focus (first | omega | decide | exact EqOk.mk (by kernel_rfl) (by kernel_rfl) (by kernel_rfl) | exact Int.natCast_nonneg _ | ((repeat' refine And.intro ?_ ?_) <;> first | omega | exact Int.natCast_nonneg _ | (simp only [i64max, u8max, u16max, u32max, u64max]; omega) | (simp only [mulSz_eq, Cont.len, colsLen, Col.len, List.length_cons, List.length_nil, List.length_replicate, List.length_append]; first | done | omega) | (simp [mulSz, Cont.len, bne]; first | done | omega)))); conv => whnf)
      | (refine tst_in ?_ ?_; (focus (intro h_; exfalso; first | omega | ((try simp only [decide_eq_true_eq, decide_eq_false_iff_not] at h_); omega) | (simp [mulSz, Cont.len, bne] at h_; first | done | omega))); intro _; conv => whnf)
      | (refine tst_in ?_ ?_; rotate_left; (focus (intro h_; exfalso; first | omega | ((try simp only [decide_eq_true_eq, decide_eq_false_iff_not] at h_); omega) | (simp [mulSz, Cont.len, bne] at h_; first | done | omega))); intro _; conv => whnf)
      | (refine ⟨0, (show _ = _ by omega), ?_⟩; conv => whnf))
    refine tst_in (fun hlt => ?_) (fun hge => ?_)
    · skip
      have hlt : i < n := by simp at hlt; omega
      have MF := May_f (f.K i) (f.N i) (f.M i) (f.B i)
      unfold frA at MF
      have a1 : (tb f.K n ++ t.tK).getD i 0 = f.K i := tab_app _ _ _ hlt
      have a2 : (tb f.N n ++ t.tN).getD i 0 = f.N i := tab_app _ _ _ hlt
      have a3 : (tb f.M n ++ t.tM).getD i false = f.M i := tab_app _ _ _ hlt
      have a4 : (tb f.B n ++ t.tB).getD i ByteArray.empty = f.B i := tab_app _ _ _ hlt
      conv => whnf
      repeat (first
        | (refine And.intro ?_ ?_; (focus (first | omega | decide | exact EqOk.mk (by kernel_rfl) (by kernel_rfl) (by kernel_rfl) | exact Int.natCast_nonneg _ | ((repeat' refine And.intro ?_ ?_) <;> first | omega | exact Int.natCast_nonneg _ | (simp only [i64max, u8max, u16max, u32max, u64max]; omega) | (simp only [mulSz_eq, Cont.len, colsLen, Col.len, List.length_cons, List.length_nil, List.length_replicate, List.length_append, tab_len, t1, t2, t3, t4]; first | done | omega) | (simp [mulSz, Cont.len, bne, tab_len, t1, t2, t3, t4]; first | done | omega)))); conv => whnf)
        | (refine tst_in ?_ ?_; (focus (intro h_; exfalso; first | omega | ((try simp only [decide_eq_true_eq, decide_eq_false_iff_not] at h_); omega) | (simp [mulSz, Cont.len, bne, tab_len, t1, t2, t3, t4] at h_; first | done | omega))); intro _; conv => whnf)
        | (refine tst_in ?_ ?_; rotate_left; (focus (intro h_; exfalso; first | omega | ((try simp only [decide_eq_true_eq, decide_eq_false_iff_not] at h_); omega) | (simp [mulSz, Cont.len, bne, tab_len, t1, t2, t3, t4] at h_; first | done | omega))); intro _; conv => whnf)
        | (refine ⟨(i), (show _ = _ by omega), ?_⟩; conv => whnf)
        | (refine ⟨(i), 0, (show _ = _ by omega), ?_⟩; conv => whnf)
        | (refine ⟨(i), 1, (show _ = _ by omega), ?_⟩; conv => whnf)
        | (refine ⟨(i), 2, (show _ = _ by omega), ?_⟩; conv => whnf)
        | (refine ⟨(i), 3, (show _ = _ by omega), ?_⟩; conv => whnf)
        | (refine ⟨(i), 4, (show _ = _ by omega), ?_⟩; conv => whnf)
        | (refine ⟨(i), 5, (show _ = _ by omega), ?_⟩; conv => whnf)
        | (refine ⟨0, (show _ = _ by omega), ?_⟩; conv => whnf))
      rw [a1, a2, a3, a4]
      have hm : mayB (f.K i) (f.B i) = true := hg0 i hlt
      rw [hm] at MF
      refine ⟨_, [], MF, ?_⟩
      conv => whnf
      iterate 2
       refine And.intro ?_ ?_
       focus
        conv => whnf
        repeat' (first | exact True.intro | rfl | refine And.intro ?_ ?_ | omega)
        all_goals (conv => whnf)
        all_goals (try (first | rfl | omega | (simp; done)))
      conv => whnf
      refine ⟨?_, True.intro⟩
      intro _ _
      conv => whnf
      conv => whnf
      repeat (first
        | (refine And.intro ?_ ?_; (focus (first | omega | decide | exact EqOk.mk (by kernel_rfl) (by kernel_rfl) (by kernel_rfl) | exact Int.natCast_nonneg _ | ((repeat' refine And.intro ?_ ?_) <;> first | omega | exact Int.natCast_nonneg _ | (simp only [i64max, u8max, u16max, u32max, u64max]; omega) | (simp only [mulSz_eq, Cont.len, colsLen, Col.len, List.length_cons, List.length_nil, List.length_replicate, List.length_append]; first | done | omega) | (simp [mulSz, Cont.len, bne]; first | done | omega)))); conv => whnf)
        | (refine tst_in ?_ ?_; (focus (intro h_; exfalso; first | omega | ((try simp only [decide_eq_true_eq, decide_eq_false_iff_not] at h_); omega) | (simp [mulSz, Cont.len, bne] at h_; first | done | omega))); intro _; conv => whnf)
        | (refine tst_in ?_ ?_; rotate_left; (focus (intro h_; exfalso; first | omega | ((try simp only [decide_eq_true_eq, decide_eq_false_iff_not] at h_); omega) | (simp [mulSz, Cont.len, bne] at h_; first | done | omega))); intro _; conv => whnf)
        | (refine ⟨0, (show _ = _ by omega), ?_⟩; conv => whnf))
      refine ⟨[0], i + 1, ?_, ⟨(by show i + 1 ≤ n; omega), fun j hj => hg0 j (by omega)⟩, (by show n - (i + 1) < n - i; omega)⟩
      show stLe _ _ (st20a f n ca t (i + 1)) _
      conv => whnf
      repeat' (first | exact True.intro | rfl | refine And.intro ?_ ?_)
      all_goals (conv => whnf)
      repeat' (first | exact True.intro | rfl | refine And.intro ?_ ?_)
      all_goals (try omega)
    · skip
      have hge : i = n := by simp at hge; omega
      by_cases h0 : n = 0
      · have hX : X = ⟨#[]⟩ ∧ e = 4 := by
          cases hJ with
          | bad i hi h => omega
          | none h => exact ⟨rfl, rfl⟩
          | form i _ hi h => omega
          | long hn _ _ _ => omega
          | all X hn _ _ _ _ => omega
        obtain ⟨rfl, rfl⟩ := hX
        conv => whnf
        repeat (first
          | (refine And.intro ?_ ?_; (focus (first | omega | decide | exact EqOk.mk (by kernel_rfl) (by kernel_rfl) (by kernel_rfl) | exact Int.natCast_nonneg _ | ((repeat' refine And.intro ?_ ?_) <;> first | omega | exact Int.natCast_nonneg _ | (simp only [i64max, u8max, u16max, u32max, u64max]; omega) | (simp only [mulSz_eq, Cont.len, colsLen, Col.len, List.length_cons, List.length_nil, List.length_replicate, List.length_append]; first | done | omega) | (simp [mulSz, Cont.len, bne]; first | done | omega)))); conv => whnf)
          | (refine tst_in ?_ ?_; (focus (intro h_; exfalso; first | omega | ((try simp only [decide_eq_true_eq, decide_eq_false_iff_not] at h_); omega) | (simp [mulSz, Cont.len, bne] at h_; first | done | omega))); intro _; conv => whnf)
          | (refine tst_in ?_ ?_; rotate_left; (focus (intro h_; exfalso; first | omega | ((try simp only [decide_eq_true_eq, decide_eq_false_iff_not] at h_); omega) | (simp [mulSz, Cont.len, bne] at h_; first | done | omega))); intro _; conv => whnf)
          | (refine ⟨0, (show _ = _ by omega), ?_⟩; conv => whnf))
        refine .inl ⟨(), [0], ?_⟩
        conv => whnf
        repeat' (first | exact True.intro | rfl | refine And.intro ?_ ?_)
        all_goals (conv => whnf)
        repeat' (first | exact True.intro | rfl | refine And.intro ?_ ?_)
        all_goals (try omega)
      · skip
        conv => whnf
        repeat (first
          | (refine And.intro ?_ ?_; (focus (first | omega | decide | exact EqOk.mk (by kernel_rfl) (by kernel_rfl) (by kernel_rfl) | exact Int.natCast_nonneg _ | ((repeat' refine And.intro ?_ ?_) <;> first | omega | exact Int.natCast_nonneg _ | (simp only [i64max, u8max, u16max, u32max, u64max]; omega) | (simp only [mulSz_eq, Cont.len, colsLen, Col.len, List.length_cons, List.length_nil, List.length_replicate, List.length_append]; first | done | omega) | (simp [mulSz, Cont.len, bne]; first | done | omega)))); conv => whnf)
          | (refine tst_in ?_ ?_; (focus (intro h_; exfalso; first | omega | ((try simp only [decide_eq_true_eq, decide_eq_false_iff_not] at h_); omega) | (simp [mulSz, Cont.len, bne] at h_; first | done | omega))); intro _; conv => whnf)
          | (refine tst_in ?_ ?_; rotate_left; (focus (intro h_; exfalso; first | omega | ((try simp only [decide_eq_true_eq, decide_eq_false_iff_not] at h_); omega) | (simp [mulSz, Cont.len, bne] at h_; first | done | omega))); intro _; conv => whnf)
          | (refine ⟨0, (show _ = _ by omega), ?_⟩; conv => whnf))
        refine ⟨⟨[0, 9], (0, []), ?_, Nat.zero_le _, fun j hj => absurd hj (by show ¬ j < 0; omega)⟩, ?_⟩
        · show stLe _ _ (st20b f n ca t 0 []) _
          conv => whnf
          repeat' (first | exact True.intro | rfl | refine And.intro ?_ ?_)
          all_goals (conv => whnf)
          repeat' (first | exact True.intro | rfl | refine And.intro ?_ ?_)
          all_goals (try omega)
        · intro ⟨i, u⟩ ⟨(hi : i ≤ n), (hs : ∀ j, j < i → stepI f n j)⟩
          show forceSt (st20b f n ca t i u) _
          conv => whnf
          repeat (first
            | (refine And.intro ?_ ?_; (focus (first | omega | decide | exact EqOk.mk (by kernel_rfl) (by kernel_rfl) (by kernel_rfl) | exact Int.natCast_nonneg _ | ((repeat' refine And.intro ?_ ?_) <;> first | omega | exact Int.natCast_nonneg _ | (simp only [i64max, u8max, u16max, u32max, u64max]; omega) | (simp only [mulSz_eq, Cont.len, colsLen, Col.len, List.length_cons, List.length_nil, List.length_replicate, List.length_append]; first | done | omega) | (simp [mulSz, Cont.len, bne]; first | done | omega)))); conv => whnf)
            | (refine tst_in ?_ ?_; (focus (intro h_; exfalso; first | omega | ((try simp only [decide_eq_true_eq, decide_eq_false_iff_not] at h_); omega) | (simp [mulSz, Cont.len, bne] at h_; first | done | omega))); intro _; conv => whnf)
            | (refine tst_in ?_ ?_; rotate_left; (focus (intro h_; exfalso; first | omega | ((try simp only [decide_eq_true_eq, decide_eq_false_iff_not] at h_); omega) | (simp [mulSz, Cont.len, bne] at h_; first | done | omega))); intro _; conv => whnf)
            | (refine ⟨0, (show _ = _ by omega), ?_⟩; conv => whnf))
          refine tst_in (fun h5 => ?_) (fun h5' => ?_)
          · skip
            have hlt : i < n := by simp at h5; omega
            have a1 : (tb f.K n ++ t.tK).getD i 0 = f.K i := tab_app _ _ _ hlt
            have a2 : (tb f.N n ++ t.tN).getD i 0 = f.N i := tab_app _ _ _ hlt
            have a3 : (tb f.M n ++ t.tM).getD i false = f.M i := tab_app _ _ _ hlt
            have a4 : (tb f.B n ++ t.tB).getD i ByteArray.empty = f.B i := tab_app _ _ _ hlt
            have z1 : (tb f.K n ++ t.tK).getD 0 0 = f.K 0 := tab_app _ _ _ (by omega)
            have z2 : (tb f.N n ++ t.tN).getD 0 0 = f.N 0 := tab_app _ _ _ (by omega)
            have hr1 := hr i hlt
            have hr0 := hr 0 (by omega)
            conv => whnf
            repeat (first
              | (refine And.intro ?_ ?_; (focus (first | omega | decide | exact EqOk.mk (by kernel_rfl) (by kernel_rfl) (by kernel_rfl) | exact Int.natCast_nonneg _ | ((repeat' refine And.intro ?_ ?_) <;> first | omega | exact Int.natCast_nonneg _ | (simp only [i64max, u8max, u16max, u32max, u64max]; omega) | (simp only [mulSz_eq, Cont.len, colsLen, Col.len, List.length_cons, List.length_nil, List.length_replicate, List.length_append, tab_len, t1, t2, t3, t4]; first | done | omega) | (simp [mulSz, Cont.len, bne, tab_len, t1, t2, t3, t4]; first | done | omega)))); conv => whnf)
              | (refine tst_in ?_ ?_; (focus (intro h_; exfalso; first | omega | ((try simp only [decide_eq_true_eq, decide_eq_false_iff_not] at h_); omega) | (simp [mulSz, Cont.len, bne, tab_len, t1, t2, t3, t4] at h_; first | done | omega))); intro _; conv => whnf)
              | (refine tst_in ?_ ?_; rotate_left; (focus (intro h_; exfalso; first | omega | ((try simp only [decide_eq_true_eq, decide_eq_false_iff_not] at h_); omega) | (simp [mulSz, Cont.len, bne, tab_len, t1, t2, t3, t4] at h_; first | done | omega))); intro _; conv => whnf)
              | (refine ⟨(i), (show _ = _ by omega), ?_⟩; conv => whnf)
              | (refine ⟨(i), 0, (show _ = _ by omega), ?_⟩; conv => whnf)
              | (refine ⟨(i), 1, (show _ = _ by omega), ?_⟩; conv => whnf)
              | (refine ⟨(i), 2, (show _ = _ by omega), ?_⟩; conv => whnf)
              | (refine ⟨(i), 3, (show _ = _ by omega), ?_⟩; conv => whnf)
              | (refine ⟨(i), 4, (show _ = _ by omega), ?_⟩; conv => whnf)
              | (refine ⟨(i), 5, (show _ = _ by omega), ?_⟩; conv => whnf)
              | (refine ⟨(0), (show _ = _ by omega), ?_⟩; conv => whnf)
              | (refine ⟨(0), 0, (show _ = _ by omega), ?_⟩; conv => whnf)
              | (refine ⟨(0), 1, (show _ = _ by omega), ?_⟩; conv => whnf)
              | (refine ⟨(0), 2, (show _ = _ by omega), ?_⟩; conv => whnf)
              | (refine ⟨(0), 3, (show _ = _ by omega), ?_⟩; conv => whnf)
              | (refine ⟨(0), 4, (show _ = _ by omega), ?_⟩; conv => whnf)
              | (refine ⟨(0), 5, (show _ = _ by omega), ?_⟩; conv => whnf)
              | (refine ⟨0, (show _ = _ by omega), ?_⟩; conv => whnf))
            rw [a1, z1]
            refine tst_in (fun c1 => ?_) (fun c1' => ?_)
            · have hb : ¬ stepI f n i := fun q => by simp [q.1] at c1
              obtain ⟨rfl, rfl⟩ := form_of hg0 hJ hlt hb
              conv => whnf
              repeat (first
                | (refine And.intro ?_ ?_; (focus (first | omega | decide | exact EqOk.mk (by kernel_rfl) (by kernel_rfl) (by kernel_rfl) | exact Int.natCast_nonneg _ | ((repeat' refine And.intro ?_ ?_) <;> first | omega | exact Int.natCast_nonneg _ | (simp only [i64max, u8max, u16max, u32max, u64max]; omega) | (simp only [mulSz_eq, Cont.len, colsLen, Col.len, List.length_cons, List.length_nil, List.length_replicate, List.length_append]; first | done | omega) | (simp [mulSz, Cont.len, bne]; first | done | omega)))); conv => whnf)
                | (refine tst_in ?_ ?_; (focus (intro h_; exfalso; first | omega | ((try simp only [decide_eq_true_eq, decide_eq_false_iff_not] at h_); omega) | (simp [mulSz, Cont.len, bne] at h_; first | done | omega))); intro _; conv => whnf)
                | (refine tst_in ?_ ?_; rotate_left; (focus (intro h_; exfalso; first | omega | ((try simp only [decide_eq_true_eq, decide_eq_false_iff_not] at h_); omega) | (simp [mulSz, Cont.len, bne] at h_; first | done | omega))); intro _; conv => whnf)
                | (refine ⟨0, (show _ = _ by omega), ?_⟩; conv => whnf))
              refine .inl ⟨(), [0], ?_⟩
              conv => whnf
              repeat' (first | exact True.intro | rfl | refine And.intro ?_ ?_)
              all_goals (conv => whnf)
              repeat' (first | exact True.intro | rfl | refine And.intro ?_ ?_)
              all_goals (try omega)
            · skip
              conv => whnf
              repeat (first
                | (refine And.intro ?_ ?_; (focus (first | omega | decide | exact EqOk.mk (by kernel_rfl) (by kernel_rfl) (by kernel_rfl) | exact Int.natCast_nonneg _ | ((repeat' refine And.intro ?_ ?_) <;> first | omega | exact Int.natCast_nonneg _ | (simp only [i64max, u8max, u16max, u32max, u64max]; omega) | (simp only [mulSz_eq, Cont.len, colsLen, Col.len, List.length_cons, List.length_nil, List.length_replicate, List.length_append, tab_len, t1, t2, t3, t4]; first | done | omega) | (simp [mulSz, Cont.len, bne, tab_len, t1, t2, t3, t4]; first | done | omega)))); conv => whnf)
                | (refine tst_in ?_ ?_; (focus (intro h_; exfalso; first | omega | ((try simp only [decide_eq_true_eq, decide_eq_false_iff_not] at h_); omega) | (simp [mulSz, Cont.len, bne, tab_len, t1, t2, t3, t4] at h_; first | done | omega))); intro _; conv => whnf)
                | (refine tst_in ?_ ?_; rotate_left; (focus (intro h_; exfalso; first | omega | ((try simp only [decide_eq_true_eq, decide_eq_false_iff_not] at h_); omega) | (simp [mulSz, Cont.len, bne, tab_len, t1, t2, t3, t4] at h_; first | done | omega))); intro _; conv => whnf)
                | (refine ⟨(i), (show _ = _ by omega), ?_⟩; conv => whnf)
                | (refine ⟨(i), 0, (show _ = _ by omega), ?_⟩; conv => whnf)
                | (refine ⟨(i), 1, (show _ = _ by omega), ?_⟩; conv => whnf)
                | (refine ⟨(i), 2, (show _ = _ by omega), ?_⟩; conv => whnf)
                | (refine ⟨(i), 3, (show _ = _ by omega), ?_⟩; conv => whnf)
                | (refine ⟨(i), 4, (show _ = _ by omega), ?_⟩; conv => whnf)
                | (refine ⟨(i), 5, (show _ = _ by omega), ?_⟩; conv => whnf)
                | (refine ⟨(0), (show _ = _ by omega), ?_⟩; conv => whnf)
                | (refine ⟨(0), 0, (show _ = _ by omega), ?_⟩; conv => whnf)
                | (refine ⟨(0), 1, (show _ = _ by omega), ?_⟩; conv => whnf)
                | (refine ⟨(0), 2, (show _ = _ by omega), ?_⟩; conv => whnf)
                | (refine ⟨(0), 3, (show _ = _ by omega), ?_⟩; conv => whnf)
                | (refine ⟨(0), 4, (show _ = _ by omega), ?_⟩; conv => whnf)
                | (refine ⟨(0), 5, (show _ = _ by omega), ?_⟩; conv => whnf)
                | (refine ⟨0, (show _ = _ by omega), ?_⟩; conv => whnf))
              rw [a2, z2]
              refine tst_in (fun c2 => ?_) (fun c2' => ?_)
              · have hb : ¬ stepI f n i := fun q => by
                  have := q.2.1
                  simp only [u8wrap, Bool.not_eq_true', decide_eq_false_iff_not] at c2
                  omega
                obtain ⟨rfl, rfl⟩ := form_of hg0 hJ hlt hb
                conv => whnf
                repeat (first
                  | (refine And.intro ?_ ?_; (focus (first | omega | decide | exact EqOk.mk (by kernel_rfl) (by kernel_rfl) (by kernel_rfl) | exact Int.natCast_nonneg _ | ((repeat' refine And.intro ?_ ?_) <;> first | omega | exact Int.natCast_nonneg _ | (simp only [i64max, u8max, u16max, u32max, u64max]; omega) | (simp only [mulSz_eq, Cont.len, colsLen, Col.len, List.length_cons, List.length_nil, List.length_replicate, List.length_append]; first | done | omega) | (simp [mulSz, Cont.len, bne]; first | done | omega)))); conv => whnf)
                  | (refine tst_in ?_ ?_; (focus (intro h_; exfalso; first | omega | ((try simp only [decide_eq_true_eq, decide_eq_false_iff_not] at h_); omega) | (simp [mulSz, Cont.len, bne] at h_; first | done | omega))); intro _; conv => whnf)
                  | (refine tst_in ?_ ?_; rotate_left; (focus (intro h_; exfalso; first | omega | ((try simp only [decide_eq_true_eq, decide_eq_false_iff_not] at h_); omega) | (simp [mulSz, Cont.len, bne] at h_; first | done | omega))); intro _; conv => whnf)
                  | (refine ⟨0, (show _ = _ by omega), ?_⟩; conv => whnf))
                refine .inl ⟨(), [0], ?_⟩
                conv => whnf
                repeat' (first | exact True.intro | rfl | refine And.intro ?_ ?_)
                all_goals (conv => whnf)
                repeat' (first | exact True.intro | rfl | refine And.intro ?_ ?_)
                all_goals (try omega)
              · skip
                conv => whnf
                repeat (first
                  | (refine And.intro ?_ ?_; (focus (first | omega | decide | exact EqOk.mk (by kernel_rfl) (by kernel_rfl) (by kernel_rfl) | exact Int.natCast_nonneg _ | ((repeat' refine And.intro ?_ ?_) <;> first | omega | exact Int.natCast_nonneg _ | (simp only [i64max, u8max, u16max, u32max, u64max]; omega) | (simp only [mulSz_eq, Cont.len, colsLen, Col.len, List.length_cons, List.length_nil, List.length_replicate, List.length_append, tab_len, t1, t2, t3, t4]; first | done | omega) | (simp [mulSz, Cont.len, bne, tab_len, t1, t2, t3, t4]; first | done | omega)))); conv => whnf)
                  | (refine tst_in ?_ ?_; (focus (intro h_; exfalso; first | omega | ((try simp only [decide_eq_true_eq, decide_eq_false_iff_not] at h_); omega) | (simp [mulSz, Cont.len, bne, tab_len, t1, t2, t3, t4] at h_; first | done | omega))); intro _; conv => whnf)
                  | (refine tst_in ?_ ?_; rotate_left; (focus (intro h_; exfalso; first | omega | ((try simp only [decide_eq_true_eq, decide_eq_false_iff_not] at h_); omega) | (simp [mulSz, Cont.len, bne, tab_len, t1, t2, t3, t4] at h_; first | done | omega))); intro _; conv => whnf)
                  | (refine ⟨(i), (show _ = _ by omega), ?_⟩; conv => whnf)
                  | (refine ⟨(i), 0, (show _ = _ by omega), ?_⟩; conv => whnf)
                  | (refine ⟨(i), 1, (show _ = _ by omega), ?_⟩; conv => whnf)
                  | (refine ⟨(i), 2, (show _ = _ by omega), ?_⟩; conv => whnf)
                  | (refine ⟨(i), 3, (show _ = _ by omega), ?_⟩; conv => whnf)
                  | (refine ⟨(i), 4, (show _ = _ by omega), ?_⟩; conv => whnf)
                  | (refine ⟨(i), 5, (show _ = _ by omega), ?_⟩; conv => whnf)
                  | (refine ⟨(0), (show _ = _ by omega), ?_⟩; conv => whnf)
                  | (refine ⟨(0), 0, (show _ = _ by omega), ?_⟩; conv => whnf)
                  | (refine ⟨(0), 1, (show _ = _ by omega), ?_⟩; conv => whnf)
                  | (refine ⟨(0), 2, (show _ = _ by omega), ?_⟩; conv => whnf)
                  | (refine ⟨(0), 3, (show _ = _ by omega), ?_⟩; conv => whnf)
                  | (refine ⟨(0), 4, (show _ = _ by omega), ?_⟩; conv => whnf)
                  | (refine ⟨(0), 5, (show _ = _ by omega), ?_⟩; conv => whnf)
                  | (refine ⟨0, (show _ = _ by omega), ?_⟩; conv => whnf))
                rw [a3]
                refine tst_in (fun c3 => ?_) (fun c3' => ?_)
                · have hb : ¬ stepI f n i := fun q => by
                    have := q.2.2
                    rw [this, dLt_eq, show decide (i + 1 < n) = decide ((i : Int) < (n : Int) - 1) by rw [decide_eq_decide]; omega] at c3
                    simp at c3
                  obtain ⟨rfl, rfl⟩ := form_of hg0 hJ hlt hb
                  conv => whnf
                  repeat (first
                    | (refine And.intro ?_ ?_; (focus (first | omega | decide | exact EqOk.mk (by kernel_rfl) (by kernel_rfl) (by kernel_rfl) | exact Int.natCast_nonneg _ | ((repeat' refine And.intro ?_ ?_) <;> first | omega | exact Int.natCast_nonneg _ | (simp only [i64max, u8max, u16max, u32max, u64max]; omega) | (simp only [mulSz_eq, Cont.len, colsLen, Col.len, List.length_cons, List.length_nil, List.length_replicate, List.length_append]; first | done | omega) | (simp [mulSz, Cont.len, bne]; first | done | omega)))); conv => whnf)
                    | (refine tst_in ?_ ?_; (focus (intro h_; exfalso; first | omega | ((try simp only [decide_eq_true_eq, decide_eq_false_iff_not] at h_); omega) | (simp [mulSz, Cont.len, bne] at h_; first | done | omega))); intro _; conv => whnf)
                    | (refine tst_in ?_ ?_; rotate_left; (focus (intro h_; exfalso; first | omega | ((try simp only [decide_eq_true_eq, decide_eq_false_iff_not] at h_); omega) | (simp [mulSz, Cont.len, bne] at h_; first | done | omega))); intro _; conv => whnf)
                    | (refine ⟨0, (show _ = _ by omega), ?_⟩; conv => whnf))
                  refine .inl ⟨(), [0], ?_⟩
                  conv => whnf
                  repeat' (first | exact True.intro | rfl | refine And.intro ?_ ?_)
                  all_goals (conv => whnf)
                  repeat' (first | exact True.intro | rfl | refine And.intro ?_ ?_)
                  all_goals (try omega)
                · skip
                  have hst : stepI f n i := by
                    refine ⟨by simpa using c1', ?_, ?_⟩
                    · simp only [u8wrap, Bool.not_eq_false', decide_eq_true_eq] at c2'
                      omega
                    · rw [show decide (i + 1 < n) = decide ((i : Int) < (n : Int) - 1) by rw [decide_eq_decide]; omega]
                      rw [dLt_eq] at c3'
                      simpa using c3'
                  have hB : (f.B i).size ≤ 240 := by have hb := hg0 i hlt; unfold goodI mayB at hb; simp at hb; omega
                  have hc := cat_len f i (fun j hj => hg0 j (by omega))
                  conv => whnf
                  repeat (first
                    | (refine And.intro ?_ ?_; (focus (first | omega | decide | exact EqOk.mk (by kernel_rfl) (by kernel_rfl) (by kernel_rfl) | exact Int.natCast_nonneg _ | ((repeat' refine And.intro ?_ ?_) <;> first | omega | exact Int.natCast_nonneg _ | (simp only [i64max, u8max, u16max, u32max, u64max]; omega) | (simp only [mulSz_eq, Cont.len, colsLen, Col.len, List.length_cons, List.length_nil, List.length_replicate, List.length_append, tab_len, t1, t2, t3, t4, a4]; first | done | omega) | (simp [mulSz, Cont.len, bne, tab_len, t1, t2, t3, t4, a4]; first | done | omega)))); conv => whnf)
                    | (refine tst_in ?_ ?_; (focus (intro h_; exfalso; first | omega | ((try simp only [decide_eq_true_eq, decide_eq_false_iff_not] at h_); omega) | (simp [mulSz, Cont.len, bne, tab_len, t1, t2, t3, t4, a4] at h_; first | done | omega))); intro _; conv => whnf)
                    | (refine tst_in ?_ ?_; rotate_left; (focus (intro h_; exfalso; first | omega | ((try simp only [decide_eq_true_eq, decide_eq_false_iff_not] at h_); omega) | (simp [mulSz, Cont.len, bne, tab_len, t1, t2, t3, t4, a4] at h_; first | done | omega))); intro _; conv => whnf)
                    | (refine ⟨(i), (show _ = _ by omega), ?_⟩; conv => whnf)
                    | (refine ⟨(i), 0, (show _ = _ by omega), ?_⟩; conv => whnf)
                    | (refine ⟨(i), 1, (show _ = _ by omega), ?_⟩; conv => whnf)
                    | (refine ⟨(i), 2, (show _ = _ by omega), ?_⟩; conv => whnf)
                    | (refine ⟨(i), 3, (show _ = _ by omega), ?_⟩; conv => whnf)
                    | (refine ⟨(i), 4, (show _ = _ by omega), ?_⟩; conv => whnf)
                    | (refine ⟨(i), 5, (show _ = _ by omega), ?_⟩; conv => whnf)
                    | (refine ⟨(0), (show _ = _ by omega), ?_⟩; conv => whnf)
                    | (refine ⟨(0), 0, (show _ = _ by omega), ?_⟩; conv => whnf)
                    | (refine ⟨(0), 1, (show _ = _ by omega), ?_⟩; conv => whnf)
                    | (refine ⟨(0), 2, (show _ = _ by omega), ?_⟩; conv => whnf)
                    | (refine ⟨(0), 3, (show _ = _ by omega), ?_⟩; conv => whnf)
                    | (refine ⟨(0), 4, (show _ = _ by omega), ?_⟩; conv => whnf)
                    | (refine ⟨(0), 5, (show _ = _ by omega), ?_⟩; conv => whnf)
                    | (refine ⟨0, (show _ = _ by omega), ?_⟩; conv => whnf))
                  intro tl
                  change List Int at tl
                  conv => whnf
                  repeat (first
                    | (refine And.intro ?_ ?_; (focus (first | omega | decide | exact EqOk.mk (by kernel_rfl) (by kernel_rfl) (by kernel_rfl) | exact Int.natCast_nonneg _ | ((repeat' refine And.intro ?_ ?_) <;> first | omega | exact Int.natCast_nonneg _ | (simp only [i64max, u8max, u16max, u32max, u64max]; omega) | (simp only [mulSz_eq, Cont.len, colsLen, Col.len, List.length_cons, List.length_nil, List.length_replicate, List.length_append, tab_len, t1, t2, t3, t4, a4]; first | done | omega) | (simp [mulSz, Cont.len, bne, tab_len, t1, t2, t3, t4, a4]; first | done | omega)))); conv => whnf)
                    | (refine tst_in ?_ ?_; (focus (intro h_; exfalso; first | omega | ((try simp only [decide_eq_true_eq, decide_eq_false_iff_not] at h_); omega) | (simp [mulSz, Cont.len, bne, tab_len, t1, t2, t3, t4, a4] at h_; first | done | omega))); intro _; conv => whnf)
                    | (refine tst_in ?_ ?_; rotate_left; (focus (intro h_; exfalso; first | omega | ((try simp only [decide_eq_true_eq, decide_eq_false_iff_not] at h_); omega) | (simp [mulSz, Cont.len, bne, tab_len, t1, t2, t3, t4, a4] at h_; first | done | omega))); intro _; conv => whnf)
                    | (refine ⟨(i), (show _ = _ by omega), ?_⟩; conv => whnf)
                    | (refine ⟨(i), 0, (show _ = _ by omega), ?_⟩; conv => whnf)
                    | (refine ⟨(i), 1, (show _ = _ by omega), ?_⟩; conv => whnf)
                    | (refine ⟨(i), 2, (show _ = _ by omega), ?_⟩; conv => whnf)
                    | (refine ⟨(i), 3, (show _ = _ by omega), ?_⟩; conv => whnf)
                    | (refine ⟨(i), 4, (show _ = _ by omega), ?_⟩; conv => whnf)
                    | (refine ⟨(i), 5, (show _ = _ by omega), ?_⟩; conv => whnf)
                    | (refine ⟨(0), (show _ = _ by omega), ?_⟩; conv => whnf)
                    | (refine ⟨(0), 0, (show _ = _ by omega), ?_⟩; conv => whnf)
                    | (refine ⟨(0), 1, (show _ = _ by omega), ?_⟩; conv => whnf)
                    | (refine ⟨(0), 2, (show _ = _ by omega), ?_⟩; conv => whnf)
                    | (refine ⟨(0), 3, (show _ = _ by omega), ?_⟩; conv => whnf)
                    | (refine ⟨(0), 4, (show _ = _ by omega), ?_⟩; conv => whnf)
                    | (refine ⟨(0), 5, (show _ = _ by omega), ?_⟩; conv => whnf)
                    | (refine ⟨0, (show _ = _ by omega), ?_⟩; conv => whnf))
                  refine ⟨[0, 2], (i + 1, tl), ?_, ⟨(by show i + 1 ≤ n; omega), fun j hj => by by_cases h : j = i; subst h; exact hst; exact hs j (by omega)⟩, (by show n - (i + 1) < n - i; omega)⟩
                  have hcl : (cat f (i + 1)).length = (cat f i).length + (f.B i).size := by show (cat f i ++ bytL (f.B i)).length = _; rw [List.length_append, bytL_len]
                  show stLe _ _ (st20b f n ca t (i + 1) tl) _
                  conv => whnf
                  repeat' (first | exact True.intro | rfl | refine And.intro ?_ ?_)
                  all_goals (conv => whnf)
                  repeat' (first | exact True.intro | rfl | refine And.intro ?_ ?_)
                  all_goals (try omega)
                  all_goals rw [a4]
                  · exact hcl
                  · rw [hcl]
                  · show cat f i ++ bytL (f.B i) ++ tl = List.take (cat f i).length _ ++ bytL (f.B i) ++ tl
                    rw [List.drop_zero, List.take_left' rfl]
          · skip
            have hge : i = n := by simp at h5'; omega
            subst hge
            by_cases hL : (cat f i).length ≤ 32768
            · obtain ⟨hX, rfl⟩ := all_of hg0 hJ (by omega) hs hL
              conv => whnf
              repeat (first
                | (refine And.intro ?_ ?_; (focus (first | omega | decide | exact EqOk.mk (by kernel_rfl) (by kernel_rfl) (by kernel_rfl) | exact Int.natCast_nonneg _ | ((repeat' refine And.intro ?_ ?_) <;> first | omega | exact Int.natCast_nonneg _ | (simp only [i64max, u8max, u16max, u32max, u64max]; omega) | (simp only [mulSz_eq, Cont.len, colsLen, Col.len, List.length_cons, List.length_nil, List.length_replicate, List.length_append]; first | done | omega) | (simp [mulSz, Cont.len, bne]; first | done | omega)))); conv => whnf)
                | (refine tst_in ?_ ?_; (focus (intro h_; exfalso; first | omega | ((try simp only [decide_eq_true_eq, decide_eq_false_iff_not] at h_); omega) | (simp [mulSz, Cont.len, bne] at h_; first | done | omega))); intro _; conv => whnf)
                | (refine tst_in ?_ ?_; rotate_left; (focus (intro h_; exfalso; first | omega | ((try simp only [decide_eq_true_eq, decide_eq_false_iff_not] at h_); omega) | (simp [mulSz, Cont.len, bne] at h_; first | done | omega))); intro _; conv => whnf)
                | (refine ⟨0, (show _ = _ by omega), ?_⟩; conv => whnf))
              refine .inl ⟨(), [0], ?_⟩
              conv => whnf
              repeat' (first | exact True.intro | rfl | refine And.intro ?_ ?_)
              all_goals (conv => whnf)
              repeat' (first | exact True.intro | rfl | refine And.intro ?_ ?_)
              all_goals (try omega)
              show X = tx _
              rw [List.drop_zero, List.take_left' rfl, ← hX, tx_bytL]
            · obtain ⟨rfl, rfl⟩ := long_of hg0 hJ (by omega) hs (by omega)
              conv => whnf
              repeat (first
                | (refine And.intro ?_ ?_; (focus (first | omega | decide | exact EqOk.mk (by kernel_rfl) (by kernel_rfl) (by kernel_rfl) | exact Int.natCast_nonneg _ | ((repeat' refine And.intro ?_ ?_) <;> first | omega | exact Int.natCast_nonneg _ | (simp only [i64max, u8max, u16max, u32max, u64max]; omega) | (simp only [mulSz_eq, Cont.len, colsLen, Col.len, List.length_cons, List.length_nil, List.length_replicate, List.length_append]; first | done | omega) | (simp [mulSz, Cont.len, bne]; first | done | omega)))); conv => whnf)
                | (refine tst_in ?_ ?_; (focus (intro h_; exfalso; first | omega | ((try simp only [decide_eq_true_eq, decide_eq_false_iff_not] at h_); omega) | (simp [mulSz, Cont.len, bne] at h_; first | done | omega))); intro _; conv => whnf)
                | (refine tst_in ?_ ?_; rotate_left; (focus (intro h_; exfalso; first | omega | ((try simp only [decide_eq_true_eq, decide_eq_false_iff_not] at h_); omega) | (simp [mulSz, Cont.len, bne] at h_; first | done | omega))); intro _; conv => whnf)
                | (refine ⟨0, (show _ = _ by omega), ?_⟩; conv => whnf))
              refine .inl ⟨(), [0], ?_⟩
              conv => whnf
              repeat' (first | exact True.intro | rfl | refine And.intro ?_ ?_)
              all_goals (conv => whnf)
              repeat' (first | exact True.intro | rfl | refine And.intro ?_ ?_)
              all_goals (try omega)
end Go.Proofs.Ytdkogicikhlicaa

set_option linter.unusedVariables false
set_option linter.unusedSimpArgs false
namespace Go.Proofs.Ytdkogicikhlicaa
open Go Go.Fw
theorem bad_of {f : FR} {n : Nat} {X : ByteArray} {e : Int} (hJ : Joins f n X e) {i : Nat} (hi : i < n) (h : ¬ goodI f i) : X = ⟨#[]⟩ ∧ e = 1 := by
  cases hJ with
  | bad j hj h => exact ⟨rfl, rfl⟩
  | none h => omega
  | form j hg hi h => exact absurd (hg i (by assumption)) (by assumption)
  | long hn hg hs _ => exact absurd (hg i hi) h
  | all X hn hg hs _ _ => exact absurd (hg i hi) h
theorem none_of {f : FR} {n : Nat} {X : ByteArray} {e : Int} (hJ : Joins f n X e) (h0 : n = 0) : X = ⟨#[]⟩ ∧ e = 4 := by
  cases hJ with
  | bad i hi h => omega
  | none h => exact ⟨rfl, rfl⟩
  | form i _ hi h => omega
  | long hn _ _ _ => omega
  | all X hn _ _ _ _ => omega
noncomputable def c19 : Code := (Try.f19.body).getD .skip
def st19a (f : FR) (n ca : Nat) (t : FT) (i : Nat) : St := ⟨slotsAt 84 [(0, .slice 0 0 n ca), (12, .slice 0 0 n ca), (13, .int .i64 n), (14, .int .i64 i)], [f.seg false n t]⟩
def inv19a (f : FR) (n ca : Nat) (t : FT) : LInv := ⟨Nat, fun i => st19a f n ca t i, fun i => i ≤ n ∧ ∀ j, j < i → goodI f j, fun i => n - i⟩
def st19b (f : FR) (n ca : Nat) (t : FT) (i : Nat) : St := ⟨slotsAt 84 [(0, .slice 0 0 n ca), (6, .int .i64 ((cat f i).length : Nat)), (25, .slice 0 0 n ca), (26, .int .i64 n), (27, .int .i64 i)], [f.seg false n t]⟩
def inv19b (f : FR) (n ca : Nat) (t : FT) : LInv := ⟨Nat, fun i => st19b f n ca t i, fun i => i ≤ n ∧ ∀ j, j < i → stepI f n j, fun i => n - i⟩
def st19c (f : FR) (n ca : Nat) (t : FT) (i : Nat) (u : List Int) : St := ⟨slotsAt 84 [(0, .slice 0 0 n ca), (9, .slice 1 0 (cat f i).length ((cat f i).length + u.length)), (71, .slice 0 0 n ca), (72, .int .i64 n), (73, .int .i64 i)], [f.seg false n t, .seg true (.ints .u8 (cat f i ++ u))]⟩
def inv19c (f : FR) (n ca : Nat) (t : FT) : LInv := ⟨Nat × List Int, fun x => st19c f n ca t x.1 x.2, fun x => x.1 ≤ n, fun x => n - x.1⟩
set_option maxHeartbeats 0 in
set_option maxRecDepth 100000 in
theorem Join_f (f : FR) (n ca : Nat) (t : FT) (X : ByteArray) (e : Int) (hn : n ≤ 1048576) (hca : n ≤ ca) (ht : t.ok) (hr : ∀ i, i < n → (0 ≤ f.K i ∧ f.K i ≤ 255) ∧ 0 ≤ f.N i ∧ f.N i ≤ 255) (hJ : Joins f n X e) :
    Fits Try.prog 19 ⟨[.slice 0 0 n ca], [f.seg false n t], [numOut [.dead] (.tup [.str X, .int .i64 e])]⟩ := by
  obtain ⟨t1, t2, t3, t4⟩ := id ht
  unfold FR.seg
  refine fits_of_body (C := cfgs 1) (c := c19) (ts := [2, 3]) tokL mixedL (fun | 2 => some (inv19a f n ca t) | 11 => some (inv19b f n ca t) | 21 => some (inv19c f n ca t) | _ => none) (fun _ => none)
    Try.func19 (by kernel_rfl) (by kernel_rfl) (by kernel_rfl) (by kernel_rfl) rfl ?_
  conv => whnf
  repeat (first
    | (refine And.intro ?_ ?_; (focus (first | omega | decide | exact EqOk.mk (by kernel_rfl) (by kernel_rfl) (by kernel_rfl) | exact Int.natCast_nonneg _ | ((repeat' refine And.intro ?_ ?_) <;> first | omega | exact Int.natCast_nonneg _ | (simp only [i64max, u8max, u16max, u32max, u64max]; omega) | (simp only [mulSz_eq, Cont.len, colsLen, Col.len, List.length_cons, List.length_nil, List.length_replicate, List.length_append]; first | done | omega) | (simp [mulSz, Cont.len, bne]; first | done | omega)))); conv => whnf)
    | (refine tst_in ?_ ?_; (focus (intro h_; exfalso; first | omega | ((try simp only [decide_eq_true_eq, decide_eq_false_iff_not] at h_); omega) | (simp [mulSz, Cont.len, bne] at h_; first | done | omega))); intro _; conv => whnf)
    | (refine tst_in ?_ ?_; rotate_left; (focus (intro h_; exfalso; first | omega | ((try simp only [decide_eq_true_eq, decide_eq_false_iff_not] at h_); omega) | (simp [mulSz, Cont.len, bne] at h_; first | done | omega))); intro _; conv => whnf)
    | (refine ⟨0, (show _ = _ by omega), ?_⟩; conv => whnf))
  refine ⟨⟨[0], (0 : Nat), ?_, Nat.zero_le _, fun j hj => absurd hj (by omega)⟩, ?_⟩
  · show stLe _ _ (st19a f n ca t 0) _
    conv => whnf
    repeat' (first | exact True.intro | rfl | refine And.intro ?_ ?_)
    all_goals (conv => whnf)
    repeat' (first | exact True.intro | rfl | refine And.intro ?_ ?_)
    all_goals (try omega)
  · intro (i : Nat) ⟨(hi : i ≤ n), (hg : ∀ j, j < i → goodI f j)⟩
    show forceSt (st19a f n ca t i) _
    conv => whnf
    repeat (first
      | (refine And.intro ?_ ?_; (focus (first | omega | decide | exact EqOk.mk (by kernel_rfl) (by kernel_rfl) (by kernel_rfl) | exact Int.natCast_nonneg _ | ((repeat' refine And.intro ?_ ?_) <;> first | omega | exact Int.natCast_nonneg _ | (simp only [i64max, u8max, u16max, u32max, u64max]; omega) | (simp only [mulSz_eq, Cont.len, colsLen, Col.len, List.length_cons, List.length_nil, List.length_replicate, List.length_append]; first | done | omega) | (simp [mulSz, Cont.len, bne]; first | done | omega)))); conv => whnf)
      | (refine tst_in ?_ ?_; (focus (intro h_; exfalso; first | omega | ((try simp only [decide_eq_true_eq, decide_eq_false_iff_not] at h_); omega) | (simp [mulSz, Cont.len, bne] at h_; first | done | omega))); intro _; conv => whnf)
      | (refine tst_in ?_ ?_; rotate_left; (focus (intro h_; exfalso; first | omega | ((try simp only [decide_eq_true_eq, decide_eq_false_iff_not] at h_); omega) | (simp [mulSz, Cont.len, bne] at h_; first | done | omega))); intro _; conv => whnf)
      | (refine ⟨0, (show _ = _ by omega), ?_⟩; conv => whnf))
    refine tst_in (fun hlt => ?_) (fun hge => ?_)
    · skip
      have hlt : i < n := by simp at hlt; omega
      have MF := mayBe_f (f.K i) (f.N i) (f.M i) (f.B i)
      unfold frA at MF
      have a1 : (tb f.K n ++ t.tK).getD i 0 = f.K i := tab_app _ _ _ hlt
      have a2 : (tb f.N n ++ t.tN).getD i 0 = f.N i := tab_app _ _ _ hlt
      have a3 : (tb f.M n ++ t.tM).getD i false = f.M i := tab_app _ _ _ hlt
      have a4 : (tb f.B n ++ t.tB).getD i ByteArray.empty = f.B i := tab_app _ _ _ hlt
      conv => whnf
      repeat (first
        | (refine And.intro ?_ ?_; (focus (first | omega | decide | exact EqOk.mk (by kernel_rfl) (by kernel_rfl) (by kernel_rfl) | exact Int.natCast_nonneg _ | ((repeat' refine And.intro ?_ ?_) <;> first | omega | exact Int.natCast_nonneg _ | (simp only [i64max, u8max, u16max, u32max, u64max]; omega) | (simp only [mulSz_eq, Cont.len, colsLen, Col.len, List.length_cons, List.length_nil, List.length_replicate, List.length_append, tab_len, t1, t2, t3, t4]; first | done | omega) | (simp [mulSz, Cont.len, bne, tab_len, t1, t2, t3, t4]; first | done | omega)))); conv => whnf)
        | (refine tst_in ?_ ?_; (focus (intro h_; exfalso; first | omega | ((try simp only [decide_eq_true_eq, decide_eq_false_iff_not] at h_); omega) | (simp [mulSz, Cont.len, bne, tab_len, t1, t2, t3, t4] at h_; first | done | omega))); intro _; conv => whnf)
        | (refine tst_in ?_ ?_; rotate_left; (focus (intro h_; exfalso; first | omega | ((try simp only [decide_eq_true_eq, decide_eq_false_iff_not] at h_); omega) | (simp [mulSz, Cont.len, bne, tab_len, t1, t2, t3, t4] at h_; first | done | omega))); intro _; conv => whnf)
        | (refine ⟨(i), (show _ = _ by omega), ?_⟩; conv => whnf)
        | (refine ⟨(i), 0, (show _ = _ by omega), ?_⟩; conv => whnf)
        | (refine ⟨(i), 1, (show _ = _ by omega), ?_⟩; conv => whnf)
        | (refine ⟨(i), 2, (show _ = _ by omega), ?_⟩; conv => whnf)
        | (refine ⟨(i), 3, (show _ = _ by omega), ?_⟩; conv => whnf)
        | (refine ⟨(i), 4, (show _ = _ by omega), ?_⟩; conv => whnf)
        | (refine ⟨(i), 5, (show _ = _ by omega), ?_⟩; conv => whnf)
        | (refine ⟨0, (show _ = _ by omega), ?_⟩; conv => whnf))
      rw [a1, a2, a3, a4]
      by_cases hm : mayB (f.K i) (f.B i) = true
      · rw [hm] at MF
        refine ⟨_, [], MF, ?_⟩
        conv => whnf
        iterate 2
         refine And.intro ?_ ?_
         focus
          conv => whnf
          repeat' (first | exact True.intro | rfl | refine And.intro ?_ ?_ | omega)
          all_goals (conv => whnf)
          all_goals (try (first | rfl | omega | (simp; done)))
        conv => whnf
        refine ⟨?_, True.intro⟩
        intro _ _
        conv => whnf
        conv => whnf
        repeat (first
          | (refine And.intro ?_ ?_; (focus (first | omega | decide | exact EqOk.mk (by kernel_rfl) (by kernel_rfl) (by kernel_rfl) | exact Int.natCast_nonneg _ | ((repeat' refine And.intro ?_ ?_) <;> first | omega | exact Int.natCast_nonneg _ | (simp only [i64max, u8max, u16max, u32max, u64max]; omega) | (simp only [mulSz_eq, Cont.len, colsLen, Col.len, List.length_cons, List.length_nil, List.length_replicate, List.length_append]; first | done | omega) | (simp [mulSz, Cont.len, bne]; first | done | omega)))); conv => whnf)
          | (refine tst_in ?_ ?_; (focus (intro h_; exfalso; first | omega | ((try simp only [decide_eq_true_eq, decide_eq_false_iff_not] at h_); omega) | (simp [mulSz, Cont.len, bne] at h_; first | done | omega))); intro _; conv => whnf)
          | (refine tst_in ?_ ?_; rotate_left; (focus (intro h_; exfalso; first | omega | ((try simp only [decide_eq_true_eq, decide_eq_false_iff_not] at h_); omega) | (simp [mulSz, Cont.len, bne] at h_; first | done | omega))); intro _; conv => whnf)
          | (refine ⟨0, (show _ = _ by omega), ?_⟩; conv => whnf))
        refine ⟨[0], i + 1, ?_, ⟨(by show i + 1 ≤ n; omega), fun j hj => by by_cases h : j = i; subst h; exact hm; exact hg j (by omega)⟩, (by show n - (i + 1) < n - i; omega)⟩
        show stLe _ _ (st19a f n ca t (i + 1)) _
        conv => whnf
        repeat' (first | exact True.intro | rfl | refine And.intro ?_ ?_)
        all_goals (conv => whnf)
        repeat' (first | exact True.intro | rfl | refine And.intro ?_ ?_)
        all_goals (try omega)
      · rw [Bool.eq_false_iff.2 hm] at MF
        refine ⟨_, [], MF, ?_⟩
        conv => whnf
        iterate 2
         refine And.intro ?_ ?_
         focus
          conv => whnf
          repeat' (first | exact True.intro | rfl | refine And.intro ?_ ?_ | omega)
          all_goals (conv => whnf)
          all_goals (try (first | rfl | omega | (simp; done)))
        conv => whnf
        refine ⟨?_, True.intro⟩
        intro _ _
        conv => whnf
        conv => whnf
        repeat (first
          | (refine And.intro ?_ ?_; (focus (first | omega | decide | exact EqOk.mk (by kernel_rfl) (by kernel_rfl) (by kernel_rfl) | exact Int.natCast_nonneg _ | ((repeat' refine And.intro ?_ ?_) <;> first | omega | exact Int.natCast_nonneg _ | (simp only [i64max, u8max, u16max, u32max, u64max]; omega) | (simp only [mulSz_eq, Cont.len, colsLen, Col.len, List.length_cons, List.length_nil, List.length_replicate, List.length_append]; first | done | omega) | (simp [mulSz, Cont.len, bne]; first | done | omega)))); conv => whnf)
          | (refine tst_in ?_ ?_; (focus (intro h_; exfalso; first | omega | ((try simp only [decide_eq_true_eq, decide_eq_false_iff_not] at h_); omega) | (simp [mulSz, Cont.len, bne] at h_; first | done | omega))); intro _; conv => whnf)
          | (refine tst_in ?_ ?_; rotate_left; (focus (intro h_; exfalso; first | omega | ((try simp only [decide_eq_true_eq, decide_eq_false_iff_not] at h_); omega) | (simp [mulSz, Cont.len, bne] at h_; first | done | omega))); intro _; conv => whnf)
          | (refine ⟨0, (show _ = _ by omega), ?_⟩; conv => whnf))
        obtain ⟨rfl, rfl⟩ := bad_of hJ hlt hm
        refine .inl ⟨(), [0], ?_⟩
        conv => whnf
        repeat' (first | exact True.intro | rfl | refine And.intro ?_ ?_)
        all_goals (conv => whnf)
        repeat' (first | exact True.intro | rfl | refine And.intro ?_ ?_)
        all_goals (try omega)
    · skip
      have hge : i = n := by simp at hge; omega
      rw [hge] at hg
      clear hi
      by_cases h0 : n = 0
      · obtain ⟨rfl, rfl⟩ := none_of hJ h0
        conv => whnf
        repeat (first
          | (refine And.intro ?_ ?_; (focus (first | omega | decide | exact EqOk.mk (by kernel_rfl) (by kernel_rfl) (by kernel_rfl) | exact Int.natCast_nonneg _ | ((repeat' refine And.intro ?_ ?_) <;> first | omega | exact Int.natCast_nonneg _ | (simp only [i64max, u8max, u16max, u32max, u64max]; omega) | (simp only [mulSz_eq, Cont.len, colsLen, Col.len, List.length_cons, List.length_nil, List.length_replicate, List.length_append]; first | done | omega) | (simp [mulSz, Cont.len, bne]; first | done | omega)))); conv => whnf)
          | (refine tst_in ?_ ?_; (focus (intro h_; exfalso; first | omega | ((try simp only [decide_eq_true_eq, decide_eq_false_iff_not] at h_); omega) | (simp [mulSz, Cont.len, bne] at h_; first | done | omega))); intro _; conv => whnf)
          | (refine tst_in ?_ ?_; rotate_left; (focus (intro h_; exfalso; first | omega | ((try simp only [decide_eq_true_eq, decide_eq_false_iff_not] at h_); omega) | (simp [mulSz, Cont.len, bne] at h_; first | done | omega))); intro _; conv => whnf)
          | (refine ⟨0, (show _ = _ by omega), ?_⟩; conv => whnf))
        refine .inl ⟨(), [0], ?_⟩
        conv => whnf
        repeat' (first | exact True.intro | rfl | refine And.intro ?_ ?_)
        all_goals (conv => whnf)
        repeat' (first | exact True.intro | rfl | refine And.intro ?_ ?_)
        all_goals (try omega)
      · skip
        conv => whnf
        repeat (first
          | (refine And.intro ?_ ?_; (focus (first | omega | decide | exact EqOk.mk (by kernel_rfl) (by kernel_rfl) (by kernel_rfl) | exact Int.natCast_nonneg _ | ((repeat' refine And.intro ?_ ?_) <;> first | omega | exact Int.natCast_nonneg _ | (simp only [i64max, u8max, u16max, u32max, u64max]; omega) | (simp only [mulSz_eq, Cont.len, colsLen, Col.len, List.length_cons, List.length_nil, List.length_replicate, List.length_append]; first | done | omega) | (simp [mulSz, Cont.len, bne]; first | done | omega)))); conv => whnf)
          | (refine tst_in ?_ ?_; (focus (intro h_; exfalso; first | omega | ((try simp only [decide_eq_true_eq, decide_eq_false_iff_not] at h_); omega) | (simp [mulSz, Cont.len, bne] at h_; first | done | omega))); intro _; conv => whnf)
          | (refine tst_in ?_ ?_; rotate_left; (focus (intro h_; exfalso; first | omega | ((try simp only [decide_eq_true_eq, decide_eq_false_iff_not] at h_); omega) | (simp [mulSz, Cont.len, bne] at h_; first | done | omega))); intro _; conv => whnf)
          | (refine ⟨0, (show _ = _ by omega), ?_⟩; conv => whnf))
        refine ⟨⟨[0], (0 : Nat), ?_, Nat.zero_le _, fun j hj => absurd hj (by omega)⟩, ?_⟩
        · show stLe _ _ (st19b f n ca t 0) _
          conv => whnf
          repeat' (first | exact True.intro | rfl | refine And.intro ?_ ?_)
          all_goals (conv => whnf)
          repeat' (first | exact True.intro | rfl | refine And.intro ?_ ?_)
          all_goals (try omega)
        · intro (i : Nat) ⟨(hi : i ≤ n), (hs : ∀ j, j < i → stepI f n j)⟩
          show forceSt (st19b f n ca t i) _
          have hc := cat_len f i (fun j hj => hg j (by omega))
          conv => whnf
          repeat (first
            | (refine And.intro ?_ ?_; (focus (first | omega | decide | exact EqOk.mk (by kernel_rfl) (by kernel_rfl) (by kernel_rfl) | exact Int.natCast_nonneg _ | ((repeat' refine And.intro ?_ ?_) <;> first | omega | exact Int.natCast_nonneg _ | (simp only [i64max, u8max, u16max, u32max, u64max]; omega) | (simp only [mulSz_eq, Cont.len, colsLen, Col.len, List.length_cons, List.length_nil, List.length_replicate, List.length_append]; first | done | omega) | (simp [mulSz, Cont.len, bne]; first | done | omega)))); conv => whnf)
            | (refine tst_in ?_ ?_; (focus (intro h_; exfalso; first | omega | ((try simp only [decide_eq_true_eq, decide_eq_false_iff_not] at h_); omega) | (simp [mulSz, Cont.len, bne] at h_; first | done | omega))); intro _; conv => whnf)
            | (refine tst_in ?_ ?_; rotate_left; (focus (intro h_; exfalso; first | omega | ((try simp only [decide_eq_true_eq, decide_eq_false_iff_not] at h_); omega) | (simp [mulSz, Cont.len, bne] at h_; first | done | omega))); intro _; conv => whnf)
            | (refine ⟨0, (show _ = _ by omega), ?_⟩; conv => whnf))
          refine tst_in (fun h5 => ?_) (fun h5' => ?_)
          · skip
            have hlt : i < n := by simp at h5; omega
            have a1 : (tb f.K n ++ t.tK).getD i 0 = f.K i := tab_app _ _ _ hlt
            have a2 : (tb f.N n ++ t.tN).getD i 0 = f.N i := tab_app _ _ _ hlt
            have a3 : (tb f.M n ++ t.tM).getD i false = f.M i := tab_app _ _ _ hlt
            have a4 : (tb f.B n ++ t.tB).getD i ByteArray.empty = f.B i := tab_app _ _ _ hlt
            have z1 : (tb f.K n ++ t.tK).getD 0 0 = f.K 0 := tab_app _ _ _ (by omega)
            have z2 : (tb f.N n ++ t.tN).getD 0 0 = f.N 0 := tab_app _ _ _ (by omega)
            have hr1 := hr i hlt
            have hr0 := hr 0 (by omega)
            have hB : (f.B i).size ≤ 240 := by have hb := hg i hlt; unfold goodI mayB at hb; simp at hb; omega
            conv => whnf
            repeat (first
              | (refine And.intro ?_ ?_; (focus (first | omega | decide | exact EqOk.mk (by kernel_rfl) (by kernel_rfl) (by kernel_rfl) | exact Int.natCast_nonneg _ | ((repeat' refine And.intro ?_ ?_) <;> first | omega | exact Int.natCast_nonneg _ | (simp only [i64max, u8max, u16max, u32max, u64max]; omega) | (simp only [mulSz_eq, Cont.len, colsLen, Col.len, List.length_cons, List.length_nil, List.length_replicate, List.length_append, tab_len, t1, t2, t3, t4]; first | done | omega) | (simp [mulSz, Cont.len, bne, tab_len, t1, t2, t3, t4]; first | done | omega)))); conv => whnf)
              | (refine tst_in ?_ ?_; (focus (intro h_; exfalso; first | omega | ((try simp only [decide_eq_true_eq, decide_eq_false_iff_not] at h_); omega) | (simp [mulSz, Cont.len, bne, tab_len, t1, t2, t3, t4] at h_; first | done | omega))); intro _; conv => whnf)
              | (refine tst_in ?_ ?_; rotate_left; (focus (intro h_; exfalso; first | omega | ((try simp only [decide_eq_true_eq, decide_eq_false_iff_not] at h_); omega) | (simp [mulSz, Cont.len, bne, tab_len, t1, t2, t3, t4] at h_; first | done | omega))); intro _; conv => whnf)
              | (refine ⟨(i), (show _ = _ by omega), ?_⟩; conv => whnf)
              | (refine ⟨(i), 0, (show _ = _ by omega), ?_⟩; conv => whnf)
              | (refine ⟨(i), 1, (show _ = _ by omega), ?_⟩; conv => whnf)
              | (refine ⟨(i), 2, (show _ = _ by omega), ?_⟩; conv => whnf)
              | (refine ⟨(i), 3, (show _ = _ by omega), ?_⟩; conv => whnf)
              | (refine ⟨(i), 4, (show _ = _ by omega), ?_⟩; conv => whnf)
              | (refine ⟨(i), 5, (show _ = _ by omega), ?_⟩; conv => whnf)
              | (refine ⟨(0), (show _ = _ by omega), ?_⟩; conv => whnf)
              | (refine ⟨(0), 0, (show _ = _ by omega), ?_⟩; conv => whnf)
              | (refine ⟨(0), 1, (show _ = _ by omega), ?_⟩; conv => whnf)
              | (refine ⟨(0), 2, (show _ = _ by omega), ?_⟩; conv => whnf)
              | (refine ⟨(0), 3, (show _ = _ by omega), ?_⟩; conv => whnf)
              | (refine ⟨(0), 4, (show _ = _ by omega), ?_⟩; conv => whnf)
              | (refine ⟨(0), 5, (show _ = _ by omega), ?_⟩; conv => whnf)
              | (refine ⟨0, (show _ = _ by omega), ?_⟩; conv => whnf))
            rw [a1, z1]
            refine tst_in (fun c1 => ?_) (fun c1' => ?_)
            · have hb : ¬ stepI f n i := fun q => by simp [q.1] at c1
              obtain ⟨rfl, rfl⟩ := form_of hg hJ hlt hb
              conv => whnf
              repeat (first
                | (refine And.intro ?_ ?_; (focus (first | omega | decide | exact EqOk.mk (by kernel_rfl) (by kernel_rfl) (by kernel_rfl) | exact Int.natCast_nonneg _ | ((repeat' refine And.intro ?_ ?_) <;> first | omega | exact Int.natCast_nonneg _ | (simp only [i64max, u8max, u16max, u32max, u64max]; omega) | (simp only [mulSz_eq, Cont.len, colsLen, Col.len, List.length_cons, List.length_nil, List.length_replicate, List.length_append]; first | done | omega) | (simp [mulSz, Cont.len, bne]; first | done | omega)))); conv => whnf)
                | (refine tst_in ?_ ?_; (focus (intro h_; exfalso; first | omega | ((try simp only [decide_eq_true_eq, decide_eq_false_iff_not] at h_); omega) | (simp [mulSz, Cont.len, bne] at h_; first | done | omega))); intro _; conv => whnf)
                | (refine tst_in ?_ ?_; rotate_left; (focus (intro h_; exfalso; first | omega | ((try simp only [decide_eq_true_eq, decide_eq_false_iff_not] at h_); omega) | (simp [mulSz, Cont.len, bne] at h_; first | done | omega))); intro _; conv => whnf)
                | (refine ⟨0, (show _ = _ by omega), ?_⟩; conv => whnf))
              refine .inl ⟨(), [0], ?_⟩
              conv => whnf
              repeat' (first | exact True.intro | rfl | refine And.intro ?_ ?_)
              all_goals (conv => whnf)
              repeat' (first | exact True.intro | rfl | refine And.intro ?_ ?_)
              all_goals (try omega)
            · skip
              conv => whnf
              repeat (first
                | (refine And.intro ?_ ?_; (focus (first | omega | decide | exact EqOk.mk (by kernel_rfl) (by kernel_rfl) (by kernel_rfl) | exact Int.natCast_nonneg _ | ((repeat' refine And.intro ?_ ?_) <;> first | omega | exact Int.natCast_nonneg _ | (simp only [i64max, u8max, u16max, u32max, u64max]; omega) | (simp only [mulSz_eq, Cont.len, colsLen, Col.len, List.length_cons, List.length_nil, List.length_replicate, List.length_append, tab_len, t1, t2, t3, t4]; first | done | omega) | (simp [mulSz, Cont.len, bne, tab_len, t1, t2, t3, t4]; first | done | omega)))); conv => whnf)
                | (refine tst_in ?_ ?_; (focus (intro h_; exfalso; first | omega | ((try simp only [decide_eq_true_eq, decide_eq_false_iff_not] at h_); omega) | (simp [mulSz, Cont.len, bne, tab_len, t1, t2, t3, t4] at h_; first | done | omega))); intro _; conv => whnf)
                | (refine tst_in ?_ ?_; rotate_left; (focus (intro h_; exfalso; first | omega | ((try simp only [decide_eq_true_eq, decide_eq_false_iff_not] at h_); omega) | (simp [mulSz, Cont.len, bne, tab_len, t1, t2, t3, t4] at h_; first | done | omega))); intro _; conv => whnf)
                | (refine ⟨(i), (show _ = _ by omega), ?_⟩; conv => whnf)
                | (refine ⟨(i), 0, (show _ = _ by omega), ?_⟩; conv => whnf)
                | (refine ⟨(i), 1, (show _ = _ by omega), ?_⟩; conv => whnf)
                | (refine ⟨(i), 2, (show _ = _ by omega), ?_⟩; conv => whnf)
                | (refine ⟨(i), 3, (show _ = _ by omega), ?_⟩; conv => whnf)
                | (refine ⟨(i), 4, (show _ = _ by omega), ?_⟩; conv => whnf)
                | (refine ⟨(i), 5, (show _ = _ by omega), ?_⟩; conv => whnf)
                | (refine ⟨(0), (show _ = _ by omega), ?_⟩; conv => whnf)
                | (refine ⟨(0), 0, (show _ = _ by omega), ?_⟩; conv => whnf)
                | (refine ⟨(0), 1, (show _ = _ by omega), ?_⟩; conv => whnf)
                | (refine ⟨(0), 2, (show _ = _ by omega), ?_⟩; conv => whnf)
                | (refine ⟨(0), 3, (show _ = _ by omega), ?_⟩; conv => whnf)
                | (refine ⟨(0), 4, (show _ = _ by omega), ?_⟩; conv => whnf)
                | (refine ⟨(0), 5, (show _ = _ by omega), ?_⟩; conv => whnf)
                | (refine ⟨0, (show _ = _ by omega), ?_⟩; conv => whnf))
              rw [a2, z2]
              refine tst_in (fun c2 => ?_) (fun c2' => ?_)
              · have hb : ¬ stepI f n i := fun q => by
                  have := q.2.1
                  simp only [u8wrap, Bool.not_eq_true', decide_eq_false_iff_not] at c2
                  omega
                obtain ⟨rfl, rfl⟩ := form_of hg hJ hlt hb
                conv => whnf
                repeat (first
                  | (refine And.intro ?_ ?_; (focus (first | omega | decide | exact EqOk.mk (by kernel_rfl) (by kernel_rfl) (by kernel_rfl) | exact Int.natCast_nonneg _ | ((repeat' refine And.intro ?_ ?_) <;> first | omega | exact Int.natCast_nonneg _ | (simp only [i64max, u8max, u16max, u32max, u64max]; omega) | (simp only [mulSz_eq, Cont.len, colsLen, Col.len, List.length_cons, List.length_nil, List.length_replicate, List.length_append]; first | done | omega) | (simp [mulSz, Cont.len, bne]; first | done | omega)))); conv => whnf)
                  | (refine tst_in ?_ ?_; (focus (intro h_; exfalso; first | omega | ((try simp only [decide_eq_true_eq, decide_eq_false_iff_not] at h_); omega) | (simp [mulSz, Cont.len, bne] at h_; first | done | omega))); intro _; conv => whnf)
                  | (refine tst_in ?_ ?_; rotate_left; (focus (intro h_; exfalso; first | omega | ((try simp only [decide_eq_true_eq, decide_eq_false_iff_not] at h_); omega) | (simp [mulSz, Cont.len, bne] at h_; first | done | omega))); intro _; conv => whnf)
                  | (refine ⟨0, (show _ = _ by omega), ?_⟩; conv => whnf))
                refine .inl ⟨(), [0], ?_⟩
                conv => whnf
                repeat' (first | exact True.intro | rfl | refine And.intro ?_ ?_)
                all_goals (conv => whnf)
                repeat' (first | exact True.intro | rfl | refine And.intro ?_ ?_)
                all_goals (try omega)
              · skip
                conv => whnf
                repeat (first
                  | (refine And.intro ?_ ?_; (focus (first | omega | decide | exact EqOk.mk (by kernel_rfl) (by kernel_rfl) (by kernel_rfl) | exact Int.natCast_nonneg _ | ((repeat' refine And.intro ?_ ?_) <;> first | omega | exact Int.natCast_nonneg _ | (simp only [i64max, u8max, u16max, u32max, u64max]; omega) | (simp only [mulSz_eq, Cont.len, colsLen, Col.len, List.length_cons, List.length_nil, List.length_replicate, List.length_append, tab_len, t1, t2, t3, t4]; first | done | omega) | (simp [mulSz, Cont.len, bne, tab_len, t1, t2, t3, t4]; first | done | omega)))); conv => whnf)
                  | (refine tst_in ?_ ?_; (focus (intro h_; exfalso; first | omega | ((try simp only [decide_eq_true_eq, decide_eq_false_iff_not] at h_); omega) | (simp [mulSz, Cont.len, bne, tab_len, t1, t2, t3, t4] at h_; first | done | omega))); intro _; conv => whnf)
                  | (refine tst_in ?_ ?_; rotate_left; (focus (intro h_; exfalso; first | omega | ((try simp only [decide_eq_true_eq, decide_eq_false_iff_not] at h_); omega) | (simp [mulSz, Cont.len, bne, tab_len, t1, t2, t3, t4] at h_; first | done | omega))); intro _; conv => whnf)
                  | (refine ⟨(i), (show _ = _ by omega), ?_⟩; conv => whnf)
                  | (refine ⟨(i), 0, (show _ = _ by omega), ?_⟩; conv => whnf)
                  | (refine ⟨(i), 1, (show _ = _ by omega), ?_⟩; conv => whnf)
                  | (refine ⟨(i), 2, (show _ = _ by omega), ?_⟩; conv => whnf)
                  | (refine ⟨(i), 3, (show _ = _ by omega), ?_⟩; conv => whnf)
                  | (refine ⟨(i), 4, (show _ = _ by omega), ?_⟩; conv => whnf)
                  | (refine ⟨(i), 5, (show _ = _ by omega), ?_⟩; conv => whnf)
                  | (refine ⟨(0), (show _ = _ by omega), ?_⟩; conv => whnf)
                  | (refine ⟨(0), 0, (show _ = _ by omega), ?_⟩; conv => whnf)
                  | (refine ⟨(0), 1, (show _ = _ by omega), ?_⟩; conv => whnf)
                  | (refine ⟨(0), 2, (show _ = _ by omega), ?_⟩; conv => whnf)
                  | (refine ⟨(0), 3, (show _ = _ by omega), ?_⟩; conv => whnf)
                  | (refine ⟨(0), 4, (show _ = _ by omega), ?_⟩; conv => whnf)
                  | (refine ⟨(0), 5, (show _ = _ by omega), ?_⟩; conv => whnf)
                  | (refine ⟨0, (show _ = _ by omega), ?_⟩; conv => whnf))
                rw [a3]
                refine tst_in (fun c3 => ?_) (fun c3' => ?_)
                · have hb : ¬ stepI f n i := fun q => by
                    have := q.2.2
                    rw [this, dLt_eq, show decide (i + 1 < n) = decide ((i : Int) < (n : Int) - 1) by rw [decide_eq_decide]; omega] at c3
                    simp at c3
                  obtain ⟨rfl, rfl⟩ := form_of hg hJ hlt hb
                  conv => whnf
                  repeat (first
                    | (refine And.intro ?_ ?_; (focus (first | omega | decide | exact EqOk.mk (by kernel_rfl) (by kernel_rfl) (by kernel_rfl) | exact Int.natCast_nonneg _ | ((repeat' refine And.intro ?_ ?_) <;> first | omega | exact Int.natCast_nonneg _ | (simp only [i64max, u8max, u16max, u32max, u64max]; omega) | (simp only [mulSz_eq, Cont.len, colsLen, Col.len, List.length_cons, List.length_nil, List.length_replicate, List.length_append]; first | done | omega) | (simp [mulSz, Cont.len, bne]; first | done | omega)))); conv => whnf)
                    | (refine tst_in ?_ ?_; (focus (intro h_; exfalso; first | omega | ((try simp only [decide_eq_true_eq, decide_eq_false_iff_not] at h_); omega) | (simp [mulSz, Cont.len, bne] at h_; first | done | omega))); intro _; conv => whnf)
                    | (refine tst_in ?_ ?_; rotate_left; (focus (intro h_; exfalso; first | omega | ((try simp only [decide_eq_true_eq, decide_eq_false_iff_not] at h_); omega) | (simp [mulSz, Cont.len, bne] at h_; first | done | omega))); intro _; conv => whnf)
                    | (refine ⟨0, (show _ = _ by omega), ?_⟩; conv => whnf))
                  refine .inl ⟨(), [0], ?_⟩
                  conv => whnf
                  repeat' (first | exact True.intro | rfl | refine And.intro ?_ ?_)
                  all_goals (conv => whnf)
                  repeat' (first | exact True.intro | rfl | refine And.intro ?_ ?_)
                  all_goals (try omega)
                · skip
                  have hst : stepI f n i := by
                    refine ⟨by simpa using c1', ?_, ?_⟩
                    · simp only [u8wrap, Bool.not_eq_false', decide_eq_true_eq] at c2'
                      omega
                    · rw [show decide (i + 1 < n) = decide ((i : Int) < (n : Int) - 1) by rw [decide_eq_decide]; omega]
                      rw [dLt_eq] at c3'
                      simpa using c3'
                  conv => whnf
                  repeat (first
                    | (refine And.intro ?_ ?_; (focus (first | omega | decide | exact EqOk.mk (by kernel_rfl) (by kernel_rfl) (by kernel_rfl) | exact Int.natCast_nonneg _ | ((repeat' refine And.intro ?_ ?_) <;> first | omega | exact Int.natCast_nonneg _ | (simp only [i64max, u8max, u16max, u32max, u64max]; omega) | (simp only [mulSz_eq, Cont.len, colsLen, Col.len, List.length_cons, List.length_nil, List.length_replicate, List.length_append, tab_len, t1, t2, t3, t4, a4]; first | done | omega) | (simp [mulSz, Cont.len, bne, tab_len, t1, t2, t3, t4, a4]; first | done | omega)))); conv => whnf)
                    | (refine tst_in ?_ ?_; (focus (intro h_; exfalso; first | omega | ((try simp only [decide_eq_true_eq, decide_eq_false_iff_not] at h_); omega) | (simp [mulSz, Cont.len, bne, tab_len, t1, t2, t3, t4, a4] at h_; first | done | omega))); intro _; conv => whnf)
                    | (refine tst_in ?_ ?_; rotate_left; (focus (intro h_; exfalso; first | omega | ((try simp only [decide_eq_true_eq, decide_eq_false_iff_not] at h_); omega) | (simp [mulSz, Cont.len, bne, tab_len, t1, t2, t3, t4, a4] at h_; first | done | omega))); intro _; conv => whnf)
                    | (refine ⟨(i), (show _ = _ by omega), ?_⟩; conv => whnf)
                    | (refine ⟨(i), 0, (show _ = _ by omega), ?_⟩; conv => whnf)
                    | (refine ⟨(i), 1, (show _ = _ by omega), ?_⟩; conv => whnf)
                    | (refine ⟨(i), 2, (show _ = _ by omega), ?_⟩; conv => whnf)
                    | (refine ⟨(i), 3, (show _ = _ by omega), ?_⟩; conv => whnf)
                    | (refine ⟨(i), 4, (show _ = _ by omega), ?_⟩; conv => whnf)
                    | (refine ⟨(i), 5, (show _ = _ by omega), ?_⟩; conv => whnf)
                    | (refine ⟨(0), (show _ = _ by omega), ?_⟩; conv => whnf)
                    | (refine ⟨(0), 0, (show _ = _ by omega), ?_⟩; conv => whnf)
                    | (refine ⟨(0), 1, (show _ = _ by omega), ?_⟩; conv => whnf)
                    | (refine ⟨(0), 2, (show _ = _ by omega), ?_⟩; conv => whnf)
                    | (refine ⟨(0), 3, (show _ = _ by omega), ?_⟩; conv => whnf)
                    | (refine ⟨(0), 4, (show _ = _ by omega), ?_⟩; conv => whnf)
                    | (refine ⟨(0), 5, (show _ = _ by omega), ?_⟩; conv => whnf)
                    | (refine ⟨0, (show _ = _ by omega), ?_⟩; conv => whnf))
                  refine ⟨[0], i + 1, ?_, ⟨(by show i + 1 ≤ n; omega), fun j hj => by by_cases h : j = i; subst h; exact hst; exact hs j (by omega)⟩, (by show n - (i + 1) < n - i; omega)⟩
                  have hcl : (cat f (i + 1)).length = (cat f i).length + (f.B i).size := by show (cat f i ++ bytL (f.B i)).length = _; rw [List.length_append, bytL_len]
                  show stLe _ _ (st19b f n ca t (i + 1)) _
                  conv => whnf
                  repeat' (first | exact True.intro | rfl | refine And.intro ?_ ?_)
                  all_goals (conv => whnf)
                  repeat' (first | exact True.intro | rfl | refine And.intro ?_ ?_)
                  all_goals (try omega)
                  all_goals (rw [a4, hcl]; omega)
          · skip
            have hge : i = n := by simp at h5'; omega
            rw [hge] at hs hc ⊢
            clear hi h5'
            by_cases hL : (cat f n).length ≤ 32768
            · obtain ⟨hX, rfl⟩ := all_of hg hJ (by omega) hs hL
              conv => whnf
              repeat (first
                | (refine And.intro ?_ ?_; (focus (first | omega | decide | exact EqOk.mk (by kernel_rfl) (by kernel_rfl) (by kernel_rfl) | exact Int.natCast_nonneg _ | ((repeat' refine And.intro ?_ ?_) <;> first | omega | exact Int.natCast_nonneg _ | (simp only [i64max, u8max, u16max, u32max, u64max]; omega) | (simp only [mulSz_eq, Cont.len, colsLen, Col.len, List.length_cons, List.length_nil, List.length_replicate, List.length_append]; first | done | omega) | (simp [mulSz, Cont.len, bne]; first | done | omega)))); conv => whnf)
                | (refine tst_in ?_ ?_; (focus (intro h_; exfalso; first | omega | ((try simp only [decide_eq_true_eq, decide_eq_false_iff_not] at h_); omega) | (simp [mulSz, Cont.len, bne] at h_; first | done | omega))); intro _; conv => whnf)
                | (refine tst_in ?_ ?_; rotate_left; (focus (intro h_; exfalso; first | omega | ((try simp only [decide_eq_true_eq, decide_eq_false_iff_not] at h_); omega) | (simp [mulSz, Cont.len, bne] at h_; first | done | omega))); intro _; conv => whnf)
                | (refine ⟨0, (show _ = _ by omega), ?_⟩; conv => whnf))
              refine ⟨⟨[0, 1], (0, List.replicate (cat f n).length 0), ?_, Nat.zero_le _⟩, ?_⟩
              · show stLe _ _ (st19c f n ca t 0 (List.replicate (cat f n).length 0)) _
                conv => whnf
                repeat' (first | exact True.intro | rfl | refine And.intro ?_ ?_)
                all_goals (conv => whnf)
                repeat' (first | exact True.intro | rfl | refine And.intro ?_ ?_)
                all_goals (try omega)
                simp [cat]
              · intro ⟨i, u⟩ (hi : i ≤ n)
                show forceSt (st19c f n ca t i u) _
                conv => whnf
                repeat (first
                  | (refine And.intro ?_ ?_; (focus (first | omega | decide | exact EqOk.mk (by kernel_rfl) (by kernel_rfl) (by kernel_rfl) | exact Int.natCast_nonneg _ | ((repeat' refine And.intro ?_ ?_) <;> first | omega | exact Int.natCast_nonneg _ | (simp only [i64max, u8max, u16max, u32max, u64max]; omega) | (simp only [mulSz_eq, Cont.len, colsLen, Col.len, List.length_cons, List.length_nil, List.length_replicate, List.length_append]; first | done | omega) | (simp [mulSz, Cont.len, bne]; first | done | omega)))); conv => whnf)
                  | (refine tst_in ?_ ?_; (focus (intro h_; exfalso; first | omega | ((try simp only [decide_eq_true_eq, decide_eq_false_iff_not] at h_); omega) | (simp [mulSz, Cont.len, bne] at h_; first | done | omega))); intro _; conv => whnf)
                  | (refine tst_in ?_ ?_; rotate_left; (focus (intro h_; exfalso; first | omega | ((try simp only [decide_eq_true_eq, decide_eq_false_iff_not] at h_); omega) | (simp [mulSz, Cont.len, bne] at h_; first | done | omega))); intro _; conv => whnf)
                  | (refine ⟨0, (show _ = _ by omega), ?_⟩; conv => whnf))
                refine tst_in (fun h5 => ?_) (fun h5' => ?_)
                · skip
                  have hlt : i < n := by simp at h5; omega
                  have a4 : (tb f.B n ++ t.tB).getD i ByteArray.empty = f.B i := tab_app _ _ _ hlt
                  have hB : (f.B i).size ≤ 240 := by have hb := hg i hlt; unfold goodI mayB at hb; simp at hb; omega
                  have hc := cat_len f i (fun j hj => hg j (by omega))
                  conv => whnf
                  repeat (first
                    | (refine And.intro ?_ ?_; (focus (first | omega | decide | exact EqOk.mk (by kernel_rfl) (by kernel_rfl) (by kernel_rfl) | exact Int.natCast_nonneg _ | ((repeat' refine And.intro ?_ ?_) <;> first | omega | exact Int.natCast_nonneg _ | (simp only [i64max, u8max, u16max, u32max, u64max]; omega) | (simp only [mulSz_eq, Cont.len, colsLen, Col.len, List.length_cons, List.length_nil, List.length_replicate, List.length_append, tab_len, t1, t2, t3, t4, a4]; first | done | omega) | (simp [mulSz, Cont.len, bne, tab_len, t1, t2, t3, t4, a4]; first | done | omega)))); conv => whnf)
                    | (refine tst_in ?_ ?_; (focus (intro h_; exfalso; first | omega | ((try simp only [decide_eq_true_eq, decide_eq_false_iff_not] at h_); omega) | (simp [mulSz, Cont.len, bne, tab_len, t1, t2, t3, t4, a4] at h_; first | done | omega))); intro _; conv => whnf)
                    | (refine tst_in ?_ ?_; rotate_left; (focus (intro h_; exfalso; first | omega | ((try simp only [decide_eq_true_eq, decide_eq_false_iff_not] at h_); omega) | (simp [mulSz, Cont.len, bne, tab_len, t1, t2, t3, t4, a4] at h_; first | done | omega))); intro _; conv => whnf)
                    | (refine ⟨(i), (show _ = _ by omega), ?_⟩; conv => whnf)
                    | (refine ⟨(i), 0, (show _ = _ by omega), ?_⟩; conv => whnf)
                    | (refine ⟨(i), 1, (show _ = _ by omega), ?_⟩; conv => whnf)
                    | (refine ⟨(i), 2, (show _ = _ by omega), ?_⟩; conv => whnf)
                    | (refine ⟨(i), 3, (show _ = _ by omega), ?_⟩; conv => whnf)
                    | (refine ⟨(i), 4, (show _ = _ by omega), ?_⟩; conv => whnf)
                    | (refine ⟨(i), 5, (show _ = _ by omega), ?_⟩; conv => whnf)
                    | (refine ⟨0, (show _ = _ by omega), ?_⟩; conv => whnf))
                  intro tl
                  change List Int at tl
                  conv => whnf
                  repeat (first
                    | (refine And.intro ?_ ?_; (focus (first | omega | decide | exact EqOk.mk (by kernel_rfl) (by kernel_rfl) (by kernel_rfl) | exact Int.natCast_nonneg _ | ((repeat' refine And.intro ?_ ?_) <;> first | omega | exact Int.natCast_nonneg _ | (simp only [i64max, u8max, u16max, u32max, u64max]; omega) | (simp only [mulSz_eq, Cont.len, colsLen, Col.len, List.length_cons, List.length_nil, List.length_replicate, List.length_append, tab_len, t1, t2, t3, t4, a4]; first | done | omega) | (simp [mulSz, Cont.len, bne, tab_len, t1, t2, t3, t4, a4]; first | done | omega)))); conv => whnf)
                    | (refine tst_in ?_ ?_; (focus (intro h_; exfalso; first | omega | ((try simp only [decide_eq_true_eq, decide_eq_false_iff_not] at h_); omega) | (simp [mulSz, Cont.len, bne, tab_len, t1, t2, t3, t4, a4] at h_; first | done | omega))); intro _; conv => whnf)
                    | (refine tst_in ?_ ?_; rotate_left; (focus (intro h_; exfalso; first | omega | ((try simp only [decide_eq_true_eq, decide_eq_false_iff_not] at h_); omega) | (simp [mulSz, Cont.len, bne, tab_len, t1, t2, t3, t4, a4] at h_; first | done | omega))); intro _; conv => whnf)
                    | (refine ⟨(i), (show _ = _ by omega), ?_⟩; conv => whnf)
                    | (refine ⟨(i), 0, (show _ = _ by omega), ?_⟩; conv => whnf)
                    | (refine ⟨(i), 1, (show _ = _ by omega), ?_⟩; conv => whnf)
                    | (refine ⟨(i), 2, (show _ = _ by omega), ?_⟩; conv => whnf)
                    | (refine ⟨(i), 3, (show _ = _ by omega), ?_⟩; conv => whnf)
                    | (refine ⟨(i), 4, (show _ = _ by omega), ?_⟩; conv => whnf)
                    | (refine ⟨(i), 5, (show _ = _ by omega), ?_⟩; conv => whnf)
                    | (refine ⟨(0), (show _ = _ by omega), ?_⟩; conv => whnf)
                    | (refine ⟨(0), 0, (show _ = _ by omega), ?_⟩; conv => whnf)
                    | (refine ⟨(0), 1, (show _ = _ by omega), ?_⟩; conv => whnf)
                    | (refine ⟨(0), 2, (show _ = _ by omega), ?_⟩; conv => whnf)
                    | (refine ⟨(0), 3, (show _ = _ by omega), ?_⟩; conv => whnf)
                    | (refine ⟨(0), 4, (show _ = _ by omega), ?_⟩; conv => whnf)
                    | (refine ⟨(0), 5, (show _ = _ by omega), ?_⟩; conv => whnf)
                    | (refine ⟨0, (show _ = _ by omega), ?_⟩; conv => whnf))
                  refine ⟨[0, 3], (i + 1, tl), ?_, (by show i + 1 ≤ n; omega), (by show n - (i + 1) < n - i; omega)⟩
                  have hcl : (cat f (i + 1)).length = (cat f i).length + (f.B i).size := by show (cat f i ++ bytL (f.B i)).length = _; rw [List.length_append, bytL_len]
                  show stLe _ _ (st19c f n ca t (i + 1) tl) _
                  conv => whnf
                  repeat' (first | exact True.intro | rfl | refine And.intro ?_ ?_)
                  all_goals (conv => whnf)
                  repeat' (first | exact True.intro | rfl | refine And.intro ?_ ?_)
                  all_goals (try omega)
                  all_goals rw [a4]
                  · exact hcl
                  · rw [hcl]
                  · show cat f i ++ bytL (f.B i) ++ tl = List.take (cat f i).length _ ++ bytL (f.B i) ++ tl
                    rw [List.drop_zero, List.take_left' rfl]
                · skip
                  have hge : i = n := by simp at h5'; omega
                  subst hge
                  conv => whnf
                  repeat (first
                    | (refine And.intro ?_ ?_; (focus (first | omega | decide | exact EqOk.mk (by kernel_rfl) (by kernel_rfl) (by kernel_rfl) | exact Int.natCast_nonneg _ | ((repeat' refine And.intro ?_ ?_) <;> first | omega | exact Int.natCast_nonneg _ | (simp only [i64max, u8max, u16max, u32max, u64max]; omega) | (simp only [mulSz_eq, Cont.len, colsLen, Col.len, List.length_cons, List.length_nil, List.length_replicate, List.length_append]; first | done | omega) | (simp [mulSz, Cont.len, bne]; first | done | omega)))); conv => whnf)
                    | (refine tst_in ?_ ?_; (focus (intro h_; exfalso; first | omega | ((try simp only [decide_eq_true_eq, decide_eq_false_iff_not] at h_); omega) | (simp [mulSz, Cont.len, bne] at h_; first | done | omega))); intro _; conv => whnf)
                    | (refine tst_in ?_ ?_; rotate_left; (focus (intro h_; exfalso; first | omega | ((try simp only [decide_eq_true_eq, decide_eq_false_iff_not] at h_); omega) | (simp [mulSz, Cont.len, bne] at h_; first | done | omega))); intro _; conv => whnf)
                    | (refine ⟨0, (show _ = _ by omega), ?_⟩; conv => whnf))
                  refine .inl ⟨(), [0], ?_⟩
                  conv => whnf
                  repeat' (first | exact True.intro | rfl | refine And.intro ?_ ?_)
                  all_goals (conv => whnf)
                  repeat' (first | exact True.intro | rfl | refine And.intro ?_ ?_)
                  all_goals (try omega)
                  show X = tx _
                  rw [List.drop_zero, List.take_left' rfl, ← hX, tx_bytL]
            · obtain ⟨rfl, rfl⟩ := long_of hg hJ (by omega) hs (by omega)
              conv => whnf
              repeat (first
                | (refine And.intro ?_ ?_; (focus (first | omega | decide | exact EqOk.mk (by kernel_rfl) (by kernel_rfl) (by kernel_rfl) | exact Int.natCast_nonneg _ | ((repeat' refine And.intro ?_ ?_) <;> first | omega | exact Int.natCast_nonneg _ | (simp only [i64max, u8max, u16max, u32max, u64max]; omega) | (simp only [mulSz_eq, Cont.len, colsLen, Col.len, List.length_cons, List.length_nil, List.length_replicate, List.length_append]; first | done | omega) | (simp [mulSz, Cont.len, bne]; first | done | omega)))); conv => whnf)
                | (refine tst_in ?_ ?_; (focus (intro h_; exfalso; first | omega | ((try simp only [decide_eq_true_eq, decide_eq_false_iff_not] at h_); omega) | (simp [mulSz, Cont.len, bne] at h_; first | done | omega))); intro _; conv => whnf)
                | (refine tst_in ?_ ?_; rotate_left; (focus (intro h_; exfalso; first | omega | ((try simp only [decide_eq_true_eq, decide_eq_false_iff_not] at h_); omega) | (simp [mulSz, Cont.len, bne] at h_; first | done | omega))); intro _; conv => whnf)
                | (refine ⟨0, (show _ = _ by omega), ?_⟩; conv => whnf))
              refine .inl ⟨(), [0], ?_⟩
              conv => whnf
              repeat' (first | exact True.intro | rfl | refine And.intro ?_ ?_)
              all_goals (conv => whnf)
              repeat' (first | exact True.intro | rfl | refine And.intro ?_ ?_)
              all_goals (try omega)
end Go.Proofs.Ytdkogicikhlicaa

set_option linter.unusedVariables false
set_option linter.unusedSimpArgs false
namespace Go.Proofs.Ytdkogicikhlicaa
open Go Go.Fw
noncomputable def pN (k : Int) (L : Nat) (mo : Int) : Nat := if 1 ≤ k ∧ k ≤ 15 ∧ L ≤ 32768 ∧ 1 ≤ mo ∧ mo ≤ 240 then pcR L mo.toNat + 1 else 0
noncomputable def pE (k : Int) (L : Nat) (mo : Int) : Int := if 1 ≤ k ∧ k ≤ 15 ∧ L ≤ 32768 ∧ 1 ≤ mo ∧ mo ≤ 240 then 0 else 1
noncomputable def pOut (k n0 : Int) (s : ByteArray) (mo : Int) : FOut := ⟨FT, fun t => t.ok, fun t => .tup [.slice 0 0 (pN k s.size mo) (pN k s.size mo + t.q), .int .i64 (pE k s.size mo)], fun t => [(pFR k n0 s mo.toNat).seg true (pN k s.size mo) t]⟩
theorem Pieces_u (k n0 mo : Int) (s : ByteArray) (hk : 0 ≤ k ∧ k ≤ 255) (hn : 0 ≤ n0 ∧ n0 ≤ 255) (hmo : -9223372036854775808 ≤ mo ∧ mo ≤ 9223372036854775807) (hs : s.size ≤ 9223372036854775807) :
    Fits Try.prog 16 ⟨[.int .u8 k, .int .u8 n0, .str s, .int .i64 mo], [], [pOut k n0 s mo]⟩ := by
  unfold pOut
  by_cases h : okP k s.size mo
  · obtain ⟨h1, h2, h3, h4, h5⟩ := id h
    have hP := Pieces_f k n0 s mo.toNat h1 h2 hn.1 hn.2 h3 (by omega) (by omega)
    rw [show pN k s.size mo = pcR s.size mo.toNat + 1 from if_pos h, show pE k s.size mo = 0 from if_pos h]
    rw [show ((mo.toNat : Nat) : Int) = mo by omega] at hP
    exact hP
  · rw [show pN k s.size mo = 0 from if_neg h, show pE k s.size mo = 1 from if_neg h]
    exact Pieces_n k n0 mo s hk hmo hs h
theorem rPieces_u (k n0 mo : Int) (s : ByteArray) (hk : 0 ≤ k ∧ k ≤ 255) (hn : 0 ≤ n0 ∧ n0 ≤ 255) (hmo : -9223372036854775808 ≤ mo ∧ mo ≤ 9223372036854775807) (hs : s.size ≤ 9223372036854775807) :
    Fits Try.prog 17 ⟨[.int .u8 k, .int .u8 n0, .str s, .int .i64 mo], [], [pOut k n0 s mo]⟩ := by
  unfold pOut
  by_cases h : okP k s.size mo
  · obtain ⟨h1, h2, h3, h4, h5⟩ := id h
    have hP := rPieces_f k n0 s mo.toNat h1 h2 hn.1 hn.2 h3 (by omega) (by omega)
    rw [show pN k s.size mo = pcR s.size mo.toNat + 1 from if_pos h, show pE k s.size mo = 0 from if_pos h]
    rw [show ((mo.toNat : Nat) : Int) = mo by omega] at hP
    exact hP
  · rw [show pN k s.size mo = 0 from if_neg h, show pE k s.size mo = 1 from if_neg h]
    exact rPieces_n k n0 mo s hk hmo hs h
theorem cat_in (f : FR) : ∀ n, ∀ x ∈ cat f n, 0 ≤ x ∧ x < 256
  | 0, x, h => by simp [cat] at h
  | n + 1, x, h => by
    rcases List.mem_append.1 (show x ∈ cat f n ++ bytL (f.B n) from h) with h | h
    · exact cat_in f n x h
    · unfold bytL at h
      obtain ⟨b, _, rfl⟩ := List.mem_map.1 h
      have := UInt8.toNat_lt b
      omega
theorem joins_ex (f : FR) (n : Nat) : ∃ X e, Joins f n X e := by
  by_cases hg : ∀ j, j < n → goodI f j
  · by_cases h0 : n = 0
    · exact ⟨_, _, .none h0⟩
    · by_cases hs : ∀ j, j < n → stepI f n j
      · by_cases hL : (cat f n).length ≤ 32768
        · exact ⟨tx (cat f n), 0, .all _ (by omega) hg hs hL (bytL_tx _ (cat_in f n))⟩
        · exact ⟨_, _, .long (by omega) hg hs (by omega)⟩
      · obtain ⟨j, hj⟩ := Classical.not_forall.1 hs
        obtain ⟨hj, h⟩ := Classical.not_imp.1 hj
        exact ⟨_, _, .form j hg hj h⟩
  · obtain ⟨j, hj⟩ := Classical.not_forall.1 hg
    obtain ⟨hj, h⟩ := Classical.not_imp.1 hj
    exact ⟨_, _, .bad j hj h⟩
theorem pN_le (k : Int) (L : Nat) (mo : Int) : pN k L mo ≤ 32769 := by
  unfold pN
  split
  · rename_i h
    unfold pcR
    have := Nat.div_le_self (L - 1) mo.toNat
    omega
  · omega
end Go.Proofs.Ytdkogicikhlicaa

set_option linter.unusedVariables false
set_option linter.unusedSimpArgs false
namespace Go.Proofs.Ytdkogicikhlicaa
open Go Go.Fw
noncomputable def c5 : Code := (Try.f5.body).getD .skip
def flipF (f : FR) (n : Nat) : FR := ⟨f.K, f.N, fun i => if i + 1 = n then !f.M i else f.M i, f.B⟩
def okR (f : FR) (n : Nat) : Prop := ∀ i, i < n → (0 ≤ f.K i ∧ f.K i ≤ 255) ∧ 0 ≤ f.N i ∧ f.N i ≤ 255
def rowF (f : FR) (c : Nat) : Seg := frS false (tb f.K c) (tb f.N c) (tb f.M c) (tb f.B c)
noncomputable def st5 (k n0 : Int) (s : ByteArray) (mo : Int) (f : FR) (c n : Nat) (ta tb' : FT) (g : FR) (t : FT) (r : Nat) : St :=
  ⟨slotsAt 122 [(0, .int .u8 k), (1, .int .u8 n0), (2, .str s), (3, .int .i64 mo), (11, .slice 1 0 (pN k s.size mo) (pN k s.size mo + ta.q)), (13, .slice 2 0 (pN k s.size mo) (pN k s.size mo + tb'.q)), (15, .slice 3 0 n (n + t.q)), (16, .int .i64 r)],
    [rowF f c, (pFR k n0 s mo.toNat).seg true (pN k s.size mo) ta, (pFR k n0 s mo.toNat).seg true (pN k s.size mo) tb', g.seg true n t]⟩
structure LT where
  ta : FT
  tb : FT
  g : FR
  t : FT
  r : Nat
noncomputable def inv5 (k n0 : Int) (s : ByteArray) (mo : Int) (f : FR) (c n : Nat) : LInv := ⟨LT, fun x => st5 k n0 s mo f c n x.ta x.tb x.g x.t x.r, fun x => x.r ≤ 2 ∧ x.ta.ok ∧ x.tb.ok ∧ x.t.ok ∧ okR x.g n, fun x => 2 - x.r⟩
theorem take_tb {α : Type} (F : Nat → α) (c n : Nat) (h : n ≤ c) : List.take n (List.drop 0 (tb F c)) = tb F n := by
  rw [List.drop_zero]
  unfold tb
  rw [← List.map_take, List.take_range, Nat.min_eq_left h]
theorem take_tb2 {α : Type} (F : Nat → α) (n : Nat) (t : List α) : List.take n (List.drop 0 (tb F n ++ t)) = tb F n := by
  rw [List.drop_zero, List.take_left' (tab_len F n)]
structure LU where
  K : List Int
  N : List Int
  M : List Bool
  B : List ByteArray
  q : Nat
  tb : FT
  i : Nat
noncomputable def st5b (k n0 : Int) (s : ByteArray) (mo : Int) (f : FR) (c : Nat) (K N : List Int) (M : List Bool) (B : List ByteArray) (q : Nat) (t : FT) (i : Nat) : St :=
  ⟨slotsAt 122 [(0, .int .u8 k), (1, .int .u8 n0), (2, .str s), (3, .int .i64 mo), (11, .slice 1 0 (pN k s.size mo) (pN k s.size mo + q)), (13, .slice 2 0 (pN k s.size mo) (pN k s.size mo + t.q)), (22, .int .i64 i)],
    [rowF f c, frS true K N M B, (pFR k n0 s mo.toNat).seg true (pN k s.size mo) t]⟩
noncomputable def inv5b (k n0 : Int) (s : ByteArray) (mo : Int) (f : FR) (c : Nat) : LInv := ⟨LU, fun x => st5b k n0 s mo f c x.K x.N x.M x.B x.q x.tb x.i, fun x => (x.i ≤ pN k s.size mo ∧ x.tb.ok) ∧ x.K.length = pN k s.size mo + x.q ∧ x.N.length = pN k s.size mo + x.q ∧ x.M.length = pN k s.size mo + x.q ∧ x.B.length = pN k s.size mo + x.q, fun x => pN k s.size mo - x.i⟩
theorem set_flip (M : Nat → Bool) (n : Nat) (t : List Bool) (h0 : 0 < n) (x : Bool) (hx : x = !M (n - 1)) : (tb M n ++ t).set (n - 1) x = tb (fun i => if i + 1 = n then !M i else M i) n ++ t := by
  rw [List.set_append_left _ _ (by rw [tab_len]; omega)]
  congr 1
  apply row_ext false (by simp [tab_len])
  intro i hi
  rw [List.length_set, tab_len] at hi
  rw [g_set, tab_get _ _ hi, tab_get _ _ hi, tab_len]
  by_cases h : n - 1 = i
  · subst h
    rw [if_pos ⟨rfl, by omega⟩, if_pos (by omega), hx]
  · rw [if_neg (fun q => h q.1), if_neg (by omega)]
set_option maxHeartbeats 0 in
set_option maxRecDepth 100000 in
theorem law_g (k n0 mo : Int) (s : ByteArray) (f : FR) (n ca c : Nat) (hk : 0 ≤ k ∧ k ≤ 255) (hn0 : 0 ≤ n0 ∧ n0 ≤ 255) (hmo : -9223372036854775808 ≤ mo ∧ mo ≤ 9223372036854775807) (hs : s.size ≤ 9223372036854775807)
    (hn : n ≤ 1048576) (hc : n ≤ c) (hf : okR f n) :
    Fits Try.prog 5 ⟨[.int .u8 k, .int .u8 n0, .str s, .int .i64 mo, .slice 0 0 n c], [rowF f c], [numOut [.dead] (.bool true)]⟩ := by
  have hP := pN_le k s.size mo
  have PU := Pieces_u k n0 mo s hk hn0 hmo hs
  have RU := rPieces_u k n0 mo s hk hn0 hmo hs
  have he : decide (pE k s.size mo = pE k s.size mo) = true := by simp
  unfold rowF
  refine fits_of_body (C := cfgs 1) (c := c5) (ts := [10]) tokL mixedL (fun | 7 => some (inv5 k n0 s mo f c n) | 17 => some (inv5b k n0 s mo f c) | _ => none) (fun _ => none)
    Try.func5 (by kernel_rfl) (by kernel_rfl) (by kernel_rfl) (by kernel_rfl) rfl ?_
  conv => whnf
  repeat (first
    | (refine And.intro ?_ ?_; (focus (first | omega | decide | exact EqOk.mk (by kernel_rfl) (by kernel_rfl) (by kernel_rfl) | exact Int.natCast_nonneg _ | ((repeat' refine And.intro ?_ ?_) <;> first | omega | exact Int.natCast_nonneg _ | (simp only [i64max, u8max, u16max, u32max, u64max]; omega) | (simp only [mulSz_eq, Cont.len, colsLen, Col.len, List.length_cons, List.length_nil, List.length_replicate, List.length_append]; first | done | omega) | (simp [mulSz, Cont.len, bne]; first | done | omega)))); conv => whnf)
    | (refine tst_in ?_ ?_; (focus (intro h_; exfalso; first | omega | ((try simp only [decide_eq_true_eq, decide_eq_false_iff_not] at h_); omega) | (simp [mulSz, Cont.len, bne] at h_; first | done | omega))); intro _; conv => whnf)
    | (refine tst_in ?_ ?_; rotate_left; (focus (intro h_; exfalso; first | omega | ((try simp only [decide_eq_true_eq, decide_eq_false_iff_not] at h_); omega) | (simp [mulSz, Cont.len, bne] at h_; first | done | omega))); intro _; conv => whnf)
    | (refine ⟨0, (show _ = _ by omega), ?_⟩; conv => whnf))
  refine ⟨_, [], PU, ?_⟩
  conv => whnf
  iterate 2
   refine And.intro ?_ ?_
   focus
    conv => whnf
    repeat' (first | exact True.intro | rfl | refine And.intro ?_ ?_)
    all_goals (conv => whnf)
    repeat' (first | exact True.intro | rfl | refine And.intro ?_ ?_)
    all_goals (try (first | rfl | omega | (simp; first | done | omega)))
  conv => whnf
  refine ⟨?_, True.intro⟩
  rintro ta hta
  conv => whnf
  conv => whnf
  repeat (first
    | (refine And.intro ?_ ?_; (focus (first | omega | decide | exact EqOk.mk (by kernel_rfl) (by kernel_rfl) (by kernel_rfl) | exact Int.natCast_nonneg _ | ((repeat' refine And.intro ?_ ?_) <;> first | omega | exact Int.natCast_nonneg _ | (simp only [i64max, u8max, u16max, u32max, u64max]; omega) | (simp only [mulSz_eq, Cont.len, colsLen, Col.len, List.length_cons, List.length_nil, List.length_replicate, List.length_append]; first | done | omega) | (simp [mulSz, Cont.len, bne]; first | done | omega)))); conv => whnf)
    | (refine tst_in ?_ ?_; (focus (intro h_; exfalso; first | omega | ((try simp only [decide_eq_true_eq, decide_eq_false_iff_not] at h_); omega) | (simp [mulSz, Cont.len, bne] at h_; first | done | omega))); intro _; conv => whnf)
    | (refine tst_in ?_ ?_; rotate_left; (focus (intro h_; exfalso; first | omega | ((try simp only [decide_eq_true_eq, decide_eq_false_iff_not] at h_); omega) | (simp [mulSz, Cont.len, bne] at h_; first | done | omega))); intro _; conv => whnf)
    | (refine ⟨0, (show _ = _ by omega), ?_⟩; conv => whnf))
  refine ⟨_, [], RU, ?_⟩
  conv => whnf
  iterate 2
   refine And.intro ?_ ?_
   focus
    conv => whnf
    repeat' (first | exact True.intro | rfl | refine And.intro ?_ ?_)
    all_goals (conv => whnf)
    repeat' (first | exact True.intro | rfl | refine And.intro ?_ ?_)
    all_goals (try (first | rfl | omega | (simp; first | done | omega)))
  conv => whnf
  refine ⟨?_, True.intro⟩
  rintro tb' htb
  conv => whnf
  have SA := SameAll_f (pFR k n0 s mo.toNat) (pN k s.size mo) (pN k s.size mo + ta.q) (pN k s.size mo + tb'.q) ta tb' (by omega) (by omega) (by omega) hta htb
  conv => whnf
  repeat (first
    | (refine And.intro ?_ ?_; (focus (first | omega | decide | exact EqOk.mk (by kernel_rfl) (by kernel_rfl) (by kernel_rfl) | exact Int.natCast_nonneg _ | ((repeat' refine And.intro ?_ ?_) <;> first | omega | exact Int.natCast_nonneg _ | (simp only [i64max, u8max, u16max, u32max, u64max]; omega) | (simp only [mulSz_eq, Cont.len, colsLen, Col.len, List.length_cons, List.length_nil, List.length_replicate, List.length_append]; first | done | omega) | (simp [mulSz, Cont.len, bne]; first | done | omega)))); conv => whnf)
    | (refine tst_in ?_ ?_; (focus (intro h_; exfalso; first | omega | ((try simp only [decide_eq_true_eq, decide_eq_false_iff_not] at h_); omega) | (simp [mulSz, Cont.len, bne] at h_; first | done | omega))); intro _; conv => whnf)
    | (refine tst_in ?_ ?_; rotate_left; (focus (intro h_; exfalso; first | omega | ((try simp only [decide_eq_true_eq, decide_eq_false_iff_not] at h_); omega) | (simp [mulSz, Cont.len, bne] at h_; first | done | omega))); intro _; conv => whnf)
    | (refine ⟨0, (show _ = _ by omega), ?_⟩; conv => whnf))
  refine ⟨_, [1, 2], SA, ?_⟩
  conv => whnf
  iterate 2
   refine And.intro ?_ ?_
   focus
    conv => whnf
    repeat' (first | exact True.intro | rfl | refine And.intro ?_ ?_ | omega)
    all_goals (conv => whnf)
    all_goals (try (first | rfl | omega | (simp; done)))
  conv => whnf
  refine ⟨?_, True.intro⟩
  intro _ _
  conv => whnf
  conv => whnf
  repeat (first
    | (refine And.intro ?_ ?_; (focus (first | omega | decide | exact EqOk.mk (by kernel_rfl) (by kernel_rfl) (by kernel_rfl) | exact Int.natCast_nonneg _ | ((repeat' refine And.intro ?_ ?_) <;> first | omega | exact Int.natCast_nonneg _ | (simp only [i64max, u8max, u16max, u32max, u64max]; omega) | (simp only [mulSz_eq, Cont.len, colsLen, Col.len, List.length_cons, List.length_nil, List.length_replicate, List.length_append, tab_len]; first | done | omega) | (simp [mulSz, Cont.len, bne, tab_len]; first | done | omega)))); conv => whnf)
    | (refine tst_in ?_ ?_; (focus (intro h_; exfalso; first | omega | ((try simp only [decide_eq_true_eq, decide_eq_false_iff_not] at h_); omega) | (simp [mulSz, Cont.len, bne, tab_len] at h_; first | done | omega))); intro _; conv => whnf)
    | (refine tst_in ?_ ?_; rotate_left; (focus (intro h_; exfalso; first | omega | ((try simp only [decide_eq_true_eq, decide_eq_false_iff_not] at h_); omega) | (simp [mulSz, Cont.len, bne, tab_len] at h_; first | done | omega))); intro _; conv => whnf)
    | (refine ⟨0, (show _ = _ by omega), ?_⟩; conv => whnf))
  intro r' u1 g1 u2 g2 u3 g3 u4 g4
  conv => whnf
  repeat (first
    | (refine And.intro ?_ ?_; (focus (first | omega | decide | exact EqOk.mk (by kernel_rfl) (by kernel_rfl) (by kernel_rfl) | exact Int.natCast_nonneg _ | ((repeat' refine And.intro ?_ ?_) <;> first | omega | exact Int.natCast_nonneg _ | (simp only [i64max, u8max, u16max, u32max, u64max]; omega) | (simp only [mulSz_eq, Cont.len, colsLen, Col.len, List.length_cons, List.length_nil, List.length_replicate, List.length_append, tab_len]; first | done | omega) | (simp [mulSz, Cont.len, bne, tab_len]; first | done | omega)))); conv => whnf)
    | (refine tst_in ?_ ?_; (focus (intro h_; exfalso; first | omega | ((try simp only [decide_eq_true_eq, decide_eq_false_iff_not] at h_); omega) | (simp [mulSz, Cont.len, bne, tab_len] at h_; first | done | omega))); intro _; conv => whnf)
    | (refine tst_in ?_ ?_; rotate_left; (focus (intro h_; exfalso; first | omega | ((try simp only [decide_eq_true_eq, decide_eq_false_iff_not] at h_); omega) | (simp [mulSz, Cont.len, bne, tab_len] at h_; first | done | omega))); intro _; conv => whnf)
    | (refine ⟨0, (show _ = _ by omega), ?_⟩; conv => whnf))
  refine ⟨⟨[0, 1, 2, 4], ⟨ta, tb', f, ⟨r', u1, u2, u3, u4⟩, 0⟩, ?_, ⟨Nat.zero_le _, hta, htb, ⟨g1, g2, g3, g4⟩, hf⟩⟩, ?_⟩
  · show stLe _ _ (st5 k n0 s mo f c n ta tb' f ⟨r', u1, u2, u3, u4⟩ 0) _
    conv => whnf
    repeat' (first | exact True.intro | rfl | refine And.intro ?_ ?_)
    all_goals (conv => whnf)
    repeat' (first | exact True.intro | rfl | refine And.intro ?_ ?_)
    all_goals (try omega)
    all_goals first | (show n + r' = 0 + n + r'; omega) | (show tb _ n ++ _ = List.take 0 (List.drop 0 []) ++ List.take n (List.drop 0 (tb _ c)) ++ _; rw [take_tb _ _ _ hc]; rfl)
  · intro ⟨ta, tb', g, t, r⟩ ⟨(hr : r ≤ 2), (hta : ta.ok), (htb : tb'.ok), (ht : t.ok), (hg : okR g n)⟩
    show forceSt (st5 k n0 s mo f c n ta tb' g t r) _
    obtain ⟨t1, t2, t3, t4⟩ := id ht
    conv => whnf
    repeat (first
      | (refine And.intro ?_ ?_; (focus (first | omega | decide | exact EqOk.mk (by kernel_rfl) (by kernel_rfl) (by kernel_rfl) | exact Int.natCast_nonneg _ | ((repeat' refine And.intro ?_ ?_) <;> first | omega | exact Int.natCast_nonneg _ | (simp only [i64max, u8max, u16max, u32max, u64max]; omega) | (simp only [mulSz_eq, Cont.len, colsLen, Col.len, List.length_cons, List.length_nil, List.length_replicate, List.length_append]; first | done | omega) | (simp [mulSz, Cont.len, bne]; first | done | omega)))); conv => whnf)
      | (refine tst_in ?_ ?_; (focus (intro h_; exfalso; first | omega | ((try simp only [decide_eq_true_eq, decide_eq_false_iff_not] at h_); omega) | (simp [mulSz, Cont.len, bne] at h_; first | done | omega))); intro _; conv => whnf)
      | (refine tst_in ?_ ?_; rotate_left; (focus (intro h_; exfalso; first | omega | ((try simp only [decide_eq_true_eq, decide_eq_false_iff_not] at h_); omega) | (simp [mulSz, Cont.len, bne] at h_; first | done | omega))); intro _; conv => whnf)
      | (refine ⟨0, (show _ = _ by omega), ?_⟩; conv => whnf))
    refine tst_in (fun hlt => ?_) (fun hge => ?_)
    · skip
      have hlt : r < 2 := by simp at hlt; omega
      conv => whnf
      repeat (first
        | (refine And.intro ?_ ?_; (focus (first | omega | decide | exact EqOk.mk (by kernel_rfl) (by kernel_rfl) (by kernel_rfl) | exact Int.natCast_nonneg _ | ((repeat' refine And.intro ?_ ?_) <;> first | omega | exact Int.natCast_nonneg _ | (simp only [i64max, u8max, u16max, u32max, u64max]; omega) | (simp only [mulSz_eq, Cont.len, colsLen, Col.len, List.length_cons, List.length_nil, List.length_replicate, List.length_append, tab_len, t1, t2, t3, t4]; first | done | omega) | (simp [mulSz, Cont.len, bne, tab_len, t1, t2, t3, t4]; first | done | omega)))); conv => whnf)
        | (refine tst_in ?_ ?_; (focus (intro h_; exfalso; first | omega | ((try simp only [decide_eq_true_eq, decide_eq_false_iff_not] at h_); omega) | (simp [mulSz, Cont.len, bne, tab_len, t1, t2, t3, t4] at h_; first | done | omega))); intro _; conv => whnf)
        | (refine tst_in ?_ ?_; rotate_left; (focus (intro h_; exfalso; first | omega | ((try simp only [decide_eq_true_eq, decide_eq_false_iff_not] at h_); omega) | (simp [mulSz, Cont.len, bne, tab_len, t1, t2, t3, t4] at h_; first | done | omega))); intro _; conv => whnf)
        | (refine ⟨0, (show _ = _ by omega), ?_⟩; conv => whnf))
      intro r' u1 g1 u2 g2 u3 g3 u4 g4
      obtain ⟨X, e, hJ⟩ := joins_ex g n
      have JN := Join_f g n (n + t.q) t X e hn (by omega) ht hg hJ
      have RJ : Fits Try.prog 20 ⟨[.slice 0 0 n (n + r')], [g.seg false n ⟨r', u1, u2, u3, u4⟩], [numOut [.dead] (.tup [.str X, .int .i64 e])]⟩ := by
        by_cases hG : ∀ j, j < n → goodI g j
        · exact rJoin_good g n (n + r') ⟨r', u1, u2, u3, u4⟩ X e hn (by omega) ⟨g1, g2, g3, g4⟩ hG hg hJ
        · obtain ⟨j, hj⟩ := Classical.not_forall.1 hG
          obtain ⟨hj, h⟩ := Classical.not_imp.1 hj
          obtain ⟨rfl, rfl⟩ := bad_of hJ hj h
          exact rJoin_bad g n (n + r') ⟨r', u1, u2, u3, u4⟩ (by omega) (by omega) ⟨g1, g2, g3, g4⟩ j hj h
      have SA2 := SameAll_f g n (n + t.q) (n + r') t ⟨r', u1, u2, u3, u4⟩ (by omega) (by omega) (by omega) ht ⟨g1, g2, g3, g4⟩
      conv => whnf
      repeat (first
        | (refine And.intro ?_ ?_; (focus (first | omega | decide | exact EqOk.mk (by kernel_rfl) (by kernel_rfl) (by kernel_rfl) | exact Int.natCast_nonneg _ | ((repeat' refine And.intro ?_ ?_) <;> first | omega | exact Int.natCast_nonneg _ | (simp only [i64max, u8max, u16max, u32max, u64max]; omega) | (simp only [mulSz_eq, Cont.len, colsLen, Col.len, List.length_cons, List.length_nil, List.length_replicate, List.length_append]; first | done | omega) | (simp [mulSz, Cont.len, bne]; first | done | omega)))); conv => whnf)
        | (refine tst_in ?_ ?_; (focus (intro h_; exfalso; first | omega | ((try simp only [decide_eq_true_eq, decide_eq_false_iff_not] at h_); omega) | (simp [mulSz, Cont.len, bne] at h_; first | done | omega))); intro _; conv => whnf)
        | (refine tst_in ?_ ?_; rotate_left; (focus (intro h_; exfalso; first | omega | ((try simp only [decide_eq_true_eq, decide_eq_false_iff_not] at h_); omega) | (simp [mulSz, Cont.len, bne] at h_; first | done | omega))); intro _; conv => whnf)
        | (refine ⟨0, (show _ = _ by omega), ?_⟩; conv => whnf))
      refine ⟨_, [3], JN, ?_⟩
      conv => whnf
      iterate 2
       refine And.intro ?_ ?_
       focus
        conv => whnf
        repeat' (first | exact True.intro | rfl | refine And.intro ?_ ?_ | omega)
        all_goals (conv => whnf)
        all_goals (try (first | rfl | omega | (simp; done)))
      conv => whnf
      refine ⟨?_, True.intro⟩
      intro _ _
      conv => whnf
      conv => whnf
      repeat (first
        | (refine And.intro ?_ ?_; (focus (first | omega | decide | exact EqOk.mk (by kernel_rfl) (by kernel_rfl) (by kernel_rfl) | exact Int.natCast_nonneg _ | ((repeat' refine And.intro ?_ ?_) <;> first | omega | exact Int.natCast_nonneg _ | (simp only [i64max, u8max, u16max, u32max, u64max]; omega) | (simp only [mulSz_eq, Cont.len, colsLen, Col.len, List.length_cons, List.length_nil, List.length_replicate, List.length_append]; first | done | omega) | (simp [mulSz, Cont.len, bne]; first | done | omega)))); conv => whnf)
        | (refine tst_in ?_ ?_; (focus (intro h_; exfalso; first | omega | ((try simp only [decide_eq_true_eq, decide_eq_false_iff_not] at h_); omega) | (simp [mulSz, Cont.len, bne] at h_; first | done | omega))); intro _; conv => whnf)
        | (refine tst_in ?_ ?_; rotate_left; (focus (intro h_; exfalso; first | omega | ((try simp only [decide_eq_true_eq, decide_eq_false_iff_not] at h_); omega) | (simp [mulSz, Cont.len, bne] at h_; first | done | omega))); intro _; conv => whnf)
        | (refine ⟨0, (show _ = _ by omega), ?_⟩; conv => whnf))
      have e1 : ∀ {α : Type} (F : Nat → α) (v w : List α), List.take 0 (List.drop 0 ([] : List α)) ++ List.take n (List.drop 0 (tb F n ++ v)) ++ w = tb F n ++ w := fun F v w => by rw [take_tb2]; rfl
      rw [e1, e1, e1, e1]
      refine ⟨_, [5], RJ, ?_⟩
      conv => whnf
      iterate 2
       refine And.intro ?_ ?_
       focus
        conv => whnf
        repeat' (first | exact True.intro | rfl | refine And.intro ?_ ?_ | omega)
        all_goals (conv => whnf)
        all_goals (try (first | rfl | omega | (simp; done)))
      conv => whnf
      refine ⟨?_, True.intro⟩
      intro _ _
      conv => whnf
      conv => whnf
      rw [eqSelf X]
      conv => whnf
      repeat (first
        | (refine And.intro ?_ ?_; (focus (first | omega | decide | exact EqOk.mk (by kernel_rfl) (by kernel_rfl) (by kernel_rfl) | exact Int.natCast_nonneg _ | ((repeat' refine And.intro ?_ ?_) <;> first | omega | exact Int.natCast_nonneg _ | (simp only [i64max, u8max, u16max, u32max, u64max]; omega) | (simp only [mulSz_eq, Cont.len, colsLen, Col.len, List.length_cons, List.length_nil, List.length_replicate, List.length_append]; first | done | omega) | (simp [mulSz, Cont.len, bne]; first | done | omega)))); conv => whnf)
        | (refine tst_in ?_ ?_; (focus (intro h_; exfalso; first | omega | ((try simp only [decide_eq_true_eq, decide_eq_false_iff_not] at h_); omega) | (simp [mulSz, Cont.len, bne] at h_; first | done | omega))); intro _; conv => whnf)
        | (refine tst_in ?_ ?_; rotate_left; (focus (intro h_; exfalso; first | omega | ((try simp only [decide_eq_true_eq, decide_eq_false_iff_not] at h_); omega) | (simp [mulSz, Cont.len, bne] at h_; first | done | omega))); intro _; conv => whnf)
        | (refine ⟨0, (show _ = _ by omega), ?_⟩; conv => whnf))
      refine ⟨_, [3, 5], SA2, ?_⟩
      conv => whnf
      iterate 2
       refine And.intro ?_ ?_
       focus
        conv => whnf
        repeat' (first | exact True.intro | rfl | refine And.intro ?_ ?_ | omega)
        all_goals (conv => whnf)
        all_goals (try (first | rfl | omega | (simp; done)))
      conv => whnf
      refine ⟨?_, True.intro⟩
      intro _ _
      conv => whnf
      conv => whnf
      repeat (first
        | (refine And.intro ?_ ?_; (focus (first | omega | decide | exact EqOk.mk (by kernel_rfl) (by kernel_rfl) (by kernel_rfl) | exact Int.natCast_nonneg _ | ((repeat' refine And.intro ?_ ?_) <;> first | omega | exact Int.natCast_nonneg _ | (simp only [i64max, u8max, u16max, u32max, u64max]; omega) | (simp only [mulSz_eq, Cont.len, colsLen, Col.len, List.length_cons, List.length_nil, List.length_replicate, List.length_append]; first | done | omega) | (simp [mulSz, Cont.len, bne]; first | done | omega)))); conv => whnf)
        | (refine tst_in ?_ ?_; (focus (intro h_; exfalso; first | omega | ((try simp only [decide_eq_true_eq, decide_eq_false_iff_not] at h_); omega) | (simp [mulSz, Cont.len, bne] at h_; first | done | omega))); intro _; conv => whnf)
        | (refine tst_in ?_ ?_; rotate_left; (focus (intro h_; exfalso; first | omega | ((try simp only [decide_eq_true_eq, decide_eq_false_iff_not] at h_); omega) | (simp [mulSz, Cont.len, bne] at h_; first | done | omega))); intro _; conv => whnf)
        | (refine ⟨0, (show _ = _ by omega), ?_⟩; conv => whnf))
      by_cases h0 : n = 0
      · skip
        conv => whnf
        repeat (first
          | (refine And.intro ?_ ?_; (focus (first | omega | decide | exact EqOk.mk (by kernel_rfl) (by kernel_rfl) (by kernel_rfl) | exact Int.natCast_nonneg _ | ((repeat' refine And.intro ?_ ?_) <;> first | omega | exact Int.natCast_nonneg _ | (simp only [i64max, u8max, u16max, u32max, u64max]; omega) | (simp only [mulSz_eq, Cont.len, colsLen, Col.len, List.length_cons, List.length_nil, List.length_replicate, List.length_append]; first | done | omega) | (simp [mulSz, Cont.len, bne]; first | done | omega)))); conv => whnf)
          | (refine tst_in ?_ ?_; (focus (intro h_; exfalso; first | omega | ((try simp only [decide_eq_true_eq, decide_eq_false_iff_not] at h_); omega) | (simp [mulSz, Cont.len, bne] at h_; first | done | omega))); intro _; conv => whnf)
          | (refine tst_in ?_ ?_; rotate_left; (focus (intro h_; exfalso; first | omega | ((try simp only [decide_eq_true_eq, decide_eq_false_iff_not] at h_); omega) | (simp [mulSz, Cont.len, bne] at h_; first | done | omega))); intro _; conv => whnf)
          | (refine ⟨0, (show _ = _ by omega), ?_⟩; conv => whnf))
        refine ⟨[0, 1, 2, 3], ⟨ta, tb', g, t, r + 1⟩, ?_, ⟨(by show r + 1 ≤ 2; omega), hta, htb, ht, hg⟩, (by show 2 - (r + 1) < 2 - r; omega)⟩
        show stLe _ _ (st5 k n0 s mo f c n ta tb' g t (r + 1)) _
        conv => whnf
        repeat' (first | exact True.intro | rfl | refine And.intro ?_ ?_)
        all_goals (conv => whnf)
        repeat' (first | exact True.intro | rfl | refine And.intro ?_ ?_)
        all_goals (try omega)
      · have am : (tb g.M n ++ t.tM).getD (n - 1) false = g.M (n - 1) := tab_app _ _ _ (by omega)
        conv => whnf
        repeat (first
          | (refine And.intro ?_ ?_; (focus (first | omega | decide | exact EqOk.mk (by kernel_rfl) (by kernel_rfl) (by kernel_rfl) | exact Int.natCast_nonneg _ | ((repeat' refine And.intro ?_ ?_) <;> first | omega | exact Int.natCast_nonneg _ | (simp only [i64max, u8max, u16max, u32max, u64max]; omega) | (simp only [mulSz_eq, Cont.len, colsLen, Col.len, List.length_cons, List.length_nil, List.length_replicate, List.length_append, tab_len, t1, t2, t3, t4]; first | done | omega) | (simp [mulSz, Cont.len, bne, tab_len, t1, t2, t3, t4]; first | done | omega)))); conv => whnf)
          | (refine tst_in ?_ ?_; (focus (intro h_; exfalso; first | omega | ((try simp only [decide_eq_true_eq, decide_eq_false_iff_not] at h_); omega) | (simp [mulSz, Cont.len, bne, tab_len, t1, t2, t3, t4] at h_; first | done | omega))); intro _; conv => whnf)
          | (refine tst_in ?_ ?_; rotate_left; (focus (intro h_; exfalso; first | omega | ((try simp only [decide_eq_true_eq, decide_eq_false_iff_not] at h_); omega) | (simp [mulSz, Cont.len, bne, tab_len, t1, t2, t3, t4] at h_; first | done | omega))); intro _; conv => whnf)
          | (refine ⟨(n-1), (show _ = _ by omega), ?_⟩; conv => whnf)
          | (refine ⟨(n-1), 0, (show _ = _ by omega), ?_⟩; conv => whnf)
          | (refine ⟨(n-1), 1, (show _ = _ by omega), ?_⟩; conv => whnf)
          | (refine ⟨(n-1), 2, (show _ = _ by omega), ?_⟩; conv => whnf)
          | (refine ⟨(n-1), 3, (show _ = _ by omega), ?_⟩; conv => whnf)
          | (refine ⟨(n-1), 4, (show _ = _ by omega), ?_⟩; conv => whnf)
          | (refine ⟨(n-1), 5, (show _ = _ by omega), ?_⟩; conv => whnf)
          | (refine ⟨0, (show _ = _ by omega), ?_⟩; conv => whnf))
        refine ⟨[0, 1, 2, 3], ⟨ta, tb', flipF g n, t, r + 1⟩, ?_, ⟨(by show r + 1 ≤ 2; omega), hta, htb, ht, hg⟩, (by show 2 - (r + 1) < 2 - r; omega)⟩
        show stLe _ _ (st5 k n0 s mo f c n ta tb' (flipF g n) t (r + 1)) _
        conv => whnf
        repeat' (first | exact True.intro | rfl | refine And.intro ?_ ?_)
        all_goals (conv => whnf)
        repeat' (first | exact True.intro | rfl | refine And.intro ?_ ?_)
        all_goals (try omega)
        exact (set_flip g.M n t.tM (by omega) _ (by rw [am])).symm
    · have hge : r = 2 := by simp at hge; omega
      obtain ⟨a1, a2, a3, a4⟩ := id hta
      conv => whnf
      repeat (first
        | (refine And.intro ?_ ?_; (focus (first | omega | decide | exact EqOk.mk (by kernel_rfl) (by kernel_rfl) (by kernel_rfl) | exact Int.natCast_nonneg _ | ((repeat' refine And.intro ?_ ?_) <;> first | omega | exact Int.natCast_nonneg _ | (simp only [i64max, u8max, u16max, u32max, u64max]; omega) | (simp only [mulSz_eq, Cont.len, colsLen, Col.len, List.length_cons, List.length_nil, List.length_replicate, List.length_append]; first | done | omega) | (simp [mulSz, Cont.len, bne]; first | done | omega)))); conv => whnf)
        | (refine tst_in ?_ ?_; (focus (intro h_; exfalso; first | omega | ((try simp only [decide_eq_true_eq, decide_eq_false_iff_not] at h_); omega) | (simp [mulSz, Cont.len, bne] at h_; first | done | omega))); intro _; conv => whnf)
        | (refine tst_in ?_ ?_; rotate_left; (focus (intro h_; exfalso; first | omega | ((try simp only [decide_eq_true_eq, decide_eq_false_iff_not] at h_); omega) | (simp [mulSz, Cont.len, bne] at h_; first | done | omega))); intro _; conv => whnf)
        | (refine ⟨0, (show _ = _ by omega), ?_⟩; conv => whnf))
      refine ⟨⟨[0, 1, 2], ⟨tb (pFR k n0 s mo.toNat).K (pN k s.size mo) ++ ta.tK, tb (pFR k n0 s mo.toNat).N (pN k s.size mo) ++ ta.tN, tb (pFR k n0 s mo.toNat).M (pN k s.size mo) ++ ta.tM, tb (pFR k n0 s mo.toNat).B (pN k s.size mo) ++ ta.tB, ta.q, tb', 0⟩, ?_, ⟨⟨Nat.zero_le _, htb⟩, ?_, ?_, ?_, ?_⟩⟩, ?_⟩
      · show stLe _ _ (st5b k n0 s mo f c _ _ _ _ ta.q tb' 0) _
        conv => whnf
        repeat' (first | exact True.intro | rfl | refine And.intro ?_ ?_)
        all_goals (conv => whnf)
        repeat' (first | exact True.intro | rfl | refine And.intro ?_ ?_)
        all_goals (try omega)
      · rw [List.length_append, tab_len, a1]
      · rw [List.length_append, tab_len, a2]
      · rw [List.length_append, tab_len, a3]
      · rw [List.length_append, tab_len, a4]
      · intro ⟨K, N, M, B, q, tb', i⟩ ⟨⟨(hi : i ≤ pN k s.size mo), (htb : tb'.ok)⟩, (b1 : K.length = pN k s.size mo + q), (b2 : N.length = pN k s.size mo + q), (b3 : M.length = pN k s.size mo + q), (b4 : B.length = pN k s.size mo + q)⟩
        show forceSt (st5b k n0 s mo f c K N M B q tb' i) _
        conv => whnf
        repeat (first
          | (refine And.intro ?_ ?_; (focus (first | omega | decide | exact EqOk.mk (by kernel_rfl) (by kernel_rfl) (by kernel_rfl) | exact Int.natCast_nonneg _ | ((repeat' refine And.intro ?_ ?_) <;> first | omega | exact Int.natCast_nonneg _ | (simp only [i64max, u8max, u16max, u32max, u64max]; omega) | (simp only [mulSz_eq, Cont.len, colsLen, Col.len, List.length_cons, List.length_nil, List.length_replicate, List.length_append]; first | done | omega) | (simp [mulSz, Cont.len, bne]; first | done | omega)))); conv => whnf)
          | (refine tst_in ?_ ?_; (focus (intro h_; exfalso; first | omega | ((try simp only [decide_eq_true_eq, decide_eq_false_iff_not] at h_); omega) | (simp [mulSz, Cont.len, bne] at h_; first | done | omega))); intro _; conv => whnf)
          | (refine tst_in ?_ ?_; rotate_left; (focus (intro h_; exfalso; first | omega | ((try simp only [decide_eq_true_eq, decide_eq_false_iff_not] at h_); omega) | (simp [mulSz, Cont.len, bne] at h_; first | done | omega))); intro _; conv => whnf)
          | (refine ⟨0, (show _ = _ by omega), ?_⟩; conv => whnf))
        refine tst_in (fun hlt => ?_) (fun hge => ?_)
        · skip
          have hlt : i < pN k s.size mo := by simp at hlt; omega
          conv => whnf
          repeat (first
            | (refine And.intro ?_ ?_; (focus (first | omega | decide | exact EqOk.mk (by kernel_rfl) (by kernel_rfl) (by kernel_rfl) | exact Int.natCast_nonneg _ | ((repeat' refine And.intro ?_ ?_) <;> first | omega | exact Int.natCast_nonneg _ | (simp only [i64max, u8max, u16max, u32max, u64max]; omega) | (simp only [mulSz_eq, Cont.len, colsLen, Col.len, List.length_cons, List.length_nil, List.length_replicate, List.length_append, b1, b2, b3, b4]; first | done | omega) | (simp [mulSz, Cont.len, bne, b1, b2, b3, b4]; first | done | omega)))); conv => whnf)
            | (refine tst_in ?_ ?_; (focus (intro h_; exfalso; first | omega | ((try simp only [decide_eq_true_eq, decide_eq_false_iff_not] at h_); omega) | (simp [mulSz, Cont.len, bne, b1, b2, b3, b4] at h_; first | done | omega))); intro _; conv => whnf)
            | (refine tst_in ?_ ?_; rotate_left; (focus (intro h_; exfalso; first | omega | ((try simp only [decide_eq_true_eq, decide_eq_false_iff_not] at h_); omega) | (simp [mulSz, Cont.len, bne, b1, b2, b3, b4] at h_; first | done | omega))); intro _; conv => whnf)
            | (refine ⟨(i), (show _ = _ by omega), ?_⟩; conv => whnf)
            | (refine ⟨(i), 0, (show _ = _ by omega), ?_⟩; conv => whnf)
            | (refine ⟨(i), 1, (show _ = _ by omega), ?_⟩; conv => whnf)
            | (refine ⟨(i), 2, (show _ = _ by omega), ?_⟩; conv => whnf)
            | (refine ⟨(i), 3, (show _ = _ by omega), ?_⟩; conv => whnf)
            | (refine ⟨(i), 4, (show _ = _ by omega), ?_⟩; conv => whnf)
            | (refine ⟨(i), 5, (show _ = _ by omega), ?_⟩; conv => whnf)
            | (refine ⟨0, (show _ = _ by omega), ?_⟩; conv => whnf))
          refine ⟨[0, 1, 2], ⟨K.set i 0, N.set i 0, M.set i false, B.set i ⟨#[]⟩, q, tb', i + 1⟩, ?_, ⟨⟨(by show i + 1 ≤ pN k s.size mo; omega), htb⟩, (List.length_set ..).trans b1, (List.length_set ..).trans b2, (List.length_set ..).trans b3, (List.length_set ..).trans b4⟩, (by show pN k s.size mo - (i + 1) < pN k s.size mo - i; omega)⟩
          show stLe _ _ (st5b k n0 s mo f c (K.set i 0) (N.set i 0) (M.set i false) (B.set i ⟨#[]⟩) q tb' (i + 1)) _
          conv => whnf
          repeat' (first | exact True.intro | rfl | refine And.intro ?_ ?_)
          all_goals (conv => whnf)
          repeat' (first | exact True.intro | rfl | refine And.intro ?_ ?_)
          all_goals (try omega)
        · skip
          have hge : i = pN k s.size mo := by simp at hge; omega
          conv => whnf
          repeat (first
            | (refine And.intro ?_ ?_; (focus (first | omega | decide | exact EqOk.mk (by kernel_rfl) (by kernel_rfl) (by kernel_rfl) | exact Int.natCast_nonneg _ | ((repeat' refine And.intro ?_ ?_) <;> first | omega | exact Int.natCast_nonneg _ | (simp only [i64max, u8max, u16max, u32max, u64max]; omega) | (simp only [mulSz_eq, Cont.len, colsLen, Col.len, List.length_cons, List.length_nil, List.length_replicate, List.length_append]; first | done | omega) | (simp [mulSz, Cont.len, bne]; first | done | omega)))); conv => whnf)
            | (refine tst_in ?_ ?_; (focus (intro h_; exfalso; first | omega | ((try simp only [decide_eq_true_eq, decide_eq_false_iff_not] at h_); omega) | (simp [mulSz, Cont.len, bne] at h_; first | done | omega))); intro _; conv => whnf)
            | (refine tst_in ?_ ?_; rotate_left; (focus (intro h_; exfalso; first | omega | ((try simp only [decide_eq_true_eq, decide_eq_false_iff_not] at h_); omega) | (simp [mulSz, Cont.len, bne] at h_; first | done | omega))); intro _; conv => whnf)
            | (refine ⟨0, (show _ = _ by omega), ?_⟩; conv => whnf))
          refine ⟨_, [], PU, ?_⟩
          conv => whnf
          iterate 2
           refine And.intro ?_ ?_
           focus
            conv => whnf
            repeat' (first | exact True.intro | rfl | refine And.intro ?_ ?_)
            all_goals (conv => whnf)
            repeat' (first | exact True.intro | rfl | refine And.intro ?_ ?_)
            all_goals (try (first | rfl | omega | (simp; first | done | omega)))
          conv => whnf
          refine ⟨?_, True.intro⟩
          rintro tc htc
          conv => whnf
          have SA3 := SameAll_f (pFR k n0 s mo.toNat) (pN k s.size mo) (pN k s.size mo + tc.q) (pN k s.size mo + tb'.q) tc tb' (by omega) (by omega) (by omega) htc htb
          conv => whnf
          repeat (first
            | (refine And.intro ?_ ?_; (focus (first | omega | decide | exact EqOk.mk (by kernel_rfl) (by kernel_rfl) (by kernel_rfl) | exact Int.natCast_nonneg _ | ((repeat' refine And.intro ?_ ?_) <;> first | omega | exact Int.natCast_nonneg _ | (simp only [i64max, u8max, u16max, u32max, u64max]; omega) | (simp only [mulSz_eq, Cont.len, colsLen, Col.len, List.length_cons, List.length_nil, List.length_replicate, List.length_append]; first | done | omega) | (simp [mulSz, Cont.len, bne]; first | done | omega)))); conv => whnf)
            | (refine tst_in ?_ ?_; (focus (intro h_; exfalso; first | omega | ((try simp only [decide_eq_true_eq, decide_eq_false_iff_not] at h_); omega) | (simp [mulSz, Cont.len, bne] at h_; first | done | omega))); intro _; conv => whnf)
            | (refine tst_in ?_ ?_; rotate_left; (focus (intro h_; exfalso; first | omega | ((try simp only [decide_eq_true_eq, decide_eq_false_iff_not] at h_); omega) | (simp [mulSz, Cont.len, bne] at h_; first | done | omega))); intro _; conv => whnf)
            | (refine ⟨0, (show _ = _ by omega), ?_⟩; conv => whnf))
          refine ⟨_, [3, 2], SA3, ?_⟩
          conv => whnf
          iterate 2
           refine And.intro ?_ ?_
           focus
            conv => whnf
            repeat' (first | exact True.intro | rfl | refine And.intro ?_ ?_ | omega)
            all_goals (conv => whnf)
            all_goals (try (first | rfl | omega | (simp; done)))
          conv => whnf
          refine ⟨?_, True.intro⟩
          intro _ _
          conv => whnf
          conv => whnf
          repeat (first
            | (refine And.intro ?_ ?_; (focus (first | omega | decide | exact EqOk.mk (by kernel_rfl) (by kernel_rfl) (by kernel_rfl) | exact Int.natCast_nonneg _ | ((repeat' refine And.intro ?_ ?_) <;> first | omega | exact Int.natCast_nonneg _ | (simp only [i64max, u8max, u16max, u32max, u64max]; omega) | (simp only [mulSz_eq, Cont.len, colsLen, Col.len, List.length_cons, List.length_nil, List.length_replicate, List.length_append]; first | done | omega) | (simp [mulSz, Cont.len, bne]; first | done | omega)))); conv => whnf)
            | (refine tst_in ?_ ?_; (focus (intro h_; exfalso; first | omega | ((try simp only [decide_eq_true_eq, decide_eq_false_iff_not] at h_); omega) | (simp [mulSz, Cont.len, bne] at h_; first | done | omega))); intro _; conv => whnf)
            | (refine tst_in ?_ ?_; rotate_left; (focus (intro h_; exfalso; first | omega | ((try simp only [decide_eq_true_eq, decide_eq_false_iff_not] at h_); omega) | (simp [mulSz, Cont.len, bne] at h_; first | done | omega))); intro _; conv => whnf)
            | (refine ⟨0, (show _ = _ by omega), ?_⟩; conv => whnf))
          refine .inl ⟨(), [0], ?_⟩
          conv => whnf
          repeat' (first | exact True.intro | rfl | refine And.intro ?_ ?_)
          all_goals (conv => whnf)
          repeat' (first | exact True.intro | rfl | refine And.intro ?_ ?_)
          all_goals (try omega)
end Go.Proofs.Ytdkogicikhlicaa

set_option linter.unusedVariables false
set_option linter.unusedSimpArgs false
namespace Go.Proofs.Ytdkogicikhlicaa
open Go Go.Fw
def frG (g : Nat → Int × Int × Bool × ByteArray) : FR := ⟨fun i => (g i).1, fun i => (g i).2.1, fun i => (g i).2.2.1, fun i => (g i).2.2.2⟩
theorem flat_ext {F G : Nat → List AV} {n : Nat} (h : ∀ i, i < n → F i = G i) : (List.range n).flatMap F = (List.range n).flatMap G := by
  induction n with
  | zero => rfl
  | succ n ih => rw [List.range_succ, List.flatMap_append, List.flatMap_append, ih fun i hi => h i (by omega)]; simp [h n (by omega)]
theorem avl_fr (g : Nat → Int × Int × Bool × ByteArray) (c : Nat) : (Cont.cols [.ints .u8 (tb (frG g).K c), .ints .u8 (tb (frG g).N c), .bools (tb (frG g).M c), .strs (tb (frG g).B c)]).avl = (Cont.avs ((List.range c).flatMap fun i => [.int .u8 (g i).1, .int .u8 (g i).2.1, .bool (g i).2.2.1, .str (g i).2.2.2])).avl := by
  show (List.range (tb (frG g).K c).length).flatMap _ = _
  rw [tab_len]
  refine flat_ext fun i hi => ?_
  show [AV.int .u8 ((tb (frG g).K c).getD i 0), .int .u8 ((tb (frG g).N c).getD i 0), .bool ((tb (frG g).M c).getD i false), .str ((tb (frG g).B c).getD i ByteArray.empty)] = _
  rw [tab_get _ _ hi, tab_get _ _ hi, tab_get _ _ hi, tab_get _ _ hi]
  rfl
def lawSpec (k n0 mo : Int) (s : ByteArray) (n c : Nat) (g : Nat → Int × Int × Bool × ByteArray) : FSpec :=
  ⟨[.int .u8 k, .int .u8 n0, .str s, .int .i64 mo, .slice 0 0 n c], [.seg false (.cols [.ints .u8 (tb (frG g).K c), .ints .u8 (tb (frG g).N c), .bools (tb (frG g).M c), .strs (tb (frG g).B c)])], [numOut [.dead] (.bool true)]⟩
theorem law_m (k n0 mo : Int) (s : ByteArray) (n c : Nat) (g : Nat → Int × Int × Bool × ByteArray) (w0 : (Lit.int .u8 k).wf = true) (w1 : (Lit.int .u8 n0).wf = true) (w3 : (Lit.int .i64 mo).wf = true) (w2 : s.size ≤ maxLen) (hn : n ≤ c) (hm : c ≤ 1048576)
    (hw : ∀ i, i < c → (Lit.int .u8 (g i).1).wf = true ∧ (Lit.int .u8 (g i).2.1).wf = true ∧ True ∧ ByteArray.size (g i).2.2.2 ≤ reachBytes) : Fits Try.prog 5 (lawSpec k n0 mo s n c g) := by
  simp [Lit.wf, IntKind.min, IntKind.max, IntKind.signed, IntKind.bits] at w0 w1 w3
  unfold maxLen at w2
  refine law_g k n0 mo s (frG g) n c c (by omega) (by omega) (by omega) (by omega) (by omega) hn ?_
  intro i hi
  have h := hw i (by omega)
  simp [Lit.wf, IntKind.min, IntKind.max, IntKind.signed, IntKind.bits] at h
  show (0 ≤ (g i).1 ∧ (g i).1 ≤ 255) ∧ 0 ≤ (g i).2.1 ∧ (g i).2.1 ≤ 255
  omega
end Go.Proofs.Ytdkogicikhlicaa

namespace Go.Proofs.Ytdkogicikhlicaa
open Go Go.Fw
namespace framePieces
open Go.ChangeShapes Go.WideShapes Go.ChangeAt Go.RowKit
theorem own : ownKnob Try.prog.godebug = none := by kernel_rfl
theorem laid : laidOutB Try.prog = true := by kernel_rfl

theorem bulkl (H : Type) : BulkLike (Rows.uptoBulk (H := H)) Rows.uptoBulkAll :=
  ⟨by simp [Rows.uptoBulkAll], fun _ _ => by simp [Rows.uptoBulkAll], fun _ _ => by simp [Rows.uptoBulk], fun _ => by simp [Rows.uptoBulk], fun _ => by simp [Rows.uptoBulk], fun d => by
    cases d with
    | lit l => cases l <;> simp [Rows.uptoBulk]
    | nil => simp [Rows.uptoBulk]
    | ptr d => simp [Rows.uptoBulk]
    | slice elems spare => simp [Rows.uptoBulk]
    | agg parts => simp [Rows.uptoBulk]
    | iface t d => simp [Rows.uptoBulk]
    | map entries => simp [Rows.uptoBulk]
    | held h => simp [Rows.uptoBulk]⟩
set_option maxRecDepth 100000 in
theorem lifted (os : Os) (started : os.Started) (H : Type) (enc : TypeId × Value → H) (F : Stop.Interp) :
    ReturnsInHanded {} Try.checked os 5 .any ((Rows.OpenSpec.upto Rows.framePiecesSpec).pre6 enc Try.prog Try.f5 Rows.framePiecesUptoRow.domain false) (((Rows.OpenSpec.upto Rows.framePiecesSpec).at F).post enc Try.prog Try.f5 false true false false) := by
  refine returnsInHanded_of_cond_sized (C := Try.checked) (s := Rows.OpenSpec.upto Rows.framePiecesSpec) (k := Rows.uptoSmall) rfl own started (by kernel_rfl) Try.func5
    (OpenSpec.witness (enc := enc) (C := Try.checked) (s := Rows.OpenSpec.upto Rows.framePiecesSpec) (k := Rows.uptoSmall) rfl false ⟨#[], #[.int .u8 0, .int .u8 0, .string .empty, .int .i64 0, .slice none 0 0], []⟩ 8 (by kernel_rfl) (by kernel_rfl) (by kernel_rfl)
      (x := ([.lit (.int .u8 0), .lit (.int .u8 0), .lit (.string []), .lit (.int .i64 0), .nil], [], [])) (by kernel_rfl) rfl (by kernel_rfl)) ?_
  intro W base args ds gs before hval0 hW _ hk hsz0 _
  have hsz : (DataW.weightsEach Try.prog (Try.f5.params.toList ++ Rows.framePiecesSpec.plain.varTypes Try.prog) (ds ++ gs)).all (· ≤ reachBytes) = true := hsz0
  clear hsz0
  have hk2 : Rows.uptoBulkAll (ds ++ gs) ≤ 1048576 := of_decide_eq_true hk
  have hval : ∀ (j : Nat) t v, Try.f5.params[j]? = some t → args[j]? = some v → Value.okWide Try.prog W .any base t v := hval0
  have hW' := hW
  obtain ⟨p, q, hA0, hV, rfl, hfz, hnd⟩ := hW
  have hA : DataW.TrodAll enc Try.prog W 0 (fun _ => true) true Try.f5.params.toList args.toList ds p := hA0
  rw [Try.params5] at hA hval hsz
  obtain ⟨v0, vs0, d0, ds0, p0, q0, hargs, rfl, rfl, h0, r0⟩ := trodAll_cons hA
  obtain ⟨v1, vs1, d1, ds1, p1, q1, rfl, rfl, rfl, h1, r1⟩ := trodAll_cons r0
  obtain ⟨v2, vs2, d2, ds2, p2, q2, rfl, rfl, rfl, h2, r2⟩ := trodAll_cons r1
  obtain ⟨v3, vs3, d3, ds3, p3, q3, rfl, rfl, rfl, h3, r3⟩ := trodAll_cons r2
  obtain ⟨v4, vs4, d4, ds4, p4, q4, rfl, rfl, rfl, h4, r4⟩ := trodAll_cons r3
  obtain ⟨rfl, rfl, rfl⟩ := trodAll_nil r4
  obtain rfl : args = #[v0, v1, v2, v3, v4] := by cases args; simp_all
  obtain ⟨rfl, rfl⟩ := trodVars_none hV
  simp only [List.cons_append, List.nil_append, Rows.uptoBulkAll] at hk2
  have m2 := arg_bulk (M := 1048576) (bulkl H) (ss := [.str]) 12 (by kernel_rfl) h2 (by omega)
  have m4 := arg_bulk (M := 1048576) (bulkl H) (ss := [.row 24 [.int .u8, .int .u8, .bool, .str]]) 12 (by kernel_rfl) h4 (by omega)
  obtain ⟨x0_0, rfl, rfl, rfl, w0_0⟩ := open_int Try.underlying5 (hval 0 5 v0 rfl rfl) h0
  obtain ⟨x1_0, rfl, rfl, rfl, w1_0⟩ := open_int Try.underlying5 (hval 1 5 v1 rfl rfl) h1
  obtain ⟨x2_0, rfl, rfl, rfl, w2_0⟩ := Go.ChangeMaps.open_string Try.underlying9 (hval 2 9 v2 rfl rfl) h2
  obtain ⟨x3_0, rfl, rfl, rfl, w3_0⟩ := open_int Try.underlying3 (hval 3 3 v3 rfl rfl) h3
  obtain ⟨a4, la4, z4, hv4⟩ := okWide_slice Try.underlying39 (hval 4 39 v4 rfl rfl)
  obtain ⟨c4c0, t4_0, e4_0, l4_0, e4_1⟩ : LeafsAre W [.row 24 [.int .u8, .int .u8, .bool, .str]] v4.cells.toList := arg_open 12 (by kernel_rfl) h4 (fine_of (j := 4) hsz rfl rfl)
  subst e4_1
  obtain rfl : v4 = c4c0 := by subst hv4; simpa [Value.cells] using e4_0
  obtain ⟨n4_0, c4_0, F4_0, pl4_0, hn4_0, hb4_0, hF4_0, hc4_0⟩ := row_avs (by simp) (by simp [plainSh]) l4_0
  obtain ⟨g4_0, hg4_0⟩ := choose_all (α := Int × Int × Bool × ByteArray) (n := c4_0) (p := fun i y => F4_0 i = [.int .u8 y.1, .int .u8 y.2.1, .bool y.2.2.1, .str y.2.2.2] ∧ (Lit.int .u8 y.1).wf = true ∧ (Lit.int .u8 y.2.1).wf = true ∧ True ∧ ByteArray.size y.2.2.2 ≤ reachBytes) fun i hi => by
    obtain ⟨y0, t0, e0, ⟨m0, u0, z0⟩, y1, t1, e1, ⟨m1, u1, z1⟩, y2, t2, e2, ⟨m2, u2⟩, y3, t3, e3, ⟨m3, u3, z3⟩, e⟩ := hF4_0 i hi
    simp only [AvsAre] at e
    exact ⟨(m0, m1, m2, m3), by rw [e0, u0, e1, u1, e2, u2, e3, u3, e], z0, z1, trivial, z3⟩
  have hw4_0 := fun i (hi : i < c4_0) => (hg4_0 i hi).2
  rw [flat_congr fun i hi => (hg4_0 i hi).1] at hc4_0
  have hm2_0 : x2_0.size ≤ 1048576 := str_le (m2.at (j := 0) rfl rfl)
  have hm4_0 : c4_0 ≤ 1048576 := cap_le hc4_0 (by have q := m4; rw [hv4] at q ⊢; exact q.at (j := 0) rfl rfl)
  clear hA0 hval0
  obtain ⟨dd4_0, cc4_0⟩ := hc4_0 [pl4_0] 0 (by simp) rfl
  have walk := (law_m x0_0 x1_0 x3_0 x2_0 n4_0 c4_0 g4_0 w0_0 w1_0 w3_0 w2_0 hn4_0 hm4_0 hw4_0).calls W [pl4_0] [.int .u8 x0_0, .int .u8 x1_0, .string x2_0, .int .i64 x3_0, v4] (heap_args rfl fun i s hs => by
      match i, hs with
      | 0, hs => simp only [lawSpec, List.getElem?_cons_zero, Option.some.injEq] at hs; subst hs; exact ⟨_, rfl, (avl_fr g4_0 c4_0).symm ▸ cc4_0⟩
      | i + 1, hs => simp [lawSpec] at hs) (by simp only [lawSpec, Dens]; exact ⟨_, _, rfl, by simp [Den], ⟨_, _, rfl, by simp [Den], ⟨_, _, rfl, by simp [Den], ⟨_, _, rfl, by simp [Den], ⟨_, _, rfl, dd4_0, rfl⟩⟩⟩⟩⟩) (x := .bool true) (v := .bool true) rfl (by
      intro o ho y hy
      simp [lawSpec, numOut] at ho
      subst ho; rfl)
  refine walk.mono fun e W' ⟨he, hg⟩ => ?_
  subst he
  exact ⟨_, rfl, law_done laid rfl rfl Try.underlying4 (by kernel_rfl) hW' rfl hg⟩

theorem over : Rows.framePiecesUptoRow.holds Try.pinned (Rows.OpenSpec.upto Rows.framePiecesSpec) :=
  OpenClaim.holds_of_cond 5 Try.f5 rfl rfl rfl rfl rfl rfl rfl ⟨rfl, rfl, rfl, rfl, rfl⟩ rfl rfl rfl rfl rfl (by kernel_rfl) Try.func5 (by kernel_rfl)
    (of_decide_eq_true (by kernel_rfl)) (by unfold Func.isWrapper; first | (rw [if_pos (by decide +kernel)]; kernel_rfl) | (rw [if_neg (by decide +kernel)]; exact ⟨rfl, rfl⟩))
    (fun os started H enc _ F => lifted os started H enc F)

theorem proved : Rows.FramePiecesUptoSaid := over
end framePieces
end Go.Proofs.Ytdkogicikhlicaa
