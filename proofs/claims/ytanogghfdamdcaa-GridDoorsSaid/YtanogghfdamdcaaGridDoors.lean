/-
  For any bits of floats, two by two, the door lets the numbers in as the document says, in new memory, and leaves the row that is handed in as it is.
-/
import Derived.Test.YtanogghfdamdcaaRows
import Derived.Test.YtanogghfdamdcaaFl
import Derived.Test.YtanogghfdamdcaaFv
import Derived.Test.YtanogghfdamdcaaGridDoorsP1
import Derived.Test.YtanogghfdamdcaaFa
import Derived.WalkKit
import Derived.ProofKit
import Derived.OpenShut
import Derived.SizedLaws
import Derived.ChangeMaps5
set_option linter.unusedSimpArgs false
set_option linter.unusedVariables false
set_option linter.unusedVariables false
set_option linter.unusedSimpArgs false
namespace Go.Proofs.Ytanogghfdamdcaa
open Go Go.Fw
def c77 : Nat × Nat := (4635118810238550016, 0)
theorem eq77 : (FloatKind.f64.format.order (4635118810238550016 : Nat) 4635118810238550016 == some Ordering.eq && FloatKind.f64.format.order 0 0 == some Ordering.eq) = true := by decide +kernel
theorem lent_row {α : Type} (F : Nat → α) (x : α) (t t1 t3 : List α) (n : Nat) : tb F n ++ x :: t3 =
    List.take (0 + n) (List.drop 0 (List.take 0 (List.drop 0 []) ++ List.take n (List.drop 0 (tb F n ++ t)) ++ t1)) ++ List.take 1 (List.drop 0 [x]) ++ t3 := by
  show _ = List.take (0 + n) ((([] : List α) ++ List.take n (tb F n ++ t)) ++ t1) ++ [x] ++ t3
  rw [Nat.zero_add, List.nil_append, List.take_left' (tab_len F n), List.take_left' (tab_len F n), List.append_assoc]; rfl
theorem at_n {α : Type} (F : Nat → α) (x z : α) (t : List α) (n : Nat) : (tb F n ++ x :: t).getD n z = x := by
  rw [List.getD_eq_getElem?_getD, List.getElem?_append_right (by rw [tab_len]; exact Nat.le_refl _), tab_len, Nat.sub_self]; rfl
def qf4 : Nat → Bool := fun f => match f with | 18 => true | 2000014 => true | _ => false
def cfg4 (k : Nat) : Cfg := { T := tyL, sgn := fun _ => false, wr := fun _ => false, k := k, q := qf4 }
noncomputable def k4 : Code := (Try.f4.body).getD .skip
def stc (l : List Int) (nl ca n : Nat) (y t : YT) : St := ⟨slotsAt 143 [(0, .slice 0 0 nl ca), (2, .bool false), (3, .slice 1 0 n (n + y.length)), (4, .int .i64 n), (5, .slice 2 0 (n + 1) (n + 1 + t.length))], [u8S l, cxS true (tb (zF l) n ++ y), cxS true (tb (zF l) n ++ c77 :: t)]⟩
def cut4 (l : List Int) (nl ca n : Nat) : LInv := ⟨YT × YT, fun x => stc l nl ca n x.1 x.2, fun _ => True, fun _ => 0⟩
/-- The rows of the three answers: want, one, two (none: m = 0). -/
structure R9 where
  m : Nat
  q : Nat
  t : YT
  wA : YT
  wB : List Bool
  oA : YT
  oB : List Bool
structure P9 (m q : Nat) (wA : YT) (wB : List Bool) (oA : YT) (oB : List Bool) : Prop where
  m1 : m ≤ 65536
  wa : wA.length = m + q
  wb : wB.length = m + q
  oa : oA.length = m
  ob : oB.length = m
  may : ∀ i, i < m → smM oA oB i = true
  w : ∀ i, i < m → W64 (oA.getD i (0, 0))
  eq : ∀ i, i < m → (D.order (aF oA i).1 (aF wA i).1 == some .eq) = true ∧ (D.order (aF oA i).2 (aF wA i).2 == some .eq) = true ∧ wB.getD i false = oB.getD i false
def st9 (l : List Int) (nl ca n m q : Nat) (t wA : YT) (wB : List Bool) (oA : YT) (oB : List Bool) : St :=
  ⟨slotsAt 143 [(0, .slice 0 0 nl ca), (4, .int .i64 n), (5, .slice 1 0 (n + 1) (n + 1 + t.length)), (6, .slice 2 0 m (m + q)), (8, .slice 3 0 m m), (10, .slice 4 0 m m)],
    [u8S l, cxS true (tb (zF l) n ++ c77 :: t), rowS true wA wB, rowS true oA oB, rowS true oA oB]⟩
def cut9 (l : List Int) (nl ca n : Nat) : LInv := ⟨R9, fun x => st9 l nl ca n x.m x.q x.t x.wA x.wB x.oA x.oB, fun x => P9 x.m x.q x.wA x.wB x.oA x.oB, fun _ => 0⟩
def st10 (l : List Int) (nl ca n m q : Nat) (t wA : YT) (wB : List Bool) (oA : YT) (oB : List Bool) (i : Nat) : St :=
  ⟨slotsAt 143 [(0, .slice 0 0 nl ca), (4, .int .i64 n), (5, .slice 1 0 (n + 1) (n + 1 + t.length)), (6, .slice 2 0 m (m + q)), (8, .slice 3 0 m m), (10, .slice 4 0 m m), (12, .int .i64 i)],
    [u8S l, cxS true (tb (zF l) n ++ c77 :: t), rowS true wA wB, rowS true oA oB, rowS true oA oB]⟩
def inv10 (l : List Int) (nl ca n : Nat) : LInv := ⟨R9 × Nat, fun x => st10 l nl ca n x.1.m x.1.q x.1.t x.1.wA x.1.wB x.1.oA x.1.oB x.2, fun x => P9 x.1.m x.1.q x.1.wA x.1.wB x.1.oA x.1.oB ∧ x.2 ≤ n, fun x => n - x.2⟩
structure R15 where
  m : Nat
  q : Nat
  wA : YT
  wB : List Bool
  oA : YT
  oB : List Bool
  xA : YT
  xB : List Bool
  L : Nat
  u : Nat
  i : Nat
def st15b (l : List Int) (m q : Nat) (wA : YT) (wB : List Bool) (oA : YT) (oB : List Bool) (xA : YT) (xB : List Bool) (i : Nat) : St :=
  ⟨slotsAt 143 [(6, .slice 1 0 m (m + q)), (8, .slice 2 0 m m), (10, .slice 3 0 m m), (13, .int .i64 i)], [u8S l, rowS true wA wB, rowS true xA xB, rowS true oA oB]⟩
def inv15b (l : List Int) : LInv := ⟨R15, fun x => st15b l x.m x.q x.wA x.wB x.oA x.oB x.xA x.xB x.i, fun x => P9 x.m x.q x.wA x.wB x.oA x.oB ∧ x.xA.length = x.m ∧ x.xB.length = x.m ∧ x.i ≤ x.m, fun x => x.m - x.i⟩
def st19b (l : List Int) (m q : Nat) (wA : YT) (wB : List Bool) (oA : YT) (oB : List Bool) (xA : YT) (xB : List Bool) (L u i : Nat) : St :=
  ⟨slotsAt 143 [(6, .slice 1 0 m (m + q)), (8, .slice 2 0 L (L + u)), (10, .slice 3 0 m m), (14, .int .i64 i)], [u8S l, rowS true wA wB, rowS true xA xB, rowS true oA oB]⟩
def inv19b (l : List Int) : LInv := ⟨R15, fun x => st19b l x.m x.q x.wA x.wB x.oA x.oB x.xA x.xB x.L x.u x.i, fun x => P9 x.m x.q x.wA x.wB x.oA x.oB ∧ x.xA.length = x.L + x.u ∧ x.xB.length = x.L + x.u ∧ x.i ≤ 20 ∧ x.L = x.m + x.i, fun x => 20 - x.i⟩
set_option maxHeartbeats 0 in
set_option maxRecDepth 100000 in
theorem law_f (l : List Int) (nl ca n : Nat) (hl : nl ≤ l.length) (hca : nl ≤ ca) (hn : nl ≤ 17592186043904) (h2 : n = nl / 2) (hW : ∀ i, W64 (zF l i)) (hp : ∀ i, 0 ≤ l.getD i 0) :
    Fits Try.prog 4 ⟨[.slice 0 0 nl ca], [u8S l], [numOut [.dead] (.bool true)]⟩ := by
  have NF := numbers_f l nl ca n hl hca hn h2
  refine fits_of_body (C := cfg4 1) (c := k4) (ts := [2]) tokL mixedL (fun | 10 => some (inv10 l nl ca n) | 15 => some (inv15b l) | 19 => some (inv19b l) | _ => none) (fun | 4 => some (cut4 l nl ca n) | 9 => some (cut9 l nl ca n) | _ => none)
    Try.func4 (by kernel_rfl) (by kernel_rfl) (by kernel_rfl) (by kernel_rfl) rfl ?_
  conv => whnf
  repeat (first
    | (refine And.intro ?_ ?_; (focus (first | omega | decide | exact EqOk.mk (by kernel_rfl) (by kernel_rfl) (by kernel_rfl) | exact Int.natCast_nonneg _ | ((repeat' refine And.intro ?_ ?_) <;> first | omega | exact Int.natCast_nonneg _ | (simp only [i64max, u8max, u16max, u32max, u64max]; omega) | (simp only [mulSz_eq, Cont.len, colsLen, Col.len, List.length_cons, List.length_nil, List.length_replicate, List.length_append]; first | done | omega) | (simp [mulSz, Cont.len, bne]; first | done | omega)))); conv => whnf)
    | (refine tst_in ?_ ?_; (focus (intro h_; exfalso; first | omega | ((try simp only [decide_eq_true_eq, decide_eq_false_iff_not] at h_); omega) | (simp [mulSz, Cont.len, bne] at h_; first | done | omega))); intro _; conv => whnf)
    | (refine tst_in ?_ ?_; rotate_left; (focus (intro h_; exfalso; first | omega | ((try simp only [decide_eq_true_eq, decide_eq_false_iff_not] at h_); omega) | (simp [mulSz, Cont.len, bne] at h_; first | done | omega))); intro _; conv => whnf)
    | (refine ⟨0, (show _ = _ by omega), ?_⟩; conv => whnf))
  refine ⟨_, [0], NF, ?_⟩
  conv => whnf
  iterate 2
   refine And.intro ?_ ?_
   focus
    conv => whnf
    repeat' (first | exact True.intro | rfl | refine And.intro ?_ ?_ | omega)
    all_goals (conv => whnf)
    all_goals (try (first | rfl | omega | (simp; done)))
  conv => whnf
  refine ⟨?_, True.intro⟩
  intro (y : YT) _
  conv => whnf
  conv => whnf
  repeat (first
    | (refine And.intro ?_ ?_; (focus (first | omega | decide | exact EqOk.mk (by kernel_rfl) (by kernel_rfl) (by kernel_rfl) | exact Int.natCast_nonneg _ | ((repeat' refine And.intro ?_ ?_) <;> first | omega | exact Int.natCast_nonneg _ | (simp only [i64max, u8max, u16max, u32max, u64max]; omega) | (simp only [mulSz_eq, Cont.len, colsLen, Col.len, List.length_cons, List.length_nil, List.length_replicate, List.length_append]; first | done | omega) | (simp [mulSz, Cont.len, bne]; first | done | omega)))); conv => whnf)
    | (refine tst_in ?_ ?_; (focus (intro h_; exfalso; first | omega | ((try simp only [decide_eq_true_eq, decide_eq_false_iff_not] at h_); omega) | (simp [mulSz, Cont.len, bne] at h_; first | done | omega))); intro _; conv => whnf)
    | (refine tst_in ?_ ?_; rotate_left; (focus (intro h_; exfalso; first | omega | ((try simp only [decide_eq_true_eq, decide_eq_false_iff_not] at h_); omega) | (simp [mulSz, Cont.len, bne] at h_; first | done | omega))); intro _; conv => whnf)
    | (refine ⟨0, (show _ = _ by omega), ?_⟩; conv => whnf))
  refine ⟨?_, ?_⟩
  · skip
    conv => whnf
    repeat (first
      | (refine And.intro ?_ ?_; (focus (first | omega | decide | exact EqOk.mk (by kernel_rfl) (by kernel_rfl) (by kernel_rfl) | exact Int.natCast_nonneg _ | ((repeat' refine And.intro ?_ ?_) <;> first | omega | exact Int.natCast_nonneg _ | (simp only [i64max, u8max, u16max, u32max, u64max]; omega) | (simp only [mulSz_eq, Cont.len, colsLen, Col.len, List.length_cons, List.length_nil, List.length_replicate, List.length_append, tab_len, List.length_take, List.length_drop]; first | done | omega) | (simp [mulSz, Cont.len, bne, tab_len, List.length_take, List.length_drop]; first | done | omega)))); conv => whnf)
      | (refine tst_in ?_ ?_; (focus (intro h_; exfalso; first | omega | ((try simp only [decide_eq_true_eq, decide_eq_false_iff_not] at h_); omega) | (simp [mulSz, Cont.len, bne, tab_len, List.length_take, List.length_drop] at h_; first | done | omega))); intro _; conv => whnf)
      | (refine tst_in ?_ ?_; rotate_left; (focus (intro h_; exfalso; first | omega | ((try simp only [decide_eq_true_eq, decide_eq_false_iff_not] at h_); omega) | (simp [mulSz, Cont.len, bne, tab_len, List.length_take, List.length_drop] at h_; first | done | omega))); intro _; conv => whnf)
      | (refine ⟨0, (show _ = _ by omega), ?_⟩; conv => whnf))
    intro t1
    conv => whnf
    repeat (first
      | (refine And.intro ?_ ?_; (focus (first | omega | decide | exact EqOk.mk (by kernel_rfl) (by kernel_rfl) (by kernel_rfl) | exact Int.natCast_nonneg _ | ((repeat' refine And.intro ?_ ?_) <;> first | omega | exact Int.natCast_nonneg _ | (simp only [i64max, u8max, u16max, u32max, u64max]; omega) | (simp only [mulSz_eq, Cont.len, colsLen, Col.len, List.length_cons, List.length_nil, List.length_replicate, List.length_append, tab_len, List.length_take, List.length_drop]; first | done | omega) | (simp [mulSz, Cont.len, bne, tab_len, List.length_take, List.length_drop]; first | done | omega)))); conv => whnf)
      | (refine tst_in ?_ ?_; (focus (intro h_; exfalso; first | omega | ((try simp only [decide_eq_true_eq, decide_eq_false_iff_not] at h_); omega) | (simp [mulSz, Cont.len, bne, tab_len, List.length_take, List.length_drop] at h_; first | done | omega))); intro _; conv => whnf)
      | (refine tst_in ?_ ?_; rotate_left; (focus (intro h_; exfalso; first | omega | ((try simp only [decide_eq_true_eq, decide_eq_false_iff_not] at h_); omega) | (simp [mulSz, Cont.len, bne, tab_len, List.length_take, List.length_drop] at h_; first | done | omega))); intro _; conv => whnf)
      | (refine ⟨0, (show _ = _ by omega), ?_⟩; conv => whnf))
    intro t3
    conv => whnf
    repeat (first
      | (refine And.intro ?_ ?_; (focus (first | omega | decide | exact EqOk.mk (by kernel_rfl) (by kernel_rfl) (by kernel_rfl) | exact Int.natCast_nonneg _ | ((repeat' refine And.intro ?_ ?_) <;> first | omega | exact Int.natCast_nonneg _ | (simp only [i64max, u8max, u16max, u32max, u64max]; omega) | (simp only [mulSz_eq, Cont.len, colsLen, Col.len, List.length_cons, List.length_nil, List.length_replicate, List.length_append]; first | done | omega) | (simp [mulSz, Cont.len, bne]; first | done | omega)))); conv => whnf)
      | (refine tst_in ?_ ?_; (focus (intro h_; exfalso; first | omega | ((try simp only [decide_eq_true_eq, decide_eq_false_iff_not] at h_); omega) | (simp [mulSz, Cont.len, bne] at h_; first | done | omega))); intro _; conv => whnf)
      | (refine tst_in ?_ ?_; rotate_left; (focus (intro h_; exfalso; first | omega | ((try simp only [decide_eq_true_eq, decide_eq_false_iff_not] at h_); omega) | (simp [mulSz, Cont.len, bne] at h_; first | done | omega))); intro _; conv => whnf)
      | (refine ⟨0, (show _ = _ by omega), ?_⟩; conv => whnf))
    refine ⟨[0, 1, 5], (y, t3), ?_, True.intro⟩
    show stLe _ _ (stc l nl ca n y t3) _
    conv => whnf
    repeat' (first | exact True.intro | rfl | refine And.intro ?_ ?_)
    all_goals (conv => whnf)
    repeat' (first | exact True.intro | rfl | refine And.intro ?_ ?_)
    all_goals (try omega)
    exact lent_row (zF l) c77 y t1 t3 n
  · clear NF
    rintro ⟨y, t⟩ _
    show forceSt (stc l nl ca n y t) _
    have hz : ∀ i, i < n → aF (tb (zF l) n ++ y) i = zF l i := fun i hi => tab_app _ _ _ hi
    have hz2 : ∀ i, i < n → aF (tb (zF l) n ++ c77 :: t) i = zF l i := fun i hi => tab_app _ _ _ hi
    obtain ⟨m, e, hm⟩ : ∃ m e, dm n m e := (Nat.lt_or_ge 65536 n).elim (fun h => ⟨0, 1, .inr ⟨h, rfl, rfl⟩⟩) (fun h => ⟨n, 0, .inl ⟨h, rfl, rfl⟩⟩)
    have hmn : m ≤ n ∧ m ≤ 65536 := by rcases hm with h | h <;> omega
    have RD := rDoor_f (tb (zF l) n ++ y) n (n + y.length) m e (by simp [tab_len]) (by omega) (by omega) hm (fun i hi => by rw [hz i hi]; exact hW i)
    have PD := Door_f (tb (zF l) n ++ c77 :: t) n (n + 1 + t.length) m e (by simp [tab_len]) (by omega) (by omega) hm (fun i hi => by rw [hz2 i hi]; exact hW i)
    unfold rdOut at RD
    unfold pdOut at PD
    rw [show tb (fun i => sA (aF (tb (zF l) n ++ y) i)) m = tb (fun i => sA (zF l i)) m from tab_congr fun i hi => by rw [hz i (by omega)], show tb (fun i => sB (aF (tb (zF l) n ++ y) i)) m = tb (fun i => sB (zF l i)) m from tab_congr fun i hi => by rw [hz i (by omega)]] at RD
    rw [show tb (fun i => sC (aF (tb (zF l) n ++ c77 :: t) i)) m = tb (fun i => sC (zF l i)) m from tab_congr fun i hi => by rw [hz2 i (by omega)], show tb (fun i => sB (aF (tb (zF l) n ++ c77 :: t) i)) m = tb (fun i => sB (zF l i)) m from tab_congr fun i hi => by rw [hz2 i (by omega)]] at PD
    conv => whnf
    repeat (first
      | (refine And.intro ?_ ?_; (focus (first | omega | decide | exact EqOk.mk (by kernel_rfl) (by kernel_rfl) (by kernel_rfl) | exact Int.natCast_nonneg _ | ((repeat' refine And.intro ?_ ?_) <;> first | omega | exact Int.natCast_nonneg _ | (simp only [i64max, u8max, u16max, u32max, u64max]; omega) | (simp only [mulSz_eq, Cont.len, colsLen, Col.len, List.length_cons, List.length_nil, List.length_replicate, List.length_append]; first | done | omega) | (simp [mulSz, Cont.len, bne]; first | done | omega)))); conv => whnf)
      | (refine tst_in ?_ ?_; (focus (intro h_; exfalso; first | omega | ((try simp only [decide_eq_true_eq, decide_eq_false_iff_not] at h_); omega) | (simp [mulSz, Cont.len, bne] at h_; first | done | omega))); intro _; conv => whnf)
      | (refine tst_in ?_ ?_; rotate_left; (focus (intro h_; exfalso; first | omega | ((try simp only [decide_eq_true_eq, decide_eq_false_iff_not] at h_); omega) | (simp [mulSz, Cont.len, bne] at h_; first | done | omega))); intro _; conv => whnf)
      | (refine ⟨0, (show _ = _ by omega), ?_⟩; conv => whnf))
    refine ⟨_, [1], RD, ?_⟩
    conv => whnf
    iterate 2
     refine And.intro ?_ ?_
     focus
      conv => whnf
      repeat' (first | exact True.intro | rfl | refine And.intro ?_ ?_ | omega)
      all_goals (conv => whnf)
      all_goals (try (first | rfl | omega | (simp; done)))
    conv => whnf
    refine ⟨?_, True.intro⟩
    intro (w : Nat × YT × List Bool) _
    conv => whnf
    obtain ⟨r, wA, wB⟩ := w
    rename_i hw
    obtain ⟨hwA, hwB⟩ := hw
    have hwA : wA.length = r := hwA
    have hwB : wB.length = r := hwB
    conv => whnf
    repeat (first
      | (refine And.intro ?_ ?_; (focus (first | omega | decide | exact EqOk.mk (by kernel_rfl) (by kernel_rfl) (by kernel_rfl) | exact Int.natCast_nonneg _ | ((repeat' refine And.intro ?_ ?_) <;> first | omega | exact Int.natCast_nonneg _ | (simp only [i64max, u8max, u16max, u32max, u64max]; omega) | (simp only [mulSz_eq, Cont.len, colsLen, Col.len, List.length_cons, List.length_nil, List.length_replicate, List.length_append, tab_len]; first | done | omega) | (simp [mulSz, Cont.len, bne, tab_len]; first | done | omega)))); conv => whnf)
      | (refine tst_in ?_ ?_; (focus (intro h_; exfalso; first | omega | ((try simp only [decide_eq_true_eq, decide_eq_false_iff_not] at h_); omega) | (simp [mulSz, Cont.len, bne, tab_len] at h_; first | done | omega))); intro _; conv => whnf)
      | (refine tst_in ?_ ?_; rotate_left; (focus (intro h_; exfalso; first | omega | ((try simp only [decide_eq_true_eq, decide_eq_false_iff_not] at h_); omega) | (simp [mulSz, Cont.len, bne, tab_len] at h_; first | done | omega))); intro _; conv => whnf)
      | (refine ⟨0, (show _ = _ by omega), ?_⟩; conv => whnf))
    refine ⟨_, [2], PD, ?_⟩
    conv => whnf
    iterate 2
     refine And.intro ?_ ?_
     focus
      conv => whnf
      repeat' (first | exact True.intro | rfl | refine And.intro ?_ ?_ | omega)
      all_goals (conv => whnf)
      all_goals (try (first | rfl | omega | (simp; done)))
    conv => whnf
    refine ⟨?_, True.intro⟩
    intro _ _
    conv => whnf
    conv => whnf
    repeat (first
      | (refine And.intro ?_ ?_; (focus (first | omega | decide | exact EqOk.mk (by kernel_rfl) (by kernel_rfl) (by kernel_rfl) | exact Int.natCast_nonneg _ | ((repeat' refine And.intro ?_ ?_) <;> first | omega | exact Int.natCast_nonneg _ | (simp only [i64max, u8max, u16max, u32max, u64max]; omega) | (simp only [mulSz_eq, Cont.len, colsLen, Col.len, List.length_cons, List.length_nil, List.length_replicate, List.length_append, tab_len]; first | done | omega) | (simp [mulSz, Cont.len, bne, tab_len]; first | done | omega)))); conv => whnf)
      | (refine tst_in ?_ ?_; (focus (intro h_; exfalso; first | omega | ((try simp only [decide_eq_true_eq, decide_eq_false_iff_not] at h_); omega) | (simp [mulSz, Cont.len, bne, tab_len] at h_; first | done | omega))); intro _; conv => whnf)
      | (refine tst_in ?_ ?_; rotate_left; (focus (intro h_; exfalso; first | omega | ((try simp only [decide_eq_true_eq, decide_eq_false_iff_not] at h_); omega) | (simp [mulSz, Cont.len, bne, tab_len] at h_; first | done | omega))); intro _; conv => whnf)
      | (refine ⟨0, (show _ = _ by omega), ?_⟩; conv => whnf))
    refine ⟨_, [2], PD, ?_⟩
    conv => whnf
    iterate 2
     refine And.intro ?_ ?_
     focus
      conv => whnf
      repeat' (first | exact True.intro | rfl | refine And.intro ?_ ?_ | omega)
      all_goals (conv => whnf)
      all_goals (try (first | rfl | omega | (simp; done)))
    conv => whnf
    refine ⟨?_, True.intro⟩
    intro _ _
    conv => whnf
    conv => whnf
    repeat (first
      | (refine And.intro ?_ ?_; (focus (first | omega | decide | exact EqOk.mk (by kernel_rfl) (by kernel_rfl) (by kernel_rfl) | exact Int.natCast_nonneg _ | ((repeat' refine And.intro ?_ ?_) <;> first | omega | exact Int.natCast_nonneg _ | (simp only [i64max, u8max, u16max, u32max, u64max]; omega) | (simp only [mulSz_eq, Cont.len, colsLen, Col.len, List.length_cons, List.length_nil, List.length_replicate, List.length_append, tab_len]; first | done | omega) | (simp [mulSz, Cont.len, bne, tab_len]; first | done | omega)))); conv => whnf)
      | (refine tst_in ?_ ?_; (focus (intro h_; exfalso; first | omega | ((try simp only [decide_eq_true_eq, decide_eq_false_iff_not] at h_); omega) | (simp [mulSz, Cont.len, bne, tab_len] at h_; first | done | omega))); intro _; conv => whnf)
      | (refine tst_in ?_ ?_; rotate_left; (focus (intro h_; exfalso; first | omega | ((try simp only [decide_eq_true_eq, decide_eq_false_iff_not] at h_); omega) | (simp [mulSz, Cont.len, bne, tab_len] at h_; first | done | omega))); intro _; conv => whnf)
      | (refine ⟨0, (show _ = _ by omega), ?_⟩; conv => whnf))
    refine ⟨?_, ?_⟩
    · have PE : ∀ i, i < m → (D.order (aF (tb (fun i => sC (zF l i)) m) i).1 (aF (tb (fun i => sA (zF l i)) m ++ wA) i).1 == some .eq) = true ∧ (D.order (aF (tb (fun i => sC (zF l i)) m) i).2 (aF (tb (fun i => sA (zF l i)) m ++ wA) i).2 == some .eq) = true ∧ (tb (fun i => sB (zF l i)) m ++ wB).getD i false = (tb (fun i => sB (zF l i)) m).getD i false := fun i hi => by
        rw [show aF (tb (fun i => sC (zF l i)) m) i = sC (zF l i) from tab_get _ _ hi, show aF (tb (fun i => sA (zF l i)) m ++ wA) i = sA (zF l i) from tab_app _ _ _ hi, tab_app _ _ _ hi, tab_get _ _ hi]
        exact ⟨(sCA (hW i)).1, (sCA (hW i)).2, rfl⟩
      have PY : P9 m r (tb (fun i => sA (zF l i)) m ++ wA) (tb (fun i => sB (zF l i)) m ++ wB) (tb (fun i => sC (zF l i)) m) (tb (fun i => sB (zF l i)) m) :=
        ⟨hmn.2, by simp [tab_len, hwA], by simp [tab_len, hwB], by simp [tab_len], by simp [tab_len], fun i hi => by unfold smM; rw [tab_get _ _ hi, tab_get _ _ hi]; exact may_s (hW i), fun i hi => by rw [tab_get _ _ hi]; exact W_s (hW i), PE⟩
      have S1 := Same_q (tb (fun i => sC (zF l i)) m) (tb (fun i => sA (zF l i)) m ++ wA) (tb (fun i => sB (zF l i)) m) (tb (fun i => sB (zF l i)) m ++ wB) m m (m + r) (by simp [tab_len]) (by simp [tab_len]) (by simp [tab_len]) (by simp [tab_len]) (by omega) (by omega) (by omega) PE
      conv => whnf
      repeat (first
        | (refine And.intro ?_ ?_; (focus (first | omega | decide | exact EqOk.mk (by kernel_rfl) (by kernel_rfl) (by kernel_rfl) | exact Int.natCast_nonneg _ | ((repeat' refine And.intro ?_ ?_) <;> first | omega | exact Int.natCast_nonneg _ | (simp only [i64max, u8max, u16max, u32max, u64max]; omega) | (simp only [mulSz_eq, Cont.len, colsLen, Col.len, List.length_cons, List.length_nil, List.length_replicate, List.length_append]; first | done | omega) | (simp [mulSz, Cont.len, bne]; first | done | omega)))); conv => whnf)
        | (refine tst_in ?_ ?_; (focus (intro h_; exfalso; first | omega | ((try simp only [decide_eq_true_eq, decide_eq_false_iff_not] at h_); omega) | (simp [mulSz, Cont.len, bne] at h_; first | done | omega))); intro _; conv => whnf)
        | (refine tst_in ?_ ?_; rotate_left; (focus (intro h_; exfalso; first | omega | ((try simp only [decide_eq_true_eq, decide_eq_false_iff_not] at h_); omega) | (simp [mulSz, Cont.len, bne] at h_; first | done | omega))); intro _; conv => whnf)
        | (refine ⟨0, (show _ = _ by omega), ?_⟩; conv => whnf))
      rw [show (decide (e = e)) = true from decide_eq_true rfl]
      conv => whnf
      repeat (first
        | (refine And.intro ?_ ?_; (focus (first | omega | decide | exact EqOk.mk (by kernel_rfl) (by kernel_rfl) (by kernel_rfl) | exact Int.natCast_nonneg _ | ((repeat' refine And.intro ?_ ?_) <;> first | omega | exact Int.natCast_nonneg _ | (simp only [i64max, u8max, u16max, u32max, u64max]; omega) | (simp only [mulSz_eq, Cont.len, colsLen, Col.len, List.length_cons, List.length_nil, List.length_replicate, List.length_append]; first | done | omega) | (simp [mulSz, Cont.len, bne]; first | done | omega)))); conv => whnf)
        | (refine tst_in ?_ ?_; (focus (intro h_; exfalso; first | omega | ((try simp only [decide_eq_true_eq, decide_eq_false_iff_not] at h_); omega) | (simp [mulSz, Cont.len, bne] at h_; first | done | omega))); intro _; conv => whnf)
        | (refine tst_in ?_ ?_; rotate_left; (focus (intro h_; exfalso; first | omega | ((try simp only [decide_eq_true_eq, decide_eq_false_iff_not] at h_); omega) | (simp [mulSz, Cont.len, bne] at h_; first | done | omega))); intro _; conv => whnf)
        | (refine ⟨0, (show _ = _ by omega), ?_⟩; conv => whnf))
      refine ⟨_, [4, 3], S1, ?_⟩
      conv => whnf
      iterate 2
       refine And.intro ?_ ?_
       focus
        conv => whnf
        repeat' (first | exact True.intro | rfl | refine And.intro ?_ ?_)
        all_goals (conv => whnf)
        repeat' (first | exact True.intro | rfl | refine And.intro ?_ ?_)
        all_goals (try (first | rfl | omega | (simp; first | done | omega)))
      conv => whnf
      conv => whnf
      repeat (first
        | (refine And.intro ?_ ?_; (focus (first | omega | decide | exact EqOk.mk (by kernel_rfl) (by kernel_rfl) (by kernel_rfl) | exact Int.natCast_nonneg _ | ((repeat' refine And.intro ?_ ?_) <;> first | omega | exact Int.natCast_nonneg _ | (simp only [i64max, u8max, u16max, u32max, u64max]; omega) | (simp only [mulSz_eq, Cont.len, colsLen, Col.len, List.length_cons, List.length_nil, List.length_replicate, List.length_append]; first | done | omega) | (simp [mulSz, Cont.len, bne]; first | done | omega)))); conv => whnf)
        | (refine tst_in ?_ ?_; (focus (intro h_; exfalso; first | omega | ((try simp only [decide_eq_true_eq, decide_eq_false_iff_not] at h_); omega) | (simp [mulSz, Cont.len, bne] at h_; first | done | omega))); intro _; conv => whnf)
        | (refine tst_in ?_ ?_; rotate_left; (focus (intro h_; exfalso; first | omega | ((try simp only [decide_eq_true_eq, decide_eq_false_iff_not] at h_); omega) | (simp [mulSz, Cont.len, bne] at h_; first | done | omega))); intro _; conv => whnf)
        | (refine ⟨0, (show _ = _ by omega), ?_⟩; conv => whnf))
      refine ⟨_, [5, 3], S1, ?_⟩
      conv => whnf
      iterate 2
       refine And.intro ?_ ?_
       focus
        conv => whnf
        repeat' (first | exact True.intro | rfl | refine And.intro ?_ ?_)
        all_goals (conv => whnf)
        repeat' (first | exact True.intro | rfl | refine And.intro ?_ ?_)
        all_goals (try (first | rfl | omega | (simp; first | done | omega)))
      conv => whnf
      conv => whnf
      repeat (first
        | (refine And.intro ?_ ?_; (focus (first | omega | decide | exact EqOk.mk (by kernel_rfl) (by kernel_rfl) (by kernel_rfl) | exact Int.natCast_nonneg _ | ((repeat' refine And.intro ?_ ?_) <;> first | omega | exact Int.natCast_nonneg _ | (simp only [i64max, u8max, u16max, u32max, u64max]; omega) | (simp only [mulSz_eq, Cont.len, colsLen, Col.len, List.length_cons, List.length_nil, List.length_replicate, List.length_append, tab_len]; first | done | omega) | (simp [mulSz, Cont.len, bne, tab_len]; first | done | omega)))); conv => whnf)
        | (refine tst_in ?_ ?_; (focus (intro h_; exfalso; first | omega | ((try simp only [decide_eq_true_eq, decide_eq_false_iff_not] at h_); omega) | (simp [mulSz, Cont.len, bne, tab_len] at h_; first | done | omega))); intro _; conv => whnf)
        | (refine tst_in ?_ ?_; rotate_left; (focus (intro h_; exfalso; first | omega | ((try simp only [decide_eq_true_eq, decide_eq_false_iff_not] at h_); omega) | (simp [mulSz, Cont.len, bne, tab_len] at h_; first | done | omega))); intro _; conv => whnf)
        | (refine ⟨(n), (show _ = _ by omega), ?_⟩; conv => whnf)
        | (refine ⟨(n), 0, (show _ = _ by omega), ?_⟩; conv => whnf)
        | (refine ⟨(n), 1, (show _ = _ by omega), ?_⟩; conv => whnf)
        | (refine ⟨(n), 2, (show _ = _ by omega), ?_⟩; conv => whnf)
        | (refine ⟨(n), 3, (show _ = _ by omega), ?_⟩; conv => whnf)
        | (refine ⟨(n), 4, (show _ = _ by omega), ?_⟩; conv => whnf)
        | (refine ⟨(n), 5, (show _ = _ by omega), ?_⟩; conv => whnf)
        | (refine ⟨0, (show _ = _ by omega), ?_⟩; conv => whnf))
      rw [show 0 + ((n : Nat) : Int).toNat = n by omega, at_n (zF l) c77 (0, 0) t n]
      unfold c77
      rw [eq77]
      conv => whnf
      repeat (first
        | (refine And.intro ?_ ?_; (focus (first | omega | decide | exact EqOk.mk (by kernel_rfl) (by kernel_rfl) (by kernel_rfl) | exact Int.natCast_nonneg _ | ((repeat' refine And.intro ?_ ?_) <;> first | omega | exact Int.natCast_nonneg _ | (simp only [i64max, u8max, u16max, u32max, u64max]; omega) | (simp only [mulSz_eq, Cont.len, colsLen, Col.len, List.length_cons, List.length_nil, List.length_replicate, List.length_append]; first | done | omega) | (simp [mulSz, Cont.len, bne]; first | done | omega)))); conv => whnf)
        | (refine tst_in ?_ ?_; (focus (intro h_; exfalso; first | omega | ((try simp only [decide_eq_true_eq, decide_eq_false_iff_not] at h_); omega) | (simp [mulSz, Cont.len, bne] at h_; first | done | omega))); intro _; conv => whnf)
        | (refine tst_in ?_ ?_; rotate_left; (focus (intro h_; exfalso; first | omega | ((try simp only [decide_eq_true_eq, decide_eq_false_iff_not] at h_); omega) | (simp [mulSz, Cont.len, bne] at h_; first | done | omega))); intro _; conv => whnf)
        | (refine ⟨0, (show _ = _ by omega), ?_⟩; conv => whnf))
      refine ⟨[0, 2, 3, 4, 5], ⟨m, r, t, tb (fun i => sA (zF l i)) m ++ wA, tb (fun i => sB (zF l i)) m ++ wB, tb (fun i => sC (zF l i)) m, tb (fun i => sB (zF l i)) m⟩, ?_, PY⟩
      show stLe _ _ (st9 l nl ca n m r t _ _ _ _) _
      conv => whnf
      repeat' (first | exact True.intro | rfl | refine And.intro ?_ ?_)
      all_goals (conv => whnf)
      repeat' (first | exact True.intro | rfl | refine And.intro ?_ ?_)
      all_goals (try omega)
    · clear RD PD hz hz2
      rintro ⟨m, q, t, wA, wB, oA, oB⟩ P
      have P : P9 m q wA wB oA oB := P
      show forceSt (st9 l nl ca n m q t wA wB oA oB) _
      conv => whnf
      repeat (first
        | (refine And.intro ?_ ?_; (focus (first | omega | decide | exact EqOk.mk (by kernel_rfl) (by kernel_rfl) (by kernel_rfl) | exact Int.natCast_nonneg _ | ((repeat' refine And.intro ?_ ?_) <;> first | omega | exact Int.natCast_nonneg _ | (simp only [i64max, u8max, u16max, u32max, u64max]; omega) | (simp only [mulSz_eq, Cont.len, colsLen, Col.len, List.length_cons, List.length_nil, List.length_replicate, List.length_append]; first | done | omega) | (simp [mulSz, Cont.len, bne]; first | done | omega)))); conv => whnf)
        | (refine tst_in ?_ ?_; (focus (intro h_; exfalso; first | omega | ((try simp only [decide_eq_true_eq, decide_eq_false_iff_not] at h_); omega) | (simp [mulSz, Cont.len, bne] at h_; first | done | omega))); intro _; conv => whnf)
        | (refine tst_in ?_ ?_; rotate_left; (focus (intro h_; exfalso; first | omega | ((try simp only [decide_eq_true_eq, decide_eq_false_iff_not] at h_); omega) | (simp [mulSz, Cont.len, bne] at h_; first | done | omega))); intro _; conv => whnf)
        | (refine ⟨0, (show _ = _ by omega), ?_⟩; conv => whnf))
      refine ⟨⟨[0, 1, 2, 3, 4], (⟨m, q, t, wA, wB, oA, oB⟩, 0), ?_, ⟨P, Nat.zero_le _⟩⟩, ?_⟩
      · show stLe _ _ (st10 l nl ca n m q t wA wB oA oB 0) _
        conv => whnf
        repeat' (first | exact True.intro | rfl | refine And.intro ?_ ?_)
        all_goals (conv => whnf)
        repeat' (first | exact True.intro | rfl | refine And.intro ?_ ?_)
        all_goals (try omega)
      · clear P
        rintro ⟨⟨m, q, t, wA, wB, oA, oB⟩, i⟩ ⟨P, hi⟩
        have P : P9 m q wA wB oA oB := P
        have hi : i ≤ n := hi
        show forceSt (st10 l nl ca n m q t wA wB oA oB i) _
        conv => whnf
        refine tst_in (fun hlt => ?_) (fun hge => ?_)
        · skip
          have hlt : i < n := by simp at hlt; omega
          have ei : (tb (zF l) n ++ c77 :: t).getD (0 + ((i : Nat) : Int).toNat) (0, 0) = zF l i := by rw [Nat.zero_add, Int.toNat_natCast, tab_app _ _ _ hlt]
          have B1 := bf_x (zF l i).1
          have B2 := bf_x (zF l i).2
          rw [show ((zF l i).1 : Int) = l.getD (2 * i) 0 from Int.toNat_of_nonneg (hp _)] at B1
          rw [show ((zF l i).2 : Int) = l.getD (2 * i + 1) 0 from Int.toNat_of_nonneg (hp _)] at B2
          conv => whnf
          repeat (first
            | (refine And.intro ?_ ?_; (focus (first | omega | decide | exact EqOk.mk (by kernel_rfl) (by kernel_rfl) (by kernel_rfl) | exact Int.natCast_nonneg _ | ((repeat' refine And.intro ?_ ?_) <;> first | omega | exact Int.natCast_nonneg _ | (simp only [i64max, u8max, u16max, u32max, u64max]; omega) | (simp only [mulSz_eq, Cont.len, colsLen, Col.len, List.length_cons, List.length_nil, List.length_replicate, List.length_append, tab_len]; first | done | omega) | (simp [mulSz, Cont.len, bne, tab_len]; first | done | omega)))); conv => whnf)
            | (refine tst_in ?_ ?_; (focus (intro h_; exfalso; first | omega | ((try simp only [decide_eq_true_eq, decide_eq_false_iff_not] at h_); omega) | (simp [mulSz, Cont.len, bne, tab_len] at h_; first | done | omega))); intro _; conv => whnf)
            | (refine tst_in ?_ ?_; rotate_left; (focus (intro h_; exfalso; first | omega | ((try simp only [decide_eq_true_eq, decide_eq_false_iff_not] at h_); omega) | (simp [mulSz, Cont.len, bne, tab_len] at h_; first | done | omega))); intro _; conv => whnf)
            | (refine ⟨(i), (show _ = _ by omega), ?_⟩; conv => whnf)
            | (refine ⟨(i), 0, (show _ = _ by omega), ?_⟩; conv => whnf)
            | (refine ⟨(i), 1, (show _ = _ by omega), ?_⟩; conv => whnf)
            | (refine ⟨(i), 2, (show _ = _ by omega), ?_⟩; conv => whnf)
            | (refine ⟨(i), 3, (show _ = _ by omega), ?_⟩; conv => whnf)
            | (refine ⟨(i), 4, (show _ = _ by omega), ?_⟩; conv => whnf)
            | (refine ⟨(i), 5, (show _ = _ by omega), ?_⟩; conv => whnf)
            | (refine ⟨0, (show _ = _ by omega), ?_⟩; conv => whnf))
          rw [ei]
          refine ⟨_, _, B1, rfl, ?_⟩
          conv => whnf
          conv => whnf
          repeat (first
            | (refine And.intro ?_ ?_; (focus (first | omega | decide | exact EqOk.mk (by kernel_rfl) (by kernel_rfl) (by kernel_rfl) | exact Int.natCast_nonneg _ | ((repeat' refine And.intro ?_ ?_) <;> first | omega | exact Int.natCast_nonneg _ | (simp only [i64max, u8max, u16max, u32max, u64max]; omega) | (simp only [mulSz_eq, Cont.len, colsLen, Col.len, List.length_cons, List.length_nil, List.length_replicate, List.length_append]; first | done | omega) | (simp [mulSz, Cont.len, bne]; first | done | omega)))); conv => whnf)
            | (refine tst_in ?_ ?_; (focus (intro h_; exfalso; first | omega | ((try simp only [decide_eq_true_eq, decide_eq_false_iff_not] at h_); omega) | (simp [mulSz, Cont.len, bne] at h_; first | done | omega))); intro _; conv => whnf)
            | (refine tst_in ?_ ?_; rotate_left; (focus (intro h_; exfalso; first | omega | ((try simp only [decide_eq_true_eq, decide_eq_false_iff_not] at h_); omega) | (simp [mulSz, Cont.len, bne] at h_; first | done | omega))); intro _; conv => whnf)
            | (refine ⟨0, (show _ = _ by omega), ?_⟩; conv => whnf))
          rw [show 0 + (2 * ((i : Nat) : Int)).toNat = 2 * i by omega, show (decide (l.getD (2 * i) 0 = l.getD (2 * i) 0)) = true from decide_eq_true rfl]
          conv => whnf
          repeat (first
            | (refine And.intro ?_ ?_; (focus (first | omega | decide | exact EqOk.mk (by kernel_rfl) (by kernel_rfl) (by kernel_rfl) | exact Int.natCast_nonneg _ | ((repeat' refine And.intro ?_ ?_) <;> first | omega | exact Int.natCast_nonneg _ | (simp only [i64max, u8max, u16max, u32max, u64max]; omega) | (simp only [mulSz_eq, Cont.len, colsLen, Col.len, List.length_cons, List.length_nil, List.length_replicate, List.length_append, tab_len]; first | done | omega) | (simp [mulSz, Cont.len, bne, tab_len]; first | done | omega)))); conv => whnf)
            | (refine tst_in ?_ ?_; (focus (intro h_; exfalso; first | omega | ((try simp only [decide_eq_true_eq, decide_eq_false_iff_not] at h_); omega) | (simp [mulSz, Cont.len, bne, tab_len] at h_; first | done | omega))); intro _; conv => whnf)
            | (refine tst_in ?_ ?_; rotate_left; (focus (intro h_; exfalso; first | omega | ((try simp only [decide_eq_true_eq, decide_eq_false_iff_not] at h_); omega) | (simp [mulSz, Cont.len, bne, tab_len] at h_; first | done | omega))); intro _; conv => whnf)
            | (refine ⟨(i), (show _ = _ by omega), ?_⟩; conv => whnf)
            | (refine ⟨(i), 0, (show _ = _ by omega), ?_⟩; conv => whnf)
            | (refine ⟨(i), 1, (show _ = _ by omega), ?_⟩; conv => whnf)
            | (refine ⟨(i), 2, (show _ = _ by omega), ?_⟩; conv => whnf)
            | (refine ⟨(i), 3, (show _ = _ by omega), ?_⟩; conv => whnf)
            | (refine ⟨(i), 4, (show _ = _ by omega), ?_⟩; conv => whnf)
            | (refine ⟨(i), 5, (show _ = _ by omega), ?_⟩; conv => whnf)
            | (refine ⟨0, (show _ = _ by omega), ?_⟩; conv => whnf))
          rw [ei]
          refine ⟨_, _, B2, rfl, ?_⟩
          conv => whnf
          conv => whnf
          repeat (first
            | (refine And.intro ?_ ?_; (focus (first | omega | decide | exact EqOk.mk (by kernel_rfl) (by kernel_rfl) (by kernel_rfl) | exact Int.natCast_nonneg _ | ((repeat' refine And.intro ?_ ?_) <;> first | omega | exact Int.natCast_nonneg _ | (simp only [i64max, u8max, u16max, u32max, u64max]; omega) | (simp only [mulSz_eq, Cont.len, colsLen, Col.len, List.length_cons, List.length_nil, List.length_replicate, List.length_append]; first | done | omega) | (simp [mulSz, Cont.len, bne]; first | done | omega)))); conv => whnf)
            | (refine tst_in ?_ ?_; (focus (intro h_; exfalso; first | omega | ((try simp only [decide_eq_true_eq, decide_eq_false_iff_not] at h_); omega) | (simp [mulSz, Cont.len, bne] at h_; first | done | omega))); intro _; conv => whnf)
            | (refine tst_in ?_ ?_; rotate_left; (focus (intro h_; exfalso; first | omega | ((try simp only [decide_eq_true_eq, decide_eq_false_iff_not] at h_); omega) | (simp [mulSz, Cont.len, bne] at h_; first | done | omega))); intro _; conv => whnf)
            | (refine ⟨0, (show _ = _ by omega), ?_⟩; conv => whnf))
          rw [show 0 + (2 * ((i : Nat) : Int) + 1).toNat = 2 * i + 1 by omega, show (decide (l.getD (2 * i + 1) 0 = l.getD (2 * i + 1) 0)) = true from decide_eq_true rfl]
          conv => whnf
          repeat (first
            | (refine And.intro ?_ ?_; (focus (first | omega | decide | exact EqOk.mk (by kernel_rfl) (by kernel_rfl) (by kernel_rfl) | exact Int.natCast_nonneg _ | ((repeat' refine And.intro ?_ ?_) <;> first | omega | exact Int.natCast_nonneg _ | (simp only [i64max, u8max, u16max, u32max, u64max]; omega) | (simp only [mulSz_eq, Cont.len, colsLen, Col.len, List.length_cons, List.length_nil, List.length_replicate, List.length_append]; first | done | omega) | (simp [mulSz, Cont.len, bne]; first | done | omega)))); conv => whnf)
            | (refine tst_in ?_ ?_; (focus (intro h_; exfalso; first | omega | ((try simp only [decide_eq_true_eq, decide_eq_false_iff_not] at h_); omega) | (simp [mulSz, Cont.len, bne] at h_; first | done | omega))); intro _; conv => whnf)
            | (refine tst_in ?_ ?_; rotate_left; (focus (intro h_; exfalso; first | omega | ((try simp only [decide_eq_true_eq, decide_eq_false_iff_not] at h_); omega) | (simp [mulSz, Cont.len, bne] at h_; first | done | omega))); intro _; conv => whnf)
            | (refine ⟨0, (show _ = _ by omega), ?_⟩; conv => whnf))
          refine ⟨[0, 1, 2, 3, 4], (⟨m, q, t, wA, wB, oA, oB⟩, i + 1), ?_, ⟨P, (by show i + 1 ≤ n; omega)⟩, (by show n - (i + 1) < n - i; omega)⟩
          show stLe _ _ (st10 l nl ca n m q t wA wB oA oB (i + 1)) _
          conv => whnf
          repeat' (first | exact True.intro | rfl | refine And.intro ?_ ?_)
          all_goals (conv => whnf)
          repeat' (first | exact True.intro | rfl | refine And.intro ?_ ?_)
          all_goals (try omega)
        · skip
          clear hi hge
          conv => whnf
          repeat (first
            | (refine And.intro ?_ ?_; (focus (first | omega | decide | exact EqOk.mk (by kernel_rfl) (by kernel_rfl) (by kernel_rfl) | exact Int.natCast_nonneg _ | ((repeat' refine And.intro ?_ ?_) <;> first | omega | exact Int.natCast_nonneg _ | (simp only [i64max, u8max, u16max, u32max, u64max]; omega) | (simp only [mulSz_eq, Cont.len, colsLen, Col.len, List.length_cons, List.length_nil, List.length_replicate, List.length_append]; first | done | omega) | (simp [mulSz, Cont.len, bne]; first | done | omega)))); conv => whnf)
            | (refine tst_in ?_ ?_; (focus (intro h_; exfalso; first | omega | ((try simp only [decide_eq_true_eq, decide_eq_false_iff_not] at h_); omega) | (simp [mulSz, Cont.len, bne] at h_; first | done | omega))); intro _; conv => whnf)
            | (refine tst_in ?_ ?_; rotate_left; (focus (intro h_; exfalso; first | omega | ((try simp only [decide_eq_true_eq, decide_eq_false_iff_not] at h_); omega) | (simp [mulSz, Cont.len, bne] at h_; first | done | omega))); intro _; conv => whnf)
            | (refine ⟨0, (show _ = _ by omega), ?_⟩; conv => whnf))
          refine ⟨⟨[0, 2, 3, 4], ⟨m, q, wA, wB, oA, oB, oA, oB, 0, 0, 0⟩, ?_, ⟨P, P.oa, P.ob, Nat.zero_le _⟩⟩, ?_⟩
          · show stLe _ _ (st15b l m q wA wB oA oB oA oB 0) _
            conv => whnf
            repeat' (first | exact True.intro | rfl | refine And.intro ?_ ?_)
            all_goals (conv => whnf)
            repeat' (first | exact True.intro | rfl | refine And.intro ?_ ?_)
            all_goals (try omega)
          · clear P
            rintro ⟨m, q, wA, wB, oA, oB, xA, xB, _, _, i⟩ ⟨P, hxA, hxB, hi⟩
            have P : P9 m q wA wB oA oB := P
            have hxA : xA.length = m := hxA
            have hxB : xB.length = m := hxB
            have hi : i ≤ m := hi
            have hm := P.m1
            show forceSt (st15b l m q wA wB oA oB xA xB i) _
            conv => whnf
            refine tst_in (fun hlt => ?_) (fun hge => ?_)
            · skip
              have hlt : i < m := by simp at hlt; omega
              conv => whnf
              repeat (first
                | (refine And.intro ?_ ?_; (focus (first | omega | decide | exact EqOk.mk (by kernel_rfl) (by kernel_rfl) (by kernel_rfl) | exact Int.natCast_nonneg _ | ((repeat' refine And.intro ?_ ?_) <;> first | omega | exact Int.natCast_nonneg _ | (simp only [i64max, u8max, u16max, u32max, u64max]; omega) | (simp only [mulSz_eq, Cont.len, colsLen, Col.len, List.length_cons, List.length_nil, List.length_replicate, List.length_append, hxA, hxB]; first | done | omega) | (simp [mulSz, Cont.len, bne, hxA, hxB]; first | done | omega)))); conv => whnf)
                | (refine tst_in ?_ ?_; (focus (intro h_; exfalso; first | omega | ((try simp only [decide_eq_true_eq, decide_eq_false_iff_not] at h_); omega) | (simp [mulSz, Cont.len, bne, hxA, hxB] at h_; first | done | omega))); intro _; conv => whnf)
                | (refine tst_in ?_ ?_; rotate_left; (focus (intro h_; exfalso; first | omega | ((try simp only [decide_eq_true_eq, decide_eq_false_iff_not] at h_); omega) | (simp [mulSz, Cont.len, bne, hxA, hxB] at h_; first | done | omega))); intro _; conv => whnf)
                | (refine ⟨(i), (show _ = _ by omega), ?_⟩; conv => whnf)
                | (refine ⟨(i), 0, (show _ = _ by omega), ?_⟩; conv => whnf)
                | (refine ⟨(i), 1, (show _ = _ by omega), ?_⟩; conv => whnf)
                | (refine ⟨(i), 2, (show _ = _ by omega), ?_⟩; conv => whnf)
                | (refine ⟨(i), 3, (show _ = _ by omega), ?_⟩; conv => whnf)
                | (refine ⟨(i), 4, (show _ = _ by omega), ?_⟩; conv => whnf)
                | (refine ⟨(i), 5, (show _ = _ by omega), ?_⟩; conv => whnf)
                | (refine ⟨0, (show _ = _ by omega), ?_⟩; conv => whnf))
              refine ⟨[0, 1, 2, 3], ⟨m, q, wA, wB, oA, oB, xA.set i (4617315517961601024, 0), xB.set i false, 0, 0, i + 1⟩, ?_, ⟨P, (by simp [hxA]), (by simp [hxB]), (by show i + 1 ≤ m; omega)⟩, (by show m - (i + 1) < m - i; omega)⟩
              show stLe _ _ (st15b l m q wA wB oA oB (xA.set i (4617315517961601024, 0)) (xB.set i false) (i + 1)) _
              conv => whnf
              repeat' (first | exact True.intro | rfl | refine And.intro ?_ ?_)
              all_goals (conv => whnf)
              repeat' (first | exact True.intro | rfl | refine And.intro ?_ ?_)
              all_goals (try omega)
            · skip
              clear hi hge
              conv => whnf
              repeat (first
                | (refine And.intro ?_ ?_; (focus (first | omega | decide | exact EqOk.mk (by kernel_rfl) (by kernel_rfl) (by kernel_rfl) | exact Int.natCast_nonneg _ | ((repeat' refine And.intro ?_ ?_) <;> first | omega | exact Int.natCast_nonneg _ | (simp only [i64max, u8max, u16max, u32max, u64max]; omega) | (simp only [mulSz_eq, Cont.len, colsLen, Col.len, List.length_cons, List.length_nil, List.length_replicate, List.length_append]; first | done | omega) | (simp [mulSz, Cont.len, bne]; first | done | omega)))); conv => whnf)
                | (refine tst_in ?_ ?_; (focus (intro h_; exfalso; first | omega | ((try simp only [decide_eq_true_eq, decide_eq_false_iff_not] at h_); omega) | (simp [mulSz, Cont.len, bne] at h_; first | done | omega))); intro _; conv => whnf)
                | (refine tst_in ?_ ?_; rotate_left; (focus (intro h_; exfalso; first | omega | ((try simp only [decide_eq_true_eq, decide_eq_false_iff_not] at h_); omega) | (simp [mulSz, Cont.len, bne] at h_; first | done | omega))); intro _; conv => whnf)
                | (refine ⟨0, (show _ = _ by omega), ?_⟩; conv => whnf))
              refine ⟨⟨[0, 1, 2, 3], ⟨m, q, wA, wB, oA, oB, xA, xB, m, 0, 0⟩, ?_, ⟨P, hxA, hxB, Nat.zero_le _, rfl⟩⟩, ?_⟩
              · show stLe _ _ (st19b l m q wA wB oA oB xA xB m 0 0) _
                conv => whnf
                repeat' (first | exact True.intro | rfl | refine And.intro ?_ ?_)
                all_goals (conv => whnf)
                repeat' (first | exact True.intro | rfl | refine And.intro ?_ ?_)
                all_goals (try omega)
              · clear P hxA hxB hm
                rintro ⟨m, q, wA, wB, oA, oB, xA, xB, L, u, i⟩ ⟨P, hxA, hxB, hi, hL⟩
                have P : P9 m q wA wB oA oB := P
                have hxA : xA.length = L + u := hxA
                have hxB : xB.length = L + u := hxB
                have hi : i ≤ 20 := hi
                have hL : L = m + i := hL
                have hm := P.m1
                show forceSt (st19b l m q wA wB oA oB xA xB L u i) _
                conv => whnf
                refine tst_in (fun hlt => ?_) (fun hge => ?_)
                · skip
                  have hlt : i < 20 := by simp at hlt; omega
                  conv => whnf
                  repeat (first
                    | (refine And.intro ?_ ?_; (focus (first | omega | decide | exact EqOk.mk (by kernel_rfl) (by kernel_rfl) (by kernel_rfl) | exact Int.natCast_nonneg _ | ((repeat' refine And.intro ?_ ?_) <;> first | omega | exact Int.natCast_nonneg _ | (simp only [i64max, u8max, u16max, u32max, u64max]; omega) | (simp only [mulSz_eq, Cont.len, colsLen, Col.len, List.length_cons, List.length_nil, List.length_replicate, List.length_append, hxA, hxB, List.length_take, List.length_drop]; first | done | omega) | (simp [mulSz, Cont.len, bne, hxA, hxB, List.length_take, List.length_drop]; first | done | omega)))); conv => whnf)
                    | (refine tst_in ?_ ?_; (focus (intro h_; exfalso; first | omega | ((try simp only [decide_eq_true_eq, decide_eq_false_iff_not] at h_); omega) | (simp [mulSz, Cont.len, bne, hxA, hxB, List.length_take, List.length_drop] at h_; first | done | omega))); intro _; conv => whnf)
                    | (refine tst_in ?_ ?_; rotate_left; (focus (intro h_; exfalso; first | omega | ((try simp only [decide_eq_true_eq, decide_eq_false_iff_not] at h_); omega) | (simp [mulSz, Cont.len, bne, hxA, hxB, List.length_take, List.length_drop] at h_; first | done | omega))); intro _; conv => whnf)
                    | (refine ⟨0, (show _ = _ by omega), ?_⟩; conv => whnf))
                  intro r' u1 g1 u2 g2
                  conv => whnf
                  repeat (first
                    | (refine And.intro ?_ ?_; (focus (first | omega | decide | exact EqOk.mk (by kernel_rfl) (by kernel_rfl) (by kernel_rfl) | exact Int.natCast_nonneg _ | ((repeat' refine And.intro ?_ ?_) <;> first | omega | exact Int.natCast_nonneg _ | (simp only [i64max, u8max, u16max, u32max, u64max]; omega) | (simp only [mulSz_eq, Cont.len, colsLen, Col.len, List.length_cons, List.length_nil, List.length_replicate, List.length_append]; first | done | omega) | (simp [mulSz, Cont.len, bne]; first | done | omega)))); conv => whnf)
                    | (refine tst_in ?_ ?_; (focus (intro h_; exfalso; first | omega | ((try simp only [decide_eq_true_eq, decide_eq_false_iff_not] at h_); omega) | (simp [mulSz, Cont.len, bne] at h_; first | done | omega))); intro _; conv => whnf)
                    | (refine tst_in ?_ ?_; rotate_left; (focus (intro h_; exfalso; first | omega | ((try simp only [decide_eq_true_eq, decide_eq_false_iff_not] at h_); omega) | (simp [mulSz, Cont.len, bne] at h_; first | done | omega))); intro _; conv => whnf)
                    | (refine ⟨0, (show _ = _ by omega), ?_⟩; conv => whnf))
                  refine ⟨[0, 1, 5, 3], ⟨m, q, wA, wB, oA, oB, List.take L (List.drop 0 xA) ++ [(4618441417868443648, 0)] ++ u1, List.take L (List.drop 0 xB) ++ [false] ++ u2, L + 1, r', i + 1⟩, ?_, ⟨P, (by simp [hxA, g1]; omega), (by simp [hxB, g2]; omega), (by show i + 1 ≤ 20; omega), (by show L + 1 = m + (i + 1); omega)⟩, (by show 20 - (i + 1) < 20 - i; omega)⟩
                  show stLe _ _ (st19b l m q wA wB oA oB (List.take L (List.drop 0 xA) ++ [(4618441417868443648, 0)] ++ u1) (List.take L (List.drop 0 xB) ++ [false] ++ u2) (L + 1) r' (i + 1)) _
                  conv => whnf
                  repeat' (first | exact True.intro | rfl | refine And.intro ?_ ?_)
                  all_goals (conv => whnf)
                  repeat' (first | exact True.intro | rfl | refine And.intro ?_ ?_)
                  all_goals (try omega)
                · skip
                  have hge : i = 20 := by simp at hge; omega
                  subst hge
                  have CF := Check_f oA oB m m 0 0 (by rw [P.oa]; exact Nat.le_refl _) (by rw [P.ob]; exact Nat.le_refl _) (Nat.le_refl _) (by omega) P.w (.inr (.inl ⟨P.m1, P.may, rfl, rfl⟩))
                  have SF := Same_q oA wA oB wB m m (m + q) (by rw [P.oa]; exact Nat.le_refl _) (by rw [P.ob]; exact Nat.le_refl _) (by rw [P.wa]; exact Nat.le_add_right m q) (by rw [P.wb]; exact Nat.le_add_right m q) (Nat.le_refl _) (by omega) (by omega) P.eq
                  conv => whnf
                  repeat (first
                    | (refine And.intro ?_ ?_; (focus (first | omega | decide | exact EqOk.mk (by kernel_rfl) (by kernel_rfl) (by kernel_rfl) | exact Int.natCast_nonneg _ | ((repeat' refine And.intro ?_ ?_) <;> first | omega | exact Int.natCast_nonneg _ | (simp only [i64max, u8max, u16max, u32max, u64max]; omega) | (simp only [mulSz_eq, Cont.len, colsLen, Col.len, List.length_cons, List.length_nil, List.length_replicate, List.length_append]; first | done | omega) | (simp [mulSz, Cont.len, bne]; first | done | omega)))); conv => whnf)
                    | (refine tst_in ?_ ?_; (focus (intro h_; exfalso; first | omega | ((try simp only [decide_eq_true_eq, decide_eq_false_iff_not] at h_); omega) | (simp [mulSz, Cont.len, bne] at h_; first | done | omega))); intro _; conv => whnf)
                    | (refine tst_in ?_ ?_; rotate_left; (focus (intro h_; exfalso; first | omega | ((try simp only [decide_eq_true_eq, decide_eq_false_iff_not] at h_); omega) | (simp [mulSz, Cont.len, bne] at h_; first | done | omega))); intro _; conv => whnf)
                    | (refine ⟨0, (show _ = _ by omega), ?_⟩; conv => whnf))
                  refine ⟨_, [3], CF, ?_⟩
                  conv => whnf
                  iterate 2
                   refine And.intro ?_ ?_
                   focus
                    conv => whnf
                    repeat' (first | exact True.intro | rfl | refine And.intro ?_ ?_ | omega)
                    all_goals (conv => whnf)
                    all_goals (try (first | rfl | omega | (simp; done)))
                  conv => whnf
                  refine ⟨?_, True.intro⟩
                  intro _ _
                  conv => whnf
                  conv => whnf
                  repeat (first
                    | (refine And.intro ?_ ?_; (focus (first | omega | decide | exact EqOk.mk (by kernel_rfl) (by kernel_rfl) (by kernel_rfl) | exact Int.natCast_nonneg _ | ((repeat' refine And.intro ?_ ?_) <;> first | omega | exact Int.natCast_nonneg _ | (simp only [i64max, u8max, u16max, u32max, u64max]; omega) | (simp only [mulSz_eq, Cont.len, colsLen, Col.len, List.length_cons, List.length_nil, List.length_replicate, List.length_append]; first | done | omega) | (simp [mulSz, Cont.len, bne]; first | done | omega)))); conv => whnf)
                    | (refine tst_in ?_ ?_; (focus (intro h_; exfalso; first | omega | ((try simp only [decide_eq_true_eq, decide_eq_false_iff_not] at h_); omega) | (simp [mulSz, Cont.len, bne] at h_; first | done | omega))); intro _; conv => whnf)
                    | (refine tst_in ?_ ?_; rotate_left; (focus (intro h_; exfalso; first | omega | ((try simp only [decide_eq_true_eq, decide_eq_false_iff_not] at h_); omega) | (simp [mulSz, Cont.len, bne] at h_; first | done | omega))); intro _; conv => whnf)
                    | (refine ⟨0, (show _ = _ by omega), ?_⟩; conv => whnf))
                  refine ⟨_, [3, 1], SF, ?_⟩
                  conv => whnf
                  iterate 2
                   refine And.intro ?_ ?_
                   focus
                    conv => whnf
                    repeat' (first | exact True.intro | rfl | refine And.intro ?_ ?_)
                    all_goals (conv => whnf)
                    repeat' (first | exact True.intro | rfl | refine And.intro ?_ ?_)
                    all_goals (try (first | rfl | omega | (simp; first | done | omega)))
                  conv => whnf
                  conv => whnf
                  repeat (first
                    | (refine And.intro ?_ ?_; (focus (first | omega | decide | exact EqOk.mk (by kernel_rfl) (by kernel_rfl) (by kernel_rfl) | exact Int.natCast_nonneg _ | ((repeat' refine And.intro ?_ ?_) <;> first | omega | exact Int.natCast_nonneg _ | (simp only [i64max, u8max, u16max, u32max, u64max]; omega) | (simp only [mulSz_eq, Cont.len, colsLen, Col.len, List.length_cons, List.length_nil, List.length_replicate, List.length_append]; first | done | omega) | (simp [mulSz, Cont.len, bne]; first | done | omega)))); conv => whnf)
                    | (refine tst_in ?_ ?_; (focus (intro h_; exfalso; first | omega | ((try simp only [decide_eq_true_eq, decide_eq_false_iff_not] at h_); omega) | (simp [mulSz, Cont.len, bne] at h_; first | done | omega))); intro _; conv => whnf)
                    | (refine tst_in ?_ ?_; rotate_left; (focus (intro h_; exfalso; first | omega | ((try simp only [decide_eq_true_eq, decide_eq_false_iff_not] at h_); omega) | (simp [mulSz, Cont.len, bne] at h_; first | done | omega))); intro _; conv => whnf)
                    | (refine ⟨0, (show _ = _ by omega), ?_⟩; conv => whnf))
                  refine .inl ⟨(), [0], ?_⟩
                  conv => whnf
                  repeat' (first | exact True.intro | rfl | refine And.intro ?_ ?_)
                  all_goals (conv => whnf)
                  repeat' (first | exact True.intro | rfl | refine And.intro ?_ ?_)
                  all_goals (try omega)
end Go.Proofs.Ytanogghfdamdcaa

set_option linter.unusedVariables false
set_option linter.unusedSimpArgs false
namespace Go.Proofs.Ytanogghfdamdcaa
open Go Go.Fw
def lawSpec (n0 c0 : Nat) (g0 : Nat → Int) : FSpec :=
  ⟨[.slice 0 0 n0 c0], [.seg false (.ints .u64 ((List.range c0).map g0))], [⟨Unit, fun _ => True, fun _ => .bool true, fun _ => [.dead]⟩]⟩
theorem u64_of (g : Nat → Int) (c : Nat) (hw : ∀ i, i < c → (Lit.int .u64 (g i)).wf = true) (i : Nat) : 0 ≤ ((List.range c).map g).getD i 0 ∧ (((List.range c).map g).getD i 0).toNat < 18446744073709551616 := by
  rw [List.getD_eq_getElem?_getD, List.getElem?_map]
  by_cases h : i < c
  · rw [List.getElem?_range h]
    have := hw i h
    simp [Lit.wf, IntKind.min, IntKind.max, IntKind.signed, IntKind.bits] at this
    show 0 ≤ g i ∧ (g i).toNat < 18446744073709551616
    omega
  · rw [List.getElem?_eq_none (by simpa using h)]
    show (0 : Int) ≤ 0 ∧ (0 : Int).toNat < 18446744073709551616
    decide
theorem law_m (n0 c0 : Nat) (g0 : Nat → Int) (hn : n0 ≤ c0) (hb : c0 * 8 ≤ reachBytes) (hw : ∀ i, i < c0 → (Lit.int .u64 (g0 i)).wf = true) : Fits Try.prog 4 (lawSpec n0 c0 g0) := by
  have hb : c0 * 8 ≤ 140737488351232 := hb
  exact law_f _ n0 c0 (n0 / 2) (by simp [hn]) hn (by omega) rfl (fun i => ⟨(u64_of g0 c0 hw _).2, (u64_of g0 c0 hw _).2⟩) fun i => (u64_of g0 c0 hw i).1
end Go.Proofs.Ytanogghfdamdcaa

namespace Go.Proofs.Ytanogghfdamdcaa
open Go Go.Fw
namespace gridDoors
open Go.ChangeShapes Go.WideShapes Go.ChangeAt Go.RowKit
theorem own : ownKnob Try.prog.godebug = none := by kernel_rfl
theorem laid : laidOutB Try.prog = true := by kernel_rfl

set_option maxRecDepth 100000 in
theorem lifted (os : Os) (started : os.Started) (H : Type) (enc : TypeId × Value → H) :
    ReturnsInHanded {} Try.checked os 4 .any (Rows.gridDoorsSpec.pre6 enc Try.prog Try.f4 Rows.gridDoorsRow.domain false) (Rows.gridDoorsSpec.post enc Try.prog Try.f4 false true false false) := by
  refine returnsInHanded_of_change_sized (C := Try.checked) own started (by kernel_rfl) Try.func4
    (ChangeSpec.witness6 (enc := enc) (C := Try.checked) false ⟨#[], #[.slice none 0 0], []⟩ 8 (by kernel_rfl) (by kernel_rfl) (by kernel_rfl) (by kernel_rfl)) ?_
  intro W base args ds gs before hval0 hW _ hsz0 _
  have hsz : (DataW.weightsEach Try.prog (Try.f4.params.toList ++ Rows.gridDoorsSpec.plain.varTypes Try.prog) (ds ++ gs)).all (· ≤ reachBytes) = true := hsz0
  clear hsz0
  have hval : ∀ (j : Nat) t v, Try.f4.params[j]? = some t → args[j]? = some v → Value.okWide Try.prog W .any base t v := hval0
  have hW' := hW
  obtain ⟨p, q, hA0, hV, rfl, hfz, hnd⟩ := hW
  have hA : DataW.TrodAll enc Try.prog W 0 (fun _ => true) true Try.f4.params.toList args.toList ds p := hA0
  rw [Try.params4] at hA hval hsz
  obtain ⟨v0, vs0, d0, ds0, p0, q0, hargs, rfl, rfl, h0, r0⟩ := trodAll_cons hA
  obtain ⟨rfl, rfl, rfl⟩ := trodAll_nil r0
  obtain rfl : args = #[v0] := by cases args; simp_all
  obtain ⟨rfl, rfl⟩ := trodVars_none hV
  obtain ⟨a0, la0, z0, hv0⟩ := okWide_slice Try.underlying36 (hval 0 36 v0 rfl rfl)
  obtain ⟨c0c0, t0_0, e0_0, l0_0, e0_1⟩ : LeafsAre W [.row 8 [.int .u64]] v0.cells.toList := arg_open 12 (by kernel_rfl) h0 (fine_of (j := 0) hsz rfl rfl)
  subst e0_1
  obtain rfl : v0 = c0c0 := by subst hv0; simpa [Value.cells] using e0_0
  obtain ⟨n0_0, c0_0, g0_0, pl0_0, hn0_0, hb0_0, hw0_0, hc0_0⟩ := row_nums l0_0
  clear hA0 hval0
  obtain ⟨dd0_0, cc0_0⟩ := hc0_0 [pl0_0] 0 (by simp) rfl
  have walk := ((law_m n0_0 c0_0 g0_0 hn0_0 hb0_0 hw0_0)).calls W [pl0_0] [v0] (heap_args rfl fun i s hs => by
      match i, hs with
      | 0, hs => simp only [lawSpec, List.getElem?_cons_zero, Option.some.injEq] at hs; subst hs; exact ⟨_, rfl, cc0_0⟩
      | i + 1, hs => simp [lawSpec] at hs) (by simp only [lawSpec, Dens]; exact ⟨_, _, rfl, dd0_0, rfl⟩) (x := .bool true) (v := .bool true) rfl (by
      intro o ho y hy
      simp [lawSpec] at ho
      subst ho; rfl)
  refine walk.mono fun e W' ⟨he, hg⟩ => ?_
  subst he
  exact ⟨_, rfl, law_done laid rfl rfl Try.underlying4 (by kernel_rfl) hW' rfl hg⟩

theorem over : Rows.gridDoorsRow.holds Try.pinned (OpenSpec.ofChange Rows.gridDoorsSpec) :=
  OpenClaim.holds_of_wide 4 Try.f4 rfl rfl rfl rfl rfl rfl rfl ⟨rfl, rfl, rfl, rfl, rfl⟩ rfl rfl rfl rfl rfl (by kernel_rfl) Try.func4 (by kernel_rfl)
    (of_decide_eq_true (by kernel_rfl)) (by unfold Func.isWrapper; first | (rw [if_pos (by decide +kernel)]; kernel_rfl) | (rw [if_neg (by decide +kernel)]; exact ⟨rfl, rfl⟩))
    (fun os started H enc _ => lifted os started H enc)

theorem proved : Rows.GridDoorsSaid := over
end gridDoors
end Go.Proofs.Ytanogghfdamdcaa
