/-
  For any list of quarters, any marks and any bits: what they turn on to, what they turn by, the marked ones, their bits, the quarters of bits and the counts are as the document defines them, refused ones too; what is handed in stays, mark and all; the answers are new memory: spoiling one leaves the others; and so once more when the same list holds other quarters. No condition.
-/
import Derived.Test.YteefbedjblppiaaRows
import Derived.Test.YteefbedjblppiaaFv
import Derived.Test.YteefbedjblppiaaTurnsRowsP1
import Derived.Test.YteefbedjblppiaaFa
import Derived.WalkKit
import Derived.ProofKit
import Derived.OpenShut
import Derived.SizedLaws
import Derived.ChangeMaps5
set_option linter.unusedSimpArgs false
set_option linter.unusedVariables false
set_option linter.unusedVariables false
set_option linter.unusedSimpArgs false
namespace Go.Proofs.Yteefbedjblppiaa
open Go Go.Fw
def mkq (T : Nat → Bool) (i : Nat) : Bool := T i && (decide (i = 0) || T (i - 1))
def mq (F : Nat → Int) (T : Nat → Bool) (i : Nat) : Int := if mkq T i then outq F i else 0
def mrow (F : Nat → Int) (T : Nat → Bool) (k i : Nat) : Int := if i < k then mq F T i else outq F i
def mOut (D : List Seg) (k : Nat) (f : Nat → Int) (g : Nat → Bool) (n : Nat) (e : Int) : FOut :=
  ⟨List Int × List Bool, fun _ => True, fun t => .tup [.slice k 0 n (n + t.1.length), .slice (k + 1) 0 n (n + t.2.length), .int .i64 e], fun t => D ++ [u8S true (tab f n ++ t.1), boS true (tab g n ++ t.2)]⟩
theorem mrow_zero (F : Nat → Int) (T : Nat → Bool) (n : Nat) : tab (mrow F T 0) n = tab (outq F) n := tab_congr fun i _ => if_neg (by omega)
theorem mrow_end (F : Nat → Int) (T : Nat → Bool) (n : Nat) : tab (mrow F T n) n = tab (mq F T) n := tab_congr fun i hi => if_pos hi
theorem mrow_y {F : Nat → Int} {T : Nat → Bool} {n k : Nat} (h : mkq T k = true) : tab (mrow F T (k + 1)) n = tab (mrow F T k) n := tab_congr fun i _ => by
  unfold mrow
  by_cases h1 : i < k
  · rw [if_pos (by omega), if_pos h1]
  · by_cases h2 : i = k
    · subst h2; rw [if_pos (by omega), if_neg h1]; unfold mq; rw [if_pos h]
    · rw [if_neg (by omega), if_neg h1]
theorem getD_ext {l m : List Int} (hl : l.length = m.length) (h : ∀ i, i < l.length → l.getD i 0 = m.getD i 0) : l = m := by
  apply List.ext_getElem hl
  intro i h1 h2
  have := h i h1
  rw [List.getD_eq_getElem?_getD, List.getD_eq_getElem?_getD, List.getElem?_eq_getElem h1, List.getElem?_eq_getElem h2] at this
  exact this
theorem mrow_n {F : Nat → Int} {T : Nat → Bool} {n k : Nat} (t : List Int) (hk : k < n) (h : mkq T k = false) : (tab (mrow F T k) n ++ t).set k 0 = tab (mrow F T (k + 1)) n ++ t := by
  rw [List.set_append_left k 0 (by rw [tab_len]; exact hk)]
  congr 1
  apply getD_ext (by simp [tab_len])
  intro i hi
  rw [List.length_set, tab_len] at hi
  rw [tab_get _ 0 hi]
  unfold mrow
  by_cases h2 : i = k
  · subst h2
    rw [if_pos (by omega)]; unfold mq; rw [h]
    rw [List.getD_eq_getElem?_getD, List.getElem?_set_self (by rw [tab_len]; exact hk)]; rfl
  · have e : ((tab (mrow F T k) n).set k 0).getD i 0 = (tab (mrow F T k) n).getD i 0 := by
      rw [List.getD_eq_getElem?_getD, List.getD_eq_getElem?_getD, List.getElem?_set_ne (fun hh => h2 hh.symm)]
    have e2 : (tab (mrow F T k) n).getD i 0 = mrow F T k i := tab_get _ 0 hi
    unfold mrow at e e2
    rw [e, e2]
    by_cases h1 : i < k
    · rw [if_pos h1, if_pos (by omega)]
    · rw [if_neg h1, if_neg (by omega)]
noncomputable def c17 : Code := (Try.f17.body).getD .skip
def st17 (A : List Int) (B : List Bool) (F : Nat → Int) (T : Nat → Bool) (n ca cb k : Nat) (t : List Int) : St :=
  ⟨anyTo 61 [.slice 0 0 n ca, .slice 1 0 n cb, .any, .any, .any, .any, .any, .slice 2 0 n (n + t.length), .any, .slice 3 0 n n, .any, .any, .any, .any, .any, .any, .any, .any, .any, .any, .any, .any, .any, .any, .any, .any, .any, .any, .int .i64 n, .int .i64 k],
    [u8S false A, boS false B, u8S true (tab (mrow F T k) n ++ t), boS true (tab (mkq T) k ++ List.replicate (n - k) false)]⟩
def inv17 (A : List Int) (B : List Bool) (F : Nat → Int) (T : Nat → Bool) (n ca cb : Nat) : LInv := ⟨Nat × List Int, fun y => st17 A B F T n ca cb y.1 y.2, fun y => y.1 ≤ n, fun y => n - y.1⟩
set_option maxHeartbeats 0 in
set_option maxRecDepth 100000 in
theorem Marked_n (A : List Int) (B : List Bool) (F : Nat → Int) (n m ca cb : Nat) (f : Nat → Int) (g : Nat → Bool) (hA : isU A F n) (hv : ¬ (okR F n ∧ m = n)) (hN : n ≤ 140737488351232) (hM : m ≤ 140737488351232) :
    Fits Try.prog 17 ⟨[.slice 0 0 n ca, .slice 1 0 m cb], [u8S false A, boS false B], [mOut [.dead, .dead] 2 f g 0 1]⟩ := by
  refine fits_of_body (C := cfgu 2) (c := c17) (ts := [4, 5, 6]) tokU mixed (fun _ => none) (fun _ => none)
    Try.func17 (by kernel_rfl) (by kernel_rfl) (by kernel_rfl) (by kernel_rfl) rfl ?_
  by_cases hr : okR F n
  · have h1 : ¬ m = n := fun h => hv ⟨hr, h⟩
    have OU := Out_u A F n ca true hA ⟨fun _ => hr, fun _ => rfl⟩ hN
    conv => whnf
    repeat (first
      | (refine And.intro ?_ ?_; (focus (first | omega | decide | exact EqOk.mk (by kernel_rfl) (by kernel_rfl) (by kernel_rfl) | exact Int.natCast_nonneg _ | ((repeat' refine And.intro ?_ ?_) <;> first | omega | exact Int.natCast_nonneg _ | (simp only [i64max, u8max, u16max, u32max, u64max]; omega) | (simp only [mulSz_eq, Cont.len, colsLen, Col.len, List.length_cons, List.length_nil, List.length_replicate, List.length_append]; first | done | omega) | (simp [mulSz, Cont.len, bne]; first | done | omega)))); conv => whnf)
      | (refine tst_in ?_ ?_; (focus (intro h_; exfalso; first | omega | ((try simp only [decide_eq_true_eq, decide_eq_false_iff_not] at h_); omega) | (simp [mulSz, Cont.len, bne] at h_; first | done | omega))); intro _; conv => whnf)
      | (refine tst_in ?_ ?_; rotate_left; (focus (intro h_; exfalso; first | omega | ((try simp only [decide_eq_true_eq, decide_eq_false_iff_not] at h_); omega) | (simp [mulSz, Cont.len, bne] at h_; first | done | omega))); intro _; conv => whnf)
      | (refine ⟨0, (show _ = _ by omega), ?_⟩; conv => whnf))
    refine ⟨_, [0], OU, ?_⟩
    conv => whnf
    iterate 2
     refine And.intro ?_ ?_
     focus
      conv => whnf
      repeat' (first | exact True.intro | rfl | refine And.intro ?_ ?_)
      all_goals (conv => whnf)
      repeat' (first | exact True.intro | rfl | refine And.intro ?_ ?_)
      all_goals (try (first | rfl | omega | (simp; first | done | omega)))
    conv => whnf
    refine ⟨?_, True.intro⟩
    rintro t _
    conv => whnf
    conv => whnf
    repeat (first
      | (refine And.intro ?_ ?_; (focus (first | omega | decide | exact EqOk.mk (by kernel_rfl) (by kernel_rfl) (by kernel_rfl) | exact Int.natCast_nonneg _ | ((repeat' refine And.intro ?_ ?_) <;> first | omega | exact Int.natCast_nonneg _ | (simp only [i64max, u8max, u16max, u32max, u64max]; omega) | (simp only [mulSz_eq, Cont.len, colsLen, Col.len, List.length_cons, List.length_nil, List.length_replicate, List.length_append]; first | done | omega) | (simp [mulSz, Cont.len, bne]; first | done | omega)))); conv => whnf)
      | (refine tst_in ?_ ?_; (focus (intro h_; exfalso; first | omega | ((try simp only [decide_eq_true_eq, decide_eq_false_iff_not] at h_); omega) | (simp [mulSz, Cont.len, bne] at h_; first | done | omega))); intro _; conv => whnf)
      | (refine tst_in ?_ ?_; rotate_left; (focus (intro h_; exfalso; first | omega | ((try simp only [decide_eq_true_eq, decide_eq_false_iff_not] at h_); omega) | (simp [mulSz, Cont.len, bne] at h_; first | done | omega))); intro _; conv => whnf)
      | (refine ⟨0, (show _ = _ by omega), ?_⟩; conv => whnf))
    refine .inl ⟨([], []), [0, 1, 9, 10], ?_⟩
    conv => whnf
    repeat' (first | exact True.intro | rfl | refine And.intro ?_ ?_)
    all_goals (conv => whnf)
    repeat' (first | exact True.intro | rfl | refine And.intro ?_ ?_)
    all_goals (try omega)
  · have OU := Out_u A F n ca false hA ⟨fun h => absurd h (by decide), fun h => absurd h hr⟩ hN
    conv => whnf
    repeat (first
      | (refine And.intro ?_ ?_; (focus (first | omega | decide | exact EqOk.mk (by kernel_rfl) (by kernel_rfl) (by kernel_rfl) | exact Int.natCast_nonneg _ | ((repeat' refine And.intro ?_ ?_) <;> first | omega | exact Int.natCast_nonneg _ | (simp only [i64max, u8max, u16max, u32max, u64max]; omega) | (simp only [mulSz_eq, Cont.len, colsLen, Col.len, List.length_cons, List.length_nil, List.length_replicate, List.length_append]; first | done | omega) | (simp [mulSz, Cont.len, bne]; first | done | omega)))); conv => whnf)
      | (refine tst_in ?_ ?_; (focus (intro h_; exfalso; first | omega | ((try simp only [decide_eq_true_eq, decide_eq_false_iff_not] at h_); omega) | (simp [mulSz, Cont.len, bne] at h_; first | done | omega))); intro _; conv => whnf)
      | (refine tst_in ?_ ?_; rotate_left; (focus (intro h_; exfalso; first | omega | ((try simp only [decide_eq_true_eq, decide_eq_false_iff_not] at h_); omega) | (simp [mulSz, Cont.len, bne] at h_; first | done | omega))); intro _; conv => whnf)
      | (refine ⟨0, (show _ = _ by omega), ?_⟩; conv => whnf))
    refine ⟨_, [0], OU, ?_⟩
    conv => whnf
    iterate 2
     refine And.intro ?_ ?_
     focus
      conv => whnf
      repeat' (first | exact True.intro | rfl | refine And.intro ?_ ?_)
      all_goals (conv => whnf)
      repeat' (first | exact True.intro | rfl | refine And.intro ?_ ?_)
      all_goals (try (first | rfl | omega | (simp; first | done | omega)))
    conv => whnf
    refine ⟨?_, True.intro⟩
    rintro t _
    conv => whnf
    conv => whnf
    repeat (first
      | (refine And.intro ?_ ?_; (focus (first | omega | decide | exact EqOk.mk (by kernel_rfl) (by kernel_rfl) (by kernel_rfl) | exact Int.natCast_nonneg _ | ((repeat' refine And.intro ?_ ?_) <;> first | omega | exact Int.natCast_nonneg _ | (simp only [i64max, u8max, u16max, u32max, u64max]; omega) | (simp only [mulSz_eq, Cont.len, colsLen, Col.len, List.length_cons, List.length_nil, List.length_replicate, List.length_append]; first | done | omega) | (simp [mulSz, Cont.len, bne]; first | done | omega)))); conv => whnf)
      | (refine tst_in ?_ ?_; (focus (intro h_; exfalso; first | omega | ((try simp only [decide_eq_true_eq, decide_eq_false_iff_not] at h_); omega) | (simp [mulSz, Cont.len, bne] at h_; first | done | omega))); intro _; conv => whnf)
      | (refine tst_in ?_ ?_; rotate_left; (focus (intro h_; exfalso; first | omega | ((try simp only [decide_eq_true_eq, decide_eq_false_iff_not] at h_); omega) | (simp [mulSz, Cont.len, bne] at h_; first | done | omega))); intro _; conv => whnf)
      | (refine ⟨0, (show _ = _ by omega), ?_⟩; conv => whnf))
    refine .inl ⟨([], []), [0, 1, 9, 10], ?_⟩
    conv => whnf
    repeat' (first | exact True.intro | rfl | refine And.intro ?_ ?_)
    all_goals (conv => whnf)
    repeat' (first | exact True.intro | rfl | refine And.intro ?_ ?_)
    all_goals (try omega)
set_option maxHeartbeats 0 in
set_option maxRecDepth 100000 in
theorem Marked_y (A : List Int) (B : List Bool) (F : Nat → Int) (T : Nat → Bool) (n ca cb : Nat) (hA : isU A F n) (hB : isB B T n) (hr : okR F n) :
    Fits Try.prog 17 ⟨[.slice 0 0 n ca, .slice 1 0 n cb], [u8S false A, boS false B], [mOut [.dead, .dead] 2 (mq F T) (mkq T) n 0]⟩ := by
  have h6 := hr.1
  have OU := Out_u A F n ca true hA ⟨fun _ => hr, fun _ => rfl⟩ (by omega)
  have hlb := hB.1
  refine fits_of_body (C := cfgu 2) (c := c17) (ts := [4, 5, 6]) tokU mixed (fun | 8 => some (inv17 A B F T n ca cb) | _ => none) (fun _ => none)
    Try.func17 (by kernel_rfl) (by kernel_rfl) (by kernel_rfl) (by kernel_rfl) rfl ?_
  conv => whnf
  repeat (first
    | (refine And.intro ?_ ?_; (focus (first | omega | decide | exact EqOk.mk (by kernel_rfl) (by kernel_rfl) (by kernel_rfl) | exact Int.natCast_nonneg _ | ((repeat' refine And.intro ?_ ?_) <;> first | omega | exact Int.natCast_nonneg _ | (simp only [i64max, u8max, u16max, u32max, u64max]; omega) | (simp only [mulSz_eq, Cont.len, colsLen, Col.len, List.length_cons, List.length_nil, List.length_replicate, List.length_append]; first | done | omega) | (simp [mulSz, Cont.len, bne]; first | done | omega)))); conv => whnf)
    | (refine tst_in ?_ ?_; (focus (intro h_; exfalso; first | omega | ((try simp only [decide_eq_true_eq, decide_eq_false_iff_not] at h_); omega) | (simp [mulSz, Cont.len, bne] at h_; first | done | omega))); intro _; conv => whnf)
    | (refine tst_in ?_ ?_; rotate_left; (focus (intro h_; exfalso; first | omega | ((try simp only [decide_eq_true_eq, decide_eq_false_iff_not] at h_); omega) | (simp [mulSz, Cont.len, bne] at h_; first | done | omega))); intro _; conv => whnf)
    | (refine ⟨0, (show _ = _ by omega), ?_⟩; conv => whnf))
  refine ⟨_, [0], OU, ?_⟩
  conv => whnf
  iterate 2
   refine And.intro ?_ ?_
   focus
    conv => whnf
    repeat' (first | exact True.intro | rfl | refine And.intro ?_ ?_)
    all_goals (conv => whnf)
    repeat' (first | exact True.intro | rfl | refine And.intro ?_ ?_)
    all_goals (try (first | rfl | omega | (simp; first | done | omega)))
  conv => whnf
  refine ⟨?_, True.intro⟩
  rintro t _
  conv => whnf
  conv => whnf
  repeat (first
    | (refine And.intro ?_ ?_; (focus (first | omega | decide | exact EqOk.mk (by kernel_rfl) (by kernel_rfl) (by kernel_rfl) | exact Int.natCast_nonneg _ | ((repeat' refine And.intro ?_ ?_) <;> first | omega | exact Int.natCast_nonneg _ | (simp only [i64max, u8max, u16max, u32max, u64max]; omega) | (simp only [mulSz_eq, Cont.len, colsLen, Col.len, List.length_cons, List.length_nil, List.length_replicate, List.length_append]; first | done | omega) | (simp [mulSz, Cont.len, bne]; first | done | omega)))); conv => whnf)
    | (refine tst_in ?_ ?_; (focus (intro h_; exfalso; first | omega | ((try simp only [decide_eq_true_eq, decide_eq_false_iff_not] at h_); omega) | (simp [mulSz, Cont.len, bne] at h_; first | done | omega))); intro _; conv => whnf)
    | (refine tst_in ?_ ?_; rotate_left; (focus (intro h_; exfalso; first | omega | ((try simp only [decide_eq_true_eq, decide_eq_false_iff_not] at h_); omega) | (simp [mulSz, Cont.len, bne] at h_; first | done | omega))); intro _; conv => whnf)
    | (refine ⟨0, (show _ = _ by omega), ?_⟩; conv => whnf))
  refine ⟨⟨[0, 1, 2, 3], (0, t), ?_, Nat.zero_le _⟩, ?_⟩
  · show stLe _ _ (st17 A B F T n ca cb 0 t) _
    unfold st17
    rw [mrow_zero]
    conv => whnf
    repeat' (first | exact True.intro | rfl | refine And.intro ?_ ?_)
    all_goals (conv => whnf)
    repeat' (first | exact True.intro | rfl | refine And.intro ?_ ?_)
    all_goals (try omega)
  · rintro ⟨k, u⟩ (hk : k ≤ n)
    show forceSt (st17 A B F T n ca cb k u) _
    conv => whnf
    repeat (first
      | (refine And.intro ?_ ?_; (focus (first | omega | decide | exact EqOk.mk (by kernel_rfl) (by kernel_rfl) (by kernel_rfl) | exact Int.natCast_nonneg _ | ((repeat' refine And.intro ?_ ?_) <;> first | omega | exact Int.natCast_nonneg _ | (simp only [i64max, u8max, u16max, u32max, u64max]; omega) | (simp only [mulSz_eq, Cont.len, colsLen, Col.len, List.length_cons, List.length_nil, List.length_replicate, List.length_append]; first | done | omega) | (simp [mulSz, Cont.len, bne]; first | done | omega)))); conv => whnf)
      | (refine tst_in ?_ ?_; (focus (intro h_; exfalso; first | omega | ((try simp only [decide_eq_true_eq, decide_eq_false_iff_not] at h_); omega) | (simp [mulSz, Cont.len, bne] at h_; first | done | omega))); intro _; conv => whnf)
      | (refine tst_in ?_ ?_; rotate_left; (focus (intro h_; exfalso; first | omega | ((try simp only [decide_eq_true_eq, decide_eq_false_iff_not] at h_); omega) | (simp [mulSz, Cont.len, bne] at h_; first | done | omega))); intro _; conv => whnf)
      | (refine ⟨0, (show _ = _ by omega), ?_⟩; conv => whnf))
    refine tst_in (fun hlt => ?_) (fun hge => ?_)
    · skip
      have hlt : k < n := by simp at hlt; omega
      obtain ⟨r, hrr⟩ : ∃ r, n - k = r + 1 := ⟨n - k - 1, by omega⟩
      have hX : 0 + ((k : Int)).toNat = k := by omega
      have e1 := hB.2 k hlt
      have hlen : (tab (mkq T) k ++ List.replicate (r + 1) false).length = k + (r + 1) := by rw [app_len, List.length_replicate]
      have hlen2 : (tab (mrow F T k) n ++ u).length = n + u.length := app_len _ _ _
      have hg : (tab (mkq T) (k + 1) ++ List.replicate r false).getD k false = mkq T k := tab_app _ _ _ (by omega)
      have hset : ∀ b, mkq T k = b → (tab (mkq T) k ++ List.replicate (r + 1) false).set k b = tab (mkq T) (k + 1) ++ List.replicate r false := fun b hb => by rw [← hb, tab_set]
      rw [hrr]
      by_cases hT : T k = true
      · by_cases h0 : k = 0
        · have hm : mkq T k = true := by unfold mkq; rw [hT, decide_eq_true h0]; rfl
          rw [hm] at hg
          rw [hT] at e1
          conv => whnf
          repeat (first
            | (refine And.intro ?_ ?_; (focus (first | omega | decide | exact EqOk.mk (by kernel_rfl) (by kernel_rfl) (by kernel_rfl) | exact Int.natCast_nonneg _ | ((repeat' refine And.intro ?_ ?_) <;> first | omega | exact Int.natCast_nonneg _ | (simp only [i64max, u8max, u16max, u32max, u64max]; omega) | (simp only [mulSz_eq, Cont.len, colsLen, Col.len, List.length_cons, List.length_nil, List.length_replicate, List.length_append, hlen, hlen2]; first | done | omega) | (simp [mulSz, Cont.len, bne, hlen, hlen2]; first | done | omega)))); conv => whnf)
            | (refine tst_in ?_ ?_; (focus (intro h_; exfalso; first | omega | ((try simp only [decide_eq_true_eq, decide_eq_false_iff_not] at h_); omega) | (simp [mulSz, Cont.len, bne, hlen, hlen2] at h_; first | done | omega))); intro _; conv => whnf)
            | (refine tst_in ?_ ?_; rotate_left; (focus (intro h_; exfalso; first | omega | ((try simp only [decide_eq_true_eq, decide_eq_false_iff_not] at h_); omega) | (simp [mulSz, Cont.len, bne, hlen, hlen2] at h_; first | done | omega))); intro _; conv => whnf)
            | (refine ⟨0, (show _ = _ by omega), ?_⟩; conv => whnf))
          rw [hX, e1]
          conv => whnf
          repeat (first
            | (refine And.intro ?_ ?_; (focus (first | omega | decide | exact EqOk.mk (by kernel_rfl) (by kernel_rfl) (by kernel_rfl) | exact Int.natCast_nonneg _ | ((repeat' refine And.intro ?_ ?_) <;> first | omega | exact Int.natCast_nonneg _ | (simp only [i64max, u8max, u16max, u32max, u64max]; omega) | (simp only [mulSz_eq, Cont.len, colsLen, Col.len, List.length_cons, List.length_nil, List.length_replicate, List.length_append, hlen, hlen2]; first | done | omega) | (simp [mulSz, Cont.len, bne, hlen, hlen2]; first | done | omega)))); conv => whnf)
            | (refine tst_in ?_ ?_; (focus (intro h_; exfalso; first | omega | ((try simp only [decide_eq_true_eq, decide_eq_false_iff_not] at h_); omega) | (simp [mulSz, Cont.len, bne, hlen, hlen2] at h_; first | done | omega))); intro _; conv => whnf)
            | (refine tst_in ?_ ?_; rotate_left; (focus (intro h_; exfalso; first | omega | ((try simp only [decide_eq_true_eq, decide_eq_false_iff_not] at h_); omega) | (simp [mulSz, Cont.len, bne, hlen, hlen2] at h_; first | done | omega))); intro _; conv => whnf)
            | (refine ⟨0, (show _ = _ by omega), ?_⟩; conv => whnf))
          rw [hX, hset true hm, hg]
          conv => whnf
          repeat (first
            | (refine And.intro ?_ ?_; (focus (first | omega | decide | exact EqOk.mk (by kernel_rfl) (by kernel_rfl) (by kernel_rfl) | exact Int.natCast_nonneg _ | ((repeat' refine And.intro ?_ ?_) <;> first | omega | exact Int.natCast_nonneg _ | (simp only [i64max, u8max, u16max, u32max, u64max]; omega) | (simp only [mulSz_eq, Cont.len, colsLen, Col.len, List.length_cons, List.length_nil, List.length_replicate, List.length_append]; first | done | omega) | (simp [mulSz, Cont.len, bne]; first | done | omega)))); conv => whnf)
            | (refine tst_in ?_ ?_; (focus (intro h_; exfalso; first | omega | ((try simp only [decide_eq_true_eq, decide_eq_false_iff_not] at h_); omega) | (simp [mulSz, Cont.len, bne] at h_; first | done | omega))); intro _; conv => whnf)
            | (refine tst_in ?_ ?_; rotate_left; (focus (intro h_; exfalso; first | omega | ((try simp only [decide_eq_true_eq, decide_eq_false_iff_not] at h_); omega) | (simp [mulSz, Cont.len, bne] at h_; first | done | omega))); intro _; conv => whnf)
            | (refine ⟨0, (show _ = _ by omega), ?_⟩; conv => whnf))
          refine ⟨[0, 1, 2, 3], (k + 1, u), ?_, (by show k + 1 ≤ n; omega), (by show n - (k + 1) < n - k; omega)⟩
          show stLe _ _ (st17 A B F T n ca cb (k + 1) u) _
          unfold st17
          rw [show n - (k + 1) = r by omega, mrow_y hm]
          conv => whnf
          repeat' (first | exact True.intro | rfl | refine And.intro ?_ ?_)
          all_goals (conv => whnf)
          repeat' (first | exact True.intro | rfl | refine And.intro ?_ ?_)
          all_goals (try omega)
        · have hX2 : 0 + ((k : Int) - 1).toNat = k - 1 := by omega
          have e2 := hB.2 (k - 1) (by omega)
          rcases Bool.eq_false_or_eq_true (T (k - 1)) with hT2 | hT2
          · have hm : mkq T k = true := by unfold mkq; rw [hT, hT2, decide_eq_false h0]; rfl
            rw [hm] at hg
            rw [hT] at e1
            rw [hT2] at e2
            conv => whnf
            repeat (first
              | (refine And.intro ?_ ?_; (focus (first | omega | decide | exact EqOk.mk (by kernel_rfl) (by kernel_rfl) (by kernel_rfl) | exact Int.natCast_nonneg _ | ((repeat' refine And.intro ?_ ?_) <;> first | omega | exact Int.natCast_nonneg _ | (simp only [i64max, u8max, u16max, u32max, u64max]; omega) | (simp only [mulSz_eq, Cont.len, colsLen, Col.len, List.length_cons, List.length_nil, List.length_replicate, List.length_append, hlen, hlen2]; first | done | omega) | (simp [mulSz, Cont.len, bne, hlen, hlen2]; first | done | omega)))); conv => whnf)
              | (refine tst_in ?_ ?_; (focus (intro h_; exfalso; first | omega | ((try simp only [decide_eq_true_eq, decide_eq_false_iff_not] at h_); omega) | (simp [mulSz, Cont.len, bne, hlen, hlen2] at h_; first | done | omega))); intro _; conv => whnf)
              | (refine tst_in ?_ ?_; rotate_left; (focus (intro h_; exfalso; first | omega | ((try simp only [decide_eq_true_eq, decide_eq_false_iff_not] at h_); omega) | (simp [mulSz, Cont.len, bne, hlen, hlen2] at h_; first | done | omega))); intro _; conv => whnf)
              | (refine ⟨0, (show _ = _ by omega), ?_⟩; conv => whnf))
            rw [hX, e1]
            conv => whnf
            repeat (first
              | (refine And.intro ?_ ?_; (focus (first | omega | decide | exact EqOk.mk (by kernel_rfl) (by kernel_rfl) (by kernel_rfl) | exact Int.natCast_nonneg _ | ((repeat' refine And.intro ?_ ?_) <;> first | omega | exact Int.natCast_nonneg _ | (simp only [i64max, u8max, u16max, u32max, u64max]; omega) | (simp only [mulSz_eq, Cont.len, colsLen, Col.len, List.length_cons, List.length_nil, List.length_replicate, List.length_append, hlen, hlen2]; first | done | omega) | (simp [mulSz, Cont.len, bne, hlen, hlen2]; first | done | omega)))); conv => whnf)
              | (refine tst_in ?_ ?_; (focus (intro h_; exfalso; first | omega | ((try simp only [decide_eq_true_eq, decide_eq_false_iff_not] at h_); omega) | (simp [mulSz, Cont.len, bne, hlen, hlen2] at h_; first | done | omega))); intro _; conv => whnf)
              | (refine tst_in ?_ ?_; rotate_left; (focus (intro h_; exfalso; first | omega | ((try simp only [decide_eq_true_eq, decide_eq_false_iff_not] at h_); omega) | (simp [mulSz, Cont.len, bne, hlen, hlen2] at h_; first | done | omega))); intro _; conv => whnf)
              | (refine ⟨0, (show _ = _ by omega), ?_⟩; conv => whnf))
            rw [hX2, e2, hX, hset true hm, hg]
            conv => whnf
            repeat (first
              | (refine And.intro ?_ ?_; (focus (first | omega | decide | exact EqOk.mk (by kernel_rfl) (by kernel_rfl) (by kernel_rfl) | exact Int.natCast_nonneg _ | ((repeat' refine And.intro ?_ ?_) <;> first | omega | exact Int.natCast_nonneg _ | (simp only [i64max, u8max, u16max, u32max, u64max]; omega) | (simp only [mulSz_eq, Cont.len, colsLen, Col.len, List.length_cons, List.length_nil, List.length_replicate, List.length_append]; first | done | omega) | (simp [mulSz, Cont.len, bne]; first | done | omega)))); conv => whnf)
              | (refine tst_in ?_ ?_; (focus (intro h_; exfalso; first | omega | ((try simp only [decide_eq_true_eq, decide_eq_false_iff_not] at h_); omega) | (simp [mulSz, Cont.len, bne] at h_; first | done | omega))); intro _; conv => whnf)
              | (refine tst_in ?_ ?_; rotate_left; (focus (intro h_; exfalso; first | omega | ((try simp only [decide_eq_true_eq, decide_eq_false_iff_not] at h_); omega) | (simp [mulSz, Cont.len, bne] at h_; first | done | omega))); intro _; conv => whnf)
              | (refine ⟨0, (show _ = _ by omega), ?_⟩; conv => whnf))
            refine ⟨[0, 1, 2, 3], (k + 1, u), ?_, (by show k + 1 ≤ n; omega), (by show n - (k + 1) < n - k; omega)⟩
            show stLe _ _ (st17 A B F T n ca cb (k + 1) u) _
            unfold st17
            rw [show n - (k + 1) = r by omega, mrow_y hm]
            conv => whnf
            repeat' (first | exact True.intro | rfl | refine And.intro ?_ ?_)
            all_goals (conv => whnf)
            repeat' (first | exact True.intro | rfl | refine And.intro ?_ ?_)
            all_goals (try omega)
          · have hm : mkq T k = false := by unfold mkq; rw [hT, hT2, decide_eq_false h0]; rfl
            rw [hm] at hg
            rw [hT] at e1
            rw [hT2] at e2
            conv => whnf
            repeat (first
              | (refine And.intro ?_ ?_; (focus (first | omega | decide | exact EqOk.mk (by kernel_rfl) (by kernel_rfl) (by kernel_rfl) | exact Int.natCast_nonneg _ | ((repeat' refine And.intro ?_ ?_) <;> first | omega | exact Int.natCast_nonneg _ | (simp only [i64max, u8max, u16max, u32max, u64max]; omega) | (simp only [mulSz_eq, Cont.len, colsLen, Col.len, List.length_cons, List.length_nil, List.length_replicate, List.length_append, hlen, hlen2]; first | done | omega) | (simp [mulSz, Cont.len, bne, hlen, hlen2]; first | done | omega)))); conv => whnf)
              | (refine tst_in ?_ ?_; (focus (intro h_; exfalso; first | omega | ((try simp only [decide_eq_true_eq, decide_eq_false_iff_not] at h_); omega) | (simp [mulSz, Cont.len, bne, hlen, hlen2] at h_; first | done | omega))); intro _; conv => whnf)
              | (refine tst_in ?_ ?_; rotate_left; (focus (intro h_; exfalso; first | omega | ((try simp only [decide_eq_true_eq, decide_eq_false_iff_not] at h_); omega) | (simp [mulSz, Cont.len, bne, hlen, hlen2] at h_; first | done | omega))); intro _; conv => whnf)
              | (refine ⟨0, (show _ = _ by omega), ?_⟩; conv => whnf))
            rw [hX, e1]
            conv => whnf
            repeat (first
              | (refine And.intro ?_ ?_; (focus (first | omega | decide | exact EqOk.mk (by kernel_rfl) (by kernel_rfl) (by kernel_rfl) | exact Int.natCast_nonneg _ | ((repeat' refine And.intro ?_ ?_) <;> first | omega | exact Int.natCast_nonneg _ | (simp only [i64max, u8max, u16max, u32max, u64max]; omega) | (simp only [mulSz_eq, Cont.len, colsLen, Col.len, List.length_cons, List.length_nil, List.length_replicate, List.length_append, hlen, hlen2]; first | done | omega) | (simp [mulSz, Cont.len, bne, hlen, hlen2]; first | done | omega)))); conv => whnf)
              | (refine tst_in ?_ ?_; (focus (intro h_; exfalso; first | omega | ((try simp only [decide_eq_true_eq, decide_eq_false_iff_not] at h_); omega) | (simp [mulSz, Cont.len, bne, hlen, hlen2] at h_; first | done | omega))); intro _; conv => whnf)
              | (refine tst_in ?_ ?_; rotate_left; (focus (intro h_; exfalso; first | omega | ((try simp only [decide_eq_true_eq, decide_eq_false_iff_not] at h_); omega) | (simp [mulSz, Cont.len, bne, hlen, hlen2] at h_; first | done | omega))); intro _; conv => whnf)
              | (refine ⟨0, (show _ = _ by omega), ?_⟩; conv => whnf))
            rw [hX2, e2, hX, hset false hm, hg]
            conv => whnf
            repeat (first
              | (refine And.intro ?_ ?_; (focus (first | omega | decide | exact EqOk.mk (by kernel_rfl) (by kernel_rfl) (by kernel_rfl) | exact Int.natCast_nonneg _ | ((repeat' refine And.intro ?_ ?_) <;> first | omega | exact Int.natCast_nonneg _ | (simp only [i64max, u8max, u16max, u32max, u64max]; omega) | (simp only [mulSz_eq, Cont.len, colsLen, Col.len, List.length_cons, List.length_nil, List.length_replicate, List.length_append, hlen, hlen2]; first | done | omega) | (simp [mulSz, Cont.len, bne, hlen, hlen2]; first | done | omega)))); conv => whnf)
              | (refine tst_in ?_ ?_; (focus (intro h_; exfalso; first | omega | ((try simp only [decide_eq_true_eq, decide_eq_false_iff_not] at h_); omega) | (simp [mulSz, Cont.len, bne, hlen, hlen2] at h_; first | done | omega))); intro _; conv => whnf)
              | (refine tst_in ?_ ?_; rotate_left; (focus (intro h_; exfalso; first | omega | ((try simp only [decide_eq_true_eq, decide_eq_false_iff_not] at h_); omega) | (simp [mulSz, Cont.len, bne, hlen, hlen2] at h_; first | done | omega))); intro _; conv => whnf)
              | (refine ⟨0, (show _ = _ by omega), ?_⟩; conv => whnf))
            refine ⟨[0, 1, 2, 3], (k + 1, u), ?_, (by show k + 1 ≤ n; omega), (by show n - (k + 1) < n - k; omega)⟩
            show stLe _ _ (st17 A B F T n ca cb (k + 1) u) _
            unfold st17
            rw [show n - (k + 1) = r by omega]
            conv => whnf
            repeat' (first | exact True.intro | rfl | refine And.intro ?_ ?_)
            all_goals (conv => whnf)
            repeat' (first | exact True.intro | rfl | refine And.intro ?_ ?_)
            all_goals (try omega)
            all_goals (first | exact (by rw [hX]; exact (mrow_n u hlt hm).symm) | exact (by rw [hX]; exact (hset false hm).symm) | exact (mrow_n u hlt hm).symm | exact (hset false hm).symm)
      · have hT2 : T k = false := by simpa using hT
        have hm : mkq T k = false := by unfold mkq; rw [hT2]; rfl
        rw [hm] at hg
        rw [hT2] at e1
        conv => whnf
        repeat (first
          | (refine And.intro ?_ ?_; (focus (first | omega | decide | exact EqOk.mk (by kernel_rfl) (by kernel_rfl) (by kernel_rfl) | exact Int.natCast_nonneg _ | ((repeat' refine And.intro ?_ ?_) <;> first | omega | exact Int.natCast_nonneg _ | (simp only [i64max, u8max, u16max, u32max, u64max]; omega) | (simp only [mulSz_eq, Cont.len, colsLen, Col.len, List.length_cons, List.length_nil, List.length_replicate, List.length_append, hlen, hlen2]; first | done | omega) | (simp [mulSz, Cont.len, bne, hlen, hlen2]; first | done | omega)))); conv => whnf)
          | (refine tst_in ?_ ?_; (focus (intro h_; exfalso; first | omega | ((try simp only [decide_eq_true_eq, decide_eq_false_iff_not] at h_); omega) | (simp [mulSz, Cont.len, bne, hlen, hlen2] at h_; first | done | omega))); intro _; conv => whnf)
          | (refine tst_in ?_ ?_; rotate_left; (focus (intro h_; exfalso; first | omega | ((try simp only [decide_eq_true_eq, decide_eq_false_iff_not] at h_); omega) | (simp [mulSz, Cont.len, bne, hlen, hlen2] at h_; first | done | omega))); intro _; conv => whnf)
          | (refine ⟨0, (show _ = _ by omega), ?_⟩; conv => whnf))
        rw [hX, e1]
        conv => whnf
        repeat (first
          | (refine And.intro ?_ ?_; (focus (first | omega | decide | exact EqOk.mk (by kernel_rfl) (by kernel_rfl) (by kernel_rfl) | exact Int.natCast_nonneg _ | ((repeat' refine And.intro ?_ ?_) <;> first | omega | exact Int.natCast_nonneg _ | (simp only [i64max, u8max, u16max, u32max, u64max]; omega) | (simp only [mulSz_eq, Cont.len, colsLen, Col.len, List.length_cons, List.length_nil, List.length_replicate, List.length_append, hlen, hlen2]; first | done | omega) | (simp [mulSz, Cont.len, bne, hlen, hlen2]; first | done | omega)))); conv => whnf)
          | (refine tst_in ?_ ?_; (focus (intro h_; exfalso; first | omega | ((try simp only [decide_eq_true_eq, decide_eq_false_iff_not] at h_); omega) | (simp [mulSz, Cont.len, bne, hlen, hlen2] at h_; first | done | omega))); intro _; conv => whnf)
          | (refine tst_in ?_ ?_; rotate_left; (focus (intro h_; exfalso; first | omega | ((try simp only [decide_eq_true_eq, decide_eq_false_iff_not] at h_); omega) | (simp [mulSz, Cont.len, bne, hlen, hlen2] at h_; first | done | omega))); intro _; conv => whnf)
          | (refine ⟨0, (show _ = _ by omega), ?_⟩; conv => whnf))
        refine ⟨[0, 1, 2, 3], (k + 1, u), ?_, (by show k + 1 ≤ n; omega), (by show n - (k + 1) < n - k; omega)⟩
        show stLe _ _ (st17 A B F T n ca cb (k + 1) u) _
        unfold st17
        rw [show n - (k + 1) = r by omega]
        conv => whnf
        repeat' (first | exact True.intro | rfl | refine And.intro ?_ ?_)
        all_goals (conv => whnf)
        repeat' (first | exact True.intro | rfl | refine And.intro ?_ ?_)
        all_goals (try omega)
        all_goals (first | exact (by rw [hX]; exact (mrow_n u hlt hm).symm) | exact (by rw [hX]; exact (hset false hm).symm) | exact (mrow_n u hlt hm).symm | exact (hset false hm).symm)
    · skip
      have hge : k = n := by simp at hge; omega
      subst hge
      rw [Nat.sub_self]
      conv => whnf
      repeat (first
        | (refine And.intro ?_ ?_; (focus (first | omega | decide | exact EqOk.mk (by kernel_rfl) (by kernel_rfl) (by kernel_rfl) | exact Int.natCast_nonneg _ | ((repeat' refine And.intro ?_ ?_) <;> first | omega | exact Int.natCast_nonneg _ | (simp only [i64max, u8max, u16max, u32max, u64max]; omega) | (simp only [mulSz_eq, Cont.len, colsLen, Col.len, List.length_cons, List.length_nil, List.length_replicate, List.length_append]; first | done | omega) | (simp [mulSz, Cont.len, bne]; first | done | omega)))); conv => whnf)
        | (refine tst_in ?_ ?_; (focus (intro h_; exfalso; first | omega | ((try simp only [decide_eq_true_eq, decide_eq_false_iff_not] at h_); omega) | (simp [mulSz, Cont.len, bne] at h_; first | done | omega))); intro _; conv => whnf)
        | (refine tst_in ?_ ?_; rotate_left; (focus (intro h_; exfalso; first | omega | ((try simp only [decide_eq_true_eq, decide_eq_false_iff_not] at h_); omega) | (simp [mulSz, Cont.len, bne] at h_; first | done | omega))); intro _; conv => whnf)
        | (refine ⟨0, (show _ = _ by omega), ?_⟩; conv => whnf))
      refine .inl ⟨(u, []), [0, 1, 2, 3], ?_⟩
      conv => whnf
      repeat' (first | exact True.intro | rfl | refine And.intro ?_ ?_)
      all_goals (conv => whnf)
      repeat' (first | exact True.intro | rfl | refine And.intro ?_ ?_)
      all_goals (try omega)
      all_goals (try rw [mrow_end])
noncomputable def c18 : Code := (Try.f18.body).getD .skip
def st18 (A : List Int) (B : List Bool) (F : Nat → Int) (T : Nat → Bool) (n ca cb k : Nat) (t : List Int) (w : List Bool) : St :=
  ⟨anyTo 58 [.slice 0 0 n ca, .slice 1 0 n cb, .any, .any, .any, .any, .any, .slice 2 0 n (n + t.length), .any, .slice 3 0 k (k + w.length), .int .i64 k],
    [u8S false A, boS false B, u8S true (tab (mrow F T k) n ++ t), boS true (tab (mkq T) k ++ w)]⟩
structure MT where
  k : Nat
  t : List Int
  w : List Bool
def inv18 (A : List Int) (B : List Bool) (F : Nat → Int) (T : Nat → Bool) (n ca cb : Nat) : LInv := ⟨MT, fun y => st18 A B F T n ca cb y.k y.t y.w, fun y => y.k ≤ n, fun y => n - y.k⟩
set_option maxHeartbeats 0 in
set_option maxRecDepth 100000 in
theorem rMarked_n (A : List Int) (B : List Bool) (F : Nat → Int) (n m ca cb : Nat) (f : Nat → Int) (g : Nat → Bool) (hA : isU A F n) (hv : ¬ (okR F n ∧ m = n)) (hN : n ≤ 140737488351232) (hM : m ≤ 140737488351232) :
    Fits Try.prog 18 ⟨[.slice 0 0 n ca, .slice 1 0 m cb], [u8S false A, boS false B], [mOut [.dead, .dead] 2 f g 0 1]⟩ := by
  refine fits_of_body (C := cfgu 2) (c := c18) (ts := [4, 5, 6]) tokU mixed (fun _ => none) (fun _ => none)
    Try.func18 (by kernel_rfl) (by kernel_rfl) (by kernel_rfl) (by kernel_rfl) rfl ?_
  by_cases hr : okR F n
  · have h1 : ¬ m = n := fun h => hv ⟨hr, h⟩
    have OU := rOut_u A F n ca true hA ⟨fun _ => hr, fun _ => rfl⟩ hN
    conv => whnf
    repeat (first
      | (refine And.intro ?_ ?_; (focus (first | omega | decide | exact EqOk.mk (by kernel_rfl) (by kernel_rfl) (by kernel_rfl) | exact Int.natCast_nonneg _ | ((repeat' refine And.intro ?_ ?_) <;> first | omega | exact Int.natCast_nonneg _ | (simp only [i64max, u8max, u16max, u32max, u64max]; omega) | (simp only [mulSz_eq, Cont.len, colsLen, Col.len, List.length_cons, List.length_nil, List.length_replicate, List.length_append]; first | done | omega) | (simp [mulSz, Cont.len, bne]; first | done | omega)))); conv => whnf)
      | (refine tst_in ?_ ?_; (focus (intro h_; exfalso; first | omega | ((try simp only [decide_eq_true_eq, decide_eq_false_iff_not] at h_); omega) | (simp [mulSz, Cont.len, bne] at h_; first | done | omega))); intro _; conv => whnf)
      | (refine tst_in ?_ ?_; rotate_left; (focus (intro h_; exfalso; first | omega | ((try simp only [decide_eq_true_eq, decide_eq_false_iff_not] at h_); omega) | (simp [mulSz, Cont.len, bne] at h_; first | done | omega))); intro _; conv => whnf)
      | (refine ⟨0, (show _ = _ by omega), ?_⟩; conv => whnf))
    refine ⟨_, [0], OU, ?_⟩
    conv => whnf
    iterate 2
     refine And.intro ?_ ?_
     focus
      conv => whnf
      repeat' (first | exact True.intro | rfl | refine And.intro ?_ ?_)
      all_goals (conv => whnf)
      repeat' (first | exact True.intro | rfl | refine And.intro ?_ ?_)
      all_goals (try (first | rfl | omega | (simp; first | done | omega)))
    conv => whnf
    refine ⟨?_, True.intro⟩
    rintro t _
    conv => whnf
    conv => whnf
    repeat (first
      | (refine And.intro ?_ ?_; (focus (first | omega | decide | exact EqOk.mk (by kernel_rfl) (by kernel_rfl) (by kernel_rfl) | exact Int.natCast_nonneg _ | ((repeat' refine And.intro ?_ ?_) <;> first | omega | exact Int.natCast_nonneg _ | (simp only [i64max, u8max, u16max, u32max, u64max]; omega) | (simp only [mulSz_eq, Cont.len, colsLen, Col.len, List.length_cons, List.length_nil, List.length_replicate, List.length_append]; first | done | omega) | (simp [mulSz, Cont.len, bne]; first | done | omega)))); conv => whnf)
      | (refine tst_in ?_ ?_; (focus (intro h_; exfalso; first | omega | ((try simp only [decide_eq_true_eq, decide_eq_false_iff_not] at h_); omega) | (simp [mulSz, Cont.len, bne] at h_; first | done | omega))); intro _; conv => whnf)
      | (refine tst_in ?_ ?_; rotate_left; (focus (intro h_; exfalso; first | omega | ((try simp only [decide_eq_true_eq, decide_eq_false_iff_not] at h_); omega) | (simp [mulSz, Cont.len, bne] at h_; first | done | omega))); intro _; conv => whnf)
      | (refine ⟨0, (show _ = _ by omega), ?_⟩; conv => whnf))
    refine .inl ⟨([], []), [0, 1, 9, 10], ?_⟩
    conv => whnf
    repeat' (first | exact True.intro | rfl | refine And.intro ?_ ?_)
    all_goals (conv => whnf)
    repeat' (first | exact True.intro | rfl | refine And.intro ?_ ?_)
    all_goals (try omega)
  · have OU := rOut_u A F n ca false hA ⟨fun h => absurd h (by decide), fun h => absurd h hr⟩ hN
    conv => whnf
    repeat (first
      | (refine And.intro ?_ ?_; (focus (first | omega | decide | exact EqOk.mk (by kernel_rfl) (by kernel_rfl) (by kernel_rfl) | exact Int.natCast_nonneg _ | ((repeat' refine And.intro ?_ ?_) <;> first | omega | exact Int.natCast_nonneg _ | (simp only [i64max, u8max, u16max, u32max, u64max]; omega) | (simp only [mulSz_eq, Cont.len, colsLen, Col.len, List.length_cons, List.length_nil, List.length_replicate, List.length_append]; first | done | omega) | (simp [mulSz, Cont.len, bne]; first | done | omega)))); conv => whnf)
      | (refine tst_in ?_ ?_; (focus (intro h_; exfalso; first | omega | ((try simp only [decide_eq_true_eq, decide_eq_false_iff_not] at h_); omega) | (simp [mulSz, Cont.len, bne] at h_; first | done | omega))); intro _; conv => whnf)
      | (refine tst_in ?_ ?_; rotate_left; (focus (intro h_; exfalso; first | omega | ((try simp only [decide_eq_true_eq, decide_eq_false_iff_not] at h_); omega) | (simp [mulSz, Cont.len, bne] at h_; first | done | omega))); intro _; conv => whnf)
      | (refine ⟨0, (show _ = _ by omega), ?_⟩; conv => whnf))
    refine ⟨_, [0], OU, ?_⟩
    conv => whnf
    iterate 2
     refine And.intro ?_ ?_
     focus
      conv => whnf
      repeat' (first | exact True.intro | rfl | refine And.intro ?_ ?_)
      all_goals (conv => whnf)
      repeat' (first | exact True.intro | rfl | refine And.intro ?_ ?_)
      all_goals (try (first | rfl | omega | (simp; first | done | omega)))
    conv => whnf
    refine ⟨?_, True.intro⟩
    rintro t _
    conv => whnf
    conv => whnf
    repeat (first
      | (refine And.intro ?_ ?_; (focus (first | omega | decide | exact EqOk.mk (by kernel_rfl) (by kernel_rfl) (by kernel_rfl) | exact Int.natCast_nonneg _ | ((repeat' refine And.intro ?_ ?_) <;> first | omega | exact Int.natCast_nonneg _ | (simp only [i64max, u8max, u16max, u32max, u64max]; omega) | (simp only [mulSz_eq, Cont.len, colsLen, Col.len, List.length_cons, List.length_nil, List.length_replicate, List.length_append]; first | done | omega) | (simp [mulSz, Cont.len, bne]; first | done | omega)))); conv => whnf)
      | (refine tst_in ?_ ?_; (focus (intro h_; exfalso; first | omega | ((try simp only [decide_eq_true_eq, decide_eq_false_iff_not] at h_); omega) | (simp [mulSz, Cont.len, bne] at h_; first | done | omega))); intro _; conv => whnf)
      | (refine tst_in ?_ ?_; rotate_left; (focus (intro h_; exfalso; first | omega | ((try simp only [decide_eq_true_eq, decide_eq_false_iff_not] at h_); omega) | (simp [mulSz, Cont.len, bne] at h_; first | done | omega))); intro _; conv => whnf)
      | (refine ⟨0, (show _ = _ by omega), ?_⟩; conv => whnf))
    refine .inl ⟨([], []), [0, 1, 9, 10], ?_⟩
    conv => whnf
    repeat' (first | exact True.intro | rfl | refine And.intro ?_ ?_)
    all_goals (conv => whnf)
    repeat' (first | exact True.intro | rfl | refine And.intro ?_ ?_)
    all_goals (try omega)
set_option maxHeartbeats 0 in
set_option maxRecDepth 100000 in
theorem rMarked_y (A : List Int) (B : List Bool) (F : Nat → Int) (T : Nat → Bool) (n ca cb : Nat) (hA : isU A F n) (hB : isB B T n) (hr : okR F n) :
    Fits Try.prog 18 ⟨[.slice 0 0 n ca, .slice 1 0 n cb], [u8S false A, boS false B], [mOut [.dead, .dead] 2 (mq F T) (mkq T) n 0]⟩ := by
  have h6 := hr.1
  have OU := rOut_u A F n ca true hA ⟨fun _ => hr, fun _ => rfl⟩ (by omega)
  have hlb := hB.1
  refine fits_of_body (C := cfgu 2) (c := c18) (ts := [4, 5, 6]) tokU mixed (fun | 6 => some (inv18 A B F T n ca cb) | _ => none) (fun _ => none)
    Try.func18 (by kernel_rfl) (by kernel_rfl) (by kernel_rfl) (by kernel_rfl) rfl ?_
  conv => whnf
  repeat (first
    | (refine And.intro ?_ ?_; (focus (first | omega | decide | exact EqOk.mk (by kernel_rfl) (by kernel_rfl) (by kernel_rfl) | exact Int.natCast_nonneg _ | ((repeat' refine And.intro ?_ ?_) <;> first | omega | exact Int.natCast_nonneg _ | (simp only [i64max, u8max, u16max, u32max, u64max]; omega) | (simp only [mulSz_eq, Cont.len, colsLen, Col.len, List.length_cons, List.length_nil, List.length_replicate, List.length_append]; first | done | omega) | (simp [mulSz, Cont.len, bne]; first | done | omega)))); conv => whnf)
    | (refine tst_in ?_ ?_; (focus (intro h_; exfalso; first | omega | ((try simp only [decide_eq_true_eq, decide_eq_false_iff_not] at h_); omega) | (simp [mulSz, Cont.len, bne] at h_; first | done | omega))); intro _; conv => whnf)
    | (refine tst_in ?_ ?_; rotate_left; (focus (intro h_; exfalso; first | omega | ((try simp only [decide_eq_true_eq, decide_eq_false_iff_not] at h_); omega) | (simp [mulSz, Cont.len, bne] at h_; first | done | omega))); intro _; conv => whnf)
    | (refine ⟨0, (show _ = _ by omega), ?_⟩; conv => whnf))
  refine ⟨_, [0], OU, ?_⟩
  conv => whnf
  iterate 2
   refine And.intro ?_ ?_
   focus
    conv => whnf
    repeat' (first | exact True.intro | rfl | refine And.intro ?_ ?_)
    all_goals (conv => whnf)
    repeat' (first | exact True.intro | rfl | refine And.intro ?_ ?_)
    all_goals (try (first | rfl | omega | (simp; first | done | omega)))
  conv => whnf
  refine ⟨?_, True.intro⟩
  rintro t _
  conv => whnf
  conv => whnf
  repeat (first
    | (refine And.intro ?_ ?_; (focus (first | omega | decide | exact EqOk.mk (by kernel_rfl) (by kernel_rfl) (by kernel_rfl) | exact Int.natCast_nonneg _ | ((repeat' refine And.intro ?_ ?_) <;> first | omega | exact Int.natCast_nonneg _ | (simp only [i64max, u8max, u16max, u32max, u64max]; omega) | (simp only [mulSz_eq, Cont.len, colsLen, Col.len, List.length_cons, List.length_nil, List.length_replicate, List.length_append]; first | done | omega) | (simp [mulSz, Cont.len, bne]; first | done | omega)))); conv => whnf)
    | (refine tst_in ?_ ?_; (focus (intro h_; exfalso; first | omega | ((try simp only [decide_eq_true_eq, decide_eq_false_iff_not] at h_); omega) | (simp [mulSz, Cont.len, bne] at h_; first | done | omega))); intro _; conv => whnf)
    | (refine tst_in ?_ ?_; rotate_left; (focus (intro h_; exfalso; first | omega | ((try simp only [decide_eq_true_eq, decide_eq_false_iff_not] at h_); omega) | (simp [mulSz, Cont.len, bne] at h_; first | done | omega))); intro _; conv => whnf)
    | (refine ⟨0, (show _ = _ by omega), ?_⟩; conv => whnf))
  refine ⟨⟨[0, 1, 2, 9], ⟨0, t, []⟩, ?_, Nat.zero_le _⟩, ?_⟩
  · show stLe _ _ (st18 A B F T n ca cb 0 t []) _
    unfold st18
    rw [mrow_zero]
    conv => whnf
    repeat' (first | exact True.intro | rfl | refine And.intro ?_ ?_)
    all_goals (conv => whnf)
    repeat' (first | exact True.intro | rfl | refine And.intro ?_ ?_)
    all_goals (try omega)
  · rintro ⟨k, u, w⟩ (hk : k ≤ n)
    show forceSt (st18 A B F T n ca cb k u w) _
    conv => whnf
    repeat (first
      | (refine And.intro ?_ ?_; (focus (first | omega | decide | exact EqOk.mk (by kernel_rfl) (by kernel_rfl) (by kernel_rfl) | exact Int.natCast_nonneg _ | ((repeat' refine And.intro ?_ ?_) <;> first | omega | exact Int.natCast_nonneg _ | (simp only [i64max, u8max, u16max, u32max, u64max]; omega) | (simp only [mulSz_eq, Cont.len, colsLen, Col.len, List.length_cons, List.length_nil, List.length_replicate, List.length_append]; first | done | omega) | (simp [mulSz, Cont.len, bne]; first | done | omega)))); conv => whnf)
      | (refine tst_in ?_ ?_; (focus (intro h_; exfalso; first | omega | ((try simp only [decide_eq_true_eq, decide_eq_false_iff_not] at h_); omega) | (simp [mulSz, Cont.len, bne] at h_; first | done | omega))); intro _; conv => whnf)
      | (refine tst_in ?_ ?_; rotate_left; (focus (intro h_; exfalso; first | omega | ((try simp only [decide_eq_true_eq, decide_eq_false_iff_not] at h_); omega) | (simp [mulSz, Cont.len, bne] at h_; first | done | omega))); intro _; conv => whnf)
      | (refine ⟨0, (show _ = _ by omega), ?_⟩; conv => whnf))
    refine tst_in (fun hlt => ?_) (fun hge => ?_)
    · skip
      have hlt : k < n := by simp at hlt; omega
      have hX : 0 + ((k : Int)).toNat = k := by omega
      have e1 := hB.2 k hlt
      have hlen2 : (tab (mrow F T k) n ++ u).length = n + u.length := app_len _ _ _
      by_cases hT : T k = true
      · by_cases h0 : k = 0
        · have hm : mkq T k = true := by unfold mkq; rw [hT, decide_eq_true h0]; rfl
          rw [hT] at e1
          conv => whnf
          repeat (first
            | (refine And.intro ?_ ?_; (focus (first | omega | decide | exact EqOk.mk (by kernel_rfl) (by kernel_rfl) (by kernel_rfl) | exact Int.natCast_nonneg _ | ((repeat' refine And.intro ?_ ?_) <;> first | omega | exact Int.natCast_nonneg _ | (simp only [i64max, u8max, u16max, u32max, u64max]; omega) | (simp only [mulSz_eq, Cont.len, colsLen, Col.len, List.length_cons, List.length_nil, List.length_replicate, List.length_append, hlen2]; first | done | omega) | (simp [mulSz, Cont.len, bne, hlen2]; first | done | omega)))); conv => whnf)
            | (refine tst_in ?_ ?_; (focus (intro h_; exfalso; first | omega | ((try simp only [decide_eq_true_eq, decide_eq_false_iff_not] at h_); omega) | (simp [mulSz, Cont.len, bne, hlen2] at h_; first | done | omega))); intro _; conv => whnf)
            | (refine tst_in ?_ ?_; rotate_left; (focus (intro h_; exfalso; first | omega | ((try simp only [decide_eq_true_eq, decide_eq_false_iff_not] at h_); omega) | (simp [mulSz, Cont.len, bne, hlen2] at h_; first | done | omega))); intro _; conv => whnf)
            | (refine ⟨0, (show _ = _ by omega), ?_⟩; conv => whnf))
          rw [hX, e1]
          conv => whnf
          repeat (first
            | (refine And.intro ?_ ?_; (focus (first | omega | decide | exact EqOk.mk (by kernel_rfl) (by kernel_rfl) (by kernel_rfl) | exact Int.natCast_nonneg _ | ((repeat' refine And.intro ?_ ?_) <;> first | omega | exact Int.natCast_nonneg _ | (simp only [i64max, u8max, u16max, u32max, u64max]; omega) | (simp only [mulSz_eq, Cont.len, colsLen, Col.len, List.length_cons, List.length_nil, List.length_replicate, List.length_append, tab_len, List.length_take, List.length_drop]; first | done | omega) | (simp [mulSz, Cont.len, bne, tab_len, List.length_take, List.length_drop]; first | done | omega)))); conv => whnf)
            | (refine tst_in ?_ ?_; (focus (intro h_; exfalso; first | omega | ((try simp only [decide_eq_true_eq, decide_eq_false_iff_not] at h_); omega) | (simp [mulSz, Cont.len, bne, tab_len, List.length_take, List.length_drop] at h_; first | done | omega))); intro _; conv => whnf)
            | (refine tst_in ?_ ?_; rotate_left; (focus (intro h_; exfalso; first | omega | ((try simp only [decide_eq_true_eq, decide_eq_false_iff_not] at h_); omega) | (simp [mulSz, Cont.len, bne, tab_len, List.length_take, List.length_drop] at h_; first | done | omega))); intro _; conv => whnf)
            | (refine ⟨0, (show _ = _ by omega), ?_⟩; conv => whnf))
          intro (t1 : List Bool)
          conv => whnf
          repeat (first
            | (refine And.intro ?_ ?_; (focus (first | omega | decide | exact EqOk.mk (by kernel_rfl) (by kernel_rfl) (by kernel_rfl) | exact Int.natCast_nonneg _ | ((repeat' refine And.intro ?_ ?_) <;> first | omega | exact Int.natCast_nonneg _ | (simp only [i64max, u8max, u16max, u32max, u64max]; omega) | (simp only [mulSz_eq, Cont.len, colsLen, Col.len, List.length_cons, List.length_nil, List.length_replicate, List.length_append]; first | done | omega) | (simp [mulSz, Cont.len, bne]; first | done | omega)))); conv => whnf)
            | (refine tst_in ?_ ?_; (focus (intro h_; exfalso; first | omega | ((try simp only [decide_eq_true_eq, decide_eq_false_iff_not] at h_); omega) | (simp [mulSz, Cont.len, bne] at h_; first | done | omega))); intro _; conv => whnf)
            | (refine tst_in ?_ ?_; rotate_left; (focus (intro h_; exfalso; first | omega | ((try simp only [decide_eq_true_eq, decide_eq_false_iff_not] at h_); omega) | (simp [mulSz, Cont.len, bne] at h_; first | done | omega))); intro _; conv => whnf)
            | (refine ⟨0, (show _ = _ by omega), ?_⟩; conv => whnf))
          refine ⟨[0, 1, 2, 5], ⟨k + 1, u, t1⟩, ?_, (by show k + 1 ≤ n; omega), (by show n - (k + 1) < n - k; omega)⟩
          show stLe _ _ (st18 A B F T n ca cb (k + 1) u t1) _
          unfold st18
          rw [mrow_y hm]
          conv => whnf
          repeat' (first | exact True.intro | rfl | refine And.intro ?_ ?_)
          all_goals (conv => whnf)
          repeat' (first | exact True.intro | rfl | refine And.intro ?_ ?_)
          all_goals (try omega)
          all_goals (try exact (push_tab (mkq T) w t1 k _ hm.symm).symm)
        · have hX2 : 0 + ((k : Int) - 1).toNat = k - 1 := by omega
          have e2 := hB.2 (k - 1) (by omega)
          rcases Bool.eq_false_or_eq_true (T (k - 1)) with hT2 | hT2
          · have hm : mkq T k = true := by unfold mkq; rw [hT, hT2, decide_eq_false h0]; rfl
            rw [hT] at e1
            rw [hT2] at e2
            conv => whnf
            repeat (first
              | (refine And.intro ?_ ?_; (focus (first | omega | decide | exact EqOk.mk (by kernel_rfl) (by kernel_rfl) (by kernel_rfl) | exact Int.natCast_nonneg _ | ((repeat' refine And.intro ?_ ?_) <;> first | omega | exact Int.natCast_nonneg _ | (simp only [i64max, u8max, u16max, u32max, u64max]; omega) | (simp only [mulSz_eq, Cont.len, colsLen, Col.len, List.length_cons, List.length_nil, List.length_replicate, List.length_append, hlen2]; first | done | omega) | (simp [mulSz, Cont.len, bne, hlen2]; first | done | omega)))); conv => whnf)
              | (refine tst_in ?_ ?_; (focus (intro h_; exfalso; first | omega | ((try simp only [decide_eq_true_eq, decide_eq_false_iff_not] at h_); omega) | (simp [mulSz, Cont.len, bne, hlen2] at h_; first | done | omega))); intro _; conv => whnf)
              | (refine tst_in ?_ ?_; rotate_left; (focus (intro h_; exfalso; first | omega | ((try simp only [decide_eq_true_eq, decide_eq_false_iff_not] at h_); omega) | (simp [mulSz, Cont.len, bne, hlen2] at h_; first | done | omega))); intro _; conv => whnf)
              | (refine ⟨0, (show _ = _ by omega), ?_⟩; conv => whnf))
            rw [hX, e1]
            conv => whnf
            repeat (first
              | (refine And.intro ?_ ?_; (focus (first | omega | decide | exact EqOk.mk (by kernel_rfl) (by kernel_rfl) (by kernel_rfl) | exact Int.natCast_nonneg _ | ((repeat' refine And.intro ?_ ?_) <;> first | omega | exact Int.natCast_nonneg _ | (simp only [i64max, u8max, u16max, u32max, u64max]; omega) | (simp only [mulSz_eq, Cont.len, colsLen, Col.len, List.length_cons, List.length_nil, List.length_replicate, List.length_append, hlen2]; first | done | omega) | (simp [mulSz, Cont.len, bne, hlen2]; first | done | omega)))); conv => whnf)
              | (refine tst_in ?_ ?_; (focus (intro h_; exfalso; first | omega | ((try simp only [decide_eq_true_eq, decide_eq_false_iff_not] at h_); omega) | (simp [mulSz, Cont.len, bne, hlen2] at h_; first | done | omega))); intro _; conv => whnf)
              | (refine tst_in ?_ ?_; rotate_left; (focus (intro h_; exfalso; first | omega | ((try simp only [decide_eq_true_eq, decide_eq_false_iff_not] at h_); omega) | (simp [mulSz, Cont.len, bne, hlen2] at h_; first | done | omega))); intro _; conv => whnf)
              | (refine ⟨0, (show _ = _ by omega), ?_⟩; conv => whnf))
            rw [hX2, e2]
            conv => whnf
            repeat (first
              | (refine And.intro ?_ ?_; (focus (first | omega | decide | exact EqOk.mk (by kernel_rfl) (by kernel_rfl) (by kernel_rfl) | exact Int.natCast_nonneg _ | ((repeat' refine And.intro ?_ ?_) <;> first | omega | exact Int.natCast_nonneg _ | (simp only [i64max, u8max, u16max, u32max, u64max]; omega) | (simp only [mulSz_eq, Cont.len, colsLen, Col.len, List.length_cons, List.length_nil, List.length_replicate, List.length_append, tab_len, List.length_take, List.length_drop]; first | done | omega) | (simp [mulSz, Cont.len, bne, tab_len, List.length_take, List.length_drop]; first | done | omega)))); conv => whnf)
              | (refine tst_in ?_ ?_; (focus (intro h_; exfalso; first | omega | ((try simp only [decide_eq_true_eq, decide_eq_false_iff_not] at h_); omega) | (simp [mulSz, Cont.len, bne, tab_len, List.length_take, List.length_drop] at h_; first | done | omega))); intro _; conv => whnf)
              | (refine tst_in ?_ ?_; rotate_left; (focus (intro h_; exfalso; first | omega | ((try simp only [decide_eq_true_eq, decide_eq_false_iff_not] at h_); omega) | (simp [mulSz, Cont.len, bne, tab_len, List.length_take, List.length_drop] at h_; first | done | omega))); intro _; conv => whnf)
              | (refine ⟨0, (show _ = _ by omega), ?_⟩; conv => whnf))
            intro (t1 : List Bool)
            conv => whnf
            repeat (first
              | (refine And.intro ?_ ?_; (focus (first | omega | decide | exact EqOk.mk (by kernel_rfl) (by kernel_rfl) (by kernel_rfl) | exact Int.natCast_nonneg _ | ((repeat' refine And.intro ?_ ?_) <;> first | omega | exact Int.natCast_nonneg _ | (simp only [i64max, u8max, u16max, u32max, u64max]; omega) | (simp only [mulSz_eq, Cont.len, colsLen, Col.len, List.length_cons, List.length_nil, List.length_replicate, List.length_append]; first | done | omega) | (simp [mulSz, Cont.len, bne]; first | done | omega)))); conv => whnf)
              | (refine tst_in ?_ ?_; (focus (intro h_; exfalso; first | omega | ((try simp only [decide_eq_true_eq, decide_eq_false_iff_not] at h_); omega) | (simp [mulSz, Cont.len, bne] at h_; first | done | omega))); intro _; conv => whnf)
              | (refine tst_in ?_ ?_; rotate_left; (focus (intro h_; exfalso; first | omega | ((try simp only [decide_eq_true_eq, decide_eq_false_iff_not] at h_); omega) | (simp [mulSz, Cont.len, bne] at h_; first | done | omega))); intro _; conv => whnf)
              | (refine ⟨0, (show _ = _ by omega), ?_⟩; conv => whnf))
            refine ⟨[0, 1, 2, 5], ⟨k + 1, u, t1⟩, ?_, (by show k + 1 ≤ n; omega), (by show n - (k + 1) < n - k; omega)⟩
            show stLe _ _ (st18 A B F T n ca cb (k + 1) u t1) _
            unfold st18
            rw [mrow_y hm]
            conv => whnf
            repeat' (first | exact True.intro | rfl | refine And.intro ?_ ?_)
            all_goals (conv => whnf)
            repeat' (first | exact True.intro | rfl | refine And.intro ?_ ?_)
            all_goals (try omega)
            all_goals (try exact (push_tab (mkq T) w t1 k _ hm.symm).symm)
          · have hm : mkq T k = false := by unfold mkq; rw [hT, hT2, decide_eq_false h0]; rfl
            rw [hT] at e1
            rw [hT2] at e2
            conv => whnf
            repeat (first
              | (refine And.intro ?_ ?_; (focus (first | omega | decide | exact EqOk.mk (by kernel_rfl) (by kernel_rfl) (by kernel_rfl) | exact Int.natCast_nonneg _ | ((repeat' refine And.intro ?_ ?_) <;> first | omega | exact Int.natCast_nonneg _ | (simp only [i64max, u8max, u16max, u32max, u64max]; omega) | (simp only [mulSz_eq, Cont.len, colsLen, Col.len, List.length_cons, List.length_nil, List.length_replicate, List.length_append, hlen2]; first | done | omega) | (simp [mulSz, Cont.len, bne, hlen2]; first | done | omega)))); conv => whnf)
              | (refine tst_in ?_ ?_; (focus (intro h_; exfalso; first | omega | ((try simp only [decide_eq_true_eq, decide_eq_false_iff_not] at h_); omega) | (simp [mulSz, Cont.len, bne, hlen2] at h_; first | done | omega))); intro _; conv => whnf)
              | (refine tst_in ?_ ?_; rotate_left; (focus (intro h_; exfalso; first | omega | ((try simp only [decide_eq_true_eq, decide_eq_false_iff_not] at h_); omega) | (simp [mulSz, Cont.len, bne, hlen2] at h_; first | done | omega))); intro _; conv => whnf)
              | (refine ⟨0, (show _ = _ by omega), ?_⟩; conv => whnf))
            rw [hX, e1]
            conv => whnf
            repeat (first
              | (refine And.intro ?_ ?_; (focus (first | omega | decide | exact EqOk.mk (by kernel_rfl) (by kernel_rfl) (by kernel_rfl) | exact Int.natCast_nonneg _ | ((repeat' refine And.intro ?_ ?_) <;> first | omega | exact Int.natCast_nonneg _ | (simp only [i64max, u8max, u16max, u32max, u64max]; omega) | (simp only [mulSz_eq, Cont.len, colsLen, Col.len, List.length_cons, List.length_nil, List.length_replicate, List.length_append, hlen2]; first | done | omega) | (simp [mulSz, Cont.len, bne, hlen2]; first | done | omega)))); conv => whnf)
              | (refine tst_in ?_ ?_; (focus (intro h_; exfalso; first | omega | ((try simp only [decide_eq_true_eq, decide_eq_false_iff_not] at h_); omega) | (simp [mulSz, Cont.len, bne, hlen2] at h_; first | done | omega))); intro _; conv => whnf)
              | (refine tst_in ?_ ?_; rotate_left; (focus (intro h_; exfalso; first | omega | ((try simp only [decide_eq_true_eq, decide_eq_false_iff_not] at h_); omega) | (simp [mulSz, Cont.len, bne, hlen2] at h_; first | done | omega))); intro _; conv => whnf)
              | (refine ⟨0, (show _ = _ by omega), ?_⟩; conv => whnf))
            rw [hX2, e2]
            conv => whnf
            repeat (first
              | (refine And.intro ?_ ?_; (focus (first | omega | decide | exact EqOk.mk (by kernel_rfl) (by kernel_rfl) (by kernel_rfl) | exact Int.natCast_nonneg _ | ((repeat' refine And.intro ?_ ?_) <;> first | omega | exact Int.natCast_nonneg _ | (simp only [i64max, u8max, u16max, u32max, u64max]; omega) | (simp only [mulSz_eq, Cont.len, colsLen, Col.len, List.length_cons, List.length_nil, List.length_replicate, List.length_append, hlen2, tab_len, List.length_take, List.length_drop]; first | done | omega) | (simp [mulSz, Cont.len, bne, hlen2, tab_len, List.length_take, List.length_drop]; first | done | omega)))); conv => whnf)
              | (refine tst_in ?_ ?_; (focus (intro h_; exfalso; first | omega | ((try simp only [decide_eq_true_eq, decide_eq_false_iff_not] at h_); omega) | (simp [mulSz, Cont.len, bne, hlen2, tab_len, List.length_take, List.length_drop] at h_; first | done | omega))); intro _; conv => whnf)
              | (refine tst_in ?_ ?_; rotate_left; (focus (intro h_; exfalso; first | omega | ((try simp only [decide_eq_true_eq, decide_eq_false_iff_not] at h_); omega) | (simp [mulSz, Cont.len, bne, hlen2, tab_len, List.length_take, List.length_drop] at h_; first | done | omega))); intro _; conv => whnf)
              | (refine ⟨0, (show _ = _ by omega), ?_⟩; conv => whnf))
            intro (t1 : List Bool)
            conv => whnf
            repeat (first
              | (refine And.intro ?_ ?_; (focus (first | omega | decide | exact EqOk.mk (by kernel_rfl) (by kernel_rfl) (by kernel_rfl) | exact Int.natCast_nonneg _ | ((repeat' refine And.intro ?_ ?_) <;> first | omega | exact Int.natCast_nonneg _ | (simp only [i64max, u8max, u16max, u32max, u64max]; omega) | (simp only [mulSz_eq, Cont.len, colsLen, Col.len, List.length_cons, List.length_nil, List.length_replicate, List.length_append]; first | done | omega) | (simp [mulSz, Cont.len, bne]; first | done | omega)))); conv => whnf)
              | (refine tst_in ?_ ?_; (focus (intro h_; exfalso; first | omega | ((try simp only [decide_eq_true_eq, decide_eq_false_iff_not] at h_); omega) | (simp [mulSz, Cont.len, bne] at h_; first | done | omega))); intro _; conv => whnf)
              | (refine tst_in ?_ ?_; rotate_left; (focus (intro h_; exfalso; first | omega | ((try simp only [decide_eq_true_eq, decide_eq_false_iff_not] at h_); omega) | (simp [mulSz, Cont.len, bne] at h_; first | done | omega))); intro _; conv => whnf)
              | (refine ⟨0, (show _ = _ by omega), ?_⟩; conv => whnf))
            refine ⟨[0, 1, 2, 5], ⟨k + 1, u, t1⟩, ?_, (by show k + 1 ≤ n; omega), (by show n - (k + 1) < n - k; omega)⟩
            show stLe _ _ (st18 A B F T n ca cb (k + 1) u t1) _
            unfold st18
            conv => whnf
            repeat' (first | exact True.intro | rfl | refine And.intro ?_ ?_)
            all_goals (conv => whnf)
            repeat' (first | exact True.intro | rfl | refine And.intro ?_ ?_)
            all_goals (try omega)
            all_goals (first | exact (push_tab (mkq T) w t1 k _ hm.symm).symm | exact (by rw [hX]; exact (mrow_n u hlt hm).symm) | exact (mrow_n u hlt hm).symm)
      · have hT2 : T k = false := by simpa using hT
        have hm : mkq T k = false := by unfold mkq; rw [hT2]; rfl
        rw [hT2] at e1
        conv => whnf
        repeat (first
          | (refine And.intro ?_ ?_; (focus (first | omega | decide | exact EqOk.mk (by kernel_rfl) (by kernel_rfl) (by kernel_rfl) | exact Int.natCast_nonneg _ | ((repeat' refine And.intro ?_ ?_) <;> first | omega | exact Int.natCast_nonneg _ | (simp only [i64max, u8max, u16max, u32max, u64max]; omega) | (simp only [mulSz_eq, Cont.len, colsLen, Col.len, List.length_cons, List.length_nil, List.length_replicate, List.length_append, hlen2]; first | done | omega) | (simp [mulSz, Cont.len, bne, hlen2]; first | done | omega)))); conv => whnf)
          | (refine tst_in ?_ ?_; (focus (intro h_; exfalso; first | omega | ((try simp only [decide_eq_true_eq, decide_eq_false_iff_not] at h_); omega) | (simp [mulSz, Cont.len, bne, hlen2] at h_; first | done | omega))); intro _; conv => whnf)
          | (refine tst_in ?_ ?_; rotate_left; (focus (intro h_; exfalso; first | omega | ((try simp only [decide_eq_true_eq, decide_eq_false_iff_not] at h_); omega) | (simp [mulSz, Cont.len, bne, hlen2] at h_; first | done | omega))); intro _; conv => whnf)
          | (refine ⟨0, (show _ = _ by omega), ?_⟩; conv => whnf))
        rw [hX, e1]
        conv => whnf
        repeat (first
          | (refine And.intro ?_ ?_; (focus (first | omega | decide | exact EqOk.mk (by kernel_rfl) (by kernel_rfl) (by kernel_rfl) | exact Int.natCast_nonneg _ | ((repeat' refine And.intro ?_ ?_) <;> first | omega | exact Int.natCast_nonneg _ | (simp only [i64max, u8max, u16max, u32max, u64max]; omega) | (simp only [mulSz_eq, Cont.len, colsLen, Col.len, List.length_cons, List.length_nil, List.length_replicate, List.length_append, hlen2, tab_len, List.length_take, List.length_drop]; first | done | omega) | (simp [mulSz, Cont.len, bne, hlen2, tab_len, List.length_take, List.length_drop]; first | done | omega)))); conv => whnf)
          | (refine tst_in ?_ ?_; (focus (intro h_; exfalso; first | omega | ((try simp only [decide_eq_true_eq, decide_eq_false_iff_not] at h_); omega) | (simp [mulSz, Cont.len, bne, hlen2, tab_len, List.length_take, List.length_drop] at h_; first | done | omega))); intro _; conv => whnf)
          | (refine tst_in ?_ ?_; rotate_left; (focus (intro h_; exfalso; first | omega | ((try simp only [decide_eq_true_eq, decide_eq_false_iff_not] at h_); omega) | (simp [mulSz, Cont.len, bne, hlen2, tab_len, List.length_take, List.length_drop] at h_; first | done | omega))); intro _; conv => whnf)
          | (refine ⟨0, (show _ = _ by omega), ?_⟩; conv => whnf))
        intro (t1 : List Bool)
        conv => whnf
        repeat (first
          | (refine And.intro ?_ ?_; (focus (first | omega | decide | exact EqOk.mk (by kernel_rfl) (by kernel_rfl) (by kernel_rfl) | exact Int.natCast_nonneg _ | ((repeat' refine And.intro ?_ ?_) <;> first | omega | exact Int.natCast_nonneg _ | (simp only [i64max, u8max, u16max, u32max, u64max]; omega) | (simp only [mulSz_eq, Cont.len, colsLen, Col.len, List.length_cons, List.length_nil, List.length_replicate, List.length_append]; first | done | omega) | (simp [mulSz, Cont.len, bne]; first | done | omega)))); conv => whnf)
          | (refine tst_in ?_ ?_; (focus (intro h_; exfalso; first | omega | ((try simp only [decide_eq_true_eq, decide_eq_false_iff_not] at h_); omega) | (simp [mulSz, Cont.len, bne] at h_; first | done | omega))); intro _; conv => whnf)
          | (refine tst_in ?_ ?_; rotate_left; (focus (intro h_; exfalso; first | omega | ((try simp only [decide_eq_true_eq, decide_eq_false_iff_not] at h_); omega) | (simp [mulSz, Cont.len, bne] at h_; first | done | omega))); intro _; conv => whnf)
          | (refine ⟨0, (show _ = _ by omega), ?_⟩; conv => whnf))
        refine ⟨[0, 1, 2, 5], ⟨k + 1, u, t1⟩, ?_, (by show k + 1 ≤ n; omega), (by show n - (k + 1) < n - k; omega)⟩
        show stLe _ _ (st18 A B F T n ca cb (k + 1) u t1) _
        unfold st18
        conv => whnf
        repeat' (first | exact True.intro | rfl | refine And.intro ?_ ?_)
        all_goals (conv => whnf)
        repeat' (first | exact True.intro | rfl | refine And.intro ?_ ?_)
        all_goals (try omega)
        all_goals (first | exact (push_tab (mkq T) w t1 k _ hm.symm).symm | exact (by rw [hX]; exact (mrow_n u hlt hm).symm) | exact (mrow_n u hlt hm).symm)
    · skip
      have hge : k = n := by simp at hge; omega
      subst hge
      conv => whnf
      repeat (first
        | (refine And.intro ?_ ?_; (focus (first | omega | decide | exact EqOk.mk (by kernel_rfl) (by kernel_rfl) (by kernel_rfl) | exact Int.natCast_nonneg _ | ((repeat' refine And.intro ?_ ?_) <;> first | omega | exact Int.natCast_nonneg _ | (simp only [i64max, u8max, u16max, u32max, u64max]; omega) | (simp only [mulSz_eq, Cont.len, colsLen, Col.len, List.length_cons, List.length_nil, List.length_replicate, List.length_append]; first | done | omega) | (simp [mulSz, Cont.len, bne]; first | done | omega)))); conv => whnf)
        | (refine tst_in ?_ ?_; (focus (intro h_; exfalso; first | omega | ((try simp only [decide_eq_true_eq, decide_eq_false_iff_not] at h_); omega) | (simp [mulSz, Cont.len, bne] at h_; first | done | omega))); intro _; conv => whnf)
        | (refine tst_in ?_ ?_; rotate_left; (focus (intro h_; exfalso; first | omega | ((try simp only [decide_eq_true_eq, decide_eq_false_iff_not] at h_); omega) | (simp [mulSz, Cont.len, bne] at h_; first | done | omega))); intro _; conv => whnf)
        | (refine ⟨0, (show _ = _ by omega), ?_⟩; conv => whnf))
      refine .inl ⟨(u, w), [0, 1, 2, 3], ?_⟩
      conv => whnf
      repeat' (first | exact True.intro | rfl | refine And.intro ?_ ?_)
      all_goals (conv => whnf)
      repeat' (first | exact True.intro | rfl | refine And.intro ?_ ?_)
      all_goals (try omega)
      all_goals (try rw [mrow_end])
end Go.Proofs.Yteefbedjblppiaa

set_option linter.unusedVariables false
set_option linter.unusedSimpArgs false
namespace Go.Proofs.Yteefbedjblppiaa
open Go Go.Fw
def cq (F : Nat → Int) (c : Int) : Nat → Int
  | 0 => 0
  | k + 1 => cq F c k + (if F k = c then 1 else 0)
theorem cq_in (F : Nat → Int) (c : Int) : ∀ k : Nat, 0 ≤ cq F c k ∧ cq F c k ≤ k
  | 0 => ⟨Int.le_refl _, Int.le_refl _⟩
  | k + 1 => by
    have := cq_in F c k
    show 0 ≤ cq F c k + _ ∧ cq F c k + _ ≤ ((k + 1 : Nat) : Int)
    split <;> omega
theorem cq_y {F : Nat → Int} {c : Int} {k : Nat} (h : F k = c) : cq F c (k + 1) = cq F c k + 1 := by show _ + _ = _; rw [if_pos h]
theorem cq_n {F : Nat → Int} {c : Int} {k : Nat} (h : F k ≠ c) : cq F c (k + 1) = cq F c k := by show _ + _ = _; rw [if_neg h]; omega
def cnts (F : Nat → Int) (k : Nat) : List AV := [.int .i64 (cq F 0 k), .int .i64 (cq F 1 k), .int .i64 (cq F 2 k), .int .i64 (cq F 3 k)]
noncomputable def c20 : Code := (Try.f20.body).getD .skip
def st20 (A : List Int) (F : Nat → Int) (n ca k : Nat) : St :=
  ⟨anyTo 24 [.slice 0 0 n ca, .any, .ptr 1 0, .any, .ptr 2 0, .any, .any, .any, .any, .any, .any, .slice 0 0 n ca, .int .i64 n, .int .i64 k], [u8S false A, .seg true (.avs (cnts F 0)), .seg true (.avs (cnts F k))]⟩
def inv20 (A : List Int) (F : Nat → Int) (n ca : Nat) : LInv := ⟨Nat, fun k => st20 A F n ca k, fun k => k ≤ n, fun k => n - k⟩
def cOut (F : Nat → Int) (n : Nat) (e : Int) : FOut := numOut [.dead] (.tup [.agg (cnts F n), .int .i64 e])
set_option maxHeartbeats 0 in
set_option maxRecDepth 100000 in
theorem Counts_u (A : List Int) (F : Nat → Int) (n ca : Nat) (v : Bool) (hA : isU A F n) (hv : v = true ↔ okR F n) (hN : n ≤ 140737488351232) :
    Fits Try.prog 20 ⟨[.slice 0 0 n ca], [u8S false A], [cOut F (nn v n) (ee v)]⟩ := by
  have hl := hA.1
  cases v
  · have IR := isRow_n A F n ca hA (fun h => absurd (hv.2 h) (by decide)) hN
    refine fits_of_res (C := cfgu 1) (c := c20) (rs := [.cell 2 39, .tmp 3]) tokU mixed (fun _ => none) (fun _ => none)
      Try.func20 (by kernel_rfl) (by kernel_rfl) (by kernel_rfl) (by kernel_rfl) rfl ?_
    conv => whnf
    repeat (first
      | (refine And.intro ?_ ?_; (focus (first | omega | decide | exact EqOk.mk (by kernel_rfl) (by kernel_rfl) (by kernel_rfl) | exact Int.natCast_nonneg _ | ((repeat' refine And.intro ?_ ?_) <;> first | omega | exact Int.natCast_nonneg _ | (simp only [i64max, u8max, u16max, u32max, u64max]; omega) | (simp only [mulSz_eq, Cont.len, colsLen, Col.len, List.length_cons, List.length_nil, List.length_replicate, List.length_append]; first | done | omega) | (simp [mulSz, Cont.len, bne]; first | done | omega)))); conv => whnf)
      | (refine tst_in ?_ ?_; (focus (intro h_; exfalso; first | omega | ((try simp only [decide_eq_true_eq, decide_eq_false_iff_not] at h_); omega) | (simp [mulSz, Cont.len, bne] at h_; first | done | omega))); intro _; conv => whnf)
      | (refine tst_in ?_ ?_; rotate_left; (focus (intro h_; exfalso; first | omega | ((try simp only [decide_eq_true_eq, decide_eq_false_iff_not] at h_); omega) | (simp [mulSz, Cont.len, bne] at h_; first | done | omega))); intro _; conv => whnf)
      | (refine ⟨0, (show _ = _ by omega), ?_⟩; conv => whnf))
    refine ⟨_, [0], IR, ?_⟩
    conv => whnf
    iterate 2
     refine And.intro ?_ ?_
     focus
      conv => whnf
      repeat' (first | exact True.intro | rfl | refine And.intro ?_ ?_)
      all_goals (conv => whnf)
      repeat' (first | exact True.intro | rfl | refine And.intro ?_ ?_)
      all_goals (try (first | rfl | omega | (simp; first | done | omega)))
    conv => whnf
    conv => whnf
    repeat (first
      | (refine And.intro ?_ ?_; (focus (first | omega | decide | exact EqOk.mk (by kernel_rfl) (by kernel_rfl) (by kernel_rfl) | exact Int.natCast_nonneg _ | ((repeat' refine And.intro ?_ ?_) <;> first | omega | exact Int.natCast_nonneg _ | (simp only [i64max, u8max, u16max, u32max, u64max]; omega) | (simp only [mulSz_eq, Cont.len, colsLen, Col.len, List.length_cons, List.length_nil, List.length_replicate, List.length_append]; first | done | omega) | (simp [mulSz, Cont.len, bne]; first | done | omega)))); conv => whnf)
      | (refine tst_in ?_ ?_; (focus (intro h_; exfalso; first | omega | ((try simp only [decide_eq_true_eq, decide_eq_false_iff_not] at h_); omega) | (simp [mulSz, Cont.len, bne] at h_; first | done | omega))); intro _; conv => whnf)
      | (refine tst_in ?_ ?_; rotate_left; (focus (intro h_; exfalso; first | omega | ((try simp only [decide_eq_true_eq, decide_eq_false_iff_not] at h_); omega) | (simp [mulSz, Cont.len, bne] at h_; first | done | omega))); intro _; conv => whnf)
      | (refine ⟨0, (show _ = _ by omega), ?_⟩; conv => whnf))
    refine .inl ⟨(), [0], ?_⟩
    conv => whnf
    repeat' (first | exact True.intro | rfl | refine And.intro ?_ ?_)
    all_goals (conv => whnf)
    repeat' (first | exact True.intro | rfl | refine And.intro ?_ ?_)
    all_goals (try omega)
  · have h := hv.1 rfl
    have h6 := h.1
    have IR := isRow_y A F 0 n ca (by omega) h.1 (okF hA h)
    refine fits_of_res (C := cfgu 1) (c := c20) (rs := [.cell 2 39, .tmp 3]) tokU mixed (fun | 5 => some (inv20 A F n ca) | _ => none) (fun _ => none)
      Try.func20 (by kernel_rfl) (by kernel_rfl) (by kernel_rfl) (by kernel_rfl) rfl ?_
    conv => whnf
    repeat (first
      | (refine And.intro ?_ ?_; (focus (first | omega | decide | exact EqOk.mk (by kernel_rfl) (by kernel_rfl) (by kernel_rfl) | exact Int.natCast_nonneg _ | ((repeat' refine And.intro ?_ ?_) <;> first | omega | exact Int.natCast_nonneg _ | (simp only [i64max, u8max, u16max, u32max, u64max]; omega) | (simp only [mulSz_eq, Cont.len, colsLen, Col.len, List.length_cons, List.length_nil, List.length_replicate, List.length_append]; first | done | omega) | (simp [mulSz, Cont.len, bne]; first | done | omega)))); conv => whnf)
      | (refine tst_in ?_ ?_; (focus (intro h_; exfalso; first | omega | ((try simp only [decide_eq_true_eq, decide_eq_false_iff_not] at h_); omega) | (simp [mulSz, Cont.len, bne] at h_; first | done | omega))); intro _; conv => whnf)
      | (refine tst_in ?_ ?_; rotate_left; (focus (intro h_; exfalso; first | omega | ((try simp only [decide_eq_true_eq, decide_eq_false_iff_not] at h_); omega) | (simp [mulSz, Cont.len, bne] at h_; first | done | omega))); intro _; conv => whnf)
      | (refine ⟨0, (show _ = _ by omega), ?_⟩; conv => whnf))
    refine ⟨_, [0], IR, ?_⟩
    conv => whnf
    iterate 2
     refine And.intro ?_ ?_
     focus
      conv => whnf
      repeat' (first | exact True.intro | rfl | refine And.intro ?_ ?_)
      all_goals (conv => whnf)
      repeat' (first | exact True.intro | rfl | refine And.intro ?_ ?_)
      all_goals (try (first | rfl | omega | (simp; first | done | omega)))
    conv => whnf
    conv => whnf
    repeat (first
      | (refine And.intro ?_ ?_; (focus (first | omega | decide | exact EqOk.mk (by kernel_rfl) (by kernel_rfl) (by kernel_rfl) | exact Int.natCast_nonneg _ | ((repeat' refine And.intro ?_ ?_) <;> first | omega | exact Int.natCast_nonneg _ | (simp only [i64max, u8max, u16max, u32max, u64max]; omega) | (simp only [mulSz_eq, Cont.len, colsLen, Col.len, List.length_cons, List.length_nil, List.length_replicate, List.length_append]; first | done | omega) | (simp [mulSz, Cont.len, bne]; first | done | omega)))); conv => whnf)
      | (refine tst_in ?_ ?_; (focus (intro h_; exfalso; first | omega | ((try simp only [decide_eq_true_eq, decide_eq_false_iff_not] at h_); omega) | (simp [mulSz, Cont.len, bne] at h_; first | done | omega))); intro _; conv => whnf)
      | (refine tst_in ?_ ?_; rotate_left; (focus (intro h_; exfalso; first | omega | ((try simp only [decide_eq_true_eq, decide_eq_false_iff_not] at h_); omega) | (simp [mulSz, Cont.len, bne] at h_; first | done | omega))); intro _; conv => whnf)
      | (refine ⟨0, (show _ = _ by omega), ?_⟩; conv => whnf))
    refine ⟨⟨[0, 1, 2], (0 : Nat), ?_, Nat.zero_le _⟩, ?_⟩
    · show stLe _ _ (st20 A F n ca 0) _
      conv => whnf
      repeat' (first | exact True.intro | rfl | refine And.intro ?_ ?_)
      all_goals (conv => whnf)
      repeat' (first | exact True.intro | rfl | refine And.intro ?_ ?_)
      all_goals (try omega)
    · intro (k : Nat) (hk : k ≤ n)
      show forceSt (st20 A F n ca k) _
      conv => whnf
      repeat (first
        | (refine And.intro ?_ ?_; (focus (first | omega | decide | exact EqOk.mk (by kernel_rfl) (by kernel_rfl) (by kernel_rfl) | exact Int.natCast_nonneg _ | ((repeat' refine And.intro ?_ ?_) <;> first | omega | exact Int.natCast_nonneg _ | (simp only [i64max, u8max, u16max, u32max, u64max]; omega) | (simp only [mulSz_eq, Cont.len, colsLen, Col.len, List.length_cons, List.length_nil, List.length_replicate, List.length_append]; first | done | omega) | (simp [mulSz, Cont.len, bne]; first | done | omega)))); conv => whnf)
        | (refine tst_in ?_ ?_; (focus (intro h_; exfalso; first | omega | ((try simp only [decide_eq_true_eq, decide_eq_false_iff_not] at h_); omega) | (simp [mulSz, Cont.len, bne] at h_; first | done | omega))); intro _; conv => whnf)
        | (refine tst_in ?_ ?_; rotate_left; (focus (intro h_; exfalso; first | omega | ((try simp only [decide_eq_true_eq, decide_eq_false_iff_not] at h_); omega) | (simp [mulSz, Cont.len, bne] at h_; first | done | omega))); intro _; conv => whnf)
        | (refine ⟨0, (show _ = _ by omega), ?_⟩; conv => whnf))
      refine tst_in (fun hlt => ?_) (fun hge => ?_)
      · skip
        have hlt : k < n := by simp at hlt; omega
        have hX : 0 + ((k : Int)).toNat = k := by omega
        obtain ⟨hv1, hv2, hv3⟩ := hA.2 k hlt
        obtain ⟨hq1, hq2⟩ := h.2 k hlt
        have i0 := cq_in F 0 k
        have i1 := cq_in F 1 k
        have i2 := cq_in F 2 k
        have i3 := cq_in F 3 k
        rcases (show F k = 0 ∨ F k = 1 ∨ F k = 2 ∨ F k = 3 by omega) with e | e | e | e
        all_goals (
          rw [e] at hv1
          conv => whnf
          repeat (first
            | (refine And.intro ?_ ?_; (focus (first | omega | decide | exact EqOk.mk (by kernel_rfl) (by kernel_rfl) (by kernel_rfl) | exact Int.natCast_nonneg _ | ((repeat' refine And.intro ?_ ?_) <;> first | omega | exact Int.natCast_nonneg _ | (simp only [i64max, u8max, u16max, u32max, u64max]; omega) | (simp only [mulSz_eq, Cont.len, colsLen, Col.len, List.length_cons, List.length_nil, List.length_replicate, List.length_append]; first | done | omega) | (simp [mulSz, Cont.len, bne]; first | done | omega)))); conv => whnf)
            | (refine tst_in ?_ ?_; (focus (intro h_; exfalso; first | omega | ((try simp only [decide_eq_true_eq, decide_eq_false_iff_not] at h_); omega) | (simp [mulSz, Cont.len, bne] at h_; first | done | omega))); intro _; conv => whnf)
            | (refine tst_in ?_ ?_; rotate_left; (focus (intro h_; exfalso; first | omega | ((try simp only [decide_eq_true_eq, decide_eq_false_iff_not] at h_); omega) | (simp [mulSz, Cont.len, bne] at h_; first | done | omega))); intro _; conv => whnf)
            | (refine ⟨0, (show _ = _ by omega), ?_⟩; conv => whnf))
          rw [hX, hv1]
          conv => whnf
          repeat (first
            | (refine And.intro ?_ ?_; (focus (first | omega | decide | exact EqOk.mk (by kernel_rfl) (by kernel_rfl) (by kernel_rfl) | exact Int.natCast_nonneg _ | ((repeat' refine And.intro ?_ ?_) <;> first | omega | exact Int.natCast_nonneg _ | (simp only [i64max, u8max, u16max, u32max, u64max]; omega) | (simp only [mulSz_eq, Cont.len, colsLen, Col.len, List.length_cons, List.length_nil, List.length_replicate, List.length_append]; first | done | omega) | (simp [mulSz, Cont.len, bne]; first | done | omega)))); conv => whnf)
            | (refine tst_in ?_ ?_; (focus (intro h_; exfalso; first | omega | ((try simp only [decide_eq_true_eq, decide_eq_false_iff_not] at h_); omega) | (simp [mulSz, Cont.len, bne] at h_; first | done | omega))); intro _; conv => whnf)
            | (refine tst_in ?_ ?_; rotate_left; (focus (intro h_; exfalso; first | omega | ((try simp only [decide_eq_true_eq, decide_eq_false_iff_not] at h_); omega) | (simp [mulSz, Cont.len, bne] at h_; first | done | omega))); intro _; conv => whnf)
            | (refine ⟨0, (show _ = _ by omega), ?_⟩; conv => whnf))
          refine ⟨[0, 1, 2], k + 1, ?_, (by show k + 1 ≤ n; omega), (by show n - (k + 1) < n - k; omega)⟩
          show stLe _ _ (st20 A F n ca (k + 1)) _
          conv => whnf
          repeat' (first | exact True.intro | rfl | refine And.intro ?_ ?_)
          all_goals (conv => whnf)
          repeat' (first | exact True.intro | rfl | refine And.intro ?_ ?_)
          all_goals (try omega)
          all_goals (first | exact cq_y e | exact cq_n (by omega))
        )
      · skip
        have hge : k = n := by simp at hge; omega
        subst hge
        conv => whnf
        repeat (first
          | (refine And.intro ?_ ?_; (focus (first | omega | decide | exact EqOk.mk (by kernel_rfl) (by kernel_rfl) (by kernel_rfl) | exact Int.natCast_nonneg _ | ((repeat' refine And.intro ?_ ?_) <;> first | omega | exact Int.natCast_nonneg _ | (simp only [i64max, u8max, u16max, u32max, u64max]; omega) | (simp only [mulSz_eq, Cont.len, colsLen, Col.len, List.length_cons, List.length_nil, List.length_replicate, List.length_append]; first | done | omega) | (simp [mulSz, Cont.len, bne]; first | done | omega)))); conv => whnf)
          | (refine tst_in ?_ ?_; (focus (intro h_; exfalso; first | omega | ((try simp only [decide_eq_true_eq, decide_eq_false_iff_not] at h_); omega) | (simp [mulSz, Cont.len, bne] at h_; first | done | omega))); intro _; conv => whnf)
          | (refine tst_in ?_ ?_; rotate_left; (focus (intro h_; exfalso; first | omega | ((try simp only [decide_eq_true_eq, decide_eq_false_iff_not] at h_); omega) | (simp [mulSz, Cont.len, bne] at h_; first | done | omega))); intro _; conv => whnf)
          | (refine ⟨0, (show _ = _ by omega), ?_⟩; conv => whnf))
        refine .inl ⟨(), [0], ?_⟩
        conv => whnf
        repeat' (first | exact True.intro | rfl | refine And.intro ?_ ?_)
        all_goals (conv => whnf)
        repeat' (first | exact True.intro | rfl | refine And.intro ?_ ?_)
        all_goals (try omega)
noncomputable def c21 : Code := (Try.f21.body).getD .skip
def st21 (A : List Int) (F : Nat → Int) (n ca k : Nat) : St :=
  ⟨anyTo 25 [.slice 0 0 n ca, .any, .ptr 1 0, .any, .ptr 2 0, .int .i64 k], [u8S false A, .seg true (.avs (cnts F 0)), .seg true (.avs (cnts F k))]⟩
def inv21 (A : List Int) (F : Nat → Int) (n ca : Nat) : LInv := ⟨Nat, fun k => st21 A F n ca k, fun k => k ≤ n, fun k => n - k⟩
set_option maxHeartbeats 0 in
set_option maxRecDepth 100000 in
theorem rCounts_u (A : List Int) (F : Nat → Int) (n ca : Nat) (v : Bool) (hA : isU A F n) (hv : v = true ↔ okR F n) (hN : n ≤ 140737488351232) :
    Fits Try.prog 21 ⟨[.slice 0 0 n ca], [u8S false A], [cOut F (nn v n) (ee v)]⟩ := by
  have RQ := rrow_q A F n ca v hA hv hN
  have hl := hA.1
  cases v
  · refine fits_of_res (C := cfgu 1) (c := c21) (rs := [.cell 2 39, .tmp 3]) tokU mixed (fun _ => none) (fun _ => none)
      Try.func21 (by kernel_rfl) (by kernel_rfl) (by kernel_rfl) (by kernel_rfl) rfl ?_
    conv => whnf
    repeat (first
      | (refine And.intro ?_ ?_; (focus (first | omega | decide | exact EqOk.mk (by kernel_rfl) (by kernel_rfl) (by kernel_rfl) | exact Int.natCast_nonneg _ | ((repeat' refine And.intro ?_ ?_) <;> first | omega | exact Int.natCast_nonneg _ | (simp only [i64max, u8max, u16max, u32max, u64max]; omega) | (simp only [mulSz_eq, Cont.len, colsLen, Col.len, List.length_cons, List.length_nil, List.length_replicate, List.length_append]; first | done | omega) | (simp [mulSz, Cont.len, bne]; first | done | omega)))); conv => whnf)
      | (refine tst_in ?_ ?_; (focus (intro h_; exfalso; first | omega | ((try simp only [decide_eq_true_eq, decide_eq_false_iff_not] at h_); omega) | (simp [mulSz, Cont.len, bne] at h_; first | done | omega))); intro _; conv => whnf)
      | (refine tst_in ?_ ?_; rotate_left; (focus (intro h_; exfalso; first | omega | ((try simp only [decide_eq_true_eq, decide_eq_false_iff_not] at h_); omega) | (simp [mulSz, Cont.len, bne] at h_; first | done | omega))); intro _; conv => whnf)
      | (refine ⟨0, (show _ = _ by omega), ?_⟩; conv => whnf))
    refine ⟨_, [0], RQ, ?_⟩
    conv => whnf
    iterate 2
     refine And.intro ?_ ?_
     focus
      conv => whnf
      repeat' (first | exact True.intro | rfl | refine And.intro ?_ ?_)
      all_goals (conv => whnf)
      repeat' (first | exact True.intro | rfl | refine And.intro ?_ ?_)
      all_goals (try (first | rfl | omega | (simp; first | done | omega)))
    conv => whnf
    conv => whnf
    repeat (first
      | (refine And.intro ?_ ?_; (focus (first | omega | decide | exact EqOk.mk (by kernel_rfl) (by kernel_rfl) (by kernel_rfl) | exact Int.natCast_nonneg _ | ((repeat' refine And.intro ?_ ?_) <;> first | omega | exact Int.natCast_nonneg _ | (simp only [i64max, u8max, u16max, u32max, u64max]; omega) | (simp only [mulSz_eq, Cont.len, colsLen, Col.len, List.length_cons, List.length_nil, List.length_replicate, List.length_append]; first | done | omega) | (simp [mulSz, Cont.len, bne]; first | done | omega)))); conv => whnf)
      | (refine tst_in ?_ ?_; (focus (intro h_; exfalso; first | omega | ((try simp only [decide_eq_true_eq, decide_eq_false_iff_not] at h_); omega) | (simp [mulSz, Cont.len, bne] at h_; first | done | omega))); intro _; conv => whnf)
      | (refine tst_in ?_ ?_; rotate_left; (focus (intro h_; exfalso; first | omega | ((try simp only [decide_eq_true_eq, decide_eq_false_iff_not] at h_); omega) | (simp [mulSz, Cont.len, bne] at h_; first | done | omega))); intro _; conv => whnf)
      | (refine ⟨0, (show _ = _ by omega), ?_⟩; conv => whnf))
    refine .inl ⟨(), [0], ?_⟩
    conv => whnf
    repeat' (first | exact True.intro | rfl | refine And.intro ?_ ?_)
    all_goals (conv => whnf)
    repeat' (first | exact True.intro | rfl | refine And.intro ?_ ?_)
    all_goals (try omega)
  · have h := hv.1 rfl
    have h6 := h.1
    refine fits_of_res (C := cfgu 1) (c := c21) (rs := [.cell 2 39, .tmp 3]) tokU mixed (fun | 5 => some (inv21 A F n ca) | _ => none) (fun _ => none)
      Try.func21 (by kernel_rfl) (by kernel_rfl) (by kernel_rfl) (by kernel_rfl) rfl ?_
    conv => whnf
    repeat (first
      | (refine And.intro ?_ ?_; (focus (first | omega | decide | exact EqOk.mk (by kernel_rfl) (by kernel_rfl) (by kernel_rfl) | exact Int.natCast_nonneg _ | ((repeat' refine And.intro ?_ ?_) <;> first | omega | exact Int.natCast_nonneg _ | (simp only [i64max, u8max, u16max, u32max, u64max]; omega) | (simp only [mulSz_eq, Cont.len, colsLen, Col.len, List.length_cons, List.length_nil, List.length_replicate, List.length_append]; first | done | omega) | (simp [mulSz, Cont.len, bne]; first | done | omega)))); conv => whnf)
      | (refine tst_in ?_ ?_; (focus (intro h_; exfalso; first | omega | ((try simp only [decide_eq_true_eq, decide_eq_false_iff_not] at h_); omega) | (simp [mulSz, Cont.len, bne] at h_; first | done | omega))); intro _; conv => whnf)
      | (refine tst_in ?_ ?_; rotate_left; (focus (intro h_; exfalso; first | omega | ((try simp only [decide_eq_true_eq, decide_eq_false_iff_not] at h_); omega) | (simp [mulSz, Cont.len, bne] at h_; first | done | omega))); intro _; conv => whnf)
      | (refine ⟨0, (show _ = _ by omega), ?_⟩; conv => whnf))
    refine ⟨_, [0], RQ, ?_⟩
    conv => whnf
    iterate 2
     refine And.intro ?_ ?_
     focus
      conv => whnf
      repeat' (first | exact True.intro | rfl | refine And.intro ?_ ?_)
      all_goals (conv => whnf)
      repeat' (first | exact True.intro | rfl | refine And.intro ?_ ?_)
      all_goals (try (first | rfl | omega | (simp; first | done | omega)))
    conv => whnf
    conv => whnf
    repeat (first
      | (refine And.intro ?_ ?_; (focus (first | omega | decide | exact EqOk.mk (by kernel_rfl) (by kernel_rfl) (by kernel_rfl) | exact Int.natCast_nonneg _ | ((repeat' refine And.intro ?_ ?_) <;> first | omega | exact Int.natCast_nonneg _ | (simp only [i64max, u8max, u16max, u32max, u64max]; omega) | (simp only [mulSz_eq, Cont.len, colsLen, Col.len, List.length_cons, List.length_nil, List.length_replicate, List.length_append]; first | done | omega) | (simp [mulSz, Cont.len, bne]; first | done | omega)))); conv => whnf)
      | (refine tst_in ?_ ?_; (focus (intro h_; exfalso; first | omega | ((try simp only [decide_eq_true_eq, decide_eq_false_iff_not] at h_); omega) | (simp [mulSz, Cont.len, bne] at h_; first | done | omega))); intro _; conv => whnf)
      | (refine tst_in ?_ ?_; rotate_left; (focus (intro h_; exfalso; first | omega | ((try simp only [decide_eq_true_eq, decide_eq_false_iff_not] at h_); omega) | (simp [mulSz, Cont.len, bne] at h_; first | done | omega))); intro _; conv => whnf)
      | (refine ⟨0, (show _ = _ by omega), ?_⟩; conv => whnf))
    refine ⟨⟨[0, 1, 2], (0 : Nat), ?_, Nat.zero_le _⟩, ?_⟩
    · show stLe _ _ (st21 A F n ca 0) _
      conv => whnf
      repeat' (first | exact True.intro | rfl | refine And.intro ?_ ?_)
      all_goals (conv => whnf)
      repeat' (first | exact True.intro | rfl | refine And.intro ?_ ?_)
      all_goals (try omega)
    · intro (k : Nat) (hk : k ≤ n)
      show forceSt (st21 A F n ca k) _
      conv => whnf
      repeat (first
        | (refine And.intro ?_ ?_; (focus (first | omega | decide | exact EqOk.mk (by kernel_rfl) (by kernel_rfl) (by kernel_rfl) | exact Int.natCast_nonneg _ | ((repeat' refine And.intro ?_ ?_) <;> first | omega | exact Int.natCast_nonneg _ | (simp only [i64max, u8max, u16max, u32max, u64max]; omega) | (simp only [mulSz_eq, Cont.len, colsLen, Col.len, List.length_cons, List.length_nil, List.length_replicate, List.length_append]; first | done | omega) | (simp [mulSz, Cont.len, bne]; first | done | omega)))); conv => whnf)
        | (refine tst_in ?_ ?_; (focus (intro h_; exfalso; first | omega | ((try simp only [decide_eq_true_eq, decide_eq_false_iff_not] at h_); omega) | (simp [mulSz, Cont.len, bne] at h_; first | done | omega))); intro _; conv => whnf)
        | (refine tst_in ?_ ?_; rotate_left; (focus (intro h_; exfalso; first | omega | ((try simp only [decide_eq_true_eq, decide_eq_false_iff_not] at h_); omega) | (simp [mulSz, Cont.len, bne] at h_; first | done | omega))); intro _; conv => whnf)
        | (refine ⟨0, (show _ = _ by omega), ?_⟩; conv => whnf))
      refine tst_in (fun hlt => ?_) (fun hge => ?_)
      · skip
        have hlt : k < n := by simp at hlt; omega
        have hX : 0 + ((k : Int)).toNat = k := by omega
        obtain ⟨hv1, hv2, hv3⟩ := hA.2 k hlt
        obtain ⟨hq1, hq2⟩ := h.2 k hlt
        have i0 := cq_in F 0 k
        have i1 := cq_in F 1 k
        have i2 := cq_in F 2 k
        have i3 := cq_in F 3 k
        rcases (show F k = 0 ∨ F k = 1 ∨ F k = 2 ∨ F k = 3 by omega) with e | e | e | e
        all_goals (
          rw [e] at hv1
          conv => whnf
          repeat (first
            | (refine And.intro ?_ ?_; (focus (first | omega | decide | exact EqOk.mk (by kernel_rfl) (by kernel_rfl) (by kernel_rfl) | exact Int.natCast_nonneg _ | ((repeat' refine And.intro ?_ ?_) <;> first | omega | exact Int.natCast_nonneg _ | (simp only [i64max, u8max, u16max, u32max, u64max]; omega) | (simp only [mulSz_eq, Cont.len, colsLen, Col.len, List.length_cons, List.length_nil, List.length_replicate, List.length_append]; first | done | omega) | (simp [mulSz, Cont.len, bne]; first | done | omega)))); conv => whnf)
            | (refine tst_in ?_ ?_; (focus (intro h_; exfalso; first | omega | ((try simp only [decide_eq_true_eq, decide_eq_false_iff_not] at h_); omega) | (simp [mulSz, Cont.len, bne] at h_; first | done | omega))); intro _; conv => whnf)
            | (refine tst_in ?_ ?_; rotate_left; (focus (intro h_; exfalso; first | omega | ((try simp only [decide_eq_true_eq, decide_eq_false_iff_not] at h_); omega) | (simp [mulSz, Cont.len, bne] at h_; first | done | omega))); intro _; conv => whnf)
            | (refine ⟨0, (show _ = _ by omega), ?_⟩; conv => whnf))
          rw [hX, hv1]
          conv => whnf
          repeat (first
            | (refine And.intro ?_ ?_; (focus (first | omega | decide | exact EqOk.mk (by kernel_rfl) (by kernel_rfl) (by kernel_rfl) | exact Int.natCast_nonneg _ | ((repeat' refine And.intro ?_ ?_) <;> first | omega | exact Int.natCast_nonneg _ | (simp only [i64max, u8max, u16max, u32max, u64max]; omega) | (simp only [mulSz_eq, Cont.len, colsLen, Col.len, List.length_cons, List.length_nil, List.length_replicate, List.length_append]; first | done | omega) | (simp [mulSz, Cont.len, bne]; first | done | omega)))); conv => whnf)
            | (refine tst_in ?_ ?_; (focus (intro h_; exfalso; first | omega | ((try simp only [decide_eq_true_eq, decide_eq_false_iff_not] at h_); omega) | (simp [mulSz, Cont.len, bne] at h_; first | done | omega))); intro _; conv => whnf)
            | (refine tst_in ?_ ?_; rotate_left; (focus (intro h_; exfalso; first | omega | ((try simp only [decide_eq_true_eq, decide_eq_false_iff_not] at h_); omega) | (simp [mulSz, Cont.len, bne] at h_; first | done | omega))); intro _; conv => whnf)
            | (refine ⟨0, (show _ = _ by omega), ?_⟩; conv => whnf))
          refine ⟨[0, 1, 2], k + 1, ?_, (by show k + 1 ≤ n; omega), (by show n - (k + 1) < n - k; omega)⟩
          show stLe _ _ (st21 A F n ca (k + 1)) _
          conv => whnf
          repeat' (first | exact True.intro | rfl | refine And.intro ?_ ?_)
          all_goals (conv => whnf)
          repeat' (first | exact True.intro | rfl | refine And.intro ?_ ?_)
          all_goals (try omega)
          all_goals (first | exact cq_y e | exact cq_n (by omega))
        )
      · skip
        have hge : k = n := by simp at hge; omega
        subst hge
        conv => whnf
        repeat (first
          | (refine And.intro ?_ ?_; (focus (first | omega | decide | exact EqOk.mk (by kernel_rfl) (by kernel_rfl) (by kernel_rfl) | exact Int.natCast_nonneg _ | ((repeat' refine And.intro ?_ ?_) <;> first | omega | exact Int.natCast_nonneg _ | (simp only [i64max, u8max, u16max, u32max, u64max]; omega) | (simp only [mulSz_eq, Cont.len, colsLen, Col.len, List.length_cons, List.length_nil, List.length_replicate, List.length_append]; first | done | omega) | (simp [mulSz, Cont.len, bne]; first | done | omega)))); conv => whnf)
          | (refine tst_in ?_ ?_; (focus (intro h_; exfalso; first | omega | ((try simp only [decide_eq_true_eq, decide_eq_false_iff_not] at h_); omega) | (simp [mulSz, Cont.len, bne] at h_; first | done | omega))); intro _; conv => whnf)
          | (refine tst_in ?_ ?_; rotate_left; (focus (intro h_; exfalso; first | omega | ((try simp only [decide_eq_true_eq, decide_eq_false_iff_not] at h_); omega) | (simp [mulSz, Cont.len, bne] at h_; first | done | omega))); intro _; conv => whnf)
          | (refine ⟨0, (show _ = _ by omega), ?_⟩; conv => whnf))
        refine .inl ⟨(), [0], ?_⟩
        conv => whnf
        repeat' (first | exact True.intro | rfl | refine And.intro ?_ ?_)
        all_goals (conv => whnf)
        repeat' (first | exact True.intro | rfl | refine And.intro ?_ ?_)
        all_goals (try omega)
end Go.Proofs.Yteefbedjblppiaa

set_option linter.unusedVariables false
set_option linter.unusedSimpArgs false
namespace Go.Proofs.Yteefbedjblppiaa
open Go Go.Fw
def slotsFrom : Nat → Nat → List (Nat × AV) → List AV
  | 0, _, _ => []
  | n + 1, i, [] => .any :: slotsFrom n (i + 1) []
  | n + 1, i, (j, x) :: r => match Nat.beq i j with
    | true => x :: slotsFrom n (i + 1) r
    | false => .any :: slotsFrom n (i + 1) ((j, x) :: r)
def slotsAt (n : Nat) (l : List (Nat × AV)) : List AV := slotsFrom n 0 l
theorem quar_t (f : Nat → Int) (N : Nat) (t1 t2 : List Int) (ca cb : Nat) (hN : N ≤ 140737488351232) : QFits Try.prog 6 ⟨[.slice 0 0 N ca, .slice 1 0 N cb], [u8S false (tab f N ++ t1), u8S false (tab f N ++ t2)], .bool true⟩ :=
  quar_q _ _ 0 N ca 0 cb (by rw [app_len]; omega) (by rw [app_len]; omega) (by omega) (fun i hi => by rw [Nat.zero_add, tab_app _ _ _ hi, tab_app _ _ _ hi])
theorem truth_t (f : Nat → Bool) (N : Nat) (t1 t2 : List Bool) (ca cb : Nat) (hN : N ≤ 140737488351232) : QFits Try.prog 7 ⟨[.slice 0 0 N ca, .slice 1 0 N cb], [boS false (tab f N ++ t1), boS false (tab f N ++ t2)], .bool true⟩ :=
  truths_q _ _ N ca cb hN (by rw [app_len]; omega) (by rw [app_len]; omega) (fun i hi => by rw [tab_app _ _ _ hi, tab_app _ _ _ hi])
theorem Marked_u (A : List Int) (B : List Bool) (F : Nat → Int) (T : Nat → Bool) (n m ca cb : Nat) (v : Bool) (hA : isU A F n) (hB : isB B T m) (hv : v = true ↔ okR F n ∧ m = n) (hN : n ≤ 140737488351232) (hM : m ≤ 140737488351232) :
    Fits Try.prog 17 ⟨[.slice 0 0 n ca, .slice 1 0 m cb], [u8S false A, boS false B], [mOut [.dead, .dead] 2 (mq F T) (mkq T) (nn v n) (ee v)]⟩ := by
  cases v
  · exact Marked_n A B F n m ca cb _ _ hA (fun h => absurd (hv.2 h) (by decide)) hN hM
  · obtain ⟨hr, rfl⟩ := hv.1 rfl
    exact Marked_y A B F T m ca cb hA hB hr
theorem rMarked_u (A : List Int) (B : List Bool) (F : Nat → Int) (T : Nat → Bool) (n m ca cb : Nat) (v : Bool) (hA : isU A F n) (hB : isB B T m) (hv : v = true ↔ okR F n ∧ m = n) (hN : n ≤ 140737488351232) (hM : m ≤ 140737488351232) :
    Fits Try.prog 18 ⟨[.slice 0 0 n ca, .slice 1 0 m cb], [u8S false A, boS false B], [mOut [.dead, .dead] 2 (mq F T) (mkq T) (nn v n) (ee v)]⟩ := by
  cases v
  · exact rMarked_n A B F n m ca cb _ _ hA (fun h => absurd (hv.2 h) (by decide)) hN hM
  · obtain ⟨hr, rfl⟩ := hv.1 rfl
    exact rMarked_y A B F T m ca cb hA hB hr
theorem told (p : Prop) : ∃ v : Bool, v = true ↔ p := by
  by_cases h : p
  · exact ⟨true, fun _ => h, fun _ => rfl⟩
  · exact ⟨false, fun h => absurd h (by decide), fun hp => absurd hp h⟩
theorem nn_le {v : Bool} {n b : Nat} (h : v = true → n ≤ b) : nn v n ≤ b := by
  cases v
  · exact Nat.zero_le _
  · exact h rfl
structure HP where
  M : List Int
  T : List Bool
  Q : List Int
  H : List Bool
  n : Nat
  k : Nat
  cm : Nat
  ct : Nat
  cq : Nat
  ch : Nat
def HP.args (h : HP) : List AV := [.slice 0 0 h.n h.cm, .slice 1 0 h.k h.ct, .slice 2 0 h.n h.cq, .slice 3 0 h.k h.ch]
def HP.segs (h : HP) : List Seg := [u8S false h.M, boS false h.T, u8S false h.Q, boS false h.H]
def HP.slots (h : HP) : List (Nat × AV) := [(0, .slice 0 0 h.n h.cm), (1, .slice 1 0 h.k h.ct), (2, .slice 2 0 h.n h.cq), (3, .slice 3 0 h.k h.ch)]
structure LA where
  x : List Int
  b : List Int
  c : List Int
  r : Nat
  i : Nat
def stA (h : HP) (f : Nat → Int) (N : Nat) (p : LA) : St :=
  ⟨slotsAt 208 (h.slots ++ [(9, .slice 4 0 N (N + p.r)), (11, .slice 5 0 N (N + p.b.length)), (13, .slice 6 0 N (N + p.c.length)), (15, .int .i64 p.i)]), h.segs ++ [u8S true p.x, u8S true (tab f N ++ p.b), u8S true (tab f N ++ p.c)]⟩
def invA (h : HP) (f : Nat → Int) (N : Nat) : LInv := ⟨LA, fun p => stA h f N p, fun p => p.x.length = N + p.r ∧ p.i ≤ N, fun p => N - p.i⟩
structure LB where
  x : List Bool
  b : List Bool
  r : Nat
  i : Nat
def stB (h : HP) (f : Nat → Bool) (N : Nat) (p : LB) : St :=
  ⟨slotsAt 208 (h.slots ++ [(19, .slice 4 0 N (N + p.r)), (21, .slice 5 0 N (N + p.b.length)), (22, .int .i64 p.i)]), h.segs ++ [boS true p.x, boS true (tab f N ++ p.b)]⟩
def invB (h : HP) (f : Nat → Bool) (N : Nat) : LInv := ⟨LB, fun p => stB h f N p, fun p => p.x.length = N + p.r ∧ p.i ≤ N, fun p => N - p.i⟩
def stC (h : HP) (f : Nat → Bool) (N : Nat) (p : LB) : St :=
  ⟨slotsAt 208 (h.slots ++ [(26, .slice 4 0 N (N + p.r)), (27, .slice 5 0 N (N + p.b.length)), (28, .int .i64 p.i)]), h.segs ++ [boS true p.x, boS true (tab f N ++ p.b)]⟩
def invC (h : HP) (f : Nat → Bool) (N : Nat) : LInv := ⟨LB, fun p => stC h f N p, fun p => p.x.length = N + p.r ∧ p.i ≤ N, fun p => N - p.i⟩
noncomputable def c5 : Code := (Try.f5.body).getD .skip
def cfg5 : Cfg := { cfgu 4 with q := qf }
def HP.ok (h : HP) (F : Nat → Int) (G : Nat → Bool) : Prop := isU h.M F h.n ∧ isU h.Q F h.n ∧ isB h.T G h.k ∧ isB h.H G h.k ∧ h.n ≤ 140737488351232 ∧ h.k ≤ 140737488351232
set_option maxHeartbeats 0 in
set_option maxRecDepth 100000 in
theorem rows_f (h : HP) (F : Nat → Int) (G : Nat → Bool) (ok : h.ok F G) : Fits Try.prog 5 ⟨h.args, h.segs, [numOut [.dead, .dead, .dead, .dead] (.bool true)]⟩ := by
  obtain ⟨hM, hQ, hT, hH, hn, hk⟩ := ok
  obtain ⟨v1, hv1⟩ := told (okR F h.n)
  obtain ⟨v2, hv2⟩ := told (okR F h.n ∧ h.n ≤ 16384)
  obtain ⟨v3, hv3⟩ := told (okR F h.n ∧ h.k = h.n)
  have I1 := Into_u h.M F h.n h.cm v1 hM hv1 hn
  have I2 := rInto_u h.Q F h.n h.cq v1 hQ hv1 hn
  have O1 := Out_u h.M F h.n h.cm v1 hM hv1 hn
  have O2 := rOut_u h.Q F h.n h.cq v1 hQ hv1 hn
  have B1 := Bits_u h.M F h.n h.cm v2 hM hv2 hn
  have B2 := rBits_u h.Q F h.n h.cq v2 hQ hv2 hn
  have C1 := Counts_u h.M F h.n h.cm v1 hM hv1 hn
  have C2 := rCounts_u h.Q F h.n h.cq v1 hQ hv1 hn
  have K1 := Marked_u h.M h.T F G h.n h.k h.cm h.ct v3 hM hT hv3 hn hk
  have K2 := rMarked_u h.Q h.H F G h.n h.k h.cq h.ch v3 hQ hH hv3 hn hk
  have b1 : nn v1 h.n ≤ 65536 := nn_le fun q => (hv1.1 q).1
  have b2 : nn v2 (2 * h.n) ≤ 65536 := nn_le fun q => by have := (hv2.1 q).2; omega
  have b3 : nn v3 h.n ≤ 65536 := nn_le fun q => (hv3.1 q).1.1
  obtain ⟨N1, eN1⟩ : ∃ N, nn v1 h.n = N := ⟨_, rfl⟩
  obtain ⟨N2, eN2⟩ : ∃ N, nn v2 (2 * h.n) = N := ⟨_, rfl⟩
  obtain ⟨N3, eN3⟩ : ∃ N, nn v3 h.n = N := ⟨_, rfl⟩
  obtain ⟨e1, eE1⟩ : ∃ e, ee v1 = e := ⟨_, rfl⟩
  obtain ⟨e2, eE2⟩ : ∃ e, ee v2 = e := ⟨_, rfl⟩
  obtain ⟨e3, eE3⟩ : ∃ e, ee v3 = e := ⟨_, rfl⟩
  rw [eN1] at I1 I2 O1 O2 C1 C2 b1
  rw [eN2] at B1 B2 b2
  rw [eN3] at K1 K2 b3
  rw [eE1] at I1 I2 O1 O2 C1 C2
  rw [eE2] at B1 B2
  rw [eE3] at K1 K2
  unfold HP.args HP.segs
  refine fits_of_body (C := cfg5) (c := c5) (ts := [8]) tokU mixed (fun | 7 => some (invA h (inq F) N1) | 19 => some (invB h (mkq G) N3) | 28 => some (invC h (bitq F) N2) | _ => none) (fun _ => none)
    Try.func5 (by kernel_rfl) (by kernel_rfl) (by kernel_rfl) (by kernel_rfl) rfl ?_
  conv => whnf
  repeat (first
    | (refine And.intro ?_ ?_; (focus (first | omega | decide | exact EqOk.mk (by kernel_rfl) (by kernel_rfl) (by kernel_rfl) | exact Int.natCast_nonneg _ | ((repeat' refine And.intro ?_ ?_) <;> first | omega | exact Int.natCast_nonneg _ | (simp only [i64max, u8max, u16max, u32max, u64max]; omega) | (simp only [mulSz_eq, Cont.len, colsLen, Col.len, List.length_cons, List.length_nil, List.length_replicate, List.length_append]; first | done | omega) | (simp [mulSz, Cont.len, bne]; first | done | omega)))); conv => whnf)
    | (refine tst_in ?_ ?_; (focus (intro h_; exfalso; first | omega | ((try simp only [decide_eq_true_eq, decide_eq_false_iff_not] at h_); omega) | (simp [mulSz, Cont.len, bne] at h_; first | done | omega))); intro _; conv => whnf)
    | (refine tst_in ?_ ?_; rotate_left; (focus (intro h_; exfalso; first | omega | ((try simp only [decide_eq_true_eq, decide_eq_false_iff_not] at h_); omega) | (simp [mulSz, Cont.len, bne] at h_; first | done | omega))); intro _; conv => whnf)
    | (refine ⟨0, (show _ = _ by omega), ?_⟩; conv => whnf))
  refine ⟨_, [0], I1, ?_⟩
  conv => whnf
  iterate 2
   refine And.intro ?_ ?_
   focus
    conv => whnf
    repeat' (first | exact True.intro | rfl | refine And.intro ?_ ?_)
    all_goals (conv => whnf)
    repeat' (first | exact True.intro | rfl | refine And.intro ?_ ?_)
    all_goals (try (first | rfl | omega | (simp; first | done | omega)))
  conv => whnf
  refine ⟨?_, True.intro⟩
  rintro t1 _
  conv => whnf
  change List Int at t1
  conv => whnf
  repeat (first
    | (refine And.intro ?_ ?_; (focus (first | omega | decide | exact EqOk.mk (by kernel_rfl) (by kernel_rfl) (by kernel_rfl) | exact Int.natCast_nonneg _ | ((repeat' refine And.intro ?_ ?_) <;> first | omega | exact Int.natCast_nonneg _ | (simp only [i64max, u8max, u16max, u32max, u64max]; omega) | (simp only [mulSz_eq, Cont.len, colsLen, Col.len, List.length_cons, List.length_nil, List.length_replicate, List.length_append]; first | done | omega) | (simp [mulSz, Cont.len, bne]; first | done | omega)))); conv => whnf)
    | (refine tst_in ?_ ?_; (focus (intro h_; exfalso; first | omega | ((try simp only [decide_eq_true_eq, decide_eq_false_iff_not] at h_); omega) | (simp [mulSz, Cont.len, bne] at h_; first | done | omega))); intro _; conv => whnf)
    | (refine tst_in ?_ ?_; rotate_left; (focus (intro h_; exfalso; first | omega | ((try simp only [decide_eq_true_eq, decide_eq_false_iff_not] at h_); omega) | (simp [mulSz, Cont.len, bne] at h_; first | done | omega))); intro _; conv => whnf)
    | (refine ⟨0, (show _ = _ by omega), ?_⟩; conv => whnf))
  refine ⟨_, [2], I2, ?_⟩
  conv => whnf
  iterate 2
   refine And.intro ?_ ?_
   focus
    conv => whnf
    repeat' (first | exact True.intro | rfl | refine And.intro ?_ ?_)
    all_goals (conv => whnf)
    repeat' (first | exact True.intro | rfl | refine And.intro ?_ ?_)
    all_goals (try (first | rfl | omega | (simp; first | done | omega)))
  conv => whnf
  refine ⟨?_, True.intro⟩
  rintro t2 _
  conv => whnf
  change List Int at t2
  conv => whnf
  repeat (first
    | (refine And.intro ?_ ?_; (focus (first | omega | decide | exact EqOk.mk (by kernel_rfl) (by kernel_rfl) (by kernel_rfl) | exact Int.natCast_nonneg _ | ((repeat' refine And.intro ?_ ?_) <;> first | omega | exact Int.natCast_nonneg _ | (simp only [i64max, u8max, u16max, u32max, u64max]; omega) | (simp only [mulSz_eq, Cont.len, colsLen, Col.len, List.length_cons, List.length_nil, List.length_replicate, List.length_append]; first | done | omega) | (simp [mulSz, Cont.len, bne]; first | done | omega)))); conv => whnf)
    | (refine tst_in ?_ ?_; (focus (intro h_; exfalso; first | omega | ((try simp only [decide_eq_true_eq, decide_eq_false_iff_not] at h_); omega) | (simp [mulSz, Cont.len, bne] at h_; first | done | omega))); intro _; conv => whnf)
    | (refine tst_in ?_ ?_; rotate_left; (focus (intro h_; exfalso; first | omega | ((try simp only [decide_eq_true_eq, decide_eq_false_iff_not] at h_); omega) | (simp [mulSz, Cont.len, bne] at h_; first | done | omega))); intro _; conv => whnf)
    | (refine ⟨0, (show _ = _ by omega), ?_⟩; conv => whnf))
  refine ⟨_, [0], I1, ?_⟩
  conv => whnf
  iterate 2
   refine And.intro ?_ ?_
   focus
    conv => whnf
    repeat' (first | exact True.intro | rfl | refine And.intro ?_ ?_)
    all_goals (conv => whnf)
    repeat' (first | exact True.intro | rfl | refine And.intro ?_ ?_)
    all_goals (try (first | rfl | omega | (simp; first | done | omega)))
  conv => whnf
  refine ⟨?_, True.intro⟩
  rintro t3 _
  conv => whnf
  change List Int at t3
  conv => whnf
  repeat (first
    | (refine And.intro ?_ ?_; (focus (first | omega | decide | exact EqOk.mk (by kernel_rfl) (by kernel_rfl) (by kernel_rfl) | exact Int.natCast_nonneg _ | ((repeat' refine And.intro ?_ ?_) <;> first | omega | exact Int.natCast_nonneg _ | (simp only [i64max, u8max, u16max, u32max, u64max]; omega) | (simp only [mulSz_eq, Cont.len, colsLen, Col.len, List.length_cons, List.length_nil, List.length_replicate, List.length_append]; first | done | omega) | (simp [mulSz, Cont.len, bne]; first | done | omega)))); conv => whnf)
    | (refine tst_in ?_ ?_; (focus (intro h_; exfalso; first | omega | ((try simp only [decide_eq_true_eq, decide_eq_false_iff_not] at h_); omega) | (simp [mulSz, Cont.len, bne] at h_; first | done | omega))); intro _; conv => whnf)
    | (refine tst_in ?_ ?_; rotate_left; (focus (intro h_; exfalso; first | omega | ((try simp only [decide_eq_true_eq, decide_eq_false_iff_not] at h_); omega) | (simp [mulSz, Cont.len, bne] at h_; first | done | omega))); intro _; conv => whnf)
    | (refine ⟨0, (show _ = _ by omega), ?_⟩; conv => whnf))
  refine ⟨_, [4, 5], (quar_t (inq F) N1 t1 t2 (N1 + t1.length) (N1 + t2.length) (by omega)), ?_⟩
  conv => whnf
  iterate 2
   refine And.intro ?_ ?_
   focus
    conv => whnf
    repeat' (first | exact True.intro | rfl | refine And.intro ?_ ?_)
    all_goals (conv => whnf)
    repeat' (first | exact True.intro | rfl | refine And.intro ?_ ?_)
    all_goals (try (first | rfl | omega | (simp; first | done | omega)))
  conv => whnf
  conv => whnf
  repeat (first
    | (refine And.intro ?_ ?_; (focus (first | omega | decide | exact EqOk.mk (by kernel_rfl) (by kernel_rfl) (by kernel_rfl) | exact Int.natCast_nonneg _ | ((repeat' refine And.intro ?_ ?_) <;> first | omega | exact Int.natCast_nonneg _ | (simp only [i64max, u8max, u16max, u32max, u64max]; omega) | (simp only [mulSz_eq, Cont.len, colsLen, Col.len, List.length_cons, List.length_nil, List.length_replicate, List.length_append]; first | done | omega) | (simp [mulSz, Cont.len, bne]; first | done | omega)))); conv => whnf)
    | (refine tst_in ?_ ?_; (focus (intro h_; exfalso; first | omega | ((try simp only [decide_eq_true_eq, decide_eq_false_iff_not] at h_); omega) | (simp [mulSz, Cont.len, bne] at h_; first | done | omega))); intro _; conv => whnf)
    | (refine tst_in ?_ ?_; rotate_left; (focus (intro h_; exfalso; first | omega | ((try simp only [decide_eq_true_eq, decide_eq_false_iff_not] at h_); omega) | (simp [mulSz, Cont.len, bne] at h_; first | done | omega))); intro _; conv => whnf)
    | (refine ⟨0, (show _ = _ by omega), ?_⟩; conv => whnf))
  refine ⟨⟨[0, 1, 2, 3, 4, 5, 6], ⟨tab (inq F) N1 ++ t1, t2, t3, t1.length, 0⟩, ?_, ⟨app_len _ _ _, Nat.zero_le _⟩⟩, ?_⟩
  · show stLe _ _ (stA h (inq F) N1 ⟨tab (inq F) N1 ++ t1, t2, t3, t1.length, 0⟩) _
    conv => whnf
    repeat' (first | exact True.intro | rfl | refine And.intro ?_ ?_)
    all_goals (conv => whnf)
    repeat' (first | exact True.intro | rfl | refine And.intro ?_ ?_)
    all_goals (try omega)
  · intro (p : LA) ⟨(hx : p.x.length = N1 + p.r), (hi : p.i ≤ N1)⟩
    show forceSt (stA h (inq F) N1 p) _
    conv => whnf
    repeat (first
      | (refine And.intro ?_ ?_; (focus (first | omega | decide | exact EqOk.mk (by kernel_rfl) (by kernel_rfl) (by kernel_rfl) | exact Int.natCast_nonneg _ | ((repeat' refine And.intro ?_ ?_) <;> first | omega | exact Int.natCast_nonneg _ | (simp only [i64max, u8max, u16max, u32max, u64max]; omega) | (simp only [mulSz_eq, Cont.len, colsLen, Col.len, List.length_cons, List.length_nil, List.length_replicate, List.length_append]; first | done | omega) | (simp [mulSz, Cont.len, bne]; first | done | omega)))); conv => whnf)
      | (refine tst_in ?_ ?_; (focus (intro h_; exfalso; first | omega | ((try simp only [decide_eq_true_eq, decide_eq_false_iff_not] at h_); omega) | (simp [mulSz, Cont.len, bne] at h_; first | done | omega))); intro _; conv => whnf)
      | (refine tst_in ?_ ?_; rotate_left; (focus (intro h_; exfalso; first | omega | ((try simp only [decide_eq_true_eq, decide_eq_false_iff_not] at h_); omega) | (simp [mulSz, Cont.len, bne] at h_; first | done | omega))); intro _; conv => whnf)
      | (refine ⟨0, (show _ = _ by omega), ?_⟩; conv => whnf))
    refine tst_in (fun hlt => ?_) (fun hge => ?_)
    · skip
      have hlt : p.i < N1 := by simp at hlt; omega
      conv => whnf
      repeat (first
        | (refine And.intro ?_ ?_; (focus (first | omega | decide | exact EqOk.mk (by kernel_rfl) (by kernel_rfl) (by kernel_rfl) | exact Int.natCast_nonneg _ | ((repeat' refine And.intro ?_ ?_) <;> first | omega | exact Int.natCast_nonneg _ | (simp only [i64max, u8max, u16max, u32max, u64max]; omega) | (simp only [mulSz_eq, Cont.len, colsLen, Col.len, List.length_cons, List.length_nil, List.length_replicate, List.length_append, hx]; first | done | omega) | (simp [mulSz, Cont.len, bne, hx]; first | done | omega)))); conv => whnf)
        | (refine tst_in ?_ ?_; (focus (intro h_; exfalso; first | omega | ((try simp only [decide_eq_true_eq, decide_eq_false_iff_not] at h_); omega) | (simp [mulSz, Cont.len, bne, hx] at h_; first | done | omega))); intro _; conv => whnf)
        | (refine tst_in ?_ ?_; rotate_left; (focus (intro h_; exfalso; first | omega | ((try simp only [decide_eq_true_eq, decide_eq_false_iff_not] at h_); omega) | (simp [mulSz, Cont.len, bne, hx] at h_; first | done | omega))); intro _; conv => whnf)
        | (refine ⟨0, (show _ = _ by omega), ?_⟩; conv => whnf))
      refine ⟨[0, 1, 2, 3, 4, 5, 6], ⟨p.x.set (0 + ((p.i : Int)).toNat) 77, p.b, p.c, p.r, p.i + 1⟩, ?_, ⟨(by show (p.x.set _ _).length = _; rw [List.length_set]; exact hx), (by show p.i + 1 ≤ N1; omega)⟩, (by show N1 - (p.i + 1) < N1 - p.i; omega)⟩
      show stLe _ _ (stA h (inq F) N1 ⟨p.x.set (0 + ((p.i : Int)).toNat) 77, p.b, p.c, p.r, p.i + 1⟩) _
      conv => whnf
      repeat' (first | exact True.intro | rfl | refine And.intro ?_ ?_)
      all_goals (conv => whnf)
      repeat' (first | exact True.intro | rfl | refine And.intro ?_ ?_)
      all_goals (try omega)
    · skip
      conv => whnf
      repeat (first
        | (refine And.intro ?_ ?_; (focus (first | omega | decide | exact EqOk.mk (by kernel_rfl) (by kernel_rfl) (by kernel_rfl) | exact Int.natCast_nonneg _ | ((repeat' refine And.intro ?_ ?_) <;> first | omega | exact Int.natCast_nonneg _ | (simp only [i64max, u8max, u16max, u32max, u64max]; omega) | (simp only [mulSz_eq, Cont.len, colsLen, Col.len, List.length_cons, List.length_nil, List.length_replicate, List.length_append]; first | done | omega) | (simp [mulSz, Cont.len, bne]; first | done | omega)))); conv => whnf)
        | (refine tst_in ?_ ?_; (focus (intro h_; exfalso; first | omega | ((try simp only [decide_eq_true_eq, decide_eq_false_iff_not] at h_); omega) | (simp [mulSz, Cont.len, bne] at h_; first | done | omega))); intro _; conv => whnf)
        | (refine tst_in ?_ ?_; rotate_left; (focus (intro h_; exfalso; first | omega | ((try simp only [decide_eq_true_eq, decide_eq_false_iff_not] at h_); omega) | (simp [mulSz, Cont.len, bne] at h_; first | done | omega))); intro _; conv => whnf)
        | (refine ⟨0, (show _ = _ by omega), ?_⟩; conv => whnf))
      refine ⟨_, [0], O1, ?_⟩
      conv => whnf
      iterate 2
       refine And.intro ?_ ?_
       focus
        conv => whnf
        repeat' (first | exact True.intro | rfl | refine And.intro ?_ ?_)
        all_goals (conv => whnf)
        repeat' (first | exact True.intro | rfl | refine And.intro ?_ ?_)
        all_goals (try (first | rfl | omega | (simp; first | done | omega)))
      conv => whnf
      refine ⟨?_, True.intro⟩
      rintro t4 _
      conv => whnf
      change List Int at t4
      conv => whnf
      repeat (first
        | (refine And.intro ?_ ?_; (focus (first | omega | decide | exact EqOk.mk (by kernel_rfl) (by kernel_rfl) (by kernel_rfl) | exact Int.natCast_nonneg _ | ((repeat' refine And.intro ?_ ?_) <;> first | omega | exact Int.natCast_nonneg _ | (simp only [i64max, u8max, u16max, u32max, u64max]; omega) | (simp only [mulSz_eq, Cont.len, colsLen, Col.len, List.length_cons, List.length_nil, List.length_replicate, List.length_append]; first | done | omega) | (simp [mulSz, Cont.len, bne]; first | done | omega)))); conv => whnf)
        | (refine tst_in ?_ ?_; (focus (intro h_; exfalso; first | omega | ((try simp only [decide_eq_true_eq, decide_eq_false_iff_not] at h_); omega) | (simp [mulSz, Cont.len, bne] at h_; first | done | omega))); intro _; conv => whnf)
        | (refine tst_in ?_ ?_; rotate_left; (focus (intro h_; exfalso; first | omega | ((try simp only [decide_eq_true_eq, decide_eq_false_iff_not] at h_); omega) | (simp [mulSz, Cont.len, bne] at h_; first | done | omega))); intro _; conv => whnf)
        | (refine ⟨0, (show _ = _ by omega), ?_⟩; conv => whnf))
      refine ⟨_, [2], O2, ?_⟩
      conv => whnf
      iterate 2
       refine And.intro ?_ ?_
       focus
        conv => whnf
        repeat' (first | exact True.intro | rfl | refine And.intro ?_ ?_)
        all_goals (conv => whnf)
        repeat' (first | exact True.intro | rfl | refine And.intro ?_ ?_)
        all_goals (try (first | rfl | omega | (simp; first | done | omega)))
      conv => whnf
      refine ⟨?_, True.intro⟩
      rintro t5 _
      conv => whnf
      change List Int at t5
      conv => whnf
      repeat (first
        | (refine And.intro ?_ ?_; (focus (first | omega | decide | exact EqOk.mk (by kernel_rfl) (by kernel_rfl) (by kernel_rfl) | exact Int.natCast_nonneg _ | ((repeat' refine And.intro ?_ ?_) <;> first | omega | exact Int.natCast_nonneg _ | (simp only [i64max, u8max, u16max, u32max, u64max]; omega) | (simp only [mulSz_eq, Cont.len, colsLen, Col.len, List.length_cons, List.length_nil, List.length_replicate, List.length_append]; first | done | omega) | (simp [mulSz, Cont.len, bne]; first | done | omega)))); conv => whnf)
        | (refine tst_in ?_ ?_; (focus (intro h_; exfalso; first | omega | ((try simp only [decide_eq_true_eq, decide_eq_false_iff_not] at h_); omega) | (simp [mulSz, Cont.len, bne] at h_; first | done | omega))); intro _; conv => whnf)
        | (refine tst_in ?_ ?_; rotate_left; (focus (intro h_; exfalso; first | omega | ((try simp only [decide_eq_true_eq, decide_eq_false_iff_not] at h_); omega) | (simp [mulSz, Cont.len, bne] at h_; first | done | omega))); intro _; conv => whnf)
        | (refine ⟨0, (show _ = _ by omega), ?_⟩; conv => whnf))
      refine ⟨_, [7, 8], (quar_t (outq F) N1 t4 t5 (N1 + t4.length) (N1 + t5.length) (by omega)), ?_⟩
      conv => whnf
      iterate 2
       refine And.intro ?_ ?_
       focus
        conv => whnf
        repeat' (first | exact True.intro | rfl | refine And.intro ?_ ?_)
        all_goals (conv => whnf)
        repeat' (first | exact True.intro | rfl | refine And.intro ?_ ?_)
        all_goals (try (first | rfl | omega | (simp; first | done | omega)))
      conv => whnf
      conv => whnf
      repeat (first
        | (refine And.intro ?_ ?_; (focus (first | omega | decide | exact EqOk.mk (by kernel_rfl) (by kernel_rfl) (by kernel_rfl) | exact Int.natCast_nonneg _ | ((repeat' refine And.intro ?_ ?_) <;> first | omega | exact Int.natCast_nonneg _ | (simp only [i64max, u8max, u16max, u32max, u64max]; omega) | (simp only [mulSz_eq, Cont.len, colsLen, Col.len, List.length_cons, List.length_nil, List.length_replicate, List.length_append]; first | done | omega) | (simp [mulSz, Cont.len, bne]; first | done | omega)))); conv => whnf)
        | (refine tst_in ?_ ?_; (focus (intro h_; exfalso; first | omega | ((try simp only [decide_eq_true_eq, decide_eq_false_iff_not] at h_); omega) | (simp [mulSz, Cont.len, bne] at h_; first | done | omega))); intro _; conv => whnf)
        | (refine tst_in ?_ ?_; rotate_left; (focus (intro h_; exfalso; first | omega | ((try simp only [decide_eq_true_eq, decide_eq_false_iff_not] at h_); omega) | (simp [mulSz, Cont.len, bne] at h_; first | done | omega))); intro _; conv => whnf)
        | (refine ⟨0, (show _ = _ by omega), ?_⟩; conv => whnf))
      refine ⟨_, [6, 5], (quar_t (inq F) N1 p.c p.b (N1 + p.c.length) (N1 + p.b.length) (by omega)), ?_⟩
      conv => whnf
      iterate 2
       refine And.intro ?_ ?_
       focus
        conv => whnf
        repeat' (first | exact True.intro | rfl | refine And.intro ?_ ?_)
        all_goals (conv => whnf)
        repeat' (first | exact True.intro | rfl | refine And.intro ?_ ?_)
        all_goals (try (first | rfl | omega | (simp; first | done | omega)))
      conv => whnf
      conv => whnf
      repeat (first
        | (refine And.intro ?_ ?_; (focus (first | omega | decide | exact EqOk.mk (by kernel_rfl) (by kernel_rfl) (by kernel_rfl) | exact Int.natCast_nonneg _ | ((repeat' refine And.intro ?_ ?_) <;> first | omega | exact Int.natCast_nonneg _ | (simp only [i64max, u8max, u16max, u32max, u64max]; omega) | (simp only [mulSz_eq, Cont.len, colsLen, Col.len, List.length_cons, List.length_nil, List.length_replicate, List.length_append]; first | done | omega) | (simp [mulSz, Cont.len, bne]; first | done | omega)))); conv => whnf)
        | (refine tst_in ?_ ?_; (focus (intro h_; exfalso; first | omega | ((try simp only [decide_eq_true_eq, decide_eq_false_iff_not] at h_); omega) | (simp [mulSz, Cont.len, bne] at h_; first | done | omega))); intro _; conv => whnf)
        | (refine tst_in ?_ ?_; rotate_left; (focus (intro h_; exfalso; first | omega | ((try simp only [decide_eq_true_eq, decide_eq_false_iff_not] at h_); omega) | (simp [mulSz, Cont.len, bne] at h_; first | done | omega))); intro _; conv => whnf)
        | (refine ⟨0, (show _ = _ by omega), ?_⟩; conv => whnf))
      refine ⟨_, [0, 1], K1, ?_⟩
      conv => whnf
      iterate 2
       refine And.intro ?_ ?_
       focus
        conv => whnf
        repeat' (first | exact True.intro | rfl | refine And.intro ?_ ?_)
        all_goals (conv => whnf)
        repeat' (first | exact True.intro | rfl | refine And.intro ?_ ?_)
        all_goals (try (first | rfl | omega | (simp; first | done | omega)))
      conv => whnf
      refine ⟨?_, True.intro⟩
      rintro t6 _
      conv => whnf
      change List Int × List Bool at t6
      conv => whnf
      repeat (first
        | (refine And.intro ?_ ?_; (focus (first | omega | decide | exact EqOk.mk (by kernel_rfl) (by kernel_rfl) (by kernel_rfl) | exact Int.natCast_nonneg _ | ((repeat' refine And.intro ?_ ?_) <;> first | omega | exact Int.natCast_nonneg _ | (simp only [i64max, u8max, u16max, u32max, u64max]; omega) | (simp only [mulSz_eq, Cont.len, colsLen, Col.len, List.length_cons, List.length_nil, List.length_replicate, List.length_append]; first | done | omega) | (simp [mulSz, Cont.len, bne]; first | done | omega)))); conv => whnf)
        | (refine tst_in ?_ ?_; (focus (intro h_; exfalso; first | omega | ((try simp only [decide_eq_true_eq, decide_eq_false_iff_not] at h_); omega) | (simp [mulSz, Cont.len, bne] at h_; first | done | omega))); intro _; conv => whnf)
        | (refine tst_in ?_ ?_; rotate_left; (focus (intro h_; exfalso; first | omega | ((try simp only [decide_eq_true_eq, decide_eq_false_iff_not] at h_); omega) | (simp [mulSz, Cont.len, bne] at h_; first | done | omega))); intro _; conv => whnf)
        | (refine ⟨0, (show _ = _ by omega), ?_⟩; conv => whnf))
      refine ⟨_, [2, 3], K2, ?_⟩
      conv => whnf
      iterate 2
       refine And.intro ?_ ?_
       focus
        conv => whnf
        repeat' (first | exact True.intro | rfl | refine And.intro ?_ ?_)
        all_goals (conv => whnf)
        repeat' (first | exact True.intro | rfl | refine And.intro ?_ ?_)
        all_goals (try (first | rfl | omega | (simp; first | done | omega)))
      conv => whnf
      refine ⟨?_, True.intro⟩
      rintro t7 _
      conv => whnf
      change List Int × List Bool at t7
      conv => whnf
      repeat (first
        | (refine And.intro ?_ ?_; (focus (first | omega | decide | exact EqOk.mk (by kernel_rfl) (by kernel_rfl) (by kernel_rfl) | exact Int.natCast_nonneg _ | ((repeat' refine And.intro ?_ ?_) <;> first | omega | exact Int.natCast_nonneg _ | (simp only [i64max, u8max, u16max, u32max, u64max]; omega) | (simp only [mulSz_eq, Cont.len, colsLen, Col.len, List.length_cons, List.length_nil, List.length_replicate, List.length_append]; first | done | omega) | (simp [mulSz, Cont.len, bne]; first | done | omega)))); conv => whnf)
        | (refine tst_in ?_ ?_; (focus (intro h_; exfalso; first | omega | ((try simp only [decide_eq_true_eq, decide_eq_false_iff_not] at h_); omega) | (simp [mulSz, Cont.len, bne] at h_; first | done | omega))); intro _; conv => whnf)
        | (refine tst_in ?_ ?_; rotate_left; (focus (intro h_; exfalso; first | omega | ((try simp only [decide_eq_true_eq, decide_eq_false_iff_not] at h_); omega) | (simp [mulSz, Cont.len, bne] at h_; first | done | omega))); intro _; conv => whnf)
        | (refine ⟨0, (show _ = _ by omega), ?_⟩; conv => whnf))
      refine ⟨_, [9, 11], (quar_t (mq F G) N3 t6.1 t7.1 (N3 + t6.1.length) (N3 + t7.1.length) (by omega)), ?_⟩
      conv => whnf
      iterate 2
       refine And.intro ?_ ?_
       focus
        conv => whnf
        repeat' (first | exact True.intro | rfl | refine And.intro ?_ ?_)
        all_goals (conv => whnf)
        repeat' (first | exact True.intro | rfl | refine And.intro ?_ ?_)
        all_goals (try (first | rfl | omega | (simp; first | done | omega)))
      conv => whnf
      conv => whnf
      repeat (first
        | (refine And.intro ?_ ?_; (focus (first | omega | decide | exact EqOk.mk (by kernel_rfl) (by kernel_rfl) (by kernel_rfl) | exact Int.natCast_nonneg _ | ((repeat' refine And.intro ?_ ?_) <;> first | omega | exact Int.natCast_nonneg _ | (simp only [i64max, u8max, u16max, u32max, u64max]; omega) | (simp only [mulSz_eq, Cont.len, colsLen, Col.len, List.length_cons, List.length_nil, List.length_replicate, List.length_append]; first | done | omega) | (simp [mulSz, Cont.len, bne]; first | done | omega)))); conv => whnf)
        | (refine tst_in ?_ ?_; (focus (intro h_; exfalso; first | omega | ((try simp only [decide_eq_true_eq, decide_eq_false_iff_not] at h_); omega) | (simp [mulSz, Cont.len, bne] at h_; first | done | omega))); intro _; conv => whnf)
        | (refine tst_in ?_ ?_; rotate_left; (focus (intro h_; exfalso; first | omega | ((try simp only [decide_eq_true_eq, decide_eq_false_iff_not] at h_); omega) | (simp [mulSz, Cont.len, bne] at h_; first | done | omega))); intro _; conv => whnf)
        | (refine ⟨0, (show _ = _ by omega), ?_⟩; conv => whnf))
      refine ⟨_, [10, 12], (truth_t (mkq G) N3 t6.2 t7.2 (N3 + t6.2.length) (N3 + t7.2.length) (by omega)), ?_⟩
      conv => whnf
      iterate 2
       refine And.intro ?_ ?_
       focus
        conv => whnf
        repeat' (first | exact True.intro | rfl | refine And.intro ?_ ?_)
        all_goals (conv => whnf)
        repeat' (first | exact True.intro | rfl | refine And.intro ?_ ?_)
        all_goals (try (first | rfl | omega | (simp; first | done | omega)))
      conv => whnf
      conv => whnf
      repeat (first
        | (refine And.intro ?_ ?_; (focus (first | omega | decide | exact EqOk.mk (by kernel_rfl) (by kernel_rfl) (by kernel_rfl) | exact Int.natCast_nonneg _ | ((repeat' refine And.intro ?_ ?_) <;> first | omega | exact Int.natCast_nonneg _ | (simp only [i64max, u8max, u16max, u32max, u64max]; omega) | (simp only [mulSz_eq, Cont.len, colsLen, Col.len, List.length_cons, List.length_nil, List.length_replicate, List.length_append]; first | done | omega) | (simp [mulSz, Cont.len, bne]; first | done | omega)))); conv => whnf)
        | (refine tst_in ?_ ?_; (focus (intro h_; exfalso; first | omega | ((try simp only [decide_eq_true_eq, decide_eq_false_iff_not] at h_); omega) | (simp [mulSz, Cont.len, bne] at h_; first | done | omega))); intro _; conv => whnf)
        | (refine tst_in ?_ ?_; rotate_left; (focus (intro h_; exfalso; first | omega | ((try simp only [decide_eq_true_eq, decide_eq_false_iff_not] at h_); omega) | (simp [mulSz, Cont.len, bne] at h_; first | done | omega))); intro _; conv => whnf)
        | (refine ⟨0, (show _ = _ by omega), ?_⟩; conv => whnf))
      refine ⟨⟨[0, 1, 2, 3, 10, 12], ⟨tab (mkq G) N3 ++ t6.2, t7.2, t6.2.length, 0⟩, ?_, ⟨app_len _ _ _, Nat.zero_le _⟩⟩, ?_⟩
      · show stLe _ _ (stB h (mkq G) N3 ⟨tab (mkq G) N3 ++ t6.2, t7.2, t6.2.length, 0⟩) _
        conv => whnf
        repeat' (first | exact True.intro | rfl | refine And.intro ?_ ?_)
        all_goals (conv => whnf)
        repeat' (first | exact True.intro | rfl | refine And.intro ?_ ?_)
        all_goals (try omega)
      · intro (p : LB) ⟨(hx : p.x.length = N3 + p.r), (hi : p.i ≤ N3)⟩
        show forceSt (stB h (mkq G) N3 p) _
        conv => whnf
        repeat (first
          | (refine And.intro ?_ ?_; (focus (first | omega | decide | exact EqOk.mk (by kernel_rfl) (by kernel_rfl) (by kernel_rfl) | exact Int.natCast_nonneg _ | ((repeat' refine And.intro ?_ ?_) <;> first | omega | exact Int.natCast_nonneg _ | (simp only [i64max, u8max, u16max, u32max, u64max]; omega) | (simp only [mulSz_eq, Cont.len, colsLen, Col.len, List.length_cons, List.length_nil, List.length_replicate, List.length_append]; first | done | omega) | (simp [mulSz, Cont.len, bne]; first | done | omega)))); conv => whnf)
          | (refine tst_in ?_ ?_; (focus (intro h_; exfalso; first | omega | ((try simp only [decide_eq_true_eq, decide_eq_false_iff_not] at h_); omega) | (simp [mulSz, Cont.len, bne] at h_; first | done | omega))); intro _; conv => whnf)
          | (refine tst_in ?_ ?_; rotate_left; (focus (intro h_; exfalso; first | omega | ((try simp only [decide_eq_true_eq, decide_eq_false_iff_not] at h_); omega) | (simp [mulSz, Cont.len, bne] at h_; first | done | omega))); intro _; conv => whnf)
          | (refine ⟨0, (show _ = _ by omega), ?_⟩; conv => whnf))
        refine tst_in (fun hlt => ?_) (fun hge => ?_)
        · skip
          have hlt : p.i < N3 := by simp at hlt; omega
          conv => whnf
          repeat (first
            | (refine And.intro ?_ ?_; (focus (first | omega | decide | exact EqOk.mk (by kernel_rfl) (by kernel_rfl) (by kernel_rfl) | exact Int.natCast_nonneg _ | ((repeat' refine And.intro ?_ ?_) <;> first | omega | exact Int.natCast_nonneg _ | (simp only [i64max, u8max, u16max, u32max, u64max]; omega) | (simp only [mulSz_eq, Cont.len, colsLen, Col.len, List.length_cons, List.length_nil, List.length_replicate, List.length_append, hx]; first | done | omega) | (simp [mulSz, Cont.len, bne, hx]; first | done | omega)))); conv => whnf)
            | (refine tst_in ?_ ?_; (focus (intro h_; exfalso; first | omega | ((try simp only [decide_eq_true_eq, decide_eq_false_iff_not] at h_); omega) | (simp [mulSz, Cont.len, bne, hx] at h_; first | done | omega))); intro _; conv => whnf)
            | (refine tst_in ?_ ?_; rotate_left; (focus (intro h_; exfalso; first | omega | ((try simp only [decide_eq_true_eq, decide_eq_false_iff_not] at h_); omega) | (simp [mulSz, Cont.len, bne, hx] at h_; first | done | omega))); intro _; conv => whnf)
            | (refine ⟨0, (show _ = _ by omega), ?_⟩; conv => whnf))
          refine ⟨[0, 1, 2, 3, 4, 5], ⟨p.x.set (0 + ((p.i : Int)).toNat) (!(p.x.getD (0 + ((p.i : Int)).toNat) false)), p.b, p.r, p.i + 1⟩, ?_, ⟨(by show (p.x.set _ _).length = _; rw [List.length_set]; exact hx), (by show p.i + 1 ≤ N3; omega)⟩, (by show N3 - (p.i + 1) < N3 - p.i; omega)⟩
          show stLe _ _ (stB h (mkq G) N3 ⟨p.x.set (0 + ((p.i : Int)).toNat) (!(p.x.getD (0 + ((p.i : Int)).toNat) false)), p.b, p.r, p.i + 1⟩) _
          conv => whnf
          repeat' (first | exact True.intro | rfl | refine And.intro ?_ ?_)
          all_goals (conv => whnf)
          repeat' (first | exact True.intro | rfl | refine And.intro ?_ ?_)
          all_goals (try omega)
        · skip
          conv => whnf
          repeat (first
            | (refine And.intro ?_ ?_; (focus (first | omega | decide | exact EqOk.mk (by kernel_rfl) (by kernel_rfl) (by kernel_rfl) | exact Int.natCast_nonneg _ | ((repeat' refine And.intro ?_ ?_) <;> first | omega | exact Int.natCast_nonneg _ | (simp only [i64max, u8max, u16max, u32max, u64max]; omega) | (simp only [mulSz_eq, Cont.len, colsLen, Col.len, List.length_cons, List.length_nil, List.length_replicate, List.length_append]; first | done | omega) | (simp [mulSz, Cont.len, bne]; first | done | omega)))); conv => whnf)
            | (refine tst_in ?_ ?_; (focus (intro h_; exfalso; first | omega | ((try simp only [decide_eq_true_eq, decide_eq_false_iff_not] at h_); omega) | (simp [mulSz, Cont.len, bne] at h_; first | done | omega))); intro _; conv => whnf)
            | (refine tst_in ?_ ?_; rotate_left; (focus (intro h_; exfalso; first | omega | ((try simp only [decide_eq_true_eq, decide_eq_false_iff_not] at h_); omega) | (simp [mulSz, Cont.len, bne] at h_; first | done | omega))); intro _; conv => whnf)
            | (refine ⟨0, (show _ = _ by omega), ?_⟩; conv => whnf))
          refine ⟨_, [0, 1], K1, ?_⟩
          conv => whnf
          iterate 2
           refine And.intro ?_ ?_
           focus
            conv => whnf
            repeat' (first | exact True.intro | rfl | refine And.intro ?_ ?_)
            all_goals (conv => whnf)
            repeat' (first | exact True.intro | rfl | refine And.intro ?_ ?_)
            all_goals (try (first | rfl | omega | (simp; first | done | omega)))
          conv => whnf
          refine ⟨?_, True.intro⟩
          rintro t8 _
          conv => whnf
          change List Int × List Bool at t8
          conv => whnf
          repeat (first
            | (refine And.intro ?_ ?_; (focus (first | omega | decide | exact EqOk.mk (by kernel_rfl) (by kernel_rfl) (by kernel_rfl) | exact Int.natCast_nonneg _ | ((repeat' refine And.intro ?_ ?_) <;> first | omega | exact Int.natCast_nonneg _ | (simp only [i64max, u8max, u16max, u32max, u64max]; omega) | (simp only [mulSz_eq, Cont.len, colsLen, Col.len, List.length_cons, List.length_nil, List.length_replicate, List.length_append]; first | done | omega) | (simp [mulSz, Cont.len, bne]; first | done | omega)))); conv => whnf)
            | (refine tst_in ?_ ?_; (focus (intro h_; exfalso; first | omega | ((try simp only [decide_eq_true_eq, decide_eq_false_iff_not] at h_); omega) | (simp [mulSz, Cont.len, bne] at h_; first | done | omega))); intro _; conv => whnf)
            | (refine tst_in ?_ ?_; rotate_left; (focus (intro h_; exfalso; first | omega | ((try simp only [decide_eq_true_eq, decide_eq_false_iff_not] at h_); omega) | (simp [mulSz, Cont.len, bne] at h_; first | done | omega))); intro _; conv => whnf)
            | (refine ⟨0, (show _ = _ by omega), ?_⟩; conv => whnf))
          refine ⟨_, [0], B1, ?_⟩
          conv => whnf
          iterate 2
           refine And.intro ?_ ?_
           focus
            conv => whnf
            repeat' (first | exact True.intro | rfl | refine And.intro ?_ ?_)
            all_goals (conv => whnf)
            repeat' (first | exact True.intro | rfl | refine And.intro ?_ ?_)
            all_goals (try (first | rfl | omega | (simp; first | done | omega)))
          conv => whnf
          refine ⟨?_, True.intro⟩
          rintro u1 _
          conv => whnf
          change List Bool at u1
          conv => whnf
          repeat (first
            | (refine And.intro ?_ ?_; (focus (first | omega | decide | exact EqOk.mk (by kernel_rfl) (by kernel_rfl) (by kernel_rfl) | exact Int.natCast_nonneg _ | ((repeat' refine And.intro ?_ ?_) <;> first | omega | exact Int.natCast_nonneg _ | (simp only [i64max, u8max, u16max, u32max, u64max]; omega) | (simp only [mulSz_eq, Cont.len, colsLen, Col.len, List.length_cons, List.length_nil, List.length_replicate, List.length_append]; first | done | omega) | (simp [mulSz, Cont.len, bne]; first | done | omega)))); conv => whnf)
            | (refine tst_in ?_ ?_; (focus (intro h_; exfalso; first | omega | ((try simp only [decide_eq_true_eq, decide_eq_false_iff_not] at h_); omega) | (simp [mulSz, Cont.len, bne] at h_; first | done | omega))); intro _; conv => whnf)
            | (refine tst_in ?_ ?_; rotate_left; (focus (intro h_; exfalso; first | omega | ((try simp only [decide_eq_true_eq, decide_eq_false_iff_not] at h_); omega) | (simp [mulSz, Cont.len, bne] at h_; first | done | omega))); intro _; conv => whnf)
            | (refine ⟨0, (show _ = _ by omega), ?_⟩; conv => whnf))
          refine ⟨_, [2], B2, ?_⟩
          conv => whnf
          iterate 2
           refine And.intro ?_ ?_
           focus
            conv => whnf
            repeat' (first | exact True.intro | rfl | refine And.intro ?_ ?_)
            all_goals (conv => whnf)
            repeat' (first | exact True.intro | rfl | refine And.intro ?_ ?_)
            all_goals (try (first | rfl | omega | (simp; first | done | omega)))
          conv => whnf
          refine ⟨?_, True.intro⟩
          rintro u2 _
          conv => whnf
          change List Bool at u2
          conv => whnf
          repeat (first
            | (refine And.intro ?_ ?_; (focus (first | omega | decide | exact EqOk.mk (by kernel_rfl) (by kernel_rfl) (by kernel_rfl) | exact Int.natCast_nonneg _ | ((repeat' refine And.intro ?_ ?_) <;> first | omega | exact Int.natCast_nonneg _ | (simp only [i64max, u8max, u16max, u32max, u64max]; omega) | (simp only [mulSz_eq, Cont.len, colsLen, Col.len, List.length_cons, List.length_nil, List.length_replicate, List.length_append]; first | done | omega) | (simp [mulSz, Cont.len, bne]; first | done | omega)))); conv => whnf)
            | (refine tst_in ?_ ?_; (focus (intro h_; exfalso; first | omega | ((try simp only [decide_eq_true_eq, decide_eq_false_iff_not] at h_); omega) | (simp [mulSz, Cont.len, bne] at h_; first | done | omega))); intro _; conv => whnf)
            | (refine tst_in ?_ ?_; rotate_left; (focus (intro h_; exfalso; first | omega | ((try simp only [decide_eq_true_eq, decide_eq_false_iff_not] at h_); omega) | (simp [mulSz, Cont.len, bne] at h_; first | done | omega))); intro _; conv => whnf)
            | (refine ⟨0, (show _ = _ by omega), ?_⟩; conv => whnf))
          refine ⟨_, [8, 9], (truth_t (bitq F) N2 u1 u2 (N2 + u1.length) (N2 + u2.length) (by omega)), ?_⟩
          conv => whnf
          iterate 2
           refine And.intro ?_ ?_
           focus
            conv => whnf
            repeat' (first | exact True.intro | rfl | refine And.intro ?_ ?_)
            all_goals (conv => whnf)
            repeat' (first | exact True.intro | rfl | refine And.intro ?_ ?_)
            all_goals (try (first | rfl | omega | (simp; first | done | omega)))
          conv => whnf
          conv => whnf
          repeat (first
            | (refine And.intro ?_ ?_; (focus (first | omega | decide | exact EqOk.mk (by kernel_rfl) (by kernel_rfl) (by kernel_rfl) | exact Int.natCast_nonneg _ | ((repeat' refine And.intro ?_ ?_) <;> first | omega | exact Int.natCast_nonneg _ | (simp only [i64max, u8max, u16max, u32max, u64max]; omega) | (simp only [mulSz_eq, Cont.len, colsLen, Col.len, List.length_cons, List.length_nil, List.length_replicate, List.length_append]; first | done | omega) | (simp [mulSz, Cont.len, bne]; first | done | omega)))); conv => whnf)
            | (refine tst_in ?_ ?_; (focus (intro h_; exfalso; first | omega | ((try simp only [decide_eq_true_eq, decide_eq_false_iff_not] at h_); omega) | (simp [mulSz, Cont.len, bne] at h_; first | done | omega))); intro _; conv => whnf)
            | (refine tst_in ?_ ?_; rotate_left; (focus (intro h_; exfalso; first | omega | ((try simp only [decide_eq_true_eq, decide_eq_false_iff_not] at h_); omega) | (simp [mulSz, Cont.len, bne] at h_; first | done | omega))); intro _; conv => whnf)
            | (refine ⟨0, (show _ = _ by omega), ?_⟩; conv => whnf))
          refine ⟨_, [7, 5], (truth_t (mkq G) N3 t8.2 p.b (N3 + t8.2.length) (N3 + p.b.length) (by omega)), ?_⟩
          conv => whnf
          iterate 2
           refine And.intro ?_ ?_
           focus
            conv => whnf
            repeat' (first | exact True.intro | rfl | refine And.intro ?_ ?_)
            all_goals (conv => whnf)
            repeat' (first | exact True.intro | rfl | refine And.intro ?_ ?_)
            all_goals (try (first | rfl | omega | (simp; first | done | omega)))
          conv => whnf
          conv => whnf
          repeat (first
            | (refine And.intro ?_ ?_; (focus (first | omega | decide | exact EqOk.mk (by kernel_rfl) (by kernel_rfl) (by kernel_rfl) | exact Int.natCast_nonneg _ | ((repeat' refine And.intro ?_ ?_) <;> first | omega | exact Int.natCast_nonneg _ | (simp only [i64max, u8max, u16max, u32max, u64max]; omega) | (simp only [mulSz_eq, Cont.len, colsLen, Col.len, List.length_cons, List.length_nil, List.length_replicate, List.length_append]; first | done | omega) | (simp [mulSz, Cont.len, bne]; first | done | omega)))); conv => whnf)
            | (refine tst_in ?_ ?_; (focus (intro h_; exfalso; first | omega | ((try simp only [decide_eq_true_eq, decide_eq_false_iff_not] at h_); omega) | (simp [mulSz, Cont.len, bne] at h_; first | done | omega))); intro _; conv => whnf)
            | (refine tst_in ?_ ?_; rotate_left; (focus (intro h_; exfalso; first | omega | ((try simp only [decide_eq_true_eq, decide_eq_false_iff_not] at h_); omega) | (simp [mulSz, Cont.len, bne] at h_; first | done | omega))); intro _; conv => whnf)
            | (refine ⟨0, (show _ = _ by omega), ?_⟩; conv => whnf))
          refine ⟨⟨[0, 1, 2, 3, 8, 9], ⟨tab (bitq F) N2 ++ u1, u2, u1.length, 0⟩, ?_, ⟨app_len _ _ _, Nat.zero_le _⟩⟩, ?_⟩
          · show stLe _ _ (stC h (bitq F) N2 ⟨tab (bitq F) N2 ++ u1, u2, u1.length, 0⟩) _
            conv => whnf
            repeat' (first | exact True.intro | rfl | refine And.intro ?_ ?_)
            all_goals (conv => whnf)
            repeat' (first | exact True.intro | rfl | refine And.intro ?_ ?_)
            all_goals (try omega)
          · intro (p : LB) ⟨(hx : p.x.length = N2 + p.r), (hi : p.i ≤ N2)⟩
            show forceSt (stC h (bitq F) N2 p) _
            conv => whnf
            repeat (first
              | (refine And.intro ?_ ?_; (focus (first | omega | decide | exact EqOk.mk (by kernel_rfl) (by kernel_rfl) (by kernel_rfl) | exact Int.natCast_nonneg _ | ((repeat' refine And.intro ?_ ?_) <;> first | omega | exact Int.natCast_nonneg _ | (simp only [i64max, u8max, u16max, u32max, u64max]; omega) | (simp only [mulSz_eq, Cont.len, colsLen, Col.len, List.length_cons, List.length_nil, List.length_replicate, List.length_append]; first | done | omega) | (simp [mulSz, Cont.len, bne]; first | done | omega)))); conv => whnf)
              | (refine tst_in ?_ ?_; (focus (intro h_; exfalso; first | omega | ((try simp only [decide_eq_true_eq, decide_eq_false_iff_not] at h_); omega) | (simp [mulSz, Cont.len, bne] at h_; first | done | omega))); intro _; conv => whnf)
              | (refine tst_in ?_ ?_; rotate_left; (focus (intro h_; exfalso; first | omega | ((try simp only [decide_eq_true_eq, decide_eq_false_iff_not] at h_); omega) | (simp [mulSz, Cont.len, bne] at h_; first | done | omega))); intro _; conv => whnf)
              | (refine ⟨0, (show _ = _ by omega), ?_⟩; conv => whnf))
            refine tst_in (fun hlt => ?_) (fun hge => ?_)
            · skip
              have hlt : p.i < N2 := by simp at hlt; omega
              conv => whnf
              repeat (first
                | (refine And.intro ?_ ?_; (focus (first | omega | decide | exact EqOk.mk (by kernel_rfl) (by kernel_rfl) (by kernel_rfl) | exact Int.natCast_nonneg _ | ((repeat' refine And.intro ?_ ?_) <;> first | omega | exact Int.natCast_nonneg _ | (simp only [i64max, u8max, u16max, u32max, u64max]; omega) | (simp only [mulSz_eq, Cont.len, colsLen, Col.len, List.length_cons, List.length_nil, List.length_replicate, List.length_append, hx]; first | done | omega) | (simp [mulSz, Cont.len, bne, hx]; first | done | omega)))); conv => whnf)
                | (refine tst_in ?_ ?_; (focus (intro h_; exfalso; first | omega | ((try simp only [decide_eq_true_eq, decide_eq_false_iff_not] at h_); omega) | (simp [mulSz, Cont.len, bne, hx] at h_; first | done | omega))); intro _; conv => whnf)
                | (refine tst_in ?_ ?_; rotate_left; (focus (intro h_; exfalso; first | omega | ((try simp only [decide_eq_true_eq, decide_eq_false_iff_not] at h_); omega) | (simp [mulSz, Cont.len, bne, hx] at h_; first | done | omega))); intro _; conv => whnf)
                | (refine ⟨0, (show _ = _ by omega), ?_⟩; conv => whnf))
              refine ⟨[0, 1, 2, 3, 4, 5], ⟨p.x.set (0 + ((p.i : Int)).toNat) (!(p.x.getD (0 + ((p.i : Int)).toNat) false)), p.b, p.r, p.i + 1⟩, ?_, ⟨(by show (p.x.set _ _).length = _; rw [List.length_set]; exact hx), (by show p.i + 1 ≤ N2; omega)⟩, (by show N2 - (p.i + 1) < N2 - p.i; omega)⟩
              show stLe _ _ (stC h (bitq F) N2 ⟨p.x.set (0 + ((p.i : Int)).toNat) (!(p.x.getD (0 + ((p.i : Int)).toNat) false)), p.b, p.r, p.i + 1⟩) _
              conv => whnf
              repeat' (first | exact True.intro | rfl | refine And.intro ?_ ?_)
              all_goals (conv => whnf)
              repeat' (first | exact True.intro | rfl | refine And.intro ?_ ?_)
              all_goals (try omega)
            · skip
              conv => whnf
              repeat (first
                | (refine And.intro ?_ ?_; (focus (first | omega | decide | exact EqOk.mk (by kernel_rfl) (by kernel_rfl) (by kernel_rfl) | exact Int.natCast_nonneg _ | ((repeat' refine And.intro ?_ ?_) <;> first | omega | exact Int.natCast_nonneg _ | (simp only [i64max, u8max, u16max, u32max, u64max]; omega) | (simp only [mulSz_eq, Cont.len, colsLen, Col.len, List.length_cons, List.length_nil, List.length_replicate, List.length_append]; first | done | omega) | (simp [mulSz, Cont.len, bne]; first | done | omega)))); conv => whnf)
                | (refine tst_in ?_ ?_; (focus (intro h_; exfalso; first | omega | ((try simp only [decide_eq_true_eq, decide_eq_false_iff_not] at h_); omega) | (simp [mulSz, Cont.len, bne] at h_; first | done | omega))); intro _; conv => whnf)
                | (refine tst_in ?_ ?_; rotate_left; (focus (intro h_; exfalso; first | omega | ((try simp only [decide_eq_true_eq, decide_eq_false_iff_not] at h_); omega) | (simp [mulSz, Cont.len, bne] at h_; first | done | omega))); intro _; conv => whnf)
                | (refine ⟨0, (show _ = _ by omega), ?_⟩; conv => whnf))
              refine ⟨_, [0], B1, ?_⟩
              conv => whnf
              iterate 2
               refine And.intro ?_ ?_
               focus
                conv => whnf
                repeat' (first | exact True.intro | rfl | refine And.intro ?_ ?_)
                all_goals (conv => whnf)
                repeat' (first | exact True.intro | rfl | refine And.intro ?_ ?_)
                all_goals (try (first | rfl | omega | (simp; first | done | omega)))
              conv => whnf
              refine ⟨?_, True.intro⟩
              rintro u3 _
              conv => whnf
              change List Bool at u3
              conv => whnf
              repeat (first
                | (refine And.intro ?_ ?_; (focus (first | omega | decide | exact EqOk.mk (by kernel_rfl) (by kernel_rfl) (by kernel_rfl) | exact Int.natCast_nonneg _ | ((repeat' refine And.intro ?_ ?_) <;> first | omega | exact Int.natCast_nonneg _ | (simp only [i64max, u8max, u16max, u32max, u64max]; omega) | (simp only [mulSz_eq, Cont.len, colsLen, Col.len, List.length_cons, List.length_nil, List.length_replicate, List.length_append]; first | done | omega) | (simp [mulSz, Cont.len, bne]; first | done | omega)))); conv => whnf)
                | (refine tst_in ?_ ?_; (focus (intro h_; exfalso; first | omega | ((try simp only [decide_eq_true_eq, decide_eq_false_iff_not] at h_); omega) | (simp [mulSz, Cont.len, bne] at h_; first | done | omega))); intro _; conv => whnf)
                | (refine tst_in ?_ ?_; rotate_left; (focus (intro h_; exfalso; first | omega | ((try simp only [decide_eq_true_eq, decide_eq_false_iff_not] at h_); omega) | (simp [mulSz, Cont.len, bne] at h_; first | done | omega))); intro _; conv => whnf)
                | (refine ⟨0, (show _ = _ by omega), ?_⟩; conv => whnf))
              refine ⟨_, [0], C1, ?_⟩
              conv => whnf
              iterate 2
               refine And.intro ?_ ?_
               focus
                conv => whnf
                repeat' (first | exact True.intro | rfl | refine And.intro ?_ ?_ | omega)
                all_goals (conv => whnf)
                all_goals (try (first | rfl | omega | (simp; done)))
              conv => whnf
              refine ⟨?_, True.intro⟩
              intro _ _
              conv => whnf
              conv => whnf
              repeat (first
                | (refine And.intro ?_ ?_; (focus (first | omega | decide | exact EqOk.mk (by kernel_rfl) (by kernel_rfl) (by kernel_rfl) | exact Int.natCast_nonneg _ | ((repeat' refine And.intro ?_ ?_) <;> first | omega | exact Int.natCast_nonneg _ | (simp only [i64max, u8max, u16max, u32max, u64max]; omega) | (simp only [mulSz_eq, Cont.len, colsLen, Col.len, List.length_cons, List.length_nil, List.length_replicate, List.length_append]; first | done | omega) | (simp [mulSz, Cont.len, bne]; first | done | omega)))); conv => whnf)
                | (refine tst_in ?_ ?_; (focus (intro h_; exfalso; first | omega | ((try simp only [decide_eq_true_eq, decide_eq_false_iff_not] at h_); omega) | (simp [mulSz, Cont.len, bne] at h_; first | done | omega))); intro _; conv => whnf)
                | (refine tst_in ?_ ?_; rotate_left; (focus (intro h_; exfalso; first | omega | ((try simp only [decide_eq_true_eq, decide_eq_false_iff_not] at h_); omega) | (simp [mulSz, Cont.len, bne] at h_; first | done | omega))); intro _; conv => whnf)
                | (refine ⟨0, (show _ = _ by omega), ?_⟩; conv => whnf))
              refine ⟨_, [2], C2, ?_⟩
              conv => whnf
              iterate 2
               refine And.intro ?_ ?_
               focus
                conv => whnf
                repeat' (first | exact True.intro | rfl | refine And.intro ?_ ?_ | omega)
                all_goals (conv => whnf)
                all_goals (try (first | rfl | omega | (simp; done)))
              conv => whnf
              refine ⟨?_, True.intro⟩
              intro _ _
              conv => whnf
              conv => whnf
              repeat (first
                | (refine And.intro ?_ ?_; (focus (first | omega | decide | exact EqOk.mk (by kernel_rfl) (by kernel_rfl) (by kernel_rfl) | exact Int.natCast_nonneg _ | ((repeat' refine And.intro ?_ ?_) <;> first | omega | exact Int.natCast_nonneg _ | (simp only [i64max, u8max, u16max, u32max, u64max]; omega) | (simp only [mulSz_eq, Cont.len, colsLen, Col.len, List.length_cons, List.length_nil, List.length_replicate, List.length_append]; first | done | omega) | (simp [mulSz, Cont.len, bne]; first | done | omega)))); conv => whnf)
                | (refine tst_in ?_ ?_; (focus (intro h_; exfalso; first | omega | ((try simp only [decide_eq_true_eq, decide_eq_false_iff_not] at h_); omega) | (simp [mulSz, Cont.len, bne] at h_; first | done | omega))); intro _; conv => whnf)
                | (refine tst_in ?_ ?_; rotate_left; (focus (intro h_; exfalso; first | omega | ((try simp only [decide_eq_true_eq, decide_eq_false_iff_not] at h_); omega) | (simp [mulSz, Cont.len, bne] at h_; first | done | omega))); intro _; conv => whnf)
                | (refine ⟨0, (show _ = _ by omega), ?_⟩; conv => whnf))
              intro bb hbb
              obtain rfl : bb = true := by rw [hbb]; simp
              conv => whnf
              repeat (first
                | (refine And.intro ?_ ?_; (focus (first | omega | decide | exact EqOk.mk (by kernel_rfl) (by kernel_rfl) (by kernel_rfl) | exact Int.natCast_nonneg _ | ((repeat' refine And.intro ?_ ?_) <;> first | omega | exact Int.natCast_nonneg _ | (simp only [i64max, u8max, u16max, u32max, u64max]; omega) | (simp only [mulSz_eq, Cont.len, colsLen, Col.len, List.length_cons, List.length_nil, List.length_replicate, List.length_append]; first | done | omega) | (simp [mulSz, Cont.len, bne]; first | done | omega)))); conv => whnf)
                | (refine tst_in ?_ ?_; (focus (intro h_; exfalso; first | omega | ((try simp only [decide_eq_true_eq, decide_eq_false_iff_not] at h_); omega) | (simp [mulSz, Cont.len, bne] at h_; first | done | omega))); intro _; conv => whnf)
                | (refine tst_in ?_ ?_; rotate_left; (focus (intro h_; exfalso; first | omega | ((try simp only [decide_eq_true_eq, decide_eq_false_iff_not] at h_); omega) | (simp [mulSz, Cont.len, bne] at h_; first | done | omega))); intro _; conv => whnf)
                | (refine ⟨0, (show _ = _ by omega), ?_⟩; conv => whnf))
              refine ⟨_, [6, 5], (truth_t (bitq F) N2 u3 p.b (N2 + u3.length) (N2 + p.b.length) (by omega)), ?_⟩
              conv => whnf
              iterate 2
               refine And.intro ?_ ?_
               focus
                conv => whnf
                repeat' (first | exact True.intro | rfl | refine And.intro ?_ ?_)
                all_goals (conv => whnf)
                repeat' (first | exact True.intro | rfl | refine And.intro ?_ ?_)
                all_goals (try (first | rfl | omega | (simp; first | done | omega)))
              conv => whnf
              conv => whnf
              repeat (first
                | (refine And.intro ?_ ?_; (focus (first | omega | decide | exact EqOk.mk (by kernel_rfl) (by kernel_rfl) (by kernel_rfl) | exact Int.natCast_nonneg _ | ((repeat' refine And.intro ?_ ?_) <;> first | omega | exact Int.natCast_nonneg _ | (simp only [i64max, u8max, u16max, u32max, u64max]; omega) | (simp only [mulSz_eq, Cont.len, colsLen, Col.len, List.length_cons, List.length_nil, List.length_replicate, List.length_append]; first | done | omega) | (simp [mulSz, Cont.len, bne]; first | done | omega)))); conv => whnf)
                | (refine tst_in ?_ ?_; (focus (intro h_; exfalso; first | omega | ((try simp only [decide_eq_true_eq, decide_eq_false_iff_not] at h_); omega) | (simp [mulSz, Cont.len, bne] at h_; first | done | omega))); intro _; conv => whnf)
                | (refine tst_in ?_ ?_; rotate_left; (focus (intro h_; exfalso; first | omega | ((try simp only [decide_eq_true_eq, decide_eq_false_iff_not] at h_); omega) | (simp [mulSz, Cont.len, bne] at h_; first | done | omega))); intro _; conv => whnf)
                | (refine ⟨0, (show _ = _ by omega), ?_⟩; conv => whnf))
              refine .inl ⟨(), [0, 1, 2, 3], ?_⟩
              conv => whnf
              repeat' (first | exact True.intro | rfl | refine And.intro ?_ ?_)
              all_goals (conv => whnf)
              repeat' (first | exact True.intro | rfl | refine And.intro ?_ ?_)
              all_goals (try omega)
end Go.Proofs.Yteefbedjblppiaa

set_option linter.unusedVariables false
set_option linter.unusedSimpArgs false
namespace Go.Proofs.Yteefbedjblppiaa
open Go Go.Fw
/-! A long region in the text's order: the check by masks. -/
theorem one_of_nodup {k : Nat} : ∀ {l : List Nat}, l.Nodup → (∀ x, x ∈ l ↔ x = k) → l = [k]
  | [], _, h => absurd ((h k).2 rfl) (by simp)
  | a :: t, hn, h => by
    have ha : a = k := (h a).1 (by simp)
    subst ha
    have ht : t = [] := by
      cases t with
      | nil => rfl
      | cons b r =>
        have hb : b = a := (h b).1 (by simp)
        subst hb
        simp at hn
    rw [ht]
def ancM (A : List Nat) : List Edge → Nat
  | [] => 0
  | e :: r => match Region.binds .any e with
    | true => Nat.lor (Nat.lor (Nat.shiftLeft 1 e.on) (A.getD e.on 0)) (ancM A r)
    | false => ancM A r
def buildM : List Oper → List Nat → List Nat
  | [], A => A
  | o :: r, A => buildM r (A ++ [ancM A o.after.toList])
theorem bit_one {k n : Nat} (h : Nat.testBit (Nat.shiftLeft 1 n) k = true) : k = n := by
  have h' : Nat.testBit (1 <<< n) k = true := h
  rw [Nat.testBit_shiftLeft] at h'
  simp at h'
  obtain ⟨h1, h2⟩ := h'
  have := Nat.testBit_one_eq_true_iff_self_eq_zero.1 h2
  omega
theorem ancM_sound {ops : Array Oper} {A : List Nat} {f : Nat} (hA : ∀ i k, Nat.testBit (A.getD i 0) k = true → waitsT ops f i k = true) : ∀ {l : List Edge} {k : Nat}, Nat.testBit (ancM A l) k = true →
    l.any (fun e => Region.binds .any e && (e.on == k || waitsT ops f e.on k)) = true
  | [], k, h => by simp [ancM] at h
  | e :: r, k, h => by
    unfold ancM at h
    rw [List.any_cons]
    cases hb : Region.binds .any e
    · rw [hb] at h
      rw [ancM_sound hA h]; simp
    · rw [hb] at h
      have h' : Nat.testBit (((1 <<< e.on) ||| A.getD e.on 0) ||| ancM A r) k = true := h
      rw [Nat.testBit_or, Nat.testBit_or, Bool.or_eq_true, Bool.or_eq_true] at h'
      rcases h' with (h1 | h1) | h1
      · have := bit_one h1
        rw [this]; simp
      · rw [hA _ _ h1]; simp
      · rw [ancM_sound hA h1]; simp
theorem waitsT_mono {ops : Array Oper} : ∀ {f j k : Nat}, waitsT ops f j k = true → waitsT ops (f + 1) j k = true
  | 0, j, k, h => by simp [waitsT] at h
  | f + 1, j, k, h => by
    unfold waitsT at h ⊢
    cases ho : ops[j]? with
    | none => rw [ho] at h; cases h
    | some o =>
      rw [ho] at h
      simp only [Array.any_eq_true, Bool.and_eq_true, Bool.or_eq_true] at h ⊢
      obtain ⟨i, hi, hb, hw⟩ := h
      exact ⟨i, hi, hb, hw.imp id waitsT_mono⟩
theorem buildM_sound {ops : Array Oper} : ∀ (r pre : List Oper) (A : List Nat), ops.toList = pre ++ r → A.length = pre.length → (∀ i k, Nat.testBit (A.getD i 0) k = true → waitsT ops pre.length i k = true) →
    ∀ i k, Nat.testBit ((buildM r A).getD i 0) k = true → waitsT ops ops.size i k = true
  | [], pre, A, e, hl, hA, i, k, h => by
    have hs : ops.size = pre.length := by rw [← Array.length_toList, e]; simp
    rw [hs]; exact hA i k h
  | o :: r, pre, A, e, hl, hA, i, k, h => by
    refine buildM_sound r (pre ++ [o]) (A ++ [ancM A o.after.toList]) (by rw [e]; simp) (by simp [hl]) ?_ i k h
    intro i k hk
    rw [List.length_append]
    show waitsT ops (pre.length + 1) i k = true
    by_cases h1 : i < A.length
    · rw [List.getD_eq_getElem?_getD, List.getElem?_append_left h1, ← List.getD_eq_getElem?_getD] at hk
      exact waitsT_mono (hA i k hk)
    · by_cases h2 : i = A.length
      · subst h2
        rw [List.getD_eq_getElem?_getD, List.getElem?_append_right (Nat.le_refl _)] at hk
        simp at hk
        have := ancM_sound hA hk
        unfold waitsT
        have ho : ops[A.length]? = some o := by
          rw [← Array.getElem?_toList, e, hl, List.getElem?_append_right (Nat.le_refl _)]; simp
        rw [ho]
        show o.after.any _ = true
        rw [← Array.any_toList]
        exact this
      · rw [List.getD_eq_getElem?_getD, List.getElem?_eq_none (by simp; omega)] at hk
        simp at hk

structure Stg (n k : Nat) (L : Array Bool) : Prop where
  size : L.size = n
  val : ∀ i, i < n → L.getD i true = decide (i < k)
theorem stg_f {n k : Nat} {L : Array Bool} (h : Stg n k L) (hk : k ≤ n) (i : Nat) : L.getD i false = decide (i < k) := by
  by_cases hi : i < n
  · rw [← h.val i hi]
    simp [Array.getD, h.size, hi]
  · rw [decide_eq_false (by omega)]
    simp [Array.getD, h.size, hi]
theorem stg_next {n k : Nat} {L : Array Bool} (h : Stg n k L) (hk : k < n) : Stg n (k + 1) (L.setIfInBounds k true) := by
  refine ⟨by rw [Array.size_setIfInBounds]; exact h.size, fun i hi => ?_⟩
  have hs := h.size
  have hv := h.val i hi
  by_cases e : i = k
  · subst e
    rw [decide_eq_true (by omega)]
    simp [Array.getD, hs, hi]
  · have e2 : (L.setIfInBounds k true).getD i true = L.getD i true := by
      simp only [Array.getD, Array.size_setIfInBounds, hs, hi, dite_true]
      show (L.setIfInBounds k true)[i]'(by rw [Array.size_setIfInBounds]; omega) = L[i]'(by omega)
      rw [Array.getElem_setIfInBounds, if_neg (fun hh => e hh.symm)]
    rw [e2, hv]
    by_cases hk2 : i < k
    · rw [decide_eq_true hk2, decide_eq_true (by omega)]
    · rw [decide_eq_false hk2, decide_eq_false (by omega)]
theorem stg_zero (n : Nat) : Stg n 0 (Array.replicate n false) := ⟨by simp, fun i hi => by simp [Array.getD, hi]⟩
theorem mem_ready {ops : Array Oper} {L : Array Bool} {i : Nat} : i ∈ Region.ready .any ops L ↔ i < ops.size ∧ L.getD i true = false ∧ ∃ o, ops[i]? = some o ∧ ∀ e ∈ o.after.toList, Region.binds .any e = true → L.getD e.on false = true := by
  unfold Region.ready
  rw [List.mem_filter, List.mem_range]
  constructor
  · rintro ⟨h1, h2⟩
    rw [Bool.and_eq_true] at h2
    refine ⟨h1, by simpa using h2.1, ?_⟩
    cases ho : ops[i]? with
    | none => rw [ho] at h2; simp at h2
    | some o =>
      rw [ho] at h2
      refine ⟨o, rfl, fun e he hb => ?_⟩
      have h3 := h2.2
      simp only [Option.map_some, Option.getD_some] at h3
      rw [← Array.all_toList, List.all_eq_true] at h3
      have := h3 e he
      rw [hb] at this
      simpa using this
  · rintro ⟨h1, h2, o, ho, h3⟩
    refine ⟨h1, ?_⟩
    rw [h2, ho]
    simp only [Bool.not_false, Bool.true_and, Option.map_some, Option.getD_some]
    rw [← Array.all_toList, List.all_eq_true]
    intro e he
    cases hb : Region.binds .any e
    · rfl
    · rw [h3 e he hb]; rfl
def backB (k : Nat) (o : Oper) : Bool := o.after.toList.all fun e => !Region.binds .any e || Nat.blt e.on k
def waitB (k : Nat) (o : Oper) : Bool := o.after.toList.any fun e => Region.binds .any e && Nat.ble k e.on
def linkB (ops : Array Oper) (k : Nat) (o oj : Oper) : Bool := (oj.after.any fun e => Region.binds .any e && e.on == k) || Oper.apart ops o oj
def plainO (q : Nat → Bool) (o : Oper) : Bool := !isEff q o && !isQ q o
def lateB (q : Nat → Bool) (k : Nat) : List Oper → List Nat → Bool
  | [], _ => true
  | oj :: r, w :: W => (plainO q oj || Nat.testBit w k) && lateB q k r W
  | oj :: r, [] => plainO q oj && lateB q k r []
def chkL (q : Nat → Bool) (ops : Array Oper) : List Oper → List Nat → Nat → Bool
  | [], _, _ => true
  | o :: r, W, k => backB k o && (match plainO q o with
      | true => r.all (linkB ops k o) && (blindB o || lateB q k r (W.drop 1))
      | false => r.all (waitB k)) && chkL q ops r (W.drop 1) (k + 1)
theorem nth_suf {ops : Array Oper} {pre r : List Oper} (e : ops.toList = pre ++ r) (i : Nat) : ops[pre.length + i]? = r[i]? := by
  rw [← Array.getElem?_toList, e, List.getElem?_append_right (by omega)]; congr 1; omega
theorem lateB_sound {q : Nat → Bool} {k : Nat} : ∀ {r : List Oper} {W : List Nat}, lateB q k r W = true → ∀ i o, r[i]? = some o → plainO q o = true ∨ Nat.testBit (W.getD i 0) k = true
  | [], W, _, i, o, h => by simp at h
  | oj :: r, w :: W, hl, i, o, h => by
    unfold lateB at hl
    rw [Bool.and_eq_true, Bool.or_eq_true] at hl
    cases i with
    | zero => simp at h; subst h; exact hl.1.imp id (by simp)
    | succ i =>
      have := lateB_sound hl.2 i o (by simpa using h)
      simpa using this
  | oj :: r, [], hl, i, o, h => by
    unfold lateB at hl
    rw [Bool.and_eq_true] at hl
    cases i with
    | zero => simp at h; subst h; exact .inl hl.1
    | succ i =>
      have := lateB_sound hl.2 i o (by simpa using h)
      simpa using this
theorem ready_mem {ops : Array Oper} {pre r : List Oper} {o : Oper} {L : Array Bool} (e : ops.toList = pre ++ o :: r) (hs : Stg ops.size pre.length L) (hb : backB pre.length o = true) : pre.length ∈ Region.ready .any ops L := by
  have hn : ops.size = pre.length + (r.length + 1) := by rw [← Array.length_toList, e]; simp
  rw [mem_ready]
  refine ⟨by omega, by rw [hs.val _ (by omega)]; simp, o, by have := nth_suf e 0; simpa using this, fun x hx hbx => ?_⟩
  unfold backB at hb
  rw [List.all_eq_true] at hb
  have h1 := hb x hx
  rw [hbx] at h1
  have h2 : x.on < pre.length := by simpa [Nat.blt_eq] using h1
  rw [stg_f hs (by omega)]; simpa using h2
theorem ready_one {ops : Array Oper} {pre r : List Oper} {o : Oper} {L : Array Bool} (e : ops.toList = pre ++ o :: r) (hs : Stg ops.size pre.length L) (hb : backB pre.length o = true) (hw : r.all (waitB pre.length) = true) : Region.ready .any ops L = [pre.length] := by
  have hn : ops.size = pre.length + (r.length + 1) := by rw [← Array.length_toList, e]; simp
  refine one_of_nodup (by unfold Region.ready; exact List.nodup_range.filter _) fun x => ⟨fun hx => ?_, fun hx => by rw [hx]; exact ready_mem e hs hb⟩
  obtain ⟨h1, h2, ox, hox, h3⟩ := mem_ready.1 hx
  rw [hs.val x h1, decide_eq_false_iff_not] at h2
  apply Decidable.byContradiction
  intro hne
  obtain ⟨i, rfl⟩ : ∃ i, x = pre.length + (i + 1) := ⟨x - pre.length - 1, by omega⟩
  rw [nth_suf e] at hox
  have hox : r[i]? = some ox := by simpa using hox
  rw [List.all_eq_true] at hw
  have hwx := hw ox (List.mem_of_getElem? hox)
  unfold waitB at hwx
  rw [List.any_eq_true] at hwx
  obtain ⟨ed, hed, hbd⟩ := hwx
  rw [Bool.and_eq_true] at hbd
  have h4 := h3 ed hed hbd.1
  rw [stg_f hs (by omega)] at h4
  have h5 : ed.on < pre.length := by simpa using h4
  have h6 : pre.length ≤ ed.on := Nat.le_of_ble_eq_true hbd.2
  omega
theorem free_ok {ops : Array Oper} {pre r : List Oper} {o : Oper} {L : Array Bool} (e : ops.toList = pre ++ o :: r) (hs : Stg ops.size pre.length L) (hl : r.all (linkB ops pre.length o) = true) : Region.free .any ops L pre.length = true := by
  unfold Region.free
  have ho : ops[pre.length]? = some o := by have := nth_suf e 0; simpa using this
  rw [ho]
  show (List.range ops.size).all _ = true
  rw [List.all_eq_true]
  intro j hj
  rw [List.mem_range] at hj
  by_cases h1 : j = pre.length
  · rw [h1]; simp
  · by_cases h2 : j < pre.length
    · rw [hs.val j hj, decide_eq_true h2]; simp
    · obtain ⟨i, rfl⟩ : ∃ i, j = pre.length + (i + 1) := ⟨j - pre.length - 1, by omega⟩
      rw [nth_suf e]
      cases hoj : (o :: r)[i + 1]? with
      | none => simp
      | some oj =>
        have hoj' : r[i]? = some oj := by simpa using hoj
        rw [List.all_eq_true] at hl
        have := hl oj (List.mem_of_getElem? hoj')
        unfold linkB at this
        show (_ || _ || ((oj.after.any fun x => Region.binds .any x && x.on == pre.length) || Oper.apart ops o oj)) = true
        rw [this]; simp
theorem chk_sound {q : Nat → Bool} {ops : Array Oper} {A : List Nat} (hA : ∀ i k, Nat.testBit (A.getD i 0) k = true → waitsT ops ops.size i k = true) : ∀ (r pre : List Oper) (L : Array Bool), ops.toList = pre ++ r → Stg ops.size pre.length L →
    chkL q ops r (A.drop pre.length) pre.length = true → planB q ops (opsThen (List.range' pre.length r.length) .done) false r.length L = true
  | [], pre, L, e, hs, _ => by
    have hn : ops.size = pre.length := by rw [← Array.length_toList, e]; simp
    show (!false && (Region.ready .any ops L).isEmpty) = true
    have : Region.ready .any ops L = [] := by
      rw [List.eq_nil_iff_forall_not_mem]
      intro x hx
      obtain ⟨h1, h2, _⟩ := mem_ready.1 hx
      rw [hs.val x h1, decide_eq_true (by omega)] at h2
      cases h2
    rw [this]; rfl
  | o :: r, pre, L, e, hs, h => by
    have hn : ops.size = pre.length + (r.length + 1) := by rw [← Array.length_toList, e]; simp
    unfold chkL at h
    rw [Bool.and_eq_true, Bool.and_eq_true] at h
    obtain ⟨⟨hb, hp⟩, hr⟩ := h
    rw [List.drop_drop] at hr
    have ho : ops[pre.length]? = some o := by have := nth_suf e 0; simpa using this
    have ih := chk_sound hA r (pre ++ [o]) (L.setIfInBounds pre.length true) (by rw [e]; simp) (by rw [List.length_append]; exact stg_next hs (by omega)) (by rw [List.length_append]; exact hr)
    rw [List.length_append] at ih
    show (!false && takeB q ops L pre.length && planB q ops (opsThen (List.range' (pre.length + 1) r.length) .done) false r.length (L.setIfInBounds pre.length true)) = true
    have ih' : planB q ops (opsThen (List.range' (pre.length + 1) r.length) .done) false r.length (L.setIfInBounds pre.length true) = true := ih
    rw [ih']
    have ht : takeB q ops L pre.length = true := by
      unfold takeB
      rw [ho]
      show (_ || _) = true
      cases hpl : plainO q o
      · rw [hpl] at hp
        rw [ready_one e hs hb hp]; simp
      · rw [hpl] at hp
        have hp : (r.all (linkB ops pre.length o) && (blindB o || lateB q pre.length r ((A.drop pre.length).drop 1))) = true := hp
        rw [Bool.and_eq_true] at hp
        have c1 : (Region.ready .any ops L).contains pre.length = true := by rw [List.contains_iff_mem]; exact ready_mem e hs hb
        have c2 := free_ok e hs hp.1
        have c3 : plainAt q ops pre.length = true := by unfold plainAt; rw [ho]; exact hpl
        have c4 : (blindB o || (List.range ops.size).all fun j => L.getD j true || plainAt q ops j || waitsT ops ops.size j pre.length) = true := by
          rw [Bool.or_eq_true]
          rcases Bool.or_eq_true _ _ ▸ hp.2 with h1 | h1
          · exact .inl h1
          · right
            rw [List.all_eq_true]
            intro j hj
            rw [List.mem_range] at hj
            by_cases h2 : j < pre.length
            · rw [hs.val j hj, decide_eq_true h2]; simp
            · by_cases h3 : j = pre.length
              · rw [h3, c3]; simp
              · obtain ⟨i, rfl⟩ : ∃ i, j = pre.length + (i + 1) := ⟨j - pre.length - 1, by omega⟩
                have hs2 := nth_suf e (i + 1)
                cases hoj : r[i]? with
                | none => rw [List.getElem?_eq_none_iff] at hoj; omega
                | some oj =>
                  have hoj2 : ops[pre.length + (i + 1)]? = some oj := by rw [hs2]; simpa using hoj
                  rcases lateB_sound h1 i oj hoj with h4 | h4
                  · have : plainAt q ops (pre.length + (i + 1)) = true := by unfold plainAt; rw [hoj2]; exact h4
                    rw [this]; simp
                  · rw [List.drop_drop] at h4
                    have h5 : (List.drop (pre.length + 1) A).getD i 0 = A.getD (pre.length + (i + 1)) 0 := by
                      rw [List.getD_eq_getElem?_getD, List.getElem?_drop, ← List.getD_eq_getElem?_getD]; congr 1; omega
                    rw [h5] at h4
                    rw [hA _ _ h4]; simp
        rw [c1, c2, c3, c4]; simp
    rw [ht]; rfl
def lineB (q : Nat → Bool) (ops : Array Oper) : Bool := chkL q ops ops.toList (buildM ops.toList []) 0
theorem line_sound {q : Nat → Bool} {ops : Array Oper} (h : lineB q ops = true) : planB q ops (opsThen (List.range' 0 ops.size) .done) false ops.size (Array.replicate ops.size false) = true := by
  have hA := buildM_sound (ops := ops) ops.toList [] [] rfl rfl (fun i k hk => by simp at hk)
  have := chk_sound (q := q) hA ops.toList [] (Array.replicate ops.size false) rfl (stg_zero _) h
  simpa using this
def codeBL (C : Cfg) : Code → Bool
  | .region id ops draw => (match C.plan id with
    | none => regionB C.q ops draw
    | some (.lin l .done) => draw && Region.noSelect ops && planIn ops.toList (.lin l .done) && (l == List.range' 0 ops.size) && lineB C.q ops
    | some p => planOk C.q ops draw p)
  | .seq a b => codeBL C a && codeBL C b
  | .cond _ x y => codeBL C x && codeBL C y
  | .block _ b => codeBL C b
  | .loop b => codeBL C b
  | .scope b => codeBL C b
  | _ => true
theorem codeBL_ok {C : Cfg} : ∀ {c : Code}, codeBL C c = true → codeB C c = true
  | .region id ops draw, h => by
    unfold codeBL at h
    unfold codeB
    split at h
    · rename_i hp; rw [hp]; exact h
    · rename_i l hp
      rw [hp]
      simp only [Bool.and_eq_true, beq_iff_eq] at h
      obtain ⟨⟨⟨⟨h1, h2⟩, h3⟩, h4⟩, h5⟩ := h
      have h6 := line_sound h5
      rw [← h4] at h6
      show (draw && Region.noSelect ops && planIn ops.toList (.lin l .done) && planB C.q ops (opsThen l .done) false ops.size (Array.replicate ops.size false)) = true
      rw [h1, h2, h3, h6]; rfl
    · rename_i p hn hp
      rw [hp]; exact h
  | .seq a b, h => by
    unfold codeBL at h; unfold codeB
    rw [Bool.and_eq_true] at h ⊢
    exact ⟨codeBL_ok h.1, codeBL_ok h.2⟩
  | .cond _ x y, h => by
    unfold codeBL at h; unfold codeB
    rw [Bool.and_eq_true] at h ⊢
    exact ⟨codeBL_ok h.1, codeBL_ok h.2⟩
  | .block _ b, h => codeBL_ok (c := b) h
  | .loop b, h => codeBL_ok (c := b) h
  | .scope b, h => codeBL_ok (c := b) h
  | .skip .., _ => rfl
  | .rangeFunc .., _ => rfl
  | .exit .., _ => rfl
  | .label .., _ => rfl
  | .goto .., _ => rfl
  | .ret .., _ => rfl
  | .refuse .., _ => rfl
end Go.Proofs.Yteefbedjblppiaa

set_option linter.unusedVariables false
set_option linter.unusedSimpArgs false
namespace Go.Proofs.Yteefbedjblppiaa
open Go Go.Fw
noncomputable def c8 : Code := (Try.f8.body).getD .skip
set_option maxHeartbeats 0 in
set_option maxRecDepth 100000 in
theorem spelt_f (A B : List Bool) (G : Nat → Bool) (n ca cb : Nat) (hA : isB A G n) (hB : isB B G n) (hN : n ≤ 140737488351232) :
    Fits Try.prog 8 ⟨[.slice 0 0 n ca, .slice 1 0 n cb], [boS false A, boS false B], [numOut [.dead, .dead] (.bool true)]⟩ := by
  obtain ⟨v, hv⟩ := told (n ≤ 32768 ∧ n % 2 = 0)
  have O1 := Of_u A G n ca v hA hv hN
  have O2 := rOf_u B G n cb v hB hv hN
  have b1 : nn v (n / 2) ≤ 65536 := nn_le fun q => by have := (hv.1 q).1; omega
  obtain ⟨N, eN⟩ : ∃ N, nn v (n / 2) = N := ⟨_, rfl⟩
  obtain ⟨e, eE⟩ : ∃ e, ee v = e := ⟨_, rfl⟩
  rw [eN, eE] at O1 O2
  rw [eN] at b1
  refine fits_of_body (C := cfgu 2) (c := c8) (ts := [4]) tokU mixed (fun _ => none) (fun _ => none)
    Try.func8 (by kernel_rfl) (by kernel_rfl) (by kernel_rfl) (by kernel_rfl) rfl ?_
  conv => whnf
  repeat (first
    | (refine And.intro ?_ ?_; (focus (first | omega | decide | exact EqOk.mk (by kernel_rfl) (by kernel_rfl) (by kernel_rfl) | exact Int.natCast_nonneg _ | ((repeat' refine And.intro ?_ ?_) <;> first | omega | exact Int.natCast_nonneg _ | (simp only [i64max, u8max, u16max, u32max, u64max]; omega) | (simp only [mulSz_eq, Cont.len, colsLen, Col.len, List.length_cons, List.length_nil, List.length_replicate, List.length_append]; first | done | omega) | (simp [mulSz, Cont.len, bne]; first | done | omega)))); conv => whnf)
    | (refine tst_in ?_ ?_; (focus (intro h_; exfalso; first | omega | ((try simp only [decide_eq_true_eq, decide_eq_false_iff_not] at h_); omega) | (simp [mulSz, Cont.len, bne] at h_; first | done | omega))); intro _; conv => whnf)
    | (refine tst_in ?_ ?_; rotate_left; (focus (intro h_; exfalso; first | omega | ((try simp only [decide_eq_true_eq, decide_eq_false_iff_not] at h_); omega) | (simp [mulSz, Cont.len, bne] at h_; first | done | omega))); intro _; conv => whnf)
    | (refine ⟨0, (show _ = _ by omega), ?_⟩; conv => whnf))
  refine ⟨_, [0], O1, ?_⟩
  conv => whnf
  iterate 2
   refine And.intro ?_ ?_
   focus
    conv => whnf
    repeat' (first | exact True.intro | rfl | refine And.intro ?_ ?_)
    all_goals (conv => whnf)
    repeat' (first | exact True.intro | rfl | refine And.intro ?_ ?_)
    all_goals (try (first | rfl | omega | (simp; first | done | omega)))
  conv => whnf
  refine ⟨?_, True.intro⟩
  rintro t1 _
  conv => whnf
  change List Int at t1
  conv => whnf
  repeat (first
    | (refine And.intro ?_ ?_; (focus (first | omega | decide | exact EqOk.mk (by kernel_rfl) (by kernel_rfl) (by kernel_rfl) | exact Int.natCast_nonneg _ | ((repeat' refine And.intro ?_ ?_) <;> first | omega | exact Int.natCast_nonneg _ | (simp only [i64max, u8max, u16max, u32max, u64max]; omega) | (simp only [mulSz_eq, Cont.len, colsLen, Col.len, List.length_cons, List.length_nil, List.length_replicate, List.length_append]; first | done | omega) | (simp [mulSz, Cont.len, bne]; first | done | omega)))); conv => whnf)
    | (refine tst_in ?_ ?_; (focus (intro h_; exfalso; first | omega | ((try simp only [decide_eq_true_eq, decide_eq_false_iff_not] at h_); omega) | (simp [mulSz, Cont.len, bne] at h_; first | done | omega))); intro _; conv => whnf)
    | (refine tst_in ?_ ?_; rotate_left; (focus (intro h_; exfalso; first | omega | ((try simp only [decide_eq_true_eq, decide_eq_false_iff_not] at h_); omega) | (simp [mulSz, Cont.len, bne] at h_; first | done | omega))); intro _; conv => whnf)
    | (refine ⟨0, (show _ = _ by omega), ?_⟩; conv => whnf))
  refine ⟨_, [1], O2, ?_⟩
  conv => whnf
  iterate 2
   refine And.intro ?_ ?_
   focus
    conv => whnf
    repeat' (first | exact True.intro | rfl | refine And.intro ?_ ?_)
    all_goals (conv => whnf)
    repeat' (first | exact True.intro | rfl | refine And.intro ?_ ?_)
    all_goals (try (first | rfl | omega | (simp; first | done | omega)))
  conv => whnf
  refine ⟨?_, True.intro⟩
  rintro t2 _
  conv => whnf
  change List Int at t2
  conv => whnf
  repeat (first
    | (refine And.intro ?_ ?_; (focus (first | omega | decide | exact EqOk.mk (by kernel_rfl) (by kernel_rfl) (by kernel_rfl) | exact Int.natCast_nonneg _ | ((repeat' refine And.intro ?_ ?_) <;> first | omega | exact Int.natCast_nonneg _ | (simp only [i64max, u8max, u16max, u32max, u64max]; omega) | (simp only [mulSz_eq, Cont.len, colsLen, Col.len, List.length_cons, List.length_nil, List.length_replicate, List.length_append]; first | done | omega) | (simp [mulSz, Cont.len, bne]; first | done | omega)))); conv => whnf)
    | (refine tst_in ?_ ?_; (focus (intro h_; exfalso; first | omega | ((try simp only [decide_eq_true_eq, decide_eq_false_iff_not] at h_); omega) | (simp [mulSz, Cont.len, bne] at h_; first | done | omega))); intro _; conv => whnf)
    | (refine tst_in ?_ ?_; rotate_left; (focus (intro h_; exfalso; first | omega | ((try simp only [decide_eq_true_eq, decide_eq_false_iff_not] at h_); omega) | (simp [mulSz, Cont.len, bne] at h_; first | done | omega))); intro _; conv => whnf)
    | (refine ⟨0, (show _ = _ by omega), ?_⟩; conv => whnf))
  refine ⟨_, [2, 3], (quar_t (ofq G) N t1 t2 (N + t1.length) (N + t2.length) (by omega)), ?_⟩
  conv => whnf
  iterate 2
   refine And.intro ?_ ?_
   focus
    conv => whnf
    repeat' (first | exact True.intro | rfl | refine And.intro ?_ ?_)
    all_goals (conv => whnf)
    repeat' (first | exact True.intro | rfl | refine And.intro ?_ ?_)
    all_goals (try (first | rfl | omega | (simp; first | done | omega)))
  conv => whnf
  conv => whnf
  repeat (first
    | (refine And.intro ?_ ?_; (focus (first | omega | decide | exact EqOk.mk (by kernel_rfl) (by kernel_rfl) (by kernel_rfl) | exact Int.natCast_nonneg _ | ((repeat' refine And.intro ?_ ?_) <;> first | omega | exact Int.natCast_nonneg _ | (simp only [i64max, u8max, u16max, u32max, u64max]; omega) | (simp only [mulSz_eq, Cont.len, colsLen, Col.len, List.length_cons, List.length_nil, List.length_replicate, List.length_append]; first | done | omega) | (simp [mulSz, Cont.len, bne]; first | done | omega)))); conv => whnf)
    | (refine tst_in ?_ ?_; (focus (intro h_; exfalso; first | omega | ((try simp only [decide_eq_true_eq, decide_eq_false_iff_not] at h_); omega) | (simp [mulSz, Cont.len, bne] at h_; first | done | omega))); intro _; conv => whnf)
    | (refine tst_in ?_ ?_; rotate_left; (focus (intro h_; exfalso; first | omega | ((try simp only [decide_eq_true_eq, decide_eq_false_iff_not] at h_); omega) | (simp [mulSz, Cont.len, bne] at h_; first | done | omega))); intro _; conv => whnf)
    | (refine ⟨0, (show _ = _ by omega), ?_⟩; conv => whnf))
  refine .inl ⟨(), [0, 1], ?_⟩
  conv => whnf
  repeat' (first | exact True.intro | rfl | refine And.intro ?_ ?_)
  all_goals (conv => whnf)
  repeat' (first | exact True.intro | rfl | refine And.intro ?_ ?_)
  all_goals (try omega)
def mkI (Q : List Int) (n : Nat) (a : List Int) : List Int := Q.take n ++ 99 :: a
def mkB (H : List Bool) (k : Nat) (b : List Bool) : List Bool := H.take k ++ true :: b
theorem mkI_len {Q : List Int} {n : Nat} (a : List Int) (h : n ≤ Q.length) : (mkI Q n a).length = n + 1 + a.length := by unfold mkI; simp; omega
theorem mkB_len {Q : List Bool} {n : Nat} (a : List Bool) (h : n ≤ Q.length) : (mkB Q n a).length = n + 1 + a.length := by unfold mkB; simp; omega
theorem mkI_get {Q : List Int} {n : Nat} (a : List Int) (h : n ≤ Q.length) (i : Nat) (hi : i < n) : (mkI Q n a).getD i 0 = Q.getD i 0 := by
  unfold mkI
  rw [List.getD_eq_getElem?_getD, List.getElem?_append_left (by simp; omega), List.getElem?_take_of_lt hi, ← List.getD_eq_getElem?_getD]
theorem mkB_get {Q : List Bool} {n : Nat} (a : List Bool) (h : n ≤ Q.length) (i : Nat) (hi : i < n) : (mkB Q n a).getD i false = Q.getD i false := by
  unfold mkB
  rw [List.getD_eq_getElem?_getD, List.getElem?_append_left (by simp; omega), List.getElem?_take_of_lt hi, ← List.getD_eq_getElem?_getD]
theorem mkI_mark {Q : List Int} {n : Nat} (a : List Int) (h : n ≤ Q.length) : (mkI Q n a).getD n 0 = 99 := by
  unfold mkI
  rw [List.getD_eq_getElem?_getD, List.getElem?_append_right (by simp; omega)]; simp [Nat.min_eq_left h]
theorem mkB_mark {Q : List Bool} {n : Nat} (a : List Bool) (h : n ≤ Q.length) : (mkB Q n a).getD n false = true := by
  unfold mkB
  rw [List.getD_eq_getElem?_getD, List.getElem?_append_right (by simp; omega)]; simp [Nat.min_eq_left h]
theorem set_get (l : List Int) (k i : Nat) (x : Int) (hk : k < l.length) : (l.set k x).getD i 0 = if i = k then x else l.getD i 0 := by
  by_cases h : i = k
  · subst h; rw [if_pos rfl, List.getD_eq_getElem?_getD, List.getElem?_set_self hk]; rfl
  · rw [if_neg h, List.getD_eq_getElem?_getD, List.getD_eq_getElem?_getD, List.getElem?_set_ne (fun hh => h hh.symm)]
def tq (F : Nat → Int) (i : Nat) : Int := (F i + 1) % 256 % 4
structure CT where
  a : List Int
  b : List Bool
  d : List Bool
def stK (Q : List Int) (H B : List Bool) (n k m cq ch cb : Nat) (t : CT) : St :=
  ⟨slotsAt 138 [(0, .slice 0 0 n cq), (1, .slice 1 0 k ch), (2, .slice 2 0 m cb), (7, .slice 3 0 (n + 1) (n + 1 + t.a.length)), (8, .slice 4 0 (k + 1) (k + 1 + t.b.length)), (9, .slice 5 0 (m + 1) (m + 1 + t.d.length))],
    [u8S false Q, boS false H, boS false B, u8S true (mkI Q n t.a), boS true (mkB H k t.b), boS true (mkB B m t.d)]⟩
def cutK (Q : List Int) (H B : List Bool) (n k m cq ch cb : Nat) : LInv := ⟨CT, fun t => stK Q H B n k m cq ch cb t, fun _ => True, fun _ => 0⟩
structure LT where
  x : List Int
  b : List Bool
  r : Nat
  i : Nat
def stL (Q : List Int) (H B : List Bool) (F : Nat → Int) (n k m cq ch cb : Nat) (t : LT) : St :=
  ⟨slotsAt 138 [(0, .slice 0 0 n cq), (1, .slice 1 0 k ch), (7, .slice 3 0 (n + 1) (n + 1 + t.r)), (8, .slice 4 0 (k + 1) (k + 1 + t.b.length)), (10, .slice 5 0 n n), (11, .int .i64 t.i)],
    [u8S false Q, boS false H, boS false B, u8S true t.x, boS true (mkB H k t.b), u8S true (tab (tq F) t.i ++ List.replicate (n - t.i) 0)]⟩
def invL (Q : List Int) (H B : List Bool) (F : Nat → Int) (n k m cq ch cb : Nat) : LInv :=
  ⟨LT, fun t => stL Q H B F n k m cq ch cb t, fun t => t.i ≤ n ∧ t.x.length = n + 1 + t.r ∧ ∀ j, j < t.i → t.x.getD j 0 = tq F j, fun t => n - t.i⟩
def cfg3 : Cfg := { cfgu 3 with plan := fun | 12 => some (.lin [0, 1, 2, 3, 4, 5, 6, 7, 8, 9, 10, 11, 12, 13, 14] .done) | 4 => some (.lin [0, 1, 2, 3, 4, 5, 6, 7, 8, 9, 10, 11, 12, 13, 14, 15, 16, 17, 18, 19, 20, 21, 22, 23, 24, 25, 26, 27, 28, 29, 30, 31, 32, 33, 34, 35, 36, 37, 38, 39, 40, 41, 42, 43, 44, 45, 46, 47, 48, 49, 50, 51, 52, 53, 54, 55, 56, 57, 58, 59, 60, 61, 62, 63, 64, 65, 66, 67, 68, 69, 70, 71] .done) | _ => none }
noncomputable def c3 : Code := (Try.f3.body).getD .skip
set_option maxHeartbeats 0 in
set_option maxRecDepth 100000 in
theorem law_f (Q : List Int) (H B : List Bool) (F : Nat → Int) (G K : Nat → Bool) (n k m cq ch cb : Nat) (hQ : isU Q F n) (hH : isB H G k) (hB : isB B K m) (hn : n ≤ 140737488351232) (hk : k ≤ 140737488351232) (hm : m ≤ 140737488351232) :
    Fits Try.prog 3 ⟨[.slice 0 0 n cq, .slice 1 0 k ch, .slice 2 0 m cb], [u8S false Q, boS false H, boS false B], [numOut [.dead, .dead, .dead] (.bool true)]⟩ := by
  have hql := hQ.1
  have hhl := hH.1
  have hbl := hB.1
  have l1 : (Q.take n).length = n := by simp; omega
  have l2 : (H.take k).length = k := by simp; omega
  have l3 : (B.take m).length = m := by simp; omega
  refine fits_of_body (C := cfg3) (c := c3) (ts := [6]) tokU mixed (fun | 8 => some (invL Q H B F n k m cq ch cb) | _ => none) (fun | 4 => some (cutK Q H B n k m cq ch cb) | _ => none)
    Try.func3 (by kernel_rfl) (by kernel_rfl) (by kernel_rfl) (codeBL_ok (by kernel_rfl)) rfl ?_
  conv => whnf
  repeat (first
    | (refine And.intro ?_ ?_; (focus (first | omega | decide | exact EqOk.mk (by kernel_rfl) (by kernel_rfl) (by kernel_rfl) | exact Int.natCast_nonneg _ | ((repeat' refine And.intro ?_ ?_) <;> first | omega | exact Int.natCast_nonneg _ | (simp only [i64max, u8max, u16max, u32max, u64max]; omega) | (simp only [mulSz_eq, Cont.len, colsLen, Col.len, List.length_cons, List.length_nil, List.length_replicate, List.length_append]; first | done | omega) | (simp [mulSz, Cont.len, bne]; first | done | omega)))); conv => whnf)
    | (refine tst_in ?_ ?_; (focus (intro h_; exfalso; first | omega | ((try simp only [decide_eq_true_eq, decide_eq_false_iff_not] at h_); omega) | (simp [mulSz, Cont.len, bne] at h_; first | done | omega))); intro _; conv => whnf)
    | (refine tst_in ?_ ?_; rotate_left; (focus (intro h_; exfalso; first | omega | ((try simp only [decide_eq_true_eq, decide_eq_false_iff_not] at h_); omega) | (simp [mulSz, Cont.len, bne] at h_; first | done | omega))); intro _; conv => whnf)
    | (refine ⟨0, (show _ = _ by omega), ?_⟩; conv => whnf))
  intro (a1 : List Int)
  conv => whnf
  repeat (first
    | (refine And.intro ?_ ?_; (focus (first | omega | decide | exact EqOk.mk (by kernel_rfl) (by kernel_rfl) (by kernel_rfl) | exact Int.natCast_nonneg _ | ((repeat' refine And.intro ?_ ?_) <;> first | omega | exact Int.natCast_nonneg _ | (simp only [i64max, u8max, u16max, u32max, u64max]; omega) | (simp only [mulSz_eq, Cont.len, colsLen, Col.len, List.length_cons, List.length_nil, List.length_replicate, List.length_append, l1]; first | done | omega) | (simp [mulSz, Cont.len, bne, l1]; first | done | omega)))); conv => whnf)
    | (refine tst_in ?_ ?_; (focus (intro h_; exfalso; first | omega | ((try simp only [decide_eq_true_eq, decide_eq_false_iff_not] at h_); omega) | (simp [mulSz, Cont.len, bne, l1] at h_; first | done | omega))); intro _; conv => whnf)
    | (refine tst_in ?_ ?_; rotate_left; (focus (intro h_; exfalso; first | omega | ((try simp only [decide_eq_true_eq, decide_eq_false_iff_not] at h_); omega) | (simp [mulSz, Cont.len, bne, l1] at h_; first | done | omega))); intro _; conv => whnf)
    | (refine ⟨0, (show _ = _ by omega), ?_⟩; conv => whnf))
  intro (a2 : List Int)
  conv => whnf
  repeat (first
    | (refine And.intro ?_ ?_; (focus (first | omega | decide | exact EqOk.mk (by kernel_rfl) (by kernel_rfl) (by kernel_rfl) | exact Int.natCast_nonneg _ | ((repeat' refine And.intro ?_ ?_) <;> first | omega | exact Int.natCast_nonneg _ | (simp only [i64max, u8max, u16max, u32max, u64max]; omega) | (simp only [mulSz_eq, Cont.len, colsLen, Col.len, List.length_cons, List.length_nil, List.length_replicate, List.length_append]; first | done | omega) | (simp [mulSz, Cont.len, bne]; first | done | omega)))); conv => whnf)
    | (refine tst_in ?_ ?_; (focus (intro h_; exfalso; first | omega | ((try simp only [decide_eq_true_eq, decide_eq_false_iff_not] at h_); omega) | (simp [mulSz, Cont.len, bne] at h_; first | done | omega))); intro _; conv => whnf)
    | (refine tst_in ?_ ?_; rotate_left; (focus (intro h_; exfalso; first | omega | ((try simp only [decide_eq_true_eq, decide_eq_false_iff_not] at h_); omega) | (simp [mulSz, Cont.len, bne] at h_; first | done | omega))); intro _; conv => whnf)
    | (refine ⟨0, (show _ = _ by omega), ?_⟩; conv => whnf))
  intro (b1 : List Bool)
  conv => whnf
  repeat (first
    | (refine And.intro ?_ ?_; (focus (first | omega | decide | exact EqOk.mk (by kernel_rfl) (by kernel_rfl) (by kernel_rfl) | exact Int.natCast_nonneg _ | ((repeat' refine And.intro ?_ ?_) <;> first | omega | exact Int.natCast_nonneg _ | (simp only [i64max, u8max, u16max, u32max, u64max]; omega) | (simp only [mulSz_eq, Cont.len, colsLen, Col.len, List.length_cons, List.length_nil, List.length_replicate, List.length_append, l2]; first | done | omega) | (simp [mulSz, Cont.len, bne, l2]; first | done | omega)))); conv => whnf)
    | (refine tst_in ?_ ?_; (focus (intro h_; exfalso; first | omega | ((try simp only [decide_eq_true_eq, decide_eq_false_iff_not] at h_); omega) | (simp [mulSz, Cont.len, bne, l2] at h_; first | done | omega))); intro _; conv => whnf)
    | (refine tst_in ?_ ?_; rotate_left; (focus (intro h_; exfalso; first | omega | ((try simp only [decide_eq_true_eq, decide_eq_false_iff_not] at h_); omega) | (simp [mulSz, Cont.len, bne, l2] at h_; first | done | omega))); intro _; conv => whnf)
    | (refine ⟨0, (show _ = _ by omega), ?_⟩; conv => whnf))
  intro (b2 : List Bool)
  conv => whnf
  repeat (first
    | (refine And.intro ?_ ?_; (focus (first | omega | decide | exact EqOk.mk (by kernel_rfl) (by kernel_rfl) (by kernel_rfl) | exact Int.natCast_nonneg _ | ((repeat' refine And.intro ?_ ?_) <;> first | omega | exact Int.natCast_nonneg _ | (simp only [i64max, u8max, u16max, u32max, u64max]; omega) | (simp only [mulSz_eq, Cont.len, colsLen, Col.len, List.length_cons, List.length_nil, List.length_replicate, List.length_append]; first | done | omega) | (simp [mulSz, Cont.len, bne]; first | done | omega)))); conv => whnf)
    | (refine tst_in ?_ ?_; (focus (intro h_; exfalso; first | omega | ((try simp only [decide_eq_true_eq, decide_eq_false_iff_not] at h_); omega) | (simp [mulSz, Cont.len, bne] at h_; first | done | omega))); intro _; conv => whnf)
    | (refine tst_in ?_ ?_; rotate_left; (focus (intro h_; exfalso; first | omega | ((try simp only [decide_eq_true_eq, decide_eq_false_iff_not] at h_); omega) | (simp [mulSz, Cont.len, bne] at h_; first | done | omega))); intro _; conv => whnf)
    | (refine ⟨0, (show _ = _ by omega), ?_⟩; conv => whnf))
  refine ⟨?_, ?_⟩
  · skip
    conv => whnf
    repeat (first
      | (refine And.intro ?_ ?_; (focus (first | omega | decide | exact EqOk.mk (by kernel_rfl) (by kernel_rfl) (by kernel_rfl) | exact Int.natCast_nonneg _ | ((repeat' refine And.intro ?_ ?_) <;> first | omega | exact Int.natCast_nonneg _ | (simp only [i64max, u8max, u16max, u32max, u64max]; omega) | (simp only [mulSz_eq, Cont.len, colsLen, Col.len, List.length_cons, List.length_nil, List.length_replicate, List.length_append]; first | done | omega) | (simp [mulSz, Cont.len, bne]; first | done | omega)))); conv => whnf)
      | (refine tst_in ?_ ?_; (focus (intro h_; exfalso; first | omega | ((try simp only [decide_eq_true_eq, decide_eq_false_iff_not] at h_); omega) | (simp [mulSz, Cont.len, bne] at h_; first | done | omega))); intro _; conv => whnf)
      | (refine tst_in ?_ ?_; rotate_left; (focus (intro h_; exfalso; first | omega | ((try simp only [decide_eq_true_eq, decide_eq_false_iff_not] at h_); omega) | (simp [mulSz, Cont.len, bne] at h_; first | done | omega))); intro _; conv => whnf)
      | (refine ⟨0, (show _ = _ by omega), ?_⟩; conv => whnf))
    intro (d1 : List Bool)
    conv => whnf
    repeat (first
      | (refine And.intro ?_ ?_; (focus (first | omega | decide | exact EqOk.mk (by kernel_rfl) (by kernel_rfl) (by kernel_rfl) | exact Int.natCast_nonneg _ | ((repeat' refine And.intro ?_ ?_) <;> first | omega | exact Int.natCast_nonneg _ | (simp only [i64max, u8max, u16max, u32max, u64max]; omega) | (simp only [mulSz_eq, Cont.len, colsLen, Col.len, List.length_cons, List.length_nil, List.length_replicate, List.length_append, l3]; first | done | omega) | (simp [mulSz, Cont.len, bne, l3]; first | done | omega)))); conv => whnf)
      | (refine tst_in ?_ ?_; (focus (intro h_; exfalso; first | omega | ((try simp only [decide_eq_true_eq, decide_eq_false_iff_not] at h_); omega) | (simp [mulSz, Cont.len, bne, l3] at h_; first | done | omega))); intro _; conv => whnf)
      | (refine tst_in ?_ ?_; rotate_left; (focus (intro h_; exfalso; first | omega | ((try simp only [decide_eq_true_eq, decide_eq_false_iff_not] at h_); omega) | (simp [mulSz, Cont.len, bne, l3] at h_; first | done | omega))); intro _; conv => whnf)
      | (refine ⟨0, (show _ = _ by omega), ?_⟩; conv => whnf))
    intro (d2 : List Bool)
    conv => whnf
    repeat (first
      | (refine And.intro ?_ ?_; (focus (first | omega | decide | exact EqOk.mk (by kernel_rfl) (by kernel_rfl) (by kernel_rfl) | exact Int.natCast_nonneg _ | ((repeat' refine And.intro ?_ ?_) <;> first | omega | exact Int.natCast_nonneg _ | (simp only [i64max, u8max, u16max, u32max, u64max]; omega) | (simp only [mulSz_eq, Cont.len, colsLen, Col.len, List.length_cons, List.length_nil, List.length_replicate, List.length_append]; first | done | omega) | (simp [mulSz, Cont.len, bne]; first | done | omega)))); conv => whnf)
      | (refine tst_in ?_ ?_; (focus (intro h_; exfalso; first | omega | ((try simp only [decide_eq_true_eq, decide_eq_false_iff_not] at h_); omega) | (simp [mulSz, Cont.len, bne] at h_; first | done | omega))); intro _; conv => whnf)
      | (refine tst_in ?_ ?_; rotate_left; (focus (intro h_; exfalso; first | omega | ((try simp only [decide_eq_true_eq, decide_eq_false_iff_not] at h_); omega) | (simp [mulSz, Cont.len, bne] at h_; first | done | omega))); intro _; conv => whnf)
      | (refine ⟨0, (show _ = _ by omega), ?_⟩; conv => whnf))
    refine ⟨[0, 1, 2, 6, 10, 14], ⟨a2, b2, d2⟩, ?_, True.intro⟩
    show stLe _ _ (stK Q H B n k m cq ch cb ⟨a2, b2, d2⟩) _
    conv => whnf
    repeat' (first | exact True.intro | rfl | refine And.intro ?_ ?_)
    all_goals (conv => whnf)
    repeat' (first | exact True.intro | rfl | refine And.intro ?_ ?_)
    all_goals (try (first | omega | exact True.intro | rfl | assumption | (change LE.le (α := Nat) _ _; first | omega | (simp only [l1, l2, l3]; omega)) | (simp only [l1, l2, l3]; first | done | omega) | (simp [l1, l2, l3]; first | done | omega)))
    all_goals (first
      | (show Q.take n ++ 99 :: a2 = _; simp [mulSz, List.take_append, List.take_take, Nat.min_eq_left hql]; done)
      | (show H.take k ++ true :: b2 = _; simp [mulSz, List.take_append, List.take_take, Nat.min_eq_left hhl]; done)
      | (show B.take m ++ true :: d2 = _; simp [mulSz, List.take_append, List.take_take, Nat.min_eq_left hbl]; done)
      | omega | skip)
  · intro (t : CT) _
    show forceSt (stK Q H B n k m cq ch cb t) _
    have R1 := rows_f ⟨mkI Q n t.a, mkB H k t.b, Q, H, n, k, n + 1 + t.a.length, k + 1 + t.b.length, cq, ch⟩ F G
      ⟨⟨by show n ≤ (mkI Q n t.a).length; rw [mkI_len t.a hql]; omega, fun i hi => ⟨by rw [mkI_get t.a hql i hi]; exact (hQ.2 i hi).1, (hQ.2 i hi).2⟩⟩, hQ, ⟨by show k ≤ (mkB H k t.b).length; rw [mkB_len t.b hhl]; omega, fun i hi => by rw [mkB_get t.b hhl i hi]; exact hH.2 i hi⟩, hH, hn, hk⟩
    have S1 := spelt_f (mkB B m t.d) B K m (m + 1 + t.d.length) cb ⟨by rw [mkB_len t.d hbl]; omega, fun i hi => by rw [mkB_get t.d hbl i hi]; exact hB.2 i hi⟩ hB hm
    have Q1 := quar_q (mkI Q n t.a) Q 0 n (n + 1 + t.a.length) 0 cq (by rw [mkI_len t.a hql]; omega) (by omega) (by omega) (fun i hi => by rw [Nat.zero_add, mkI_get t.a hql i hi])
    have T1 := truths_q (mkB H k t.b) H k (k + 1 + t.b.length) ch hk (by rw [mkB_len t.b hhl]; omega) hhl (fun i hi => mkB_get t.b hhl i hi)
    have T2 := truths_q (mkB B m t.d) B m (m + 1 + t.d.length) cb hm (by rw [mkB_len t.d hbl]; omega) hbl (fun i hi => mkB_get t.d hbl i hi)
    unfold HP.args HP.segs at R1
    dsimp only at R1
    have m1 := mkI_mark t.a hql
    have m2 := mkB_mark t.b hhl
    have m3 := mkB_mark t.d hbl
    have n1 := mkI_len t.a hql
    have n2 := mkB_len t.b hhl
    have n3 := mkB_len t.d hbl
    conv => whnf
    repeat (first
      | (refine And.intro ?_ ?_; (focus (first | omega | decide | exact EqOk.mk (by kernel_rfl) (by kernel_rfl) (by kernel_rfl) | exact Int.natCast_nonneg _ | ((repeat' refine And.intro ?_ ?_) <;> first | omega | exact Int.natCast_nonneg _ | (simp only [i64max, u8max, u16max, u32max, u64max]; omega) | (simp only [mulSz_eq, Cont.len, colsLen, Col.len, List.length_cons, List.length_nil, List.length_replicate, List.length_append]; first | done | omega) | (simp [mulSz, Cont.len, bne]; first | done | omega)))); conv => whnf)
      | (refine tst_in ?_ ?_; (focus (intro h_; exfalso; first | omega | ((try simp only [decide_eq_true_eq, decide_eq_false_iff_not] at h_); omega) | (simp [mulSz, Cont.len, bne] at h_; first | done | omega))); intro _; conv => whnf)
      | (refine tst_in ?_ ?_; rotate_left; (focus (intro h_; exfalso; first | omega | ((try simp only [decide_eq_true_eq, decide_eq_false_iff_not] at h_); omega) | (simp [mulSz, Cont.len, bne] at h_; first | done | omega))); intro _; conv => whnf)
      | (refine ⟨0, (show _ = _ by omega), ?_⟩; conv => whnf))
    refine ⟨_, [3, 4, 0, 1], R1, ?_⟩
    conv => whnf
    iterate 2
     refine And.intro ?_ ?_
     focus
      conv => whnf
      repeat' (first | exact True.intro | rfl | refine And.intro ?_ ?_ | omega)
      all_goals (conv => whnf)
      all_goals (try (first | rfl | omega | (simp; done)))
    conv => whnf
    refine ⟨?_, True.intro⟩
    intro _ _
    conv => whnf
    conv => whnf
    repeat (first
      | (refine And.intro ?_ ?_; (focus (first | omega | decide | exact EqOk.mk (by kernel_rfl) (by kernel_rfl) (by kernel_rfl) | exact Int.natCast_nonneg _ | ((repeat' refine And.intro ?_ ?_) <;> first | omega | exact Int.natCast_nonneg _ | (simp only [i64max, u8max, u16max, u32max, u64max]; omega) | (simp only [mulSz_eq, Cont.len, colsLen, Col.len, List.length_cons, List.length_nil, List.length_replicate, List.length_append]; first | done | omega) | (simp [mulSz, Cont.len, bne]; first | done | omega)))); conv => whnf)
      | (refine tst_in ?_ ?_; (focus (intro h_; exfalso; first | omega | ((try simp only [decide_eq_true_eq, decide_eq_false_iff_not] at h_); omega) | (simp [mulSz, Cont.len, bne] at h_; first | done | omega))); intro _; conv => whnf)
      | (refine tst_in ?_ ?_; rotate_left; (focus (intro h_; exfalso; first | omega | ((try simp only [decide_eq_true_eq, decide_eq_false_iff_not] at h_); omega) | (simp [mulSz, Cont.len, bne] at h_; first | done | omega))); intro _; conv => whnf)
      | (refine ⟨0, (show _ = _ by omega), ?_⟩; conv => whnf))
    refine ⟨_, [3, 0], Q1, ?_⟩
    conv => whnf
    iterate 2
     refine And.intro ?_ ?_
     focus
      conv => whnf
      repeat' (first | exact True.intro | rfl | refine And.intro ?_ ?_)
      all_goals (conv => whnf)
      repeat' (first | exact True.intro | rfl | refine And.intro ?_ ?_)
      all_goals (try (first | rfl | omega | (simp; first | done | omega)))
    conv => whnf
    conv => whnf
    repeat (first
      | (refine And.intro ?_ ?_; (focus (first | omega | decide | exact EqOk.mk (by kernel_rfl) (by kernel_rfl) (by kernel_rfl) | exact Int.natCast_nonneg _ | ((repeat' refine And.intro ?_ ?_) <;> first | omega | exact Int.natCast_nonneg _ | (simp only [i64max, u8max, u16max, u32max, u64max]; omega) | (simp only [mulSz_eq, Cont.len, colsLen, Col.len, List.length_cons, List.length_nil, List.length_replicate, List.length_append, n1, n2, n3]; first | done | omega) | (simp [mulSz, Cont.len, bne, n1, n2, n3]; first | done | omega)))); conv => whnf)
      | (refine tst_in ?_ ?_; (focus (intro h_; exfalso; first | omega | ((try simp only [decide_eq_true_eq, decide_eq_false_iff_not] at h_); omega) | (simp [mulSz, Cont.len, bne, n1, n2, n3] at h_; first | done | omega))); intro _; conv => whnf)
      | (refine tst_in ?_ ?_; rotate_left; (focus (intro h_; exfalso; first | omega | ((try simp only [decide_eq_true_eq, decide_eq_false_iff_not] at h_); omega) | (simp [mulSz, Cont.len, bne, n1, n2, n3] at h_; first | done | omega))); intro _; conv => whnf)
      | (refine ⟨0, (show _ = _ by omega), ?_⟩; conv => whnf))
    rw [show 0 + ((n : Int)).toNat = n by omega, m1]
    conv => whnf
    repeat (first
      | (refine And.intro ?_ ?_; (focus (first | omega | decide | exact EqOk.mk (by kernel_rfl) (by kernel_rfl) (by kernel_rfl) | exact Int.natCast_nonneg _ | ((repeat' refine And.intro ?_ ?_) <;> first | omega | exact Int.natCast_nonneg _ | (simp only [i64max, u8max, u16max, u32max, u64max]; omega) | (simp only [mulSz_eq, Cont.len, colsLen, Col.len, List.length_cons, List.length_nil, List.length_replicate, List.length_append]; first | done | omega) | (simp [mulSz, Cont.len, bne]; first | done | omega)))); conv => whnf)
      | (refine tst_in ?_ ?_; (focus (intro h_; exfalso; first | omega | ((try simp only [decide_eq_true_eq, decide_eq_false_iff_not] at h_); omega) | (simp [mulSz, Cont.len, bne] at h_; first | done | omega))); intro _; conv => whnf)
      | (refine tst_in ?_ ?_; rotate_left; (focus (intro h_; exfalso; first | omega | ((try simp only [decide_eq_true_eq, decide_eq_false_iff_not] at h_); omega) | (simp [mulSz, Cont.len, bne] at h_; first | done | omega))); intro _; conv => whnf)
      | (refine ⟨0, (show _ = _ by omega), ?_⟩; conv => whnf))
    refine ⟨_, [4, 1], T1, ?_⟩
    conv => whnf
    iterate 2
     refine And.intro ?_ ?_
     focus
      conv => whnf
      repeat' (first | exact True.intro | rfl | refine And.intro ?_ ?_)
      all_goals (conv => whnf)
      repeat' (first | exact True.intro | rfl | refine And.intro ?_ ?_)
      all_goals (try (first | rfl | omega | (simp; first | done | omega)))
    conv => whnf
    conv => whnf
    repeat (first
      | (refine And.intro ?_ ?_; (focus (first | omega | decide | exact EqOk.mk (by kernel_rfl) (by kernel_rfl) (by kernel_rfl) | exact Int.natCast_nonneg _ | ((repeat' refine And.intro ?_ ?_) <;> first | omega | exact Int.natCast_nonneg _ | (simp only [i64max, u8max, u16max, u32max, u64max]; omega) | (simp only [mulSz_eq, Cont.len, colsLen, Col.len, List.length_cons, List.length_nil, List.length_replicate, List.length_append, n1, n2, n3]; first | done | omega) | (simp [mulSz, Cont.len, bne, n1, n2, n3]; first | done | omega)))); conv => whnf)
      | (refine tst_in ?_ ?_; (focus (intro h_; exfalso; first | omega | ((try simp only [decide_eq_true_eq, decide_eq_false_iff_not] at h_); omega) | (simp [mulSz, Cont.len, bne, n1, n2, n3] at h_; first | done | omega))); intro _; conv => whnf)
      | (refine tst_in ?_ ?_; rotate_left; (focus (intro h_; exfalso; first | omega | ((try simp only [decide_eq_true_eq, decide_eq_false_iff_not] at h_); omega) | (simp [mulSz, Cont.len, bne, n1, n2, n3] at h_; first | done | omega))); intro _; conv => whnf)
      | (refine ⟨0, (show _ = _ by omega), ?_⟩; conv => whnf))
    rw [show 0 + ((k : Int)).toNat = k by omega, m2]
    conv => whnf
    repeat (first
      | (refine And.intro ?_ ?_; (focus (first | omega | decide | exact EqOk.mk (by kernel_rfl) (by kernel_rfl) (by kernel_rfl) | exact Int.natCast_nonneg _ | ((repeat' refine And.intro ?_ ?_) <;> first | omega | exact Int.natCast_nonneg _ | (simp only [i64max, u8max, u16max, u32max, u64max]; omega) | (simp only [mulSz_eq, Cont.len, colsLen, Col.len, List.length_cons, List.length_nil, List.length_replicate, List.length_append]; first | done | omega) | (simp [mulSz, Cont.len, bne]; first | done | omega)))); conv => whnf)
      | (refine tst_in ?_ ?_; (focus (intro h_; exfalso; first | omega | ((try simp only [decide_eq_true_eq, decide_eq_false_iff_not] at h_); omega) | (simp [mulSz, Cont.len, bne] at h_; first | done | omega))); intro _; conv => whnf)
      | (refine tst_in ?_ ?_; rotate_left; (focus (intro h_; exfalso; first | omega | ((try simp only [decide_eq_true_eq, decide_eq_false_iff_not] at h_); omega) | (simp [mulSz, Cont.len, bne] at h_; first | done | omega))); intro _; conv => whnf)
      | (refine ⟨0, (show _ = _ by omega), ?_⟩; conv => whnf))
    refine ⟨_, [5, 2], S1, ?_⟩
    conv => whnf
    iterate 2
     refine And.intro ?_ ?_
     focus
      conv => whnf
      repeat' (first | exact True.intro | rfl | refine And.intro ?_ ?_ | omega)
      all_goals (conv => whnf)
      all_goals (try (first | rfl | omega | (simp; done)))
    conv => whnf
    refine ⟨?_, True.intro⟩
    intro _ _
    conv => whnf
    conv => whnf
    repeat (first
      | (refine And.intro ?_ ?_; (focus (first | omega | decide | exact EqOk.mk (by kernel_rfl) (by kernel_rfl) (by kernel_rfl) | exact Int.natCast_nonneg _ | ((repeat' refine And.intro ?_ ?_) <;> first | omega | exact Int.natCast_nonneg _ | (simp only [i64max, u8max, u16max, u32max, u64max]; omega) | (simp only [mulSz_eq, Cont.len, colsLen, Col.len, List.length_cons, List.length_nil, List.length_replicate, List.length_append]; first | done | omega) | (simp [mulSz, Cont.len, bne]; first | done | omega)))); conv => whnf)
      | (refine tst_in ?_ ?_; (focus (intro h_; exfalso; first | omega | ((try simp only [decide_eq_true_eq, decide_eq_false_iff_not] at h_); omega) | (simp [mulSz, Cont.len, bne] at h_; first | done | omega))); intro _; conv => whnf)
      | (refine tst_in ?_ ?_; rotate_left; (focus (intro h_; exfalso; first | omega | ((try simp only [decide_eq_true_eq, decide_eq_false_iff_not] at h_); omega) | (simp [mulSz, Cont.len, bne] at h_; first | done | omega))); intro _; conv => whnf)
      | (refine ⟨0, (show _ = _ by omega), ?_⟩; conv => whnf))
    refine ⟨_, [5, 2], T2, ?_⟩
    conv => whnf
    iterate 2
     refine And.intro ?_ ?_
     focus
      conv => whnf
      repeat' (first | exact True.intro | rfl | refine And.intro ?_ ?_)
      all_goals (conv => whnf)
      repeat' (first | exact True.intro | rfl | refine And.intro ?_ ?_)
      all_goals (try (first | rfl | omega | (simp; first | done | omega)))
    conv => whnf
    conv => whnf
    repeat (first
      | (refine And.intro ?_ ?_; (focus (first | omega | decide | exact EqOk.mk (by kernel_rfl) (by kernel_rfl) (by kernel_rfl) | exact Int.natCast_nonneg _ | ((repeat' refine And.intro ?_ ?_) <;> first | omega | exact Int.natCast_nonneg _ | (simp only [i64max, u8max, u16max, u32max, u64max]; omega) | (simp only [mulSz_eq, Cont.len, colsLen, Col.len, List.length_cons, List.length_nil, List.length_replicate, List.length_append, n1, n2, n3]; first | done | omega) | (simp [mulSz, Cont.len, bne, n1, n2, n3]; first | done | omega)))); conv => whnf)
      | (refine tst_in ?_ ?_; (focus (intro h_; exfalso; first | omega | ((try simp only [decide_eq_true_eq, decide_eq_false_iff_not] at h_); omega) | (simp [mulSz, Cont.len, bne, n1, n2, n3] at h_; first | done | omega))); intro _; conv => whnf)
      | (refine tst_in ?_ ?_; rotate_left; (focus (intro h_; exfalso; first | omega | ((try simp only [decide_eq_true_eq, decide_eq_false_iff_not] at h_); omega) | (simp [mulSz, Cont.len, bne, n1, n2, n3] at h_; first | done | omega))); intro _; conv => whnf)
      | (refine ⟨0, (show _ = _ by omega), ?_⟩; conv => whnf))
    rw [show 0 + ((m : Int)).toNat = m by omega, m3]
    conv => whnf
    repeat (first
      | (refine And.intro ?_ ?_; (focus (first | omega | decide | exact EqOk.mk (by kernel_rfl) (by kernel_rfl) (by kernel_rfl) | exact Int.natCast_nonneg _ | ((repeat' refine And.intro ?_ ?_) <;> first | omega | exact Int.natCast_nonneg _ | (simp only [i64max, u8max, u16max, u32max, u64max]; omega) | (simp only [mulSz_eq, Cont.len, colsLen, Col.len, List.length_cons, List.length_nil, List.length_replicate, List.length_append]; first | done | omega) | (simp [mulSz, Cont.len, bne]; first | done | omega)))); conv => whnf)
      | (refine tst_in ?_ ?_; (focus (intro h_; exfalso; first | omega | ((try simp only [decide_eq_true_eq, decide_eq_false_iff_not] at h_); omega) | (simp [mulSz, Cont.len, bne] at h_; first | done | omega))); intro _; conv => whnf)
      | (refine tst_in ?_ ?_; rotate_left; (focus (intro h_; exfalso; first | omega | ((try simp only [decide_eq_true_eq, decide_eq_false_iff_not] at h_); omega) | (simp [mulSz, Cont.len, bne] at h_; first | done | omega))); intro _; conv => whnf)
      | (refine ⟨0, (show _ = _ by omega), ?_⟩; conv => whnf))
    rw [Int.toNat_natCast]
    refine ⟨⟨[0, 1, 2, 3, 4, 6], ⟨mkI Q n t.a, t.b, t.a.length, 0⟩, ?_, Nat.zero_le _, n1, fun j hj => absurd hj (by show ¬ j < 0; omega)⟩, ?_⟩
    · show stLe _ _ (stL Q H B F n k m cq ch cb ⟨mkI Q n t.a, t.b, t.a.length, 0⟩) _
      conv => whnf
      repeat' (first | exact True.intro | rfl | refine And.intro ?_ ?_)
      all_goals (conv => whnf)
      repeat' (first | exact True.intro | rfl | refine And.intro ?_ ?_)
      all_goals (try omega)
    · intro (t : LT) ⟨(hi : t.i ≤ n), (hx : t.x.length = n + 1 + t.r), (hj : ∀ j, j < t.i → t.x.getD j 0 = tq F j)⟩
      show forceSt (stL Q H B F n k m cq ch cb t) _
      have n2 := mkB_len t.b hhl
      conv => whnf
      repeat (first
        | (refine And.intro ?_ ?_; (focus (first | omega | decide | exact EqOk.mk (by kernel_rfl) (by kernel_rfl) (by kernel_rfl) | exact Int.natCast_nonneg _ | ((repeat' refine And.intro ?_ ?_) <;> first | omega | exact Int.natCast_nonneg _ | (simp only [i64max, u8max, u16max, u32max, u64max]; omega) | (simp only [mulSz_eq, Cont.len, colsLen, Col.len, List.length_cons, List.length_nil, List.length_replicate, List.length_append]; first | done | omega) | (simp [mulSz, Cont.len, bne]; first | done | omega)))); conv => whnf)
        | (refine tst_in ?_ ?_; (focus (intro h_; exfalso; first | omega | ((try simp only [decide_eq_true_eq, decide_eq_false_iff_not] at h_); omega) | (simp [mulSz, Cont.len, bne] at h_; first | done | omega))); intro _; conv => whnf)
        | (refine tst_in ?_ ?_; rotate_left; (focus (intro h_; exfalso; first | omega | ((try simp only [decide_eq_true_eq, decide_eq_false_iff_not] at h_); omega) | (simp [mulSz, Cont.len, bne] at h_; first | done | omega))); intro _; conv => whnf)
        | (refine ⟨0, (show _ = _ by omega), ?_⟩; conv => whnf))
      refine tst_in (fun hlt => ?_) (fun hge => ?_)
      · skip
        have hlt : t.i < n := by simp at hlt; omega
        obtain ⟨r, hr⟩ : ∃ r, n - t.i = r + 1 := ⟨n - t.i - 1, by omega⟩
        have hX : 0 + ((t.i : Int)).toNat = t.i := by omega
        obtain ⟨v1, v2, v3⟩ := hQ.2 t.i hlt
        have hlen : (tab (tq F) t.i ++ List.replicate (r + 1) (0 : Int)).length = t.i + (r + 1) := by rw [app_len, List.length_replicate]
        have hset := tab_set (tq F) (0 : Int) t.i r
        have hg : (tab (tq F) (t.i + 1) ++ List.replicate r (0 : Int)).getD t.i 0 = tq F t.i := tab_app _ _ _ (by omega)
        have hw : 0 ≤ IntKind.u8.wrap (F t.i + 1) ∧ IntKind.u8.wrap (F t.i + 1) ≤ 255 := by rw [u8wrap]; omega
        rw [hr]
        conv => whnf
        repeat (first
          | (refine And.intro ?_ ?_; (focus (first | omega | decide | exact EqOk.mk (by kernel_rfl) (by kernel_rfl) (by kernel_rfl) | exact Int.natCast_nonneg _ | ((repeat' refine And.intro ?_ ?_) <;> first | omega | exact Int.natCast_nonneg _ | (simp only [i64max, u8max, u16max, u32max, u64max]; omega) | (simp only [mulSz_eq, Cont.len, colsLen, Col.len, List.length_cons, List.length_nil, List.length_replicate, List.length_append]; first | done | omega) | (simp [mulSz, Cont.len, bne]; first | done | omega)))); conv => whnf)
          | (refine tst_in ?_ ?_; (focus (intro h_; exfalso; first | omega | ((try simp only [decide_eq_true_eq, decide_eq_false_iff_not] at h_); omega) | (simp [mulSz, Cont.len, bne] at h_; first | done | omega))); intro _; conv => whnf)
          | (refine tst_in ?_ ?_; rotate_left; (focus (intro h_; exfalso; first | omega | ((try simp only [decide_eq_true_eq, decide_eq_false_iff_not] at h_); omega) | (simp [mulSz, Cont.len, bne] at h_; first | done | omega))); intro _; conv => whnf)
          | (refine ⟨0, (show _ = _ by omega), ?_⟩; conv => whnf))
        rw [hX, v1]
        conv => whnf
        repeat (first
          | (refine And.intro ?_ ?_; (focus (first | omega | decide | exact EqOk.mk (by kernel_rfl) (by kernel_rfl) (by kernel_rfl) | exact Int.natCast_nonneg _ | ((repeat' refine And.intro ?_ ?_) <;> first | omega | exact Int.natCast_nonneg _ | (simp only [i64max, u8max, u16max, u32max, u64max]; omega) | (simp only [mulSz_eq, Cont.len, colsLen, Col.len, List.length_cons, List.length_nil, List.length_replicate, List.length_append, u8max, hlen]; first | done | omega) | (simp [mulSz, Cont.len, bne, u8max, hlen]; first | done | omega)))); conv => whnf)
          | (refine tst_in ?_ ?_; (focus (intro h_; exfalso; first | omega | ((try simp only [decide_eq_true_eq, decide_eq_false_iff_not] at h_); omega) | (simp [mulSz, Cont.len, bne, u8max, hlen] at h_; first | done | omega))); intro _; conv => whnf)
          | (refine tst_in ?_ ?_; rotate_left; (focus (intro h_; exfalso; first | omega | ((try simp only [decide_eq_true_eq, decide_eq_false_iff_not] at h_); omega) | (simp [mulSz, Cont.len, bne, u8max, hlen] at h_; first | done | omega))); intro _; conv => whnf)
          | (refine ⟨0, (show _ = _ by omega), ?_⟩; conv => whnf))
        have hwq : IntKind.u8.wrap (F t.i + 1) % 4 = tq F t.i := by rw [u8wrap]; rfl
        refine ⟨[0, 1, 2, 3, 4, 5], ⟨t.x.set t.i (tq F t.i), t.b, t.r, t.i + 1⟩, ?_, ⟨(by show t.i + 1 ≤ n; omega), (by show (t.x.set _ _).length = _; rw [List.length_set]; exact hx), fun j (hj2 : j < t.i + 1) => ?_⟩, (by show n - (t.i + 1) < n - t.i; omega)⟩
        · show stLe _ _ (stL Q H B F n k m cq ch cb ⟨t.x.set t.i (tq F t.i), t.b, t.r, t.i + 1⟩) _
          unfold stL
          dsimp only
          rw [show n - (t.i + 1) = r by omega]
          conv => whnf
          repeat' (first | exact True.intro | rfl | refine And.intro ?_ ?_)
          all_goals (conv => whnf)
          repeat' (first | exact True.intro | rfl | refine And.intro ?_ ?_)
          all_goals (try omega)
          all_goals (first | exact (by rw [hX, hwq, hset, hg]) | exact (by rw [hX, hwq, hset]) | omega | skip)
        · show (t.x.set t.i (tq F t.i)).getD j 0 = tq F j
          rw [set_get _ _ _ _ (by omega)]
          by_cases h : j = t.i
          · rw [if_pos h, h]
          · rw [if_neg h]; exact hj j (by omega)
      · skip
        have hge : t.i = n := by simp at hge; omega
        have R2 := rows_f ⟨t.x, mkB H k t.b, tab (tq F) n, H, n, k, n + 1 + t.r, k + 1 + t.b.length, n, ch⟩ (tq F) G
          ⟨⟨by show n ≤ t.x.length; omega, fun i (hi : i < n) => ⟨hj i (by omega), by show 0 ≤ tq F i ∧ tq F i ≤ 255; unfold tq; omega⟩⟩, ⟨by show n ≤ (tab (tq F) n).length; rw [tab_len]; omega, fun i (hi : i < n) => ⟨tab_get _ _ hi, by show 0 ≤ tq F i ∧ tq F i ≤ 255; unfold tq; omega⟩⟩,
           ⟨by show k ≤ (mkB H k t.b).length; omega, fun i (hi : i < k) => by rw [mkB_get t.b hhl i hi]; exact hH.2 i hi⟩, hH, hn, hk⟩
        unfold HP.args HP.segs at R2
        dsimp only at R2
        rw [hge, Nat.sub_self]
        conv => whnf
        repeat (first
          | (refine And.intro ?_ ?_; (focus (first | omega | decide | exact EqOk.mk (by kernel_rfl) (by kernel_rfl) (by kernel_rfl) | exact Int.natCast_nonneg _ | ((repeat' refine And.intro ?_ ?_) <;> first | omega | exact Int.natCast_nonneg _ | (simp only [i64max, u8max, u16max, u32max, u64max]; omega) | (simp only [mulSz_eq, Cont.len, colsLen, Col.len, List.length_cons, List.length_nil, List.length_replicate, List.length_append]; first | done | omega) | (simp [mulSz, Cont.len, bne]; first | done | omega)))); conv => whnf)
          | (refine tst_in ?_ ?_; (focus (intro h_; exfalso; first | omega | ((try simp only [decide_eq_true_eq, decide_eq_false_iff_not] at h_); omega) | (simp [mulSz, Cont.len, bne] at h_; first | done | omega))); intro _; conv => whnf)
          | (refine tst_in ?_ ?_; rotate_left; (focus (intro h_; exfalso; first | omega | ((try simp only [decide_eq_true_eq, decide_eq_false_iff_not] at h_); omega) | (simp [mulSz, Cont.len, bne] at h_; first | done | omega))); intro _; conv => whnf)
          | (refine ⟨0, (show _ = _ by omega), ?_⟩; conv => whnf))
        rw [show tab (tq F) n ++ List.replicate 0 (0 : Int) = tab (tq F) n from List.append_nil _]
        refine ⟨_, [3, 4, 5, 1], R2, ?_⟩
        conv => whnf
        iterate 2
         refine And.intro ?_ ?_
         focus
          conv => whnf
          repeat' (first | exact True.intro | rfl | refine And.intro ?_ ?_ | omega)
          all_goals (conv => whnf)
          all_goals (try (first | rfl | omega | (simp; done)))
        conv => whnf
        refine ⟨?_, True.intro⟩
        intro _ _
        conv => whnf
        conv => whnf
        repeat (first
          | (refine And.intro ?_ ?_; (focus (first | omega | decide | exact EqOk.mk (by kernel_rfl) (by kernel_rfl) (by kernel_rfl) | exact Int.natCast_nonneg _ | ((repeat' refine And.intro ?_ ?_) <;> first | omega | exact Int.natCast_nonneg _ | (simp only [i64max, u8max, u16max, u32max, u64max]; omega) | (simp only [mulSz_eq, Cont.len, colsLen, Col.len, List.length_cons, List.length_nil, List.length_replicate, List.length_append]; first | done | omega) | (simp [mulSz, Cont.len, bne]; first | done | omega)))); conv => whnf)
          | (refine tst_in ?_ ?_; (focus (intro h_; exfalso; first | omega | ((try simp only [decide_eq_true_eq, decide_eq_false_iff_not] at h_); omega) | (simp [mulSz, Cont.len, bne] at h_; first | done | omega))); intro _; conv => whnf)
          | (refine tst_in ?_ ?_; rotate_left; (focus (intro h_; exfalso; first | omega | ((try simp only [decide_eq_true_eq, decide_eq_false_iff_not] at h_); omega) | (simp [mulSz, Cont.len, bne] at h_; first | done | omega))); intro _; conv => whnf)
          | (refine ⟨0, (show _ = _ by omega), ?_⟩; conv => whnf))
        refine ⟨_, [], awake_f, ?_⟩
        conv => whnf
        iterate 2
         refine And.intro ?_ ?_
         focus
          conv => whnf
          repeat' (first | exact True.intro | rfl | refine And.intro ?_ ?_ | omega)
          all_goals (conv => whnf)
          all_goals (try (first | rfl | omega | (simp; done)))
        conv => whnf
        refine ⟨?_, True.intro⟩
        intro _ _
        conv => whnf
        conv => whnf
        repeat (first
          | (refine And.intro ?_ ?_; (focus (first | omega | decide | exact EqOk.mk (by kernel_rfl) (by kernel_rfl) (by kernel_rfl) | exact Int.natCast_nonneg _ | ((repeat' refine And.intro ?_ ?_) <;> first | omega | exact Int.natCast_nonneg _ | (simp only [i64max, u8max, u16max, u32max, u64max]; omega) | (simp only [mulSz_eq, Cont.len, colsLen, Col.len, List.length_cons, List.length_nil, List.length_replicate, List.length_append]; first | done | omega) | (simp [mulSz, Cont.len, bne]; first | done | omega)))); conv => whnf)
          | (refine tst_in ?_ ?_; (focus (intro h_; exfalso; first | omega | ((try simp only [decide_eq_true_eq, decide_eq_false_iff_not] at h_); omega) | (simp [mulSz, Cont.len, bne] at h_; first | done | omega))); intro _; conv => whnf)
          | (refine tst_in ?_ ?_; rotate_left; (focus (intro h_; exfalso; first | omega | ((try simp only [decide_eq_true_eq, decide_eq_false_iff_not] at h_); omega) | (simp [mulSz, Cont.len, bne] at h_; first | done | omega))); intro _; conv => whnf)
          | (refine ⟨0, (show _ = _ by omega), ?_⟩; conv => whnf))
        refine .inl ⟨(), [0, 1, 2], ?_⟩
        conv => whnf
        repeat' (first | exact True.intro | rfl | refine And.intro ?_ ?_)
        all_goals (conv => whnf)
        repeat' (first | exact True.intro | rfl | refine And.intro ?_ ?_)
        all_goals (try omega)
end Go.Proofs.Yteefbedjblppiaa

set_option linter.unusedVariables false
set_option linter.unusedSimpArgs false
namespace Go.Proofs.Yteefbedjblppiaa
open Go Go.Fw
def lawSpec (n0 c0 : Nat) (g0 : Nat → Int) (n1 c1 : Nat) (g1 : Nat → Bool) (n2 c2 : Nat) (g2 : Nat → Bool) : FSpec :=
  ⟨[.slice 0 0 n0 c0, .slice 1 0 n1 c1, .slice 2 0 n2 c2], [.seg false (.ints .u8 ((List.range c0).map g0)), .seg false (.bools ((List.range c1).map g1)), .seg false (.bools ((List.range c2).map g2))], [⟨Unit, fun _ => True, fun _ => .bool true, fun _ => [.dead, .dead, .dead]⟩]⟩
theorem wf_byt {x : Int} (h : (Lit.int .u8 x).wf = true) : byt x := by
  simp [Lit.wf, IntKind.min, IntKind.max, IntKind.signed, IntKind.bits] at h
  unfold byt; omega
theorem law_m (n0 c0 : Nat) (g0 : Nat → Int) (n1 c1 : Nat) (g1 : Nat → Bool) (n2 c2 : Nat) (g2 : Nat → Bool) (hn0 : n0 ≤ c0) (hb0 : c0 * 1 ≤ reachBytes) (hw0 : ∀ i, i < c0 → (Lit.int .u8 (g0 i)).wf = true) (hn1 : n1 ≤ c1) (hb1 : c1 * 1 ≤ reachBytes) (hn2 : n2 ≤ c2) (hb2 : c2 * 1 ≤ reachBytes) : Fits Try.prog 3 (lawSpec n0 c0 g0 n1 c1 g1 n2 c2 g2) :=
  law_f (tab g0 c0) (tab g1 c1) (tab g2 c2) g0 g1 g2 n0 n1 n2 c0 c1 c2 ⟨by rw [tab_len]; exact hn0, fun i hi => ⟨tab_get _ _ (by omega), wf_byt (hw0 i (by omega))⟩⟩
    ⟨by rw [tab_len]; exact hn1, fun i hi => tab_get _ _ (by omega)⟩ ⟨by rw [tab_len]; exact hn2, fun i hi => tab_get _ _ (by omega)⟩
    (by unfold reachBytes at hb0; omega) (by unfold reachBytes at hb1; omega) (by unfold reachBytes at hb2; omega)
end Go.Proofs.Yteefbedjblppiaa

namespace Go.Proofs.Yteefbedjblppiaa
open Go Go.Fw
namespace turnsRows
open Go.ChangeShapes Go.WideShapes Go.ChangeAt Go.RowKit
theorem own : ownKnob Try.prog.godebug = none := by kernel_rfl
theorem laid : laidOutB Try.prog = true := by kernel_rfl

set_option maxRecDepth 100000 in
theorem lifted (os : Os) (started : os.Started) (H : Type) (enc : TypeId × Value → H) :
    ReturnsInHanded {} Try.checked os 3 .any (Rows.turnsRowsSpec.pre6 enc Try.prog Try.f3 Rows.turnsRowsRow.domain false) (Rows.turnsRowsSpec.post enc Try.prog Try.f3 false true false false) := by
  refine returnsInHanded_of_change_sized (C := Try.checked) own started (by kernel_rfl) Try.func3
    (ChangeSpec.witness6 (enc := enc) (C := Try.checked) false ⟨#[], #[.slice none 0 0, .slice none 0 0, .slice none 0 0], []⟩ 8 (by kernel_rfl) (by kernel_rfl) (by kernel_rfl) (by kernel_rfl)) ?_
  intro W base args ds gs before hval0 hW _ hsz0 _
  have hsz : (DataW.weightsEach Try.prog (Try.f3.params.toList ++ Rows.turnsRowsSpec.plain.varTypes Try.prog) (ds ++ gs)).all (· ≤ reachBytes) = true := hsz0
  clear hsz0
  have hval : ∀ (j : Nat) t v, Try.f3.params[j]? = some t → args[j]? = some v → Value.okWide Try.prog W .any base t v := hval0
  have hW' := hW
  obtain ⟨p, q, hA0, hV, rfl, hfz, hnd⟩ := hW
  have hA : DataW.TrodAll enc Try.prog W 0 (fun _ => true) true Try.f3.params.toList args.toList ds p := hA0
  rw [Try.params3] at hA hval hsz
  obtain ⟨v0, vs0, d0, ds0, p0, q0, hargs, rfl, rfl, h0, r0⟩ := trodAll_cons hA
  obtain ⟨v1, vs1, d1, ds1, p1, q1, rfl, rfl, rfl, h1, r1⟩ := trodAll_cons r0
  obtain ⟨v2, vs2, d2, ds2, p2, q2, rfl, rfl, rfl, h2, r2⟩ := trodAll_cons r1
  obtain ⟨rfl, rfl, rfl⟩ := trodAll_nil r2
  obtain rfl : args = #[v0, v1, v2] := by cases args; simp_all
  obtain ⟨rfl, rfl⟩ := trodVars_none hV
  obtain ⟨a0, la0, z0, hv0⟩ := okWide_slice Try.underlying22 (hval 0 22 v0 rfl rfl)
  obtain ⟨c0c0, t0_0, e0_0, l0_0, e0_1⟩ : LeafsAre W [.row 1 [.int .u8]] v0.cells.toList := arg_open 12 (by kernel_rfl) h0 (fine_of (j := 0) hsz rfl rfl)
  subst e0_1
  obtain rfl : v0 = c0c0 := by subst hv0; simpa [Value.cells] using e0_0
  obtain ⟨n0_0, c0_0, g0_0, pl0_0, hn0_0, hb0_0, hw0_0, hc0_0⟩ := row_nums l0_0
  obtain ⟨a1, la1, z1, hv1⟩ := okWide_slice Try.underlying23 (hval 1 23 v1 rfl rfl)
  obtain ⟨c1c0, t1_0, e1_0, l1_0, e1_1⟩ : LeafsAre W [.row 1 [.bool]] v1.cells.toList := arg_open 12 (by kernel_rfl) h1 (fine_of (j := 1) hsz rfl rfl)
  subst e1_1
  obtain rfl : v1 = c1c0 := by subst hv1; simpa [Value.cells] using e1_0
  obtain ⟨n1_0, c1_0, g1_0, pl1_0, hn1_0, hb1_0, hc1_0⟩ := row_bools l1_0
  obtain ⟨a2, la2, z2, hv2⟩ := okWide_slice Try.underlying23 (hval 2 23 v2 rfl rfl)
  obtain ⟨c2c0, t2_0, e2_0, l2_0, e2_1⟩ : LeafsAre W [.row 1 [.bool]] v2.cells.toList := arg_open 12 (by kernel_rfl) h2 (fine_of (j := 2) hsz rfl rfl)
  subst e2_1
  obtain rfl : v2 = c2c0 := by subst hv2; simpa [Value.cells] using e2_0
  obtain ⟨n2_0, c2_0, g2_0, pl2_0, hn2_0, hb2_0, hc2_0⟩ := row_bools l2_0
  clear hA0 hval0
  obtain ⟨dd0_0, cc0_0⟩ := hc0_0 [pl0_0, pl1_0, pl2_0] 0 (by simp) rfl
  obtain ⟨dd1_0, cc1_0⟩ := hc1_0 [pl0_0, pl1_0, pl2_0] 1 (by simp) rfl
  obtain ⟨dd2_0, cc2_0⟩ := hc2_0 [pl0_0, pl1_0, pl2_0] 2 (by simp) rfl
  have walk := (law_m n0_0 c0_0 g0_0 n1_0 c1_0 g1_0 n2_0 c2_0 g2_0 hn0_0 hb0_0 hw0_0 hn1_0 hb1_0 hn2_0 hb2_0).calls W [pl0_0, pl1_0, pl2_0] [v0, v1, v2] (heap_args rfl fun i s hs => by
      match i, hs with
      | 0, hs => simp only [lawSpec, List.getElem?_cons_zero, Option.some.injEq] at hs; subst hs; exact ⟨_, rfl, cc0_0⟩
      | 1, hs => simp only [lawSpec, List.getElem?_cons_succ, List.getElem?_cons_zero, Option.some.injEq] at hs; subst hs; exact ⟨_, rfl, cc1_0⟩
      | 2, hs => simp only [lawSpec, List.getElem?_cons_succ, List.getElem?_cons_zero, Option.some.injEq] at hs; subst hs; exact ⟨_, rfl, cc2_0⟩
      | i + 3, hs => simp [lawSpec] at hs) (by simp only [lawSpec, Dens]; exact ⟨_, _, rfl, dd0_0, ⟨_, _, rfl, dd1_0, ⟨_, _, rfl, dd2_0, rfl⟩⟩⟩) (x := .bool true) (v := .bool true) rfl (by
      intro o ho y hy
      simp [lawSpec] at ho
      subst ho; rfl)
  refine walk.mono fun e W' ⟨he, hg⟩ => ?_
  subst he
  exact ⟨_, rfl, law_done laid rfl rfl Try.underlying4 (by kernel_rfl) hW' rfl hg⟩

theorem over : Rows.turnsRowsRow.holds Try.pinned (OpenSpec.ofChange Rows.turnsRowsSpec) :=
  OpenClaim.holds_of_wide 3 Try.f3 rfl rfl rfl rfl rfl rfl rfl ⟨rfl, rfl, rfl, rfl, rfl⟩ rfl rfl rfl rfl rfl (by kernel_rfl) Try.func3 (by kernel_rfl)
    (of_decide_eq_true (by kernel_rfl)) (by unfold Func.isWrapper; first | (rw [if_pos (by decide +kernel)]; kernel_rfl) | (rw [if_neg (by decide +kernel)]; exact ⟨rfl, rfl⟩))
    (fun os started H enc _ => lifted os started H enc)

theorem proved : Rows.TurnsRowsSaid := over
end turnsRows
end Go.Proofs.Yteefbedjblppiaa
