import PyProof.Rows.All
import Wide.All
import OpenK.AllK
import Wide.FinOn
import HandS.ForMost
import HandS.IsInst
import HandS.Conv
import HandS.Style
import HandS.Wide
import HandS.SortInts
import HandS.ForExc
import HandS.SetFor
import HandS.Walk
import PySem.Challenge.RW_leftreturn_k04_whole_schedules_continued
set_option Elab.async false
set_option linter.all false
set_option maxRecDepth 100000
set_option maxHeartbeats 4000000
namespace LR
/-! the mirror: a shelf, stp by stp -/
abbrev Op := Bool × Int
structure Sim where
  books : List (Option Int)
  out : List Int
  filled : List Int
  most : Int
def rangeI (n : Nat) : List Int := (List.range n).map fun k : Nat => (k : Int)
def simInit (n : Nat) : Sim := ⟨(rangeI n).map some, [], [], 0⟩
def gap (l : List (Option Int)) : Nat := l.idxOf none
def mx (i j : Int) : Int := if j > i then j else i
def stp (s : Sim) (o : Op) : Option Sim :=
  if o.1 = true then
    if 0 ≤ o.2 then
      match s.books[o.2.toNat]? with
      | some (some b) => some ⟨s.books.set o.2.toNat none, s.out ++ [b], s.filled, mx s.most ((s.out ++ [b]).length : Nat)⟩
      | _ => none
    else none
  else if o.2 ∈ s.out then some ⟨s.books.set (gap s.books) (some o.2), s.out.erase o.2, s.filled ++ [(gap s.books : Int)], mx s.most ((s.out.erase o.2).length : Nat)⟩
  else none
def run (s : Sim) : List Op → Option Sim
  | [] => some s
  | o :: os => (stp s o).bind fun t => run t os
theorem run_nil {s : Sim} : run s [] = some s := rfl
theorem run_append {s : Sim} {a b : List Op} : run s (a ++ b) = (run s a).bind fun t => run t b := by
  induction a generalizing s with
  | nil => rfl
  | cons o os ih =>
    show (stp s o).bind (fun t => run t (os ++ b)) = ((stp s o).bind fun t => run t os).bind fun t => run t b
    cases stp s o with
    | none => rfl
    | some t => exact ih
theorem run_snoc {s t u : Sim} {a : List Op} {o : Op} (h : run s a = some t) (h2 : stp t o = some u) : run s (a ++ [o]) = some u := by
  rw [run_append, h]
  show (stp t o).bind _ = _
  rw [h2]; rfl
theorem run_take {s e : Sim} {ops : List Op} (h : run s ops = some e) (i : Nat) : ∃ t, run s (ops.take i) = some t ∧ run t (ops.drop i) = some e := by
  have h2 : run s (ops.take i ++ ops.drop i) = some e := by rw [List.take_append_drop]; exact h
  rw [run_append] at h2
  cases q : run s (ops.take i) with
  | none => rw [q] at h2; cases h2
  | some t => rw [q] at h2; exact ⟨t, rfl, h2⟩
theorem run_stp {s e : Sim} {ops : List Op} (h : run s ops = some e) {i : Nat} {o : Op} (hi : ops[i]? = some o) : ∃ t u, run s (ops.take i) = some t ∧ stp t o = some u ∧ run s (ops.take (i + 1)) = some u := by
  obtain ⟨t, h1, h2⟩ := run_take h i
  obtain ⟨hl, e1⟩ := List.getElem?_eq_some_iff.mp hi
  have e2 : ops.drop i = o :: ops.drop (i + 1) := by rw [List.drop_eq_getElem_cons hl, e1]
  rw [e2] at h2
  have h3 : (stp t o).bind (fun u => run u (ops.drop (i + 1))) = some e := h2
  cases q : stp t o with
  | none => rw [q] at h3; cases h3
  | some u =>
    refine ⟨t, u, h1, q, ?_⟩
    rw [List.take_add_one, hi]
    exact run_snoc h1 q
/-! ### what is always so -/
structure Good (n : Nat) (s : Sim) : Prop where
  len : s.books.length = n
  perm : (s.books.filterMap id ++ s.out).Perm (rangeI n)
  out_le : (s.out.length : Int) ≤ s.most
theorem rangeI_length (n : Nat) : (rangeI n).length = n := by simp [rangeI]
theorem rangeI_nodup (n : Nat) : (rangeI n).Nodup := by
  unfold rangeI
  refine List.Pairwise.map _ (fun a b h => ?_) (List.nodup_range (n := n))
  intro e; exact h (Int.ofNat.inj e)
theorem rangeI_sorted (n : Nat) : (rangeI n).Pairwise (· ≤ ·) := by
  unfold rangeI
  refine List.Pairwise.map _ (fun a b h => ?_) (List.pairwise_lt_range (n := n))
  exact Int.ofNat_le.mpr (Nat.le_of_lt h)
theorem rangeI_get {n k : Nat} (h : k < n) : (rangeI n)[k]? = some (k : Int) := by
  unfold rangeI
  rw [List.getElem?_map, List.getElem?_range h]; rfl
theorem mem_rangeI {n : Nat} {x : Int} : x ∈ rangeI n ↔ 0 ≤ x ∧ x < n := by
  unfold rangeI
  rw [List.mem_map]
  constructor
  · rintro ⟨k, hk, rfl⟩
    have := List.mem_range.mp hk
    omega
  · intro ⟨h1, h2⟩
    exact ⟨x.toNat, List.mem_range.mpr (by omega), by omega⟩
theorem rangeI_succ (n : Nat) : rangeI (n + 1) = rangeI n ++ [(n : Int)] := by
  unfold rangeI
  rw [List.range_succ, List.map_append]; rfl
theorem fm_some (l : List Int) : (l.map some).filterMap id = l := by
  induction l with
  | nil => rfl
  | cons a r ih => show a :: (r.map some).filterMap id = a :: r; rw [ih]
theorem good_init (n : Nat) : Good n (simInit n) := by
  refine ⟨?_, ?_, ?_⟩
  · show ((rangeI n).map some).length = n
    rw [List.length_map, rangeI_length]
  · show (((rangeI n).map some).filterMap id ++ []).Perm _
    rw [List.append_nil, fm_some]
  · show ((0 : Nat) : Int) ≤ 0
    decide
theorem fm_set_none {b : Int} : ∀ {l : List (Option Int)} {p : Nat}, l[p]? = some (some b) → (b :: (l.set p none).filterMap id).Perm (l.filterMap id)
  | [], p, h => by simp at h
  | a :: r, 0, h => by
    have e : a = some b := Option.some.inj h
    subst e
    exact List.Perm.refl _
  | none :: r, p + 1, h => fm_set_none (l := r) (p := p) h
  | some a :: r, p + 1, h => by
    have ih := fm_set_none (l := r) (p := p) h
    show (b :: a :: (r.set p none).filterMap id).Perm (a :: r.filterMap id)
    exact (List.Perm.swap a b _).trans (ih.cons a)
theorem fm_set_some {b : Int} : ∀ {l : List (Option Int)} {p : Nat}, l[p]? = some none → ((l.set p (some b)).filterMap id).Perm (b :: l.filterMap id)
  | [], p, h => by simp at h
  | a :: r, 0, h => by
    have e : a = none := Option.some.inj h
    subst e
    exact List.Perm.refl _
  | none :: r, p + 1, h => fm_set_some (l := r) (p := p) h
  | some a :: r, p + 1, h => by
    have ih := fm_set_some (b := b) (l := r) (p := p) h
    show (a :: (r.set p (some b)).filterMap id).Perm (b :: a :: r.filterMap id)
    exact (ih.cons a).trans (List.Perm.swap b a _)
theorem fm_full : ∀ {l : List (Option Int)}, none ∉ l → (l.filterMap id).length = l.length
  | [], _ => rfl
  | none :: r, h => absurd List.mem_cons_self h
  | some a :: r, h => by
    show ((a :: r.filterMap id)).length = (some a :: r).length
    rw [List.length_cons, List.length_cons, fm_full fun q => h (List.mem_cons_of_mem _ q)]
theorem fm_len (l : List (Option Int)) : (l.filterMap id).length ≤ l.length := List.length_filterMap_le _ _
theorem gap_lt {l : List (Option Int)} (h : none ∈ l) : gap l < l.length := List.idxOf_lt_length_iff.mpr h
theorem gap_get {l : List (Option Int)} (h : none ∈ l) : l[gap l]? = some none := by
  have h1 := gap_lt h
  rw [List.getElem?_eq_getElem h1]
  have h2 := List.findIdx_getElem (p := (· == none)) (xs := l) (w := h1)
  exact congrArg some (eq_of_beq h2)
theorem gap_least : ∀ {l : List (Option Int)} {k : Nat}, l[k]? = some none → gap l ≤ k
  | [], k, h => by simp at h
  | none :: r, k, h => by unfold gap; rw [List.idxOf_cons]; simp
  | some a :: r, 0, h => by cases h
  | some a :: r, k + 1, h => by
    have ih := gap_least (l := r) (k := k) h
    unfold gap at ih ⊢
    rw [List.idxOf_cons]
    simp
    exact ih
theorem gap_before {l : List (Option Int)} {k : Nat} {x : Option Int} (hk : k < gap l) (h : l[k]? = some x) : x ≠ none := by
  intro e
  subst e
  exact absurd (gap_least h) (Nat.not_le.mpr hk)
theorem Good.gap {n : Nat} {s : Sim} (g : Good n s) {b : Int} (hb : b ∈ s.out) : none ∈ s.books := by
  refine Classical.byContradiction fun h => ?_
  have h1 := fm_full h
  have h2 := g.perm.length_eq
  rw [List.length_append, rangeI_length, h1, g.len] at h2
  have h3 : s.out.length = 0 := by omega
  rw [List.eq_nil_of_length_eq_zero h3] at hb
  cases hb
theorem mx_ge (i j : Int) : i ≤ mx i j ∧ j ≤ mx i j := by unfold mx; split <;> omega
theorem stp_take {s u : Sim} {p : Int} (h : stp s (true, p) = some u) : 0 ≤ p ∧ ∃ b, s.books[p.toNat]? = some (some b) ∧ u = ⟨s.books.set p.toNat none, s.out ++ [b], s.filled, mx s.most ((s.out ++ [b]).length : Nat)⟩ := by
  unfold stp at h
  rw [if_pos rfl] at h
  by_cases hp : 0 ≤ p
  · rw [if_pos (show 0 ≤ ((true, p) : Op).2 from hp)] at h
    refine ⟨hp, ?_⟩
    dsimp only at h
    split at h
    · rename_i b e
      exact ⟨b, e, (Option.some.inj h).symm⟩
    · cases h
  · rw [if_neg (show ¬ 0 ≤ ((true, p) : Op).2 from hp)] at h
    cases h
theorem stp_take_of {s : Sim} {p : Int} {b : Int} (hp : 0 ≤ p) (e : s.books[p.toNat]? = some (some b)) : stp s (true, p) = some ⟨s.books.set p.toNat none, s.out ++ [b], s.filled, mx s.most ((s.out ++ [b]).length : Nat)⟩ := by
  unfold stp
  rw [if_pos rfl, if_pos (show 0 ≤ ((true, p) : Op).2 from hp)]
  dsimp only
  rw [e]
theorem stp_ret {s u : Sim} {b : Int} (h : stp s (false, b) = some u) : b ∈ s.out ∧ u = ⟨s.books.set (gap s.books) (some b), s.out.erase b, s.filled ++ [(gap s.books : Int)], mx s.most ((s.out.erase b).length : Nat)⟩ := by
  unfold stp at h
  rw [if_neg (show ¬ ((false, b) : Op).1 = true from Bool.false_ne_true)] at h
  by_cases hb : b ∈ s.out
  · rw [if_pos (show ((false, b) : Op).2 ∈ s.out from hb)] at h
    exact ⟨hb, (Option.some.inj h).symm⟩
  · rw [if_neg (show ¬ ((false, b) : Op).2 ∈ s.out from hb)] at h
    cases h
theorem stp_ret_of {s : Sim} {b : Int} (hb : b ∈ s.out) : stp s (false, b) = some ⟨s.books.set (gap s.books) (some b), s.out.erase b, s.filled ++ [(gap s.books : Int)], mx s.most ((s.out.erase b).length : Nat)⟩ := by
  unfold stp
  rw [if_neg (show ¬ ((false, b) : Op).1 = true from Bool.false_ne_true), if_pos (show ((false, b) : Op).2 ∈ s.out from hb)]
theorem good_stp {n : Nat} {s u : Sim} {o : Op} (g : Good n s) (h : stp s o = some u) : Good n u := by
  obtain ⟨w, x⟩ := o
  cases w with
  | true =>
    obtain ⟨hp, b, e, rfl⟩ := stp_take h
    refine ⟨?_, ?_, ?_⟩
    · show (s.books.set _ none).length = n
      rw [List.length_set]; exact g.len
    · show ((s.books.set x.toNat none).filterMap id ++ (s.out ++ [b])).Perm _
      refine List.Perm.trans ?_ g.perm
      have h1 := fm_set_none e
      rw [← List.append_assoc]
      refine (List.perm_append_singleton b _).trans ?_
      exact List.Perm.append_right s.out h1
    · exact (mx_ge _ _).2
  | false =>
    obtain ⟨hb, rfl⟩ := stp_ret h
    have hg := g.gap hb
    refine ⟨?_, ?_, ?_⟩
    · show (s.books.set _ _).length = n
      rw [List.length_set]; exact g.len
    · show ((s.books.set (LR.gap s.books) (some x)).filterMap id ++ s.out.erase x).Perm _
      refine List.Perm.trans ?_ g.perm
      have h1 := fm_set_some (b := x) (gap_get hg)
      refine (List.Perm.append_right _ h1).trans ?_
      have h2 := List.perm_cons_erase hb
      refine List.Perm.trans ?_ (List.Perm.append_left _ h2.symm)
      exact List.perm_middle.symm
    · exact (mx_ge _ _).2
theorem good_run {n : Nat} {ops : List Op} : ∀ {s e : Sim}, Good n s → run s ops = some e → Good n e := by
  induction ops with
  | nil => intro s e g h; cases h; exact g
  | cons o os ih =>
    intro s e g h
    have h' : (stp s o).bind (fun t => run t os) = some e := h
    cases q : stp s o with
    | none => rw [q] at h'; cases h'
    | some t => rw [q] at h'; exact ih (good_stp g q) h'
theorem Good.nodup {n : Nat} {s : Sim} (g : Good n s) : (s.books.filterMap id ++ s.out).Nodup := g.perm.nodup_iff.mpr (rangeI_nodup n)
/-! ### the filled places and the greatest number -/
def rets (ops : List Op) : Nat := (ops.filter fun o => !o.1).length
theorem stp_grow {s u : Sim} {o : Op} (h : stp s o = some u) : (∃ m, u.filled = s.filled ++ m ∧ m.length = rets [o]) ∧ s.most ≤ u.most := by
  obtain ⟨w, x⟩ := o
  cases w with
  | true =>
    obtain ⟨hp, b, e, rfl⟩ := stp_take h
    exact ⟨⟨[], (List.append_nil _).symm, rfl⟩, (mx_ge _ _).1⟩
  | false =>
    obtain ⟨hb, rfl⟩ := stp_ret h
    exact ⟨⟨_, rfl, rfl⟩, (mx_ge _ _).1⟩
theorem run_grow {ops : List Op} : ∀ {s e : Sim}, run s ops = some e → (∃ m, e.filled = s.filled ++ m ∧ m.length = rets ops) ∧ s.most ≤ e.most := by
  induction ops with
  | nil => intro s e h; cases h; exact ⟨⟨[], (List.append_nil _).symm, rfl⟩, Int.le_refl _⟩
  | cons o os ih =>
    intro s e h
    have h' : (stp s o).bind (fun t => run t os) = some e := h
    cases q : stp s o with
    | none => rw [q] at h'; cases h'
    | some t =>
      rw [q] at h'
      obtain ⟨⟨m1, e1, l1⟩, k1⟩ := stp_grow q
      obtain ⟨⟨m2, e2, l2⟩, k2⟩ := ih h'
      refine ⟨⟨m1 ++ m2, by rw [e2, e1, List.append_assoc], ?_⟩, Int.le_trans k1 k2⟩
      rw [List.length_append, l1, l2]
      unfold rets
      rw [← List.length_append, ← List.filter_append]; rfl
/-! ### a longer shelf -/
def ext (n : Nat) (s : Sim) : Sim := { s with books := s.books ++ [some (n : Int)] }
theorem init_ext (n : Nat) : simInit (n + 1) = ext n (simInit n) := by
  unfold simInit ext
  simp [rangeI_succ]
theorem gap_append {l : List (Option Int)} (h : none ∈ l) (m : List (Option Int)) : gap (l ++ m) = gap l := by
  unfold gap
  rw [List.idxOf_append, if_pos h]
theorem stp_ext {n : Nat} {s u : Sim} {o : Op} (g : Good n s) (h : stp s o = some u) : stp (ext n s) o = some (ext n u) := by
  obtain ⟨w, x⟩ := o
  cases w with
  | true =>
    obtain ⟨hp, b, e, rfl⟩ := stp_take h
    have hl := (List.getElem?_eq_some_iff.mp e).1
    have e2 : (ext n s).books[x.toNat]? = some (some b) := by
      show (s.books ++ _)[x.toNat]? = _
      rw [List.getElem?_append_left hl]; exact e
    rw [stp_take_of hp e2]
    show some (Sim.mk ((s.books ++ [some (n : Int)]).set x.toNat none) _ _ _) = some (Sim.mk (s.books.set x.toNat none ++ [some (n : Int)]) _ _ _)
    rw [List.set_append_left _ _ hl]; rfl
  | false =>
    obtain ⟨hb, rfl⟩ := stp_ret h
    have hg := g.gap hb
    have hl := gap_lt hg
    rw [stp_ret_of (s := ext n s) hb]
    show some (Sim.mk ((s.books ++ [some (n : Int)]).set (LR.gap (s.books ++ [some (n : Int)])) (some x)) _ (s.filled ++ [(LR.gap (s.books ++ [some (n : Int)]) : Int)]) _) = some (Sim.mk (s.books.set (LR.gap s.books) (some x) ++ [some (n : Int)]) _ _ _)
    rw [gap_append hg, List.set_append_left _ _ hl]; rfl
theorem run_ext {n : Nat} {ops : List Op} : ∀ {s e : Sim}, Good n s → run s ops = some e → run (ext n s) ops = some (ext n e) := by
  induction ops with
  | nil => intro s e g h; cases h; rfl
  | cons o os ih =>
    intro s e g h
    have h' : (stp s o).bind (fun t => run t os) = some e := h
    cases q : stp s o with
    | none => rw [q] at h'; cases h'
    | some t =>
      rw [q] at h'
      show (stp (ext n s) o).bind _ = _
      rw [stp_ext g q]
      exact ih (good_stp g q) h'
/-! ### what one stp changes -/
theorem filter_range_eq {n p : Nat} (h : p < n) (f : Nat → Bool) (hf : ∀ k, k < n → (f k = true ↔ k = p)) : (List.range n).filter f = [p] := by
  have h1 : ((List.range n).filter f).Nodup := (List.nodup_range (n := n)).filter _
  refine List.Perm.eq_singleton ?_ |>.symm ▸ rfl
  exact (List.perm_ext_iff_of_nodup h1 (by simp)).mpr fun a => by
    rw [List.mem_filter, List.mem_range, List.mem_singleton]
    constructor
    · intro ⟨a1, a2⟩; exact (hf a a1).mp a2
    · intro e; subst e; exact ⟨h, (hf a h).mpr rfl⟩
theorem set_differs {l : List (Option Int)} {p : Nat} {x v : Option Int} (hp : l[p]? = some x) (hx : x ≠ v) (k : Nat) : l[k]? ≠ (l.set p v)[k]? ↔ k = p := by
  have hl := (List.getElem?_eq_some_iff.mp hp).1
  rw [List.getElem?_set]
  by_cases e : p = k
  · subst e
    rw [if_pos rfl, if_pos hl, hp]
    constructor
    · intro _; rfl
    · intro _ q; exact hx (Option.some.inj q)
  · rw [if_neg e]
    constructor
    · intro q; exact absurd rfl q
    · intro q; exact absurd q.symm e
theorem sorted_eq {l m : List Int} (h : l.Perm m) (h1 : l.Pairwise (· ≤ ·)) (h2 : m.Pairwise (· ≤ ·)) : l = m :=
  List.Perm.eq_of_pairwise (fun a b _ _ h1 h2 => Int.le_antisymm h1 h2) h1 h2 h
end LR

namespace LP
open PySem L2 LR
def topS (i : Nat) : Stmt := PySem.Challenge.pw_leftreturn_k04_whole_schedules_continued.main.body.getD i (.Pass ⟨0, 0, 0, 0⟩)
abbrev s_is_whole : Stmt := topS 7
abbrev s_is_listed : Stmt := topS 8
abbrev s_check_size : Stmt := topS 9
abbrev s_Shelf_init : Stmt := inClass (topS 12) 0
abbrev s_Shelf_can_take : Stmt := inClass (topS 12) 1
abbrev s_Shelf_can_return : Stmt := inClass (topS 12) 2
abbrev s_Shelf_take_from : Stmt := inClass (topS 12) 4
abbrev s_Shelf_first_gap : Stmt := inClass (topS 12) 3
abbrev s_Shelf_put_back : Stmt := inClass (topS 12) 5
abbrev s_can_perform : Stmt := topS 13
abbrev s_run_schedule : Stmt := topS 14
abbrev s_is_schedule : Stmt := topS 15
abbrev s_books_after : Stmt := topS 16
abbrev s_books_out : Stmt := topS 17
abbrev s_places_filled : Stmt := topS 18
abbrev s_most_out : Stmt := topS 19
abbrev s__law_bag : Stmt := topS 21
abbrev s__law_stir : Stmt := topS 22
abbrev s__law_draw : Stmt := topS 23
abbrev s__law_size : Stmt := topS 25
abbrev s__law_schedule : Stmt := topS 26
abbrev s__law_step_right : Stmt := topS 27
abbrev s__law_right : Stmt := topS 28
abbrev s_law : Stmt := topS 29
theorem sc_is_whole : FnScope ["value"] ["value"] (defScope s_is_whole) := ⟨rfl, rfl, rfl, by decide +kernel, rfl, by decide +kernel, by decide +kernel⟩
theorem sc_is_listed : FnScope ["value"] ["value"] (defScope s_is_listed) := ⟨rfl, rfl, rfl, by decide +kernel, rfl, by decide +kernel, by decide +kernel⟩
theorem sc_check_size : FnScope ["size"] ["size"] (defScope s_check_size) := ⟨rfl, rfl, rfl, by decide +kernel, rfl, by decide +kernel, by decide +kernel⟩
theorem sc_Shelf_init : FnScope ["self", "size"] ["self", "size"] (defScope s_Shelf_init) := ⟨rfl, rfl, rfl, by decide +kernel, rfl, by decide +kernel, by decide +kernel⟩
theorem sc_Shelf_can_take : FnScope ["self", "place"] ["self", "place"] (defScope s_Shelf_can_take) := ⟨rfl, rfl, rfl, by decide +kernel, rfl, by decide +kernel, by decide +kernel⟩
theorem sc_Shelf_can_return : FnScope ["self", "book"] ["self", "book"] (defScope s_Shelf_can_return) := ⟨rfl, rfl, rfl, by decide +kernel, rfl, by decide +kernel, by decide +kernel⟩
theorem sc_Shelf_take_from : FnScope ["self", "place", "book"] ["self", "place"] (defScope s_Shelf_take_from) := ⟨rfl, rfl, rfl, by decide +kernel, rfl, by decide +kernel, by decide +kernel⟩
theorem sc_Shelf_first_gap : FnScope ["self"] ["self"] (defScope s_Shelf_first_gap) := ⟨rfl, rfl, rfl, by decide +kernel, rfl, by decide +kernel, by decide +kernel⟩
theorem sc_Shelf_put_back : FnScope ["self", "book", "place"] ["self", "book"] (defScope s_Shelf_put_back) := ⟨rfl, rfl, rfl, by decide +kernel, rfl, by decide +kernel, by decide +kernel⟩
theorem sc_can_perform : FnScope ["shelf", "value", "word", "number"] ["shelf", "value"] (defScope s_can_perform) := ⟨rfl, rfl, rfl, by decide +kernel, rfl, by decide +kernel, by decide +kernel⟩
theorem sc_run_schedule : FnScope ["size", "schedule", "shelf", "filled", "most", "index", "operation", "word", "number"] ["size", "schedule"] (defScope s_run_schedule) := ⟨rfl, rfl, rfl, by decide +kernel, rfl, by decide +kernel, by decide +kernel⟩
theorem sc_is_schedule : FnScope ["size", "value"] ["size", "value"] (defScope s_is_schedule) := ⟨rfl, rfl, rfl, by decide +kernel, rfl, by decide +kernel, by decide +kernel⟩
theorem sc_books_after : FnScope ["size", "schedule", "shelf", "_"] ["size", "schedule"] (defScope s_books_after) := ⟨rfl, rfl, rfl, by decide +kernel, rfl, by decide +kernel, by decide +kernel⟩
theorem sc_books_out : FnScope ["size", "schedule", "shelf", "_"] ["size", "schedule"] (defScope s_books_out) := ⟨rfl, rfl, rfl, by decide +kernel, rfl, by decide +kernel, by decide +kernel⟩
theorem sc_places_filled : FnScope ["size", "schedule", "_", "filled"] ["size", "schedule"] (defScope s_places_filled) := ⟨rfl, rfl, rfl, by decide +kernel, rfl, by decide +kernel, by decide +kernel⟩
theorem sc_most_out : FnScope ["size", "schedule", "_", "most"] ["size", "schedule"] (defScope s_most_out) := ⟨rfl, rfl, rfl, by decide +kernel, rfl, by decide +kernel, by decide +kernel⟩
theorem sc__law_bag : FnScope ["script", "total", "cell"] ["script"] (defScope s__law_bag) := ⟨rfl, rfl, rfl, by decide +kernel, rfl, by decide +kernel, by decide +kernel⟩
theorem sc__law_stir : FnScope ["number", "place", "one", "two"] ["number", "place"] (defScope s__law_stir) := ⟨rfl, rfl, rfl, by decide +kernel, rfl, by decide +kernel, by decide +kernel⟩
theorem sc__law_draw : FnScope ["bag", "bound", "cell", "found"] ["bag", "bound"] (defScope s__law_draw) := ⟨rfl, rfl, rfl, by decide +kernel, rfl, by decide +kernel, by decide +kernel⟩
theorem sc__law_size : FnScope ["bag"] ["bag"] (defScope s__law_size) := ⟨rfl, rfl, rfl, by decide +kernel, rfl, by decide +kernel, by decide +kernel⟩
theorem sc__law_schedule : FnScope ["bag", "size", "most", "books", "out", "found", "share", "step", "places", "place", "book"] ["bag", "size", "most"] (defScope s__law_schedule) := ⟨rfl, rfl, rfl, by decide +kernel, rfl, by decide +kernel, by decide +kernel⟩
theorem sc__law_step_right : FnScope ["size", "rows", "at", "before", "after", "name", "number", "changed", "least", "place"] ["size", "rows", "at"] (defScope s__law_step_right) := ⟨rfl, rfl, rfl, by decide +kernel, rfl, by decide +kernel, by decide +kernel⟩
theorem sc__law_right : FnScope ["bag", "size", "rows", "cut", "books", "out", "filled", "early", "step", "places", "place", "more", "least", "book", "one", "other"] ["bag", "size", "rows"] (defScope s__law_right) := ⟨rfl, rfl, rfl, by decide +kernel, rfl, by decide +kernel, by decide +kernel⟩
theorem sc_law : FnScope ["script", "bag", "turn", "size"] ["script"] (defScope s_law) := ⟨rfl, rfl, rfl, by decide +kernel, rfl, by decide +kernel, by decide +kernel⟩
structure Env (K : PySem.W.Frag) (mg : Str → Option Value) where
  n_len : mg "len" = none
  n_range : mg "range" = none
  n_list : mg "list" = none
  n_tuple : mg "tuple" = none
  n_int : mg "int" = none
  n_bool : mg "bool" = none
  n_str : mg "str" = none
  n_isinstance : mg "isinstance" = none
  n_max : mg "max" = none
  n_min : mg "min" = none
  n_sorted : mg "sorted" = none
  n_enumerate : mg "enumerate" = none
  t_MOST_SIZE : Tok
  g_MOST_SIZE : mg "MOST_SIZE" = some (.int 200 t_MOST_SIZE)
  t_MOST_OPERATIONS : Tok
  g_MOST_OPERATIONS : mg "MOST_OPERATIONS" = some (.int 400 t_MOST_OPERATIONS)
  C_Shelf : Addr
  g_Shelf : mg "Shelf" = some (.ref C_Shelf)
  cl_Shelf : Cls K C_Shelf
  nA_Shelf_books : NoAttr K C_Shelf "books"
  nA_Shelf_out : NoAttr K C_Shelf "out"
  a_is_whole : Addr
  d_is_whole : FuncData
  f_is_whole : Fun K "is_whole" "is_whole" s_is_whole a_is_whole d_is_whole
  b_is_whole : Binds K d_is_whole ["value"] []
  g_is_whole : mg "is_whole" = some (.ref a_is_whole)
  a_is_listed : Addr
  d_is_listed : FuncData
  f_is_listed : Fun K "is_listed" "is_listed" s_is_listed a_is_listed d_is_listed
  b_is_listed : Binds K d_is_listed ["value"] []
  g_is_listed : mg "is_listed" = some (.ref a_is_listed)
  a_check_size : Addr
  d_check_size : FuncData
  f_check_size : Fun K "check_size" "check_size" s_check_size a_check_size d_check_size
  b_check_size : Binds K d_check_size ["size"] []
  g_check_size : mg "check_size" = some (.ref a_check_size)
  a_Shelf_init : Addr
  d_Shelf_init : FuncData
  f_Shelf_init : Fun K "__init__" "Shelf.__init__" s_Shelf_init a_Shelf_init d_Shelf_init
  b_Shelf_init : Binds K d_Shelf_init ["self", "size"] []
  mk_Shelf : Mk K C_Shelf a_Shelf_init
  a_Shelf_can_take : Addr
  d_Shelf_can_take : FuncData
  f_Shelf_can_take : Fun K "can_take" "Shelf.can_take" s_Shelf_can_take a_Shelf_can_take d_Shelf_can_take
  b_Shelf_can_take : Binds K d_Shelf_can_take ["self", "place"] []
  m_Shelf_can_take : Meth K C_Shelf "can_take" a_Shelf_can_take
  a_Shelf_can_return : Addr
  d_Shelf_can_return : FuncData
  f_Shelf_can_return : Fun K "can_return" "Shelf.can_return" s_Shelf_can_return a_Shelf_can_return d_Shelf_can_return
  b_Shelf_can_return : Binds K d_Shelf_can_return ["self", "book"] []
  m_Shelf_can_return : Meth K C_Shelf "can_return" a_Shelf_can_return
  a_Shelf_take_from : Addr
  d_Shelf_take_from : FuncData
  f_Shelf_take_from : Fun K "take_from" "Shelf.take_from" s_Shelf_take_from a_Shelf_take_from d_Shelf_take_from
  b_Shelf_take_from : Binds K d_Shelf_take_from ["self", "place"] []
  m_Shelf_take_from : Meth K C_Shelf "take_from" a_Shelf_take_from
  a_Shelf_first_gap : Addr
  d_Shelf_first_gap : FuncData
  f_Shelf_first_gap : Fun K "first_gap" "Shelf.first_gap" s_Shelf_first_gap a_Shelf_first_gap d_Shelf_first_gap
  b_Shelf_first_gap : Binds K d_Shelf_first_gap ["self"] []
  m_Shelf_first_gap : Meth K C_Shelf "first_gap" a_Shelf_first_gap
  a_Shelf_put_back : Addr
  d_Shelf_put_back : FuncData
  f_Shelf_put_back : Fun K "put_back" "Shelf.put_back" s_Shelf_put_back a_Shelf_put_back d_Shelf_put_back
  b_Shelf_put_back : Binds K d_Shelf_put_back ["self", "book"] []
  m_Shelf_put_back : Meth K C_Shelf "put_back" a_Shelf_put_back
  a_can_perform : Addr
  d_can_perform : FuncData
  f_can_perform : Fun K "can_perform" "can_perform" s_can_perform a_can_perform d_can_perform
  b_can_perform : Binds K d_can_perform ["shelf", "value"] []
  g_can_perform : mg "can_perform" = some (.ref a_can_perform)
  a_run_schedule : Addr
  d_run_schedule : FuncData
  f_run_schedule : Fun K "run_schedule" "run_schedule" s_run_schedule a_run_schedule d_run_schedule
  b_run_schedule : Binds K d_run_schedule ["size", "schedule"] []
  g_run_schedule : mg "run_schedule" = some (.ref a_run_schedule)
  a_is_schedule : Addr
  d_is_schedule : FuncData
  f_is_schedule : Fun K "is_schedule" "is_schedule" s_is_schedule a_is_schedule d_is_schedule
  b_is_schedule : Binds K d_is_schedule ["size", "value"] []
  g_is_schedule : mg "is_schedule" = some (.ref a_is_schedule)
  a_books_after : Addr
  d_books_after : FuncData
  f_books_after : Fun K "books_after" "books_after" s_books_after a_books_after d_books_after
  b_books_after : Binds K d_books_after ["size", "schedule"] []
  g_books_after : mg "books_after" = some (.ref a_books_after)
  a_books_out : Addr
  d_books_out : FuncData
  f_books_out : Fun K "books_out" "books_out" s_books_out a_books_out d_books_out
  b_books_out : Binds K d_books_out ["size", "schedule"] []
  g_books_out : mg "books_out" = some (.ref a_books_out)
  a_places_filled : Addr
  d_places_filled : FuncData
  f_places_filled : Fun K "places_filled" "places_filled" s_places_filled a_places_filled d_places_filled
  b_places_filled : Binds K d_places_filled ["size", "schedule"] []
  g_places_filled : mg "places_filled" = some (.ref a_places_filled)
  a_most_out : Addr
  d_most_out : FuncData
  f_most_out : Fun K "most_out" "most_out" s_most_out a_most_out d_most_out
  b_most_out : Binds K d_most_out ["size", "schedule"] []
  g_most_out : mg "most_out" = some (.ref a_most_out)
  a__law_bag : Addr
  d__law_bag : FuncData
  f__law_bag : Fun K "_law_bag" "_law_bag" s__law_bag a__law_bag d__law_bag
  b__law_bag : Binds K d__law_bag ["script"] []
  g__law_bag : mg "_law_bag" = some (.ref a__law_bag)
  a__law_stir : Addr
  d__law_stir : FuncData
  f__law_stir : Fun K "_law_stir" "_law_stir" s__law_stir a__law_stir d__law_stir
  b__law_stir : Binds K d__law_stir ["number", "place"] []
  g__law_stir : mg "_law_stir" = some (.ref a__law_stir)
  a__law_draw : Addr
  d__law_draw : FuncData
  f__law_draw : Fun K "_law_draw" "_law_draw" s__law_draw a__law_draw d__law_draw
  b__law_draw : Binds K d__law_draw ["bag", "bound"] []
  g__law_draw : mg "_law_draw" = some (.ref a__law_draw)
  a__law_size : Addr
  d__law_size : FuncData
  f__law_size : Fun K "_law_size" "_law_size" s__law_size a__law_size d__law_size
  b__law_size : Binds K d__law_size ["bag"] []
  g__law_size : mg "_law_size" = some (.ref a__law_size)
  a__law_schedule : Addr
  d__law_schedule : FuncData
  f__law_schedule : Fun K "_law_schedule" "_law_schedule" s__law_schedule a__law_schedule d__law_schedule
  b__law_schedule : Binds K d__law_schedule ["bag", "size", "most"] []
  g__law_schedule : mg "_law_schedule" = some (.ref a__law_schedule)
  a__law_step_right : Addr
  d__law_step_right : FuncData
  f__law_step_right : Fun K "_law_step_right" "_law_step_right" s__law_step_right a__law_step_right d__law_step_right
  b__law_step_right : Binds K d__law_step_right ["size", "rows", "at"] []
  g__law_step_right : mg "_law_step_right" = some (.ref a__law_step_right)
  a__law_right : Addr
  d__law_right : FuncData
  f__law_right : Fun K "_law_right" "_law_right" s__law_right a__law_right d__law_right
  b__law_right : Binds K d__law_right ["bag", "size", "rows"] []
  g__law_right : mg "_law_right" = some (.ref a__law_right)
  a_law : Addr
  d_law : FuncData
  f_law : Fun K "law" "law" s_law a_law d_law
  b_law : Binds K d_law ["script"] []
  g_law : mg "law" = some (.ref a_law)
end LP
namespace LP
open PySem L2 LR
theorem iteD {c A B : Prop} [Decidable c] (hc : c) (h : A) : if decide c = true then A else B := by
  rw [if_pos (decide_eq_true hc)]; exact h
theorem iteX {c A B : Prop} [Decidable c] (hc : ¬ c) (h : B) : if decide c = true then A else B := by
  rw [if_neg (by rw [decide_eq_false hc]; exact Bool.false_ne_true)]; exact h
theorem iteNX {c A B : Prop} [Decidable c] (hc : ¬ c) (h : A) : if (!decide c) = true then A else B := by
  rw [decide_eq_false hc]; exact iteT h
theorem ite2d {c A B : Prop} [Decidable c] (h1 : c → A) (h2 : ¬ c → B) : if decide c = true then A else B := by
  by_cases h : c
  · exact iteD h (h1 h)
  · exact iteX h (h2 h)
theorem iteNB {b : Bool} {A B : Prop} (hb : b = true) (h : B) : if (!b) = true then A else B := by
  subst hb; exact iteF h
theorem iteNF {b : Bool} {A B : Prop} (hb : b = false) (h : A) : if (!b) = true then A else B := by
  subst hb; exact iteT h
theorem iteB {b : Bool} {A B : Prop} (hb : b = true) (h : A) : if b = true then A else B := by
  subst hb; exact iteT h
theorem iteBF {b : Bool} {A B : Prop} (hb : b = false) (h : B) : if b = true then A else B := by
  subst hb; exact iteF h
theorem idx_before {α : Type} [BEq α] [LawfulBEq α] {a : α} : ∀ {l : List α} {m : Nat}, m < l.idxOf a → l[m]? ≠ some a
  | [], m, h => by simp at h
  | b :: r, 0, h => by
    intro e
    have e1 : b = a := Option.some.inj e
    subst e1
    rw [List.idxOf_cons] at h
    simp at h
  | b :: r, m + 1, h => by
    rw [List.idxOf_cons] at h
    by_cases q : (b == a) = true
    · simp [q] at h
    · rw [Bool.not_eq_true] at q
      rw [q] at h
      have h' : m + 1 < r.idxOf a + 1 := h
      exact idx_before (l := r) (m := m) (by omega)
theorem idx_get {α : Type} [BEq α] [LawfulBEq α] {a : α} {l : List α} (h : a ∈ l) : l[l.idxOf a]? = some a := by
  have h1 := List.idxOf_lt_length_iff.mpr h
  rw [List.getElem?_eq_getElem h1]
  have h2 := List.findIdx_getElem (p := (· == a)) (xs := l) (w := h1)
  exact congrArg some (eq_of_beq h2)
/-! values -/
def vo : Option Int → V
  | some i => .int i
  | none => .non
def opv (o : Op) : List V := [.str (if o.1 = true then "take" else "return"), .int o.2]
def OpAt (H : Hp) (a : Addr) (o : Op) : Prop := H a = some (.tup (opv o))
def dvo : Option Int → PyData
  | some i => .int i
  | none => .none
theorem dp_vo {K : PySem.W.Frag} {H : Hp} : ∀ l : List (Option Int), DpAll K H (l.map vo) (l.map dvo)
  | [] => .nil
  | none :: r => .cons .non (dp_vo r)
  | some i :: r => .cons (.int i) (dp_vo r)
theorem canLay_vo : ∀ l : List (Option Int), PyData.canLayAll0 (l.map dvo) = true
  | [] => rfl
  | none :: r => by simp [PyData.canLayAll0, PyData.canLay0, dvo, canLay_vo r]
  | some i :: r => by simp [PyData.canLayAll0, PyData.canLay0, dvo, canLay_vo r]
theorem depth_vo : ∀ l : List (Option Int), PyData.depthAll (l.map dvo) = 0
  | [] => rfl
  | none :: r => by simp [PyData.depthAll, PyData.depth, dvo, depth_vo r]
  | some i :: r => by simp [PyData.depthAll, PyData.depth, dvo, depth_vo r]
theorem shaped_vo (l : List (Option Int)) : SeqAt.shaped (.list (l.map dvo)) = true := by
  simp [SeqAt.shaped, PyData.canLay0, PyData.depth, canLay_vo, depth_vo]
theorem eqvAll_vo : ∀ l m : List (Option Int), PyData.eqvAll (l.map dvo) (m.map dvo) = decide (l = m)
  | [], [] => by simp [PyData.eqvAll]
  | [], _ :: _ => by simp [PyData.eqvAll]
  | _ :: _, [] => by simp [PyData.eqvAll]
  | a :: r, b :: t => by
    simp only [List.map_cons, PyData.eqvAll, eqvAll_vo r t]
    cases a with
    | none =>
      cases b with
      | none => simp [dvo, PyData.eqv]
      | some j => simp [dvo, PyData.eqv]
    | some i =>
      cases b with
      | none => simp [dvo, PyData.eqv]
      | some j =>
        by_cases h : i = j <;> by_cases h' : r = t <;> simp [dvo, PyData.eqv, h, h']
theorem eqv_vo (l m : List (Option Int)) : PyData.eqv (.list (l.map dvo)) (.list (m.map dvo)) = decide (l = m) := by
  simp only [PyData.eqv]; exact eqvAll_vo l m
theorem ints_vo (l : List Int) : l.map V.int = (l.map some).map vo := by
  rw [List.map_map]; rfl
section
variable {K : PySem.W.Frag} {H : Hp} {a b : Addr} {Q : VK}
theorem rd_eq {l m : List (Option Int)} (h1 : SqL K H a (l.map vo)) (h2 : SqL K H b (m.map vo)) (q : Q (.bl (decide (l = m))) H) : rEqD K (.ref a) (.ref b) H Q :=
  ⟨_, _, .lst h1 (dp_vo l), .lst h2 (dp_vo m), shaped_vo l, shaped_vo m, by rw [eqv_vo]; exact q⟩
theorem rd_ne {l m : List (Option Int)} (h1 : SqL K H a (l.map vo)) (h2 : SqL K H b (m.map vo)) (q : Q (.bl (!decide (l = m))) H) : rNeD K (.ref a) (.ref b) H Q :=
  ⟨_, _, .lst h1 (dp_vo l), .lst h2 (dp_vo m), shaped_vo l, shaped_vo m, by rw [eqv_vo]; exact q⟩
theorem map_some_inj {l m : List Int} : (l.map some = m.map some) ↔ l = m := by
  constructor
  · intro h
    have := congrArg (List.filterMap id) h
    simpa using this
  · intro h; rw [h]
theorem rd_eqI {l m : List Int} (h1 : SqL K H a (l.map V.int)) (h2 : SqL K H b (m.map V.int)) (q : Q (.bl (decide (l = m))) H) : rEqD K (.ref a) (.ref b) H Q := by
  rw [ints_vo] at h1 h2
  refine rd_eq h1 h2 ?_
  rw [show decide (l.map some = m.map some) = decide (l = m) from decide_eq_decide.mpr map_some_inj]; exact q
theorem rd_neI {l m : List Int} (h1 : SqL K H a (l.map V.int)) (h2 : SqL K H b (m.map V.int)) (q : Q (.bl (!decide (l = m))) H) : rNeD K (.ref a) (.ref b) H Q := by
  rw [ints_vo] at h1 h2
  refine rd_ne h1 h2 ?_
  rw [show decide (l.map some = m.map some) = decide (l = m) from decide_eq_decide.mpr map_some_inj]; exact q
theorem rd_ix {xs : List V} {j : Nat} {v : V} {z : Int} (h : SqL K H a xs) (e : xs[j]? = some v) (hz : z = (j : Int)) (q : Q v H) : rIxL K (.ref a) (.int z) H Q :=
  ⟨a, xs, z, v, rfl, rfl, h, at_of hz e, q⟩
theorem rd_len {xs : List V} (h : SqL K H a xs) (q : Q (.int xs.length) H) : ∃ (p : Addr) (ys : List V), [V.ref a] = [V.ref p] ∧ (SqL K H p ys ∨ SqT K H p ys) ∧ Q (.int ys.length) H := ⟨a, xs, rfl, .inl h, q⟩
end
structure OpsAt (H : Hp) (as : List Addr) (ops : List Op) : Prop where
  len : as.length = ops.length
  at_ : ∀ (i : Nat) a o, as[i]? = some a → ops[i]? = some o → OpAt H a o
def RowsAt (K : PySem.W.Frag) (H : Hp) (l : Addr) (ops : List Op) : Prop := ∃ as : List Addr, SqL K H l (as.map V.ref) ∧ OpsAt H as ops
def RowsLst (H : Hp) (l : Addr) (ops : List Op) : Prop := ∃ as : List Addr, H l = some (.lst (as.map V.ref)) ∧ OpsAt H as ops
theorem RowsLst.rows {K : PySem.W.Frag} {H : Hp} {l : Addr} {ops : List Op} (r : RowsLst H l ops) : RowsAt K H l ops := let ⟨as, h, o⟩ := r; ⟨as, SqL.of h, o⟩
theorem OpsAt.same {H H' : Hp} {as : List Addr} {ops : List Op} (o : OpsAt H as ops) (s : Same H H') : OpsAt H' as ops := ⟨o.len, fun i a p h1 h2 => s _ _ (o.at_ i a p h1 h2)⟩
theorem RowsAt.same {K : PySem.W.Frag} {H H' : Hp} {l : Addr} {ops : List Op} (r : RowsAt K H l ops) (s : Same H H') : RowsAt K H' l ops := let ⟨as, h, o⟩ := r; ⟨as, s.seq h, o.same s⟩
theorem same_upd {H : Hp} {p : Addr} {o : HO} (h : H p = Option.none) : Same H (upd H p o) := fun b x e => by rw [upd_ne (ne_of_none e h)]; exact e
/-- all but the bag at b is as it was -/
def Fr (H H' : Hp) (b : Addr) : Prop := ∀ a o, H a = some o → a ≠ b → H' a = some o
theorem Fr.refl (H : Hp) (b : Addr) : Fr H H b := fun _ _ h _ => h
theorem Fr.trans {H H1 H2 : Hp} {b : Addr} (a : Fr H H1 b) (c : Fr H1 H2 b) : Fr H H2 b := fun x o h n => c x o (a x o h n) n
theorem Fr.of {H H' : Hp} {b : Addr} (s : Same H H') : Fr H H' b := fun a o h _ => s a o h
theorem Fr.free {H H' : Hp} {b l : Addr} (e : Fr H H' b) (hb : ∃ o, H b = some o) (h : H' l = Option.none) (h' : ∃ o, H' b = some o) : H l = Option.none := by
  cases q : H l with
  | none => rfl
  | some o =>
    by_cases hl : l = b
    · subst hl; obtain ⟨o', h'⟩ := h'; rw [h'] at h; cases h
    · rw [e l o q hl] at h; cases h
abbrev M61 : Int := 2305843009213693951
/-- the bag: the script's copy at l, the place in it, the rest of a large cell, the number of draws (at most d), the script's sum -/
structure Bag (H : Hp) (b l : Addr) (ns : List Int) (d : Nat) : Prop where
  ex : ∃ i c k t : Int, H b = some (.lst [.ref l, .int i, .int c, .int k, .int t]) ∧ 0 ≤ i ∧ i ≤ ns.length ∧ 0 ≤ k ∧ k ≤ d ∧ 0 ≤ t ∧ t < M61
  ls : H l = some (.lst (ns.map V.int))
  ne : l ≠ b
theorem Bag.mono {H : Hp} {b l : Addr} {ns : List Int} {d d' : Nat} (g : Bag H b l ns d) (h : d ≤ d') : Bag H b l ns d' := by
  obtain ⟨⟨i, c, k, t, h1, h2, h3, h4, h5, h6⟩, ls, ne⟩ := g
  exact ⟨⟨i, c, k, t, h1, h2, h3, h4, by omega, h6⟩, ls, ne⟩
theorem Bag.same {H H' : Hp} {b l : Addr} {ns : List Int} {d : Nat} (g : Bag H b l ns d) (s : Same H H') : Bag H' b l ns d := by
  obtain ⟨⟨i, c, k, t, h1, h2⟩, ls, ne⟩ := g
  exact ⟨⟨i, c, k, t, s _ _ h1, h2⟩, s _ _ ls, ne⟩
/-- a Shelf's attributes -/
def shf (bl ol : Addr) : List (Str × V) := putF "out" (.ref ol) (putF "books" (.ref bl) [])
theorem shf_ne : ¬ (("books" : Str) = "out") := by decide +kernel
theorem shf_eq (bl ol : Addr) : shf bl ol = ([("books", V.ref bl), ("out", V.ref ol)] : List (Str × V)) := by
  show (if ("books" : Str) = "out" then [(("books" : Str), V.ref ol)] else (("books" : Str), V.ref bl) :: putF "out" (V.ref ol) []) = _
  rw [if_neg shf_ne]
  all_goals rfl
theorem shf_books (bl ol : Addr) : (shf bl ol).lookup ("books" : Str) = some (.ref bl) := by
  unfold shf
  rw [lookup_putF, if_neg shf_ne, lookup_putF, if_pos rfl]
theorem shf_out (bl ol : Addr) : (shf bl ol).lookup ("out" : Str) = some (.ref ol) := by
  unfold shf
  rw [lookup_putF, if_pos rfl]
theorem shf_no (bl ol : Addr) {m : Str} (h1 : ¬ m = "out") (h2 : ¬ m = "books") : (shf bl ol).lookup m = none := by
  unfold shf
  rw [lookup_putF, if_neg h1, lookup_putF, if_neg h2]
  all_goals rfl
structure SimAt (C : Addr) (H : Hp) (sh bl ol : Addr) (s : Sim) : Prop where
  ob : ∃ dx, H sh = some (.ins C dx (shf bl ol))
  bk : H bl = some (.lst (s.books.map vo))
  ot : H ol = some (.lst (s.out.map V.int))
  ne : bl ≠ ol
/-! ### the promises -/
section
variable (K : PySem.W.Frag) (C : Addr)
def sp_is_whole : Sp := fun vs H Q _ => ∃ n : Int, vs = [.int n] ∧ Q (.bl true) H
def sp_is_listed : Sp := fun vs H Q _ => ∃ (a : Addr) (xs : List V), vs = [.ref a] ∧ (SqL K H a xs ∨ H a = some (.tup xs)) ∧ ∀ H', Same H H' → Q (.bl true) H'
def sp_check_size : Sp := fun vs H Q _ => ∃ n : Int, vs = [.int n] ∧ 1 ≤ n ∧ n ≤ 200 ∧ Q .non H
def sp_Shelf_init : Sp := fun vs H Q _ => ∃ (p dx : Addr) (n : Nat), vs = [.ref p, .int n] ∧ n ≤ 300 ∧ H p = some (.ins C dx []) ∧
  ∀ (H' : Hp) (bl ol : Addr), SimAt C H' p bl ol (simInit n) → H bl = none → H ol = none → (∀ b o, H b = some o → b ≠ p → H' b = some o) → Q .non H'
def sp_Shelf_can_take : Sp := fun vs H Q _ => ∃ (sh bl ol : Addr) (s : Sim) (p : Int), vs = [.ref sh, .int p] ∧ SimAt C H sh bl ol s ∧ Q (.bl (stp s (true, p)).isSome) H
def sp_Shelf_can_return : Sp := fun vs H Q _ => ∃ (sh bl ol : Addr) (s : Sim) (p : Int), vs = [.ref sh, .int p] ∧ SimAt C H sh bl ol s ∧ Q (.bl (stp s (false, p)).isSome) H
def sp_Shelf_take_from : Sp := fun vs H Q _ => ∃ (sh bl ol : Addr) (s : Sim) (p b : Int), vs = [.ref sh, .int p] ∧ SimAt C H sh bl ol s ∧ 0 ≤ p ∧ s.books[p.toNat]? = some (some b) ∧ s.out.length ≤ 300 ∧
  ∀ H' : Hp, (∀ u : Sim, u.books = s.books.set p.toNat none → u.out = s.out ++ [b] → SimAt C H' sh bl ol u) → (∀ c o, H c = some o → c ≠ bl → c ≠ ol → H' c = some o) → Q (.int b) H'
def sp_Shelf_first_gap : Sp := fun vs H Q _ => ∃ (sh bl ol : Addr) (s : Sim), vs = [.ref sh] ∧ SimAt C H sh bl ol s ∧ none ∈ s.books ∧ Q (.int (gap s.books : Nat)) H
def sp_Shelf_put_back : Sp := fun vs H Q _ => ∃ (sh bl ol : Addr) (s : Sim) (b : Int), vs = [.ref sh, .int b] ∧ SimAt C H sh bl ol s ∧ b ∈ s.out ∧ none ∈ s.books ∧
  ∀ H' : Hp, (∀ u : Sim, u.books = s.books.set (gap s.books) (some b) → u.out = s.out.erase b → SimAt C H' sh bl ol u) → (∀ c o, H c = some o → c ≠ bl → c ≠ ol → H' c = some o) → Q (.int (gap s.books)) H'
def sp_can_perform : Sp := fun vs H Q _ => ∃ (sh bl ol a : Addr) (s : Sim) (o : Op), vs = [.ref sh, .ref a] ∧ SimAt C H sh bl ol s ∧ OpAt H a o ∧ ∀ H', Same H H' → Q (.bl (stp s o).isSome) H'
/-- a schedule that is one, with what it leaves -/
def Runs (H : Hp) (n : Nat) (l : Addr) (ops : List Op) (e : Sim) : Prop := 1 ≤ n ∧ n ≤ 200 ∧ RowsAt K H l ops ∧ ops.length ≤ 400 ∧ run (simInit n) ops = some e
def sp_run_schedule : Sp := fun vs H Q _ => ∃ (n : Nat) (l : Addr) (ops : List Op) (e : Sim), vs = [.int n, .ref l] ∧ Runs K H n l ops e ∧
  ∀ (H' : Hp) (t sh bl ol fl : Addr), Same H H' → H' t = some (.tup [.ref sh, .ref fl, .int e.most]) → SimAt C H' sh bl ol e → H' fl = some (.lst (e.filled.map V.int)) → H bl = none → H ol = none → H fl = none → H sh = none → Q (.ref t) H'
def sp_is_schedule : Sp := fun vs H Q _ => ∃ (n : Nat) (l : Addr) (ops : List Op) (e : Sim), vs = [.int n, .ref l] ∧ Runs K H n l ops e ∧ ∀ H', Same H H' → Q (.bl true) H'
def sp_books_after : Sp := fun vs H Q _ => ∃ (n : Nat) (l : Addr) (ops : List Op) (e : Sim), vs = [.int n, .ref l] ∧ Runs K H n l ops e ∧ ∀ (H' : Hp) (p : Addr), Same H H' → H p = none → H' p = some (.lst (e.books.map vo)) → Q (.ref p) H'
def sp_books_out : Sp := fun vs H Q _ => ∃ (n : Nat) (l : Addr) (ops : List Op) (e : Sim), vs = [.int n, .ref l] ∧ Runs K H n l ops e ∧ ∀ (H' : Hp) (p : Addr) (zs : List Int), Same H H' → H p = none → zs.Perm e.out → zs.Pairwise (· ≤ ·) → H' p = some (.lst (zs.map V.int)) → Q (.ref p) H'
def sp_places_filled : Sp := fun vs H Q _ => ∃ (n : Nat) (l : Addr) (ops : List Op) (e : Sim), vs = [.int n, .ref l] ∧ Runs K H n l ops e ∧ ∀ (H' : Hp) (p : Addr), Same H H' → H p = none → H' p = some (.lst (e.filled.map V.int)) → Q (.ref p) H'
def sp_most_out : Sp := fun vs H Q _ => ∃ (n : Nat) (l : Addr) (ops : List Op) (e : Sim), vs = [.int n, .ref l] ∧ Runs K H n l ops e ∧ ∀ H', Same H H' → Q (.int e.most) H'
/-! the law's own -/
def sp__law_bag : Sp := fun vs H Q _ => ∃ (a : Addr) (ns : List Int), vs = [.ref a] ∧ SqL K H a (ns.map V.int) ∧ ns.length ≤ 63 ∧ ∀ (H' : Hp) (b l : Addr), Same H H' → H b = none → H l = none → Bag H' b l ns 0 → Q (.ref b) H'
def sp__law_stir : Sp := fun vs H Q _ => ∃ x y : Int, vs = [.int x, .int y] ∧ 0 ≤ x ∧ x < M61 ∧ 0 ≤ y ∧ y < 2 ^ 40 ∧ ∀ r : Int, Q (.int r) H
def sp__law_draw : Sp := fun vs H Q _ => ∃ (b l : Addr) (ns : List Int) (d : Nat) (n : Int), vs = [.ref b, .int n] ∧ Bag H b l ns d ∧ 0 < n ∧ n.natAbs.log2 < 9000 ∧ d < 1000000 ∧ ns.length ≤ 63 ∧
  ∀ (H' : Hp) (r : Int), 0 ≤ r → r < n → Bag H' b l ns (d + 1) → Fr H H' b → Q (.int r) H'
def sp__law_size : Sp := fun vs H Q _ => ∃ (b l : Addr) (ns : List Int) (d : Nat), vs = [.ref b] ∧ Bag H b l ns d ∧ d < 900000 ∧ ns.length ≤ 63 ∧
  ∀ (H' : Hp) (n : Nat), 1 ≤ n → n ≤ 200 → Bag H' b l ns (d + 3) → Fr H H' b → Q (.int n) H'
def sp__law_schedule : Sp := fun vs H Q _ => ∃ (b l : Addr) (ns : List Int) (d n m : Nat), vs = [.ref b, .int n, .int m] ∧ Bag H b l ns d ∧ d < 900000 ∧ ns.length ≤ 63 ∧ 1 ≤ n ∧ n ≤ 200 ∧ m ≤ 400 ∧
  ∀ (H' : Hp) (q : Addr) (ops : List Op) (e : Sim), Bag H' b l ns (d + 1000) → Fr H H' b → H q = none → RowsLst H' q ops → ops.length = m → run (simInit n) ops = some e → Q (.ref q) H'
def sp__law_step_right : Sp := fun vs H Q _ => ∃ (n i : Nat) (q : Addr) (ops : List Op) (e : Sim), vs = [.int n, .ref q, .int i] ∧ Runs K H n q ops e ∧ i < ops.length ∧ ∀ H' : Hp, Same H H' → Q (.bl true) H'
def sp__law_right : Sp := fun vs H Q _ => ∃ (b l : Addr) (ns : List Int) (d n : Nat) (q : Addr) (ops : List Op) (e : Sim), vs = [.ref b, .int n, .ref q] ∧ Bag H b l ns d ∧ d < 900000 ∧ ns.length ≤ 63 ∧ RowsLst H q ops ∧ q ≠ b ∧ Runs K H n q ops e ∧
  ∀ H' : Hp, Bag H' b l ns (d + 20) → Fr H H' b → Q (.bl true) H'
def sp_law : Sp := fun vs H Q _ => ∃ (a : Addr) (ns : List Int), vs = [.ref a] ∧ SqL K H a (ns.map V.int) ∧ ns.length ≤ 63 ∧ ∀ H', Q (.bl true) H'
end
end LP

namespace LP
open PySem L2 LR
theorem ty_sql {K : PySem.W.Frag} {H : Hp} {a : Addr} {xs : List V} (h : SqL K H a xs) : TyX K H (.ref a) (.type "list") := by
  rcases h with (h | ⟨o, h⟩) | ⟨dd, its, n, h1, h2⟩
  · exact .base (.lst h)
  · exact .base (.frz h)
  · exact .kList h1 h2.1
theorem kit_lt {K : PySem.W.Frag} : PySem.W.kitAny K (.type "list") [.type "list", .type "tuple"] = some true := kitAny_cons (b := true) (kit_ty (by decide +kernel)) (fun z => nomatch z) fun _ => rfl
theorem kit_tt {K : PySem.W.Frag} : PySem.W.kitAny K (.type "tuple") [.type "list", .type "tuple"] = some true := kitAny_cons (b := false) (kit_ty (by decide +kernel)) (fun _ => kitAny_cons (b := true) (kit_ty (by decide +kernel)) (fun z => nomatch z) fun _ => rfl) fun z => nomatch z
section
variable {P : Program} {w : World} {K : PySem.W.Frag} {mg : Str → Option Value} {base : Heap}
theorem ok_is_whole (e : Env K mg) : FnOk P w K mg base CX0 1 e.a_is_whole e.d_is_whole ["value"] (sp_is_whole) := by
  refine e.f_is_whole.ok sc_is_whole (fun vs H Q E h => ?_) (fun cdv A outer s H vs Q E hr h => ?_)
  · obtain ⟨n, rfl, _⟩ := h; rfl
  · obtain ⟨n, rfl, k⟩ := h
    refine ⟨_, (pss_one (ps_ret (pe_and (pe_callB call_isi (by rfl) e.n_isinstance (by decide +kernel) (pa_cons (pv 0) (pa_cons (pe_bltn (v := V.ty "int") (by rfl) e.n_int (by decide +kernel) rfl) pa_nil))) (pe_one (pe_not (pe_callB call_isi (by rfl) e.n_isinstance (by decide +kernel) (pa_cons (pv 0) (pa_cons (pe_bltn (v := V.ty "bool") (by rfl) e.n_bool (by decide +kernel) rfl) pa_nil)))))))), ?_⟩
    refine ⟨_, rfl, _, _, _, _, true, rfl, .ty "int", .base (.int n), kit_ty (by decide +kernel), _, rfl, iteT ?_⟩
    refine ⟨_, rfl, _, _, _, _, false, rfl, .ty "bool", .base (.int n), kit_ty (by decide +kernel), _, rfl, ?_⟩
    exact k
theorem ok_is_listed (e : Env K mg) : FnOk P w K mg base CX0 1 e.a_is_listed e.d_is_listed ["value"] (sp_is_listed K) := by
  refine e.f_is_listed.ok sc_is_listed (fun vs H Q E h => ?_) (fun cdv A outer s H vs Q E hr h => ?_)
  · obtain ⟨a, xs, rfl, _⟩ := h; rfl
  · obtain ⟨a, xs, rfl, hx, k⟩ := h
    refine ⟨_, (pss_one (ps_ret (pe_callB call_isiT (by rfl) e.n_isinstance (by decide +kernel) (pa_cons (pv 0) (pa_cons (pe_tup (pa_cons (pe_bltn (v := V.ty "list") (by rfl) e.n_list (by decide +kernel) rfl) (pa_cons (pe_bltn (v := V.ty "tuple") (by rfl) e.n_tuple (by decide +kernel) rfl) pa_nil))) pa_nil))))), ?_⟩
    refine ⟨_, rfl, (by show 2 ≤ sizeLine; decide), fun p hp => ?_⟩
    rcases hx with hx | hx
    · exact ⟨_, p, _, .type "list", [.type "list", .type "tuple"], true, rfl, upd_same, .cons (.ty _) (.cons (.ty _) .nil), ty_sql ((same_upd hp).seq hx), kit_lt, k _ (same_upd hp)⟩
    · exact ⟨_, p, _, .type "tuple", [.type "list", .type "tuple"], true, rfl, upd_same, .cons (.ty _) (.cons (.ty _) .nil), .base (.tup (same_upd hp _ _ hx)), kit_tt, k _ (same_upd hp)⟩
theorem ok_check_size (e : Env K mg) : FnOk P w K mg base CX0 2 e.a_check_size e.d_check_size ["size"] (sp_check_size) := by
  refine e.f_check_size.ok sc_check_size (fun vs H Q E h => ?_) (fun cdv A outer s H vs Q E hr h => ?_)
  · obtain ⟨n, rfl, _⟩ := h; rfl
  · obtain ⟨n, rfl, h1, h2, k⟩ := h
    refine ⟨_, (pss_one (ps_if (pt_not (PW.pt (pw_and (pt_val (pe_call ((ok_is_whole e).mono (by decide)) hr rfl e.g_is_whole e.f_is_whole.kp e.b_is_whole .nil pass0 (pa_cons (pv 0) pa_nil))) (pw_and1 (pt_chain op_le op_le pe_int (pv 0) (pe_glob (v := V.int 200) rfl e.g_MOST_SIZE ⟨_, rfl⟩))))))
        (pss_one ps_never)
        pss_nil)), ?_⟩
    refine ⟨_, rfl, n, rfl, _, rfl, iteT ?_⟩
    refine ⟨_, rfl, _, _, rfl, rfl, _, rfl, iteD h1 ?_⟩
    exact ⟨_, _, rfl, rfl, _, rfl, iteNS h2 k⟩
end
end LP

namespace LP
open PySem L2 LR
section
variable {P : Program} {w : World} {K : PySem.W.Frag} {mg : Str → Option Value} {base : Heap}

theorem init_books (n : Nat) : (simInit n).books.map vo = rgV 0 n := by
  unfold simInit rgV rangeI
  simp only [List.map_map]
  have e : ((n : Int) - 0).toNat = n := by omega
  rw [e]
  refine List.map_congr_left fun k hk => ?_
  show V.int (k : Int) = V.int (0 + (k : Int))
  rw [Int.zero_add]
theorem ok_Shelf_init (e : Env K mg) : FnOk P w K mg base CX0 1 e.a_Shelf_init e.d_Shelf_init ["self", "size"] (sp_Shelf_init e.C_Shelf) := by
  refine e.f_Shelf_init.ok sc_Shelf_init (fun vs H Q E h => ?_) (fun cdv A outer s H vs Q E hr h => ?_)
  · obtain ⟨p, dx, n, rfl, _⟩ := h; rfl
  · obtain ⟨p, dx, n, rfl, h1, hp, k⟩ := h
    refine ⟨_, (pss_cons (ps_fld (pv 0) (pe_listRg rfl (by rfl) e.n_list (prg_1 (by rfl) e.n_range (pv 1))) rfl)
      (pss_one (ps_fld (pv 0) (pe_lst pa_nil) rfl))), ?_⟩
    refine ⟨_, rfl, _, rfl, RgOk.of_le (by decide) (by omega) (by decide) (by omega), fun bl hb => ?_⟩
    have n1 : p ≠ bl := ne_of_none hp hb
    refine ⟨_, rfl, p, e.C_Shelf, dx, [], rfl, (by rw [upd_ne n1]; exact hp), e.cl_Shelf, e.nA_Shelf_books, (by show 0 < 1000; decide), (by decide), fun ol ho => ?_⟩
    have n2 : p ≠ ol := ne_of_none (o := .ins e.C_Shelf dx (putF "books" (.ref bl) [])) upd_same ho
    have n3 : bl ≠ ol := ne_of_none (o := .lst (rgV 0 n)) (by rw [upd_ne n1.symm, upd_same]) ho
    refine ⟨_, rfl, p, e.C_Shelf, dx, _, rfl, (by rw [upd_ne n2, upd_same]), e.cl_Shelf, e.nA_Shelf_out, (by show 1 < 1000; decide), ?_⟩
    have ho' : H ol = none := by rw [upd_ne n2.symm, upd_ne n3.symm] at ho; exact ho
    refine k _ bl ol ⟨⟨dx, upd_same⟩, ?_, ?_, n3⟩ hb ho' fun b o hb' hne => ?_
    · rw [upd_ne n1.symm, upd_ne n3, upd_ne n1.symm, upd_same, init_books]
    · rw [upd_ne n2.symm, upd_same]; rfl
    · rw [upd_ne hne, upd_ne (ne_of_none hb' ho'), upd_ne hne, upd_ne (ne_of_none hb' hb)]; exact hb'
theorem ok_Shelf_can_take (e : Env K mg) : FnOk P w K mg base CX0 2 e.a_Shelf_can_take e.d_Shelf_can_take ["self", "place"] (sp_Shelf_can_take e.C_Shelf) := by
  refine e.f_Shelf_can_take.ok sc_Shelf_can_take (fun vs H Q E h => ?_) (fun cdv A outer s H vs Q E hr h => ?_)
  · obtain ⟨sh, bl, ol, s, p, rfl, _⟩ := h; rfl
  · obtain ⟨sh, bl, ol, s, p, rfl, S, k⟩ := h
    refine ⟨_, (pss_one (ps_ret (pe_and (pe_call ((ok_is_whole e).mono (by decide)) hr rfl e.g_is_whole e.f_is_whole.kp e.b_is_whole .nil pass0 (pa_cons (pv 1) pa_nil)) (pe_and (pe_chain op_le op_lt pe_int (pv 1) (pe_callB call_len_seq (by rfl) e.n_len PySem.boot_len (pa_cons (pe_fld (pv 0) rfl) pa_nil))) (pe_one (pe_cmpR op_notN (pe_ix ix_list (pe_fld (pv 0) rfl) (pv 1) (fun _ _ => rfl)) pe_non (nomark _))))))), ?_⟩
    refine ⟨_, rfl, _, rfl, _, rfl, iteT ?_⟩
    refine ⟨_, rfl, _, _, rfl, rfl, _, rfl, ?_⟩
    obtain ⟨dx, ho⟩ := S.ob
    refine ite2d (fun h0 => ?_) fun h0 => ?_
    · refine ⟨_, rfl, _, _, _, _, _, rfl, ho, e.cl_Shelf, e.nA_Shelf_books, shf_books _ _, _, _, rfl, .inl (SqL.of S.bk), _, _, rfl, rfl, _, rfl, ite2d (fun h1 => ?_) fun h1 => ?_⟩
      · rw [List.length_map] at h1
        have h2 : p.toNat < s.books.length := by omega
        have e1 := List.getElem?_eq_getElem h2
        refine ⟨_, rfl, _, _, _, _, _, rfl, ho, e.cl_Shelf, e.nA_Shelf_books, shf_books _ _, _, rfl, _, _, _, _, rfl, rfl, SqL.of S.bk, at_of (j := p.toNat) (v := vo s.books[p.toNat]) (by omega) (by rw [List.getElem?_map, e1]; rfl), rfl, ?_⟩
        have e2 : (!decide (vo s.books[p.toNat] = V.non)) = (stp s (true, p)).isSome := by
          unfold stp
          rw [if_pos rfl, if_pos (show 0 ≤ ((true, p) : Op).2 from h0)]
          dsimp only
          rw [e1]
          cases s.books[p.toNat] with
          | none => rfl
          | some b => rfl
        show Q (V.bl (!decide (vo s.books[p.toNat] = V.non))) H
        rw [e2]; exact k
      · rw [List.length_map] at h1
        have e2 : (stp s (true, p)).isSome = false := by
          unfold stp
          rw [if_pos rfl, if_pos (show 0 ≤ ((true, p) : Op).2 from h0)]
          dsimp only
          rw [List.getElem?_eq_none (by omega)]; rfl
        rw [e2] at k; exact k
    · have e2 : (stp s (true, p)).isSome = false := by
        unfold stp
        rw [if_pos rfl, if_neg (show ¬ 0 ≤ ((true, p) : Op).2 from h0)]; rfl
      rw [e2] at k
      exact ⟨_, rfl, iteF k⟩
theorem flat_ints (l : List Int) : (l.map V.int).all flatV = true := by
  rw [List.all_eq_true]; intro v hv; obtain ⟨i, _, rfl⟩ := List.mem_map.mp hv; rfl
theorem in_ints {p : Int} {l : List Int} : inV (.int p) (l.map V.int) = decide (p ∈ l) := by
  induction l with
  | nil => rfl
  | cons a r ih =>
    show (eqV (.int a) (.int p) || inV (.int p) (r.map V.int)) = _
    rw [ih]
    show ((a == p) || decide (p ∈ r)) = _
    by_cases h : a = p
    · subst h; simp
    · have h2 : ¬ p = a := fun q => h q.symm
      simp [h, h2]
theorem ok_Shelf_can_return (e : Env K mg) : FnOk P w K mg base CX0 2 e.a_Shelf_can_return e.d_Shelf_can_return ["self", "book"] (sp_Shelf_can_return e.C_Shelf) := by
  refine e.f_Shelf_can_return.ok sc_Shelf_can_return (fun vs H Q E h => ?_) (fun cdv A outer s H vs Q E hr h => ?_)
  · obtain ⟨sh, bl, ol, s, p, rfl, _⟩ := h; rfl
  · obtain ⟨sh, bl, ol, s, p, rfl, S, k⟩ := h
    refine ⟨_, (pss_one (ps_ret (pe_and (pe_call ((ok_is_whole e).mono (by decide)) hr rfl e.g_is_whole e.f_is_whole.kp e.b_is_whole .nil pass0 (pa_cons (pv 1) pa_nil)) (pe_one (pe_cmpR op_in_seq (pv 1) (pe_fld (pv 0) rfl) (by rfl)))))), ?_⟩
    refine ⟨_, rfl, _, rfl, _, rfl, iteT ?_⟩
    obtain ⟨dx, ho⟩ := S.ob
    refine ⟨_, rfl, _, rfl, _, _, _, _, _, rfl, ho, e.cl_Shelf, e.nA_Shelf_out, shf_out _ _, _, _, rfl, .inl (SqL.of S.ot), rfl, flat_ints _, ?_⟩
    show Q (V.bl (inV (V.int p) (List.map V.int s.out))) H
    have e2 : decide (p ∈ s.out) = (stp s (false, p)).isSome := by
      unfold stp
      rw [if_neg (show ¬ ((false, p) : Op).1 = true from Bool.false_ne_true)]
      by_cases hb : p ∈ s.out
      · rw [if_pos (show ((false, p) : Op).2 ∈ s.out from hb), decide_eq_true hb]; rfl
      · rw [if_neg (show ¬ ((false, p) : Op).2 ∈ s.out from hb), decide_eq_false hb]; rfl
    rw [in_ints, e2]; exact k
theorem ok_Shelf_take_from (e : Env K mg) : FnOk P w K mg base CX0 1 e.a_Shelf_take_from e.d_Shelf_take_from ["self", "place"] (sp_Shelf_take_from e.C_Shelf) := by
  refine e.f_Shelf_take_from.ok sc_Shelf_take_from (fun vs H Q E h => ?_) (fun cdv A outer s H vs Q E hr h => ?_)
  · obtain ⟨sh, bl, ol, s, p, b, rfl, _⟩ := h; rfl
  · obtain ⟨sh, bl, ol, s, p, b, rfl, S, hp, hb, hl, k⟩ := h
    refine ⟨_, (pss_cons (ps_set (i := 2) sc_Shelf_take_from.nd rfl (by first | exact Or.inl rfl | exact Or.inr rfl) (pe_ix ix_list (pe_fld (pv 0) rfl) (pv 1) (fun _ _ => rfl)))
      (pss_cons (ps_asg pe_non (pg_sub (pe_fld (pv 0) rfl) (pv 1) set_list))
      (pss_cons (ps_expr (pe_bm PySem.F.plainAttrs_list PySem.F.slot_list_append PySem.F.type_list_append mt_append (pe_fld (pv 0) rfl) (pa_cons (pv 2) pa_nil)))
      (pss_one (ps_ret (pv 2)))))), ?_⟩
    obtain ⟨dx, ho⟩ := S.ob
    have n1 : sh ≠ bl := ne_of ho S.bk (by intro q; cases q)
    have n2 : sh ≠ ol := ne_of ho S.ot (by intro q; cases q)
    refine ⟨_, rfl, _, _, _, _, _, rfl, ho, e.cl_Shelf, e.nA_Shelf_books, shf_books _ _, _, rfl, _, _, _, _, rfl, rfl, SqL.of S.bk, at_of (j := p.toNat) (v := V.int b) (by omega) (by rw [List.getElem?_map, hb]; rfl), ?_⟩
    refine ⟨_, rfl, _, _, _, _, _, rfl, ho, e.cl_Shelf, e.nA_Shelf_books, shf_books _ _, _, rfl, _, _, _, p.toNat, rfl, rfl, S.bk, ?_, ?_⟩
    · have := (List.getElem?_eq_some_iff.mp hb).1
      unfold ixN
      rw [if_pos hp, if_pos (by rw [List.length_map]; omega)]
    refine ⟨_, rfl, _, _, _, _, _, rfl, (by rw [upd_ne n1]; exact ho), e.cl_Shelf, e.nA_Shelf_out, shf_out _ _, .inl ⟨rfl, _, SqL.of (by rw [upd_ne S.ne.symm]; exact S.ot)⟩, ?_⟩
    refine ⟨_, rfl, _, _, _, rfl, rfl, (by rw [upd_ne S.ne.symm]; exact S.ot), (by rw [List.length_map]; exact small1000 (by omega)), ?_⟩
    refine ⟨_, rfl, k _ (fun u e1 e2 => ⟨⟨dx, by rw [upd_ne n2, upd_ne n1]; exact ho⟩, ?_, ?_, S.ne⟩) fun c o hc c1 c2 => by rw [upd_ne c2, upd_ne c1]; exact hc⟩
    · rw [upd_ne S.ne, upd_same, e1, List.map_set]; rfl
    · rw [upd_same, e2, List.map_append]; rfl
theorem ok_Shelf_first_gap (e : Env K mg) : FnOk P w K mg base CX0 1 e.a_Shelf_first_gap e.d_Shelf_first_gap ["self"] (sp_Shelf_first_gap e.C_Shelf) := by
  refine e.f_Shelf_first_gap.ok sc_Shelf_first_gap (fun vs H Q E h => ?_) (fun cdv A outer s H vs Q E hr h => ?_)
  · obtain ⟨sh, bl, ol, s, rfl, _⟩ := h; rfl
  · obtain ⟨sh, bl, ol, s, rfl, S, hg, k⟩ := h
    refine ⟨_, (pss_one (ps_ret (pe_bm PySem.F.plainAttrs_list PySem.F.slot_list_index PySem.F.type_list_index mt_index (pe_fld (pv 0) rfl) (pa_cons pe_non pa_nil)))), ?_⟩
    obtain ⟨dx, ho⟩ := S.ob
    refine ⟨_, rfl, _, _, _, _, _, rfl, ho, e.cl_Shelf, e.nA_Shelf_books, shf_books _ _, .inl ⟨rfl, _, SqL.of S.bk⟩, ?_⟩
    refine ⟨_, _, _, gap s.books, V.non, rfl, rfl, SqL.of S.bk, rfl, ?_, ?_, rfl, ?_, ?_⟩
    · rw [List.all_eq_true]; intro v hv; obtain ⟨i, _, rfl⟩ := List.mem_map.mp hv; cases i <;> rfl
    · rw [List.getElem?_map, gap_get hg]; rfl
    · intro m z hm hz
      rw [List.getElem?_map] at hz
      cases q : s.books[m]? with
      | none => rw [q] at hz; cases hz
      | some x =>
        rw [q] at hz
        have hx := gap_before hm q
        cases x with
        | none => exact absurd rfl hx
        | some i => cases hz; rfl
    exact k
theorem ok_Shelf_put_back (e : Env K mg) : FnOk P w K mg base CX0 2 e.a_Shelf_put_back e.d_Shelf_put_back ["self", "book"] (sp_Shelf_put_back e.C_Shelf) := by
  refine e.f_Shelf_put_back.ok sc_Shelf_put_back (fun vs H Q E h => ?_) (fun cdv A outer s H vs Q E hr h => ?_)
  · obtain ⟨sh, bl, ol, s, b, rfl, _⟩ := h; rfl
  · obtain ⟨sh, bl, ol, s, b, rfl, S, hb, hg, k⟩ := h
    refine ⟨_, (pss_cons (ps_set (i := 2) sc_Shelf_put_back.nd rfl (by first | exact Or.inl rfl | exact Or.inr rfl) (pe_meth0 (pv 0) e.cl_Shelf e.m_Shelf_first_gap ((ok_Shelf_first_gap e).mono (by decide)) hr e.b_Shelf_first_gap .nil pass0))
      (pss_cons (ps_asg (pv 1) (pg_sub (pe_fld (pv 0) rfl) (pv 2) set_list))
      (pss_cons (ps_expr (pe_bm PySem.F.plainAttrs_list PySem.F.slot_list_remove PySem.F.type_list_remove mt_remove (pe_fld (pv 0) rfl) (pa_cons (pv 1) pa_nil)))
      (pss_one (ps_ret (pv 2)))))), ?_⟩
    obtain ⟨dx, ho⟩ := S.ob
    have n1 : sh ≠ bl := ne_of ho S.bk (by intro q; cases q)
    have n2 : sh ≠ ol := ne_of ho S.ot (by intro q; cases q)
    refine ⟨_, rfl, _, _, _, rfl, ho, shf_no _ _ (by decide +kernel) (by decide +kernel), _, _, _, _, rfl, S, hg, ?_⟩
    have hgl : gap s.books < (s.books.map vo).length := by rw [List.length_map]; exact gap_lt hg
    refine ⟨_, rfl, _, rfl, _, _, _, _, _, rfl, ho, e.cl_Shelf, e.nA_Shelf_books, shf_books _ _, _, rfl, _, _, _, gap s.books, rfl, rfl, S.bk, ?_, ?_⟩
    · unfold ixN
      rw [if_pos (by omega), if_pos (by omega)]
      congr 1
    refine ⟨_, rfl, _, _, _, _, _, rfl, (by rw [upd_ne n1]; exact ho), e.cl_Shelf, e.nA_Shelf_out, shf_out _ _, .inl ⟨rfl, _, SqL.of (by rw [upd_ne S.ne.symm]; exact S.ot)⟩, ?_⟩
    refine ⟨_, rfl, _, _, _, s.out.idxOf b, rfl, rfl, (by rw [upd_ne S.ne.symm]; exact S.ot), idx_get hb, fun m hm => idx_before hm, ?_⟩
    refine ⟨_, rfl, k _ (fun u e1 e2 => ⟨⟨dx, by rw [upd_ne n2, upd_ne n1]; exact ho⟩, ?_, ?_, S.ne⟩) fun c o hc c1 c2 => by rw [upd_ne c2, upd_ne c1]; exact hc⟩
    · rw [upd_ne S.ne, upd_same, e1, List.map_set]; rfl
    · rw [upd_same, e2, List.erase_eq_eraseIdx_of_idxOf rfl]
end
end LP

namespace LP
open PySem L2 LR
section
variable {P : Program} {w : World} {K : PySem.W.Frag} {mg : Str → Option Value} {base : Heap}



theorem ne_w {x : Int} : V.str (if ((false, x) : Op).1 = true then ("take" : Str) else "return") ≠ V.str "take" := by
  intro q
  have h : ("return" : Str) = "take" := V.str.inj q
  exact absurd h (by decide +kernel)
theorem ok_can_perform (e : Env K mg) : FnOk P w K mg base CX0 3 e.a_can_perform e.d_can_perform ["shelf", "value"] (sp_can_perform e.C_Shelf) := by
  refine e.f_can_perform.ok sc_can_perform (fun vs H Q E h => ?_) (fun cdv A outer s H vs Q E hr h => ?_)
  · obtain ⟨sh, bl, ol, a, s, o, rfl, _⟩ := h; rfl
  · obtain ⟨sh, bl, ol, a, s, o, rfl, S, ha, k⟩ := h
    refine ⟨_, (pss_cons (ps_if (PW.pt (pw_or (pt_not (pt_val (pe_call ((ok_is_listed e).mono (by decide)) hr rfl e.g_is_listed e.f_is_listed.kp e.b_is_listed .nil pass0 (pa_cons (pv 1) pa_nil)))) (pw_or (pt_cmpR op_ne (pe_callB call_len_seq (by rfl) e.n_len PySem.boot_len (pa_cons (pv 1) pa_nil)) pe_int (nomark _)) (pw_or1 (pt_not (pt_val (pe_callB call_isi (by rfl) e.n_isinstance (by decide +kernel) (pa_cons (pe_ix ix_tup (pv 1) pe_int (fun _ _ => rfl)) (pa_cons (pe_bltn (v := V.ty "str") (by rfl) e.n_str (by decide +kernel) rfl) pa_nil)))))))))
        (pss_one (ps_ret pe_bl))
        pss_nil)
      (pss_cons (ps_asg (pv 1) (pg_tup (by rfl) (pgs_cons (pg_name (i := 2) sc_can_perform.nd rfl (by first | exact Or.inl rfl | exact Or.inr rfl)) (pgs_cons (pg_name (i := 3) sc_can_perform.nd rfl (by first | exact Or.inl rfl | exact Or.inr rfl)) pgs_nil))))
      (pss_cons (ps_if (pt_cmpR op_eq (pv 2) pe_str (nomark _))
        (pss_one (ps_ret (pe_meth (pv 0) e.cl_Shelf e.m_Shelf_can_take ((ok_Shelf_can_take e).mono (by decide)) hr e.b_Shelf_can_take .nil pass0 (pa_cons (pv 3) pa_nil))))
        pss_nil)
      (pss_one (ps_ret (pe_and (pe_cmpR op_eq (pv 2) pe_str (nomark _)) (pe_one (pe_meth (pv 0) e.cl_Shelf e.m_Shelf_can_return ((ok_Shelf_can_return e).mono (by decide)) hr e.b_Shelf_can_return .nil pass0 (pa_cons (pv 3) pa_nil))))))))), ?_⟩
    refine ⟨_, rfl, a, _, rfl, .inr ha, fun H1 s1 => ⟨true, rfl, iteNB rfl ?_⟩⟩
    have ha1 : H1 a = some (.tup (opv o)) := s1 _ _ ha
    have S1 : SimAt e.C_Shelf H1 sh bl ol s := ⟨let ⟨dx, h⟩ := S.ob; ⟨dx, s1 _ _ h⟩, s1 _ _ S.bk, s1 _ _ S.ot, S.ne⟩
    obtain ⟨dx, ho⟩ := S1.ob
    refine ⟨_, rfl, _, _, rfl, .inr (SqT.of ha1), rfl, _, rfl, iteF ?_⟩
    refine ⟨_, rfl, _, _, _, _, rfl, rfl, SqT.of ha1, rfl, _, _, _, _, true, rfl, .ty "str", .base (.str _), kit_ty (by decide +kernel), _, rfl, iteNB rfl ?_⟩
    refine ⟨_, rfl, _, _, rfl, SqT.of ha1, rfl, _, _, rfl, _, _, rfl, rfl, ?_⟩
    obtain ⟨w, x⟩ := o
    cases w with
    | true =>
      refine ⟨_, rfl, rfl, _, rfl, iteD rfl ?_⟩
      refine ⟨_, rfl, sh, dx, _, rfl, ho, shf_no _ _ (by decide +kernel) (by decide +kernel), _, rfl, ?_⟩
      exact ⟨sh, bl, ol, s, x, rfl, S1, k _ s1⟩
    | false =>
      refine ⟨_, rfl, rfl, _, rfl, iteX ne_w ?_⟩
      refine ⟨_, rfl, rfl, _, rfl, iteD rfl ?_⟩
      refine ⟨_, rfl, sh, dx, _, rfl, ho, shf_no _ _ (by decide +kernel) (by decide +kernel), _, rfl, ?_⟩
      exact ⟨sh, bl, ol, s, x, rfl, S1, k _ s1⟩
theorem ok_run_schedule (e : Env K mg) : FnOk P w K mg base CX0 5 e.a_run_schedule e.d_run_schedule ["size", "schedule"] (sp_run_schedule K e.C_Shelf) := by
  refine e.f_run_schedule.ok sc_run_schedule (fun vs H Q E h => ?_) (fun cdv A outer s H vs Q E hr h => ?_)
  · obtain ⟨n, l, ops, f, rfl, _⟩ := h; rfl
  · obtain ⟨n, l, ops, f, rfl, R, k⟩ := h
    obtain ⟨hn1, hn2, ⟨as, hS, hO⟩, hlen, hrun⟩ := R
    refine ⟨_, (pss_cons (ps_expr (pe_call ((ok_check_size e).mono (by decide)) hr rfl e.g_check_size e.f_check_size.kp e.b_check_size .nil pass0 (pa_cons (pv 0) pa_nil)))
      (pss_cons (ps_if (PW.pt (pw_or (pt_not (pt_val (pe_call ((ok_is_listed e).mono (by decide)) hr rfl e.g_is_listed e.f_is_listed.kp e.b_is_listed .nil pass0 (pa_cons (pv 1) pa_nil)))) (pw_or1 (pt_cmpR op_gt (pe_callB call_len_seq (by rfl) e.n_len PySem.boot_len (pa_cons (pv 1) pa_nil)) (pe_glob (v := V.int 400) rfl e.g_MOST_OPERATIONS ⟨_, rfl⟩) (nomark _)))))
        (pss_one ps_never)
        pss_nil)
      (pss_cons (ps_set (i := 2) sc_run_schedule.nd rfl (by first | exact Or.inl rfl | exact Or.inr rfl) (pe_make e.mk_Shelf ((ok_Shelf_init e).mono (by decide)) hr rfl e.g_Shelf e.b_Shelf_init .nil pass0 (pa_cons (pv 0) pa_nil)))
      (pss_cons (ps_set (i := 3) sc_run_schedule.nd rfl (by first | exact Or.inl rfl | exact Or.inr rfl) (pe_lst pa_nil))
      (pss_cons (ps_set (i := 4) sc_run_schedule.nd rfl (by first | exact Or.inl rfl | exact Or.inr rfl) pe_int)
      (pss_cons (ps_for PassesOwn.never rfl (pi_enum (by rfl) e.n_enumerate (pa_cons (pv 1) pa_nil)) (pg_tup (by rfl) (pgs_cons (pg_name (i := 5) sc_run_schedule.nd rfl (by first | exact Or.inl rfl | exact Or.inr rfl)) (pgs_cons (pg_name (i := 6) sc_run_schedule.nd rfl (by first | exact Or.inl rfl | exact Or.inr rfl)) pgs_nil)))
      (pss_cons (ps_if (pt_not (pt_val (pe_call ((ok_can_perform e).mono (by decide)) hr rfl e.g_can_perform e.f_can_perform.kp e.b_can_perform .nil pass0 (pa_cons (pv 2) (pa_cons (pv 6) pa_nil)))))
        (pss_one ps_never)
        pss_nil)
      (pss_cons (ps_asg (pv 6) (pg_tup (by rfl) (pgs_cons (pg_name (i := 7) sc_run_schedule.nd rfl (by first | exact Or.inl rfl | exact Or.inr rfl)) (pgs_cons (pg_name (i := 8) sc_run_schedule.nd rfl (by first | exact Or.inl rfl | exact Or.inr rfl)) pgs_nil))))
      (pss_cons (ps_if (pt_cmpR op_eq (pv 7) pe_str (nomark _))
        (pss_one (ps_expr (pe_meth (pv 2) e.cl_Shelf e.m_Shelf_take_from ((ok_Shelf_take_from e).mono (by decide)) hr e.b_Shelf_take_from .nil pass0 (pa_cons (pv 8) pa_nil))))
        (pss_one (ps_expr (pe_bm PySem.F.plainAttrs_list PySem.F.slot_list_append PySem.F.type_list_append mt_append (pv 3) (pa_cons (pe_meth (pv 2) e.cl_Shelf e.m_Shelf_put_back ((ok_Shelf_put_back e).mono (by decide)) hr e.b_Shelf_put_back .nil pass0 (pa_cons (pv 8) pa_nil)) pa_nil)))))
      (pss_one (ps_set (i := 4) sc_run_schedule.nd rfl (by first | exact Or.inl rfl | exact Or.inr rfl) (pe_callB (call_max2 rfl) (by rfl) e.n_max (by decide +kernel) (pa_cons (pv 4) (pa_cons (pe_callB call_len_seq (by rfl) e.n_len PySem.boot_len (pa_cons (pe_fld (pv 2) rfl) pa_nil)) pa_nil)))))))))
      (pss_one (ps_ret (pe_tup (pa_cons (pv 2) (pa_cons (pv 3) (pa_cons (pv 4) pa_nil)))))))))))), ?_⟩
    refine ⟨_, rfl, n, rfl, by omega, by omega, ?_⟩
    refine ⟨_, rfl, l, _, rfl, .inl hS, fun H1 s1 => ⟨true, rfl, iteNB rfl ?_⟩⟩
    have hS1 := s1.seq hS
    have hasl : as.length = ops.length := hO.len
    refine ⟨_, rfl, _, _, rfl, .inl hS1, _, _, rfl, rfl, _, rfl, iteX (by rw [List.length_map]; omega) ?_⟩
    refine ⟨_, rfl, fun sh dx nx ndx nex => ?_⟩
    refine ⟨sh, dx, n, rfl, by omega, upd_same, fun H2 bl ol S2 nb no kp => ⟨rfl, ?_⟩⟩
    have s12 : Same H1 H2 := Same.made nx ndx kp
    have nb1 : H1 bl = none := by
      have z := nb; rw [upd_ne (show bl ≠ sh from fun q => by rw [q, upd_same] at z; cases z)] at z
      rw [upd_ne (show bl ≠ dx from fun q => by rw [q, upd_same] at z; cases z)] at z; exact z
    have no1 : H1 ol = none := by
      have z := no; rw [upd_ne (show ol ≠ sh from fun q => by rw [q, upd_same] at z; cases z)] at z
      rw [upd_ne (show ol ≠ dx from fun q => by rw [q, upd_same] at z; cases z)] at z; exact z
    have s02 : Same H H2 := s1.trans s12
    have nsh : H sh = none := s1.free nx
    have nbl : H bl = none := s1.free nb1
    have nol : H ol = none := s1.free no1
    refine ⟨by decide, fun fl nf => ?_⟩
    have nfl : H fl = none := s02.free nf
    obtain ⟨dx2, ho2⟩ := S2.ob
    have f1 : sh ≠ fl := ne_of_none ho2 nf
    have f2 : bl ≠ fl := ne_of_none S2.bk nf
    have f3 : ol ≠ fl := ne_of_none S2.ot nf
    have hS2 : SqL K (upd H2 fl (.lst [])) l (as.map V.ref) := (same_upd nf).seq (s12.seq hS1)
    refine ⟨_, rfl, l, _, rfl, hS2, for_it walk_enum (fun i σ H3 => ∃ (s : Sim) (v5 v6 v7 v8 : Option V), LR.run (simInit n) (ops.take i) = some s ∧ σ = [some (.int n), some (.ref l), some (.ref sh), some (.ref fl), some (.int s.most), v5, v6, v7, v8] ∧
        Same H H3 ∧ SimAt e.C_Shelf H3 sh bl ol s ∧ H3 fl = some (.lst (s.filled.map V.int)))
      ⟨simInit n, none, none, none, none, rfl, rfl, s02.trans (same_upd nf), ⟨⟨dx2, by rw [upd_ne f1]; exact ho2⟩, by rw [upd_ne f2]; exact S2.bk, by rw [upd_ne f3]; exact S2.ot, S2.ne⟩, upd_same⟩
      (fun i σ H3 _ ⟨_, _, _, _, _, _, _, s3, _, _⟩ => s3.seq hS) ?_ ?_⟩
    · rintro i x σ H3 H4 hi ⟨s, v5, v6, v7, v8, hr1, rfl, s3, S3, hf3⟩ ⟨T, x1, y1, rfl, hT, rfl, hx, hy⟩
      cases hx
      rw [List.length_map] at hi
      have hi2 : i < ops.length := by omega
      have ea := List.getElem?_eq_getElem hi
      have eo := List.getElem?_eq_getElem hi2
      replace hy : (as.map V.ref)[i]? = some y1 := hy
      rw [List.getElem?_map, ea] at hy
      cases hy
      obtain ⟨t, u, ht, hu, hr2⟩ := run_stp hrun eo
      have : t = s := Option.some.inj (ht.symm.trans hr1)
      subst this
      have g := good_run (good_init n) hr1
      refine ⟨_, _, rfl, SqT.of upd_same, rfl, _, _, rfl, _, _, rfl, rfl, ?_⟩
      have s34 := same_upd (o := HO.tup [.int (i : Nat), .ref as[i]]) hT
      have s4 := s3.trans s34
      have S4 : SimAt e.C_Shelf _ sh bl ol t := ⟨let ⟨dx, h⟩ := S3.ob; ⟨dx, s34 _ _ h⟩, s34 _ _ S3.bk, s34 _ _ S3.ot, S3.ne⟩
      have hop : OpAt _ as[i] ops[i] := s4 _ _ (hO.at_ i _ _ ea eo)
      refine ⟨_, rfl, _, rfl, sh, bl, ol, as[i], t, ops[i], rfl, S4, hop, fun H5 s45 => ⟨_, rfl, iteNB (by rw [hu]; rfl) ?_⟩⟩
      have s5 := s4.trans s45
      have S5 : SimAt e.C_Shelf H5 sh bl ol t := ⟨let ⟨dx, h⟩ := S4.ob; ⟨dx, s45 _ _ h⟩, s45 _ _ S4.bk, s45 _ _ S4.ot, S4.ne⟩
      obtain ⟨dx5, ho5⟩ := S5.ob
      have hop5 : H5 as[i] = some (.tup (opv ops[i])) := s45 _ _ hop
      have hf5 : H5 fl = some (.lst (t.filled.map V.int)) := s45 _ _ (s34 _ _ hf3)
      have outl : t.out.length ≤ 200 := by
        have := g.perm.length_eq
        rw [List.length_append, rangeI_length] at this; omega
      refine ⟨_, rfl, _, _, rfl, SqT.of hop5, rfl, _, _, rfl, _, _, rfl, rfl, ?_⟩
      clear hop hop5 hO
      generalize ops[i] = o at hu
      obtain ⟨wd, x⟩ := o
      cases wd with
      | true =>
        obtain ⟨hp, b, eb, rfl⟩ := stp_take hu
        refine ⟨_, rfl, rfl, _, rfl, iteD rfl ?_⟩
        refine ⟨_, rfl, sh, dx5, _, rfl, ho5, shf_no _ _ (by decide +kernel) (by decide +kernel), _, rfl, ?_⟩
        refine ⟨sh, bl, ol, t, x, b, rfl, S5, hp, eb, by omega, fun H6 hS6 kp6 => ?_⟩
        have S6 := hS6 ⟨t.books.set x.toNat none, t.out ++ [b], t.filled, mx t.most ((t.out ++ [b]).length : Nat)⟩ rfl rfl
        obtain ⟨dx6, ho6⟩ := S6.ob
        have s6 : Same H H6 := fun c o hc => kp6 c o (s5 c o hc) (ne_of_none hc nbl) (ne_of_none hc nol)
        refine ⟨_, rfl, _, rfl, sh, e.C_Shelf, dx6, _, _, rfl, ho6, e.cl_Shelf, e.nA_Shelf_out, shf_out _ _, ol, _, rfl, .inl (SqL.of S6.ot), _, _, rfl, ?_⟩
        refine ⟨_, some (.int (i : Nat)), some (.ref as[i]), some (.str (if ((true, x) : Op).1 = true then "take" else "return")), some (.int x), hr2, ?_, s6, S6, kp6 _ _ hf5 f2.symm f3.symm⟩
        rw [List.length_map]; rfl
      | false =>
        obtain ⟨hb, rfl⟩ := stp_ret hu
        refine ⟨_, rfl, rfl, _, rfl, iteX ne_w ?_⟩
        have fll : t.filled.length ≤ 400 := by
          obtain ⟨⟨m, e1, e2⟩, _⟩ := run_grow hr1
          have e3 : t.filled = m := by rw [e1]; rfl
          rw [e3, e2]
          unfold rets
          refine Nat.le_trans (List.length_filter_le _ _) ?_
          rw [List.length_take]; omega
        refine ⟨_, rfl, .inl ⟨rfl, _, SqL.of hf5⟩, _, rfl, sh, dx5, _, rfl, ho5, shf_no _ _ (by decide +kernel) (by decide +kernel), _, rfl, ?_⟩
        refine ⟨sh, bl, ol, t, x, rfl, S5, hb, g.gap hb, fun H6 hS6 kp6 => ?_⟩
        have S6 := hS6 ⟨t.books.set (gap t.books) (some x), t.out.erase x, t.filled ++ [(gap t.books : Int)], mx t.most ((t.out.erase x).length : Nat)⟩ rfl rfl
        obtain ⟨dx6, ho6⟩ := S6.ob
        have s6 : Same H H6 := fun c o hc => kp6 c o (s5 c o hc) (ne_of_none hc nbl) (ne_of_none hc nol)
        have hf6 := kp6 _ _ hf5 f2.symm f3.symm
        refine ⟨fl, _, _, rfl, rfl, hf6, (by rw [List.length_map]; exact small1000 (by omega)), ?_⟩
        have s7 : Same H (upd H6 fl (.lst (t.filled.map V.int ++ [V.int (gap t.books)]))) := fun c o hc => by
          rw [upd_ne (ne_of_none hc nfl)]; exact s6 c o hc
        refine ⟨_, rfl, _, rfl, sh, e.C_Shelf, dx6, _, _, rfl, (by rw [upd_ne f1]; exact ho6), e.cl_Shelf, e.nA_Shelf_out, shf_out _ _, ol, _, rfl, .inl (SqL.of (by rw [upd_ne f3]; exact S6.ot)), _, _, rfl, ?_⟩
        refine ⟨_, some (.int (i : Nat)), some (.ref as[i]), some (.str (if ((false, x) : Op).1 = true then "take" else "return")), some (.int x), hr2, ?_, s7, ⟨⟨dx6, by rw [upd_ne f1]; exact ho6⟩, by rw [upd_ne f2]; exact S6.bk, by rw [upd_ne f3]; exact S6.ot, S6.ne⟩, ?_⟩
        · rw [List.length_map]; rfl
        · rw [upd_same, List.map_append]; rfl
    · rintro σ H3 ⟨s, v5, v6, v7, v8, hr1, rfl, s3, S3, hf3⟩
      rw [List.length_map, hasl, List.take_length, hrun] at hr1
      cases hr1
      refine ⟨_, rfl, _, rfl, _, rfl, (by show 3 ≤ sizeLine; decide), fun t ht => ?_⟩
      have st := same_upd (o := HO.tup [.ref sh, .ref fl, .int f.most]) ht
      exact k _ t sh bl ol fl (s3.trans st) upd_same ⟨let ⟨dx, h⟩ := S3.ob; ⟨dx, st _ _ h⟩, st _ _ S3.bk, st _ _ S3.ot, S3.ne⟩ (st _ _ hf3) nbl nol nfl nsh
theorem ok_is_schedule (e : Env K mg) : FnOk P w K mg base CX0 6 e.a_is_schedule e.d_is_schedule ["size", "value"] (sp_is_schedule K) := by
  refine e.f_is_schedule.ok sc_is_schedule (fun vs H Q E h => ?_) (fun cdv A outer s H vs Q E hr h => ?_)
  · obtain ⟨n, l, ops, f, rfl, _⟩ := h; rfl
  · obtain ⟨n, l, ops, f, rfl, R, k⟩ := h
    refine ⟨_, (pss_cons (ps_try_thru0 (pss_one (ps_expr (pe_call ((ok_run_schedule e).mono (by decide)) hr rfl e.g_run_schedule e.f_run_schedule.kp e.b_run_schedule .nil pass0 (pa_cons (pv 0) (pa_cons (pv 1) pa_nil))))))
      (pss_one (ps_ret pe_bl))), ?_⟩
    exact ⟨_, rfl, _, rfl, n, l, ops, f, rfl, R, fun H' t sh bl ol fl s1 h1 h2 h3 h4 h5 h6 h7 => k _ s1⟩
theorem ok_books_after (e : Env K mg) : FnOk P w K mg base CX0 6 e.a_books_after e.d_books_after ["size", "schedule"] (sp_books_after K) := by
  refine e.f_books_after.ok sc_books_after (fun vs H Q E h => ?_) (fun cdv A outer s H vs Q E hr h => ?_)
  · obtain ⟨n, l, ops, f, rfl, _⟩ := h; rfl
  · obtain ⟨n, l, ops, f, rfl, R, k⟩ := h
    refine ⟨_, (pss_cons (ps_asg (pe_call ((ok_run_schedule e).mono (by decide)) hr rfl e.g_run_schedule e.f_run_schedule.kp e.b_run_schedule .nil pass0 (pa_cons (pv 0) (pa_cons (pv 1) pa_nil))) (pg_tup (by rfl) (pgs_cons (pg_name (i := 2) sc_books_after.nd rfl (by first | exact Or.inl rfl | exact Or.inr rfl)) (pgs_cons (pg_name (i := 3) sc_books_after.nd rfl (by first | exact Or.inl rfl | exact Or.inr rfl)) (pgs_cons (pg_name (i := 3) sc_books_after.nd rfl (by first | exact Or.inl rfl | exact Or.inr rfl)) pgs_nil)))))
      (pss_one (ps_ret (pe_fld (pv 2) rfl)))), ?_⟩
    refine ⟨_, rfl, _, rfl, n, l, ops, f, rfl, R, fun H' t sh bl ol fl s1 h1 h2 h3 h4 h5 h6 h7 => ?_⟩
    obtain ⟨dx, ho⟩ := h2.ob
    refine ⟨_, _, rfl, SqT.of h1, rfl, _, _, rfl, _, _, rfl, _, _, rfl, rfl, ?_⟩
    exact ⟨_, rfl, sh, e.C_Shelf, dx, _, _, rfl, ho, e.cl_Shelf, e.nA_Shelf_books, shf_books _ _, k _ bl s1 h4 h2.bk⟩
theorem ok_books_out (e : Env K mg) : FnOk P w K mg base CX0 6 e.a_books_out e.d_books_out ["size", "schedule"] (sp_books_out K) := by
  refine e.f_books_out.ok sc_books_out (fun vs H Q E h => ?_) (fun cdv A outer s H vs Q E hr h => ?_)
  · obtain ⟨n, l, ops, f, rfl, _⟩ := h; rfl
  · obtain ⟨n, l, ops, f, rfl, R, k⟩ := h
    refine ⟨_, (pss_cons (ps_asg (pe_call ((ok_run_schedule e).mono (by decide)) hr rfl e.g_run_schedule e.f_run_schedule.kp e.b_run_schedule .nil pass0 (pa_cons (pv 0) (pa_cons (pv 1) pa_nil))) (pg_tup (by rfl) (pgs_cons (pg_name (i := 2) sc_books_out.nd rfl (by first | exact Or.inl rfl | exact Or.inr rfl)) (pgs_cons (pg_name (i := 3) sc_books_out.nd rfl (by first | exact Or.inl rfl | exact Or.inr rfl)) (pgs_cons (pg_name (i := 3) sc_books_out.nd rfl (by first | exact Or.inl rfl | exact Or.inr rfl)) pgs_nil)))))
      (pss_one (ps_ret (pe_callB cr_sortedI (by rfl) e.n_sorted (by decide +kernel) (pa_cons (pe_fld (pv 2) rfl) pa_nil))))), ?_⟩
    refine ⟨_, rfl, _, rfl, n, l, ops, f, rfl, R, fun H' t sh bl ol fl s1 h1 h2 h3 h4 h5 h6 h7 => ?_⟩
    obtain ⟨dx, ho⟩ := h2.ob
    refine ⟨_, _, rfl, SqT.of h1, rfl, _, _, rfl, _, _, rfl, _, _, rfl, rfl, ?_⟩
    refine ⟨_, rfl, sh, e.C_Shelf, dx, _, _, rfl, ho, e.cl_Shelf, e.nA_Shelf_out, shf_out _ _, ol, _, rfl, SqL.of h2.ot, fun ns' p hp1 hp2 np => ?_⟩
    exact k _ p ns' (s1.trans (same_upd np)) (s1.free np) hp1 hp2 upd_same
theorem ok_places_filled (e : Env K mg) : FnOk P w K mg base CX0 6 e.a_places_filled e.d_places_filled ["size", "schedule"] (sp_places_filled K) := by
  refine e.f_places_filled.ok sc_places_filled (fun vs H Q E h => ?_) (fun cdv A outer s H vs Q E hr h => ?_)
  · obtain ⟨n, l, ops, f, rfl, _⟩ := h; rfl
  · obtain ⟨n, l, ops, f, rfl, R, k⟩ := h
    refine ⟨_, (pss_cons (ps_asg (pe_call ((ok_run_schedule e).mono (by decide)) hr rfl e.g_run_schedule e.f_run_schedule.kp e.b_run_schedule .nil pass0 (pa_cons (pv 0) (pa_cons (pv 1) pa_nil))) (pg_tup (by rfl) (pgs_cons (pg_name (i := 2) sc_places_filled.nd rfl (by first | exact Or.inl rfl | exact Or.inr rfl)) (pgs_cons (pg_name (i := 3) sc_places_filled.nd rfl (by first | exact Or.inl rfl | exact Or.inr rfl)) (pgs_cons (pg_name (i := 2) sc_places_filled.nd rfl (by first | exact Or.inl rfl | exact Or.inr rfl)) pgs_nil)))))
      (pss_one (ps_ret (pv 3)))), ?_⟩
    refine ⟨_, rfl, _, rfl, n, l, ops, f, rfl, R, fun H' t sh bl ol fl s1 h1 h2 h3 h4 h5 h6 h7 => ?_⟩
    refine ⟨_, _, rfl, SqT.of h1, rfl, _, _, rfl, _, _, rfl, _, _, rfl, rfl, ?_⟩
    exact ⟨_, rfl, k _ fl s1 h6 h3⟩
theorem ok_most_out (e : Env K mg) : FnOk P w K mg base CX0 6 e.a_most_out e.d_most_out ["size", "schedule"] (sp_most_out K) := by
  refine e.f_most_out.ok sc_most_out (fun vs H Q E h => ?_) (fun cdv A outer s H vs Q E hr h => ?_)
  · obtain ⟨n, l, ops, f, rfl, _⟩ := h; rfl
  · obtain ⟨n, l, ops, f, rfl, R, k⟩ := h
    refine ⟨_, (pss_cons (ps_asg (pe_call ((ok_run_schedule e).mono (by decide)) hr rfl e.g_run_schedule e.f_run_schedule.kp e.b_run_schedule .nil pass0 (pa_cons (pv 0) (pa_cons (pv 1) pa_nil))) (pg_tup (by rfl) (pgs_cons (pg_name (i := 2) sc_most_out.nd rfl (by first | exact Or.inl rfl | exact Or.inr rfl)) (pgs_cons (pg_name (i := 2) sc_most_out.nd rfl (by first | exact Or.inl rfl | exact Or.inr rfl)) (pgs_cons (pg_name (i := 3) sc_most_out.nd rfl (by first | exact Or.inl rfl | exact Or.inr rfl)) pgs_nil)))))
      (pss_one (ps_ret (pv 3)))), ?_⟩
    refine ⟨_, rfl, _, rfl, n, l, ops, f, rfl, R, fun H' t sh bl ol fl s1 h1 h2 h3 h4 h5 h6 h7 => ?_⟩
    refine ⟨_, _, rfl, SqT.of h1, rfl, _, _, rfl, _, _, rfl, _, _, rfl, rfl, ?_⟩
    exact ⟨_, rfl, k _ s1⟩
end
end LP

namespace LP
open PySem L2 LR
section
variable {P : Program} {w : World} {K : PySem.W.Frag} {mg : Str → Option Value} {base : Heap}
theorem stir_total {t c : Int} (h : 0 ≤ t) (h2 : t < M61) : 0 ≤ (t * 1000003 + c % M61 + 1) % M61 ∧ (t * 1000003 + c % M61 + 1) % M61 < M61 := ⟨Int.emod_nonneg _ (by decide), Int.emod_lt_of_pos _ (by decide)⟩
theorem ok__law_bag (e : Env K mg) : FnOk P w K mg base CX0 1 e.a__law_bag e.d__law_bag ["script"] (sp__law_bag K) := by
  refine e.f__law_bag.ok sc__law_bag (fun vs H Q E h => ?_) (fun cdv A outer s H vs Q E hr h => ?_)
  · obtain ⟨a, ns, rfl, _⟩ := h; rfl
  · obtain ⟨a, ns, rfl, hS, hl, k⟩ := h
    refine ⟨_, (pss_cons (ps_set (i := 1) sc__law_bag.nd rfl (by first | exact Or.inl rfl | exact Or.inr rfl) pe_int)
      (pss_cons (ps_for PassesOwn.never rfl (pi_list (pv 0)) (pg_name (i := 2) sc__law_bag.nd rfl (by first | exact Or.inl rfl | exact Or.inr rfl))
      (pss_one (ps_set (i := 1) sc__law_bag.nd rfl (by first | exact Or.inl rfl | exact Or.inr rfl) (pe_op op_mod (pe_op op_add (pe_op op_add (pe_op op_mul (pv 1) pe_int) (pe_op op_mod (pv 2) pe_int)) pe_int) pe_int))))
      (pss_one (ps_ret (pe_lst (pa_cons (pe_callTy call_list_of (by rfl) e.n_list (by decide +kernel) (pa_cons (pv 0) pa_nil)) (pa_cons pe_int (pa_cons pe_int (pa_cons pe_int (pa_cons (pv 1) pa_nil)))))))))), ?_⟩
    refine ⟨_, rfl, a, rfl, ⟨_, hS⟩, for_it walk_list (fun i σ H1 => ∃ (t : Int) (v : Option V), 0 ≤ t ∧ t < M61 ∧ H1 = H ∧ σ = [some (.ref a), some (.int t), v])
      ⟨1, none, by decide, by decide, rfl, rfl⟩ (fun i σ H1 _ ⟨_, _, _, _, e1, _⟩ => by rw [e1]; exact hS) ?_ ?_⟩
    · rintro i x σ H1 H2 hi ⟨t, v, h0, h1, rfl, rfl⟩ ⟨rfl, hx⟩
      rw [List.getElem?_map] at hx
      cases q : ns[i]? with
      | none => rw [q] at hx; cases hx
      | some c =>
        rw [q] at hx; cases hx
        refine ⟨_, rfl, _, _, rfl, rfl, .inr ⟨by decide, by decide⟩, ?_⟩
        refine ⟨_, rfl, _, _, rfl, rfl, (by show (0 : Int) < M61; decide), _, _, rfl, rfl, _, _, rfl, rfl, _, _, rfl, rfl, (by show (0 : Int) < M61; decide), ?_⟩
        have z := stir_total (c := c) h0 h1
        exact ⟨_, _, z.1, z.2, rfl, rfl⟩
    · rintro σ H1 ⟨t, v, h0, h1, rfl, rfl⟩
      refine ⟨_, rfl, a, _, rfl, .inl hS, fun l hl' => ?_⟩
      refine ⟨_, rfl, (by show 5 ≤ sizeLine; decide), fun b hb => ?_⟩
      have hb0 := (same_upd hl').free hb
      have n1 : l ≠ b := ne_of_none upd_same hb
      refine k _ b l ((same_upd hl').trans (same_upd hb)) hb0 hl' ⟨⟨0, 0, 0, t, upd_same, by decide, by omega, by decide, by decide, h0, h1⟩, ?_, n1⟩
      rw [upd_ne n1, upd_same]
theorem ok__law_stir (e : Env K mg) : FnOk P w K mg base CX0 1 e.a__law_stir e.d__law_stir ["number", "place"] (sp__law_stir) := by
  refine e.f__law_stir.ok sc__law_stir (fun vs H Q E h => ?_) (fun cdv A outer s H vs Q E hr h => ?_)
  · obtain ⟨x, y, rfl, _⟩ := h; rfl
  · obtain ⟨x, y, rfl, h1, h2, h3, h4, k⟩ := h
    refine ⟨_, (pss_cons (ps_set (i := 2) sc__law_stir.nd rfl (by first | exact Or.inl rfl | exact Or.inr rfl) (pe_op op_mod (pe_op op_add (pe_op op_add (pe_op op_mul (pv 0) pe_int) (pe_op op_mul (pv 1) pe_int)) pe_int) pe_int))
      (pss_cons (ps_set (i := 3) sc__law_stir.nd rfl (by first | exact Or.inl rfl | exact Or.inr rfl) (pe_op op_mod (pe_op op_mul (pv 2) (pv 2)) pe_int))
      (pss_one (ps_ret (pe_op op_fdivW (pe_op op_mod (pe_op op_add (pe_op op_add (pe_op op_mul (pv 3) pe_int) (pe_op op_mul (pe_op op_mul (pv 1) (pv 1)) pe_int)) (pe_op op_fdivW (pv 2) pe_int)) pe_int) pe_int))))), ?_⟩
    refine ⟨_, rfl, _, _, rfl, rfl, .inr ⟨by decide, by decide⟩, _, rfl, _, _, rfl, rfl, .inr ⟨by decide, by decide⟩, _, _, rfl, rfl, _, _, rfl, rfl, _, _, rfl, rfl, (by show (0 : Int) < M61; decide), ?_⟩
    have o1 : 0 ≤ (x * 998244353 + y * 1000000007 + 5) % M61 := Int.emod_nonneg _ (by decide)
    have o2 : (x * 998244353 + y * 1000000007 + 5) % M61 < M61 := Int.emod_lt_of_pos _ (by decide)
    have m64 : M61 < 2 ^ 64 := by decide
    have m0 : -(2 ^ 64) < (0 : Int) := by decide
    refine ⟨_, rfl, _, rfl, _, _, rfl, rfl, .inl ⟨Int.lt_of_lt_of_le m0 o1, Int.lt_trans o2 m64⟩, _, _, rfl, rfl, (by show (0 : Int) < M61; decide), ?_⟩
    have y1 : -(2 ^ 64) < y := by omega
    have y2 : y < 2 ^ 64 := by omega
    refine ⟨_, rfl, _, _, rfl, rfl, .inr ⟨by decide, by decide⟩, _, rfl, _, rfl, _, _, rfl, rfl, .inl ⟨y1, y2⟩, _, _, rfl, rfl, .inr ⟨by decide, by decide⟩, _, _, rfl, rfl, _, rfl, _, _, rfl, rfl, ⟨by decide, by decide⟩, _, _, rfl, rfl, _, _, rfl, rfl, (by show (0 : Int) < 2305843009213693921; decide), _, _, rfl, rfl, ⟨by decide, by decide⟩, ?_⟩
    exact k _
theorem bag_get {K : PySem.W.Frag} {H : Hp} {b : Addr} {vs : List V} {j : Nat} {v : V} (h : H b = some (.lst vs)) (e : vs[j]? = some v) : ∃ (p : Addr) (xs : List V) (i : Int) (w : V), V.ref b = .ref p ∧ V.int j = .int i ∧ SqL K H p xs ∧ atI xs i = some w ∧ w = v := ⟨b, vs, j, v, rfl, rfl, SqL.of h, atI_nat e, rfl⟩
theorem ok__law_draw (e : Env K mg) : FnOk P w K mg base CX0 2 e.a__law_draw e.d__law_draw ["bag", "bound"] (sp__law_draw) := by
  refine e.f__law_draw.ok sc__law_draw (fun vs H Q E h => ?_) (fun cdv A outer s H vs Q E hr h => ?_)
  · obtain ⟨b, l, ns, d, n, rfl, _⟩ := h; rfl
  · obtain ⟨b, l, ns, d, n, rfl, G, hn, hn2, hd, hl, k⟩ := h
    refine ⟨_, (pss_cons (ps_if (pt_cmpR op_eq (pv 1) pe_int (nomark _))
        (pss_one (ps_ret pe_int))
        pss_nil)
      (pss_cons (ps_asg (pe_op op_add (pe_ix ix_list (pv 0) pe_int (fun _ _ => rfl)) pe_int) (pg_sub (pv 0) pe_int set_list))
      (pss_cons (ps_if (PW.pt (pw_and (pt_cmpR op_lt (pe_ix ix_list (pv 0) pe_int (fun _ _ => rfl)) pe_int (nomark _)) (pw_and1 (pt_cmpR op_eq (pe_ix ix_list (pv 0) pe_int (fun _ _ => rfl)) (pe_callB call_len_seq (by rfl) e.n_len PySem.boot_len (pa_cons (pe_ix ix_list (pv 0) pe_int (fun _ _ => rfl)) pa_nil)) (nomark _)))))
        (pss_one (ps_ret (pe_op op_mod (pe_call ((ok__law_stir e).mono (by decide)) hr rfl e.g__law_stir e.f__law_stir.kp e.b__law_stir .nil pass0 (pa_cons (pe_ix ix_list (pv 0) pe_int (fun _ _ => rfl)) (pa_cons (pe_ix ix_list (pv 0) pe_int (fun _ _ => rfl)) pa_nil))) (pv 1))))
        pss_nil)
      (pss_cons (ps_if (pt_cmpR op_lt (pe_ix ix_list (pv 0) pe_int (fun _ _ => rfl)) pe_int (nomark _))
        (pss_cons (ps_set (i := 2) sc__law_draw.nd rfl (by first | exact Or.inl rfl | exact Or.inr rfl) (pe_ix ix_list (pe_ix ix_list (pv 0) pe_int (fun _ _ => rfl)) (pe_ix ix_list (pv 0) pe_int (fun _ _ => rfl)) (fun _ _ => rfl)))
      (pss_cons (ps_asg (pe_op op_add (pe_ix ix_list (pv 0) pe_int (fun _ _ => rfl)) pe_int) (pg_sub (pv 0) pe_int set_list))
      (pss_cons (ps_if (pt_cmpR op_lt (pv 2) (pe_op op_pow pe_int pe_int) (nomark _))
        (pss_one (ps_ret (pe_op op_mod (pe_call ((ok__law_stir e).mono (by decide)) hr rfl e.g__law_stir e.f__law_stir.kp e.b__law_stir .nil pass0 (pa_cons (pe_op op_mod (pv 2) pe_int) (pa_cons (pe_ix ix_list (pv 0) pe_int (fun _ _ => rfl)) pa_nil))) (pv 1))))
        pss_nil)
      (pss_one (ps_asg (pe_op op_sub (pv 2) (pe_op op_pow pe_int pe_int)) (pg_sub (pv 0) pe_int set_list))))))
        pss_nil)
      (pss_cons (ps_set (i := 3) sc__law_draw.nd rfl (by first | exact Or.inl rfl | exact Or.inr rfl) (pe_op op_mod (pe_ix ix_list (pv 0) pe_int (fun _ _ => rfl)) (pv 1)))
      (pss_cons (ps_asg (pe_op op_fdivW (pe_ix ix_list (pv 0) pe_int (fun _ _ => rfl)) (pv 1)) (pg_sub (pv 0) pe_int set_list))
      (pss_one (ps_ret (pv 3))))))))), ?_⟩
    refine ⟨_, rfl, rfl, _, rfl, ite2d (fun h1 => ?_) fun h1 => ?_⟩
    · have e1 : n = 1 := V.int.inj h1
      exact k _ 0 (by decide) (by omega) (G.mono (by omega)) (Fr.refl _ _)
    · obtain ⟨⟨i, c, kk, t, hb, hi0, hi1, hk0, hk1, ht0, ht1⟩, hls, hne⟩ := id G
      refine ⟨_, rfl, b, _, _, _, rfl, rfl, SqL.of hb, rfl, _, _, rfl, rfl, _, rfl, b, _, _, 3, rfl, rfl, hb, rfl, ?_⟩
      have F : ∀ o, Fr H (upd H b o) b := fun o a x hx ha => by rw [upd_ne ha]; exact hx
      have hbb : ∀ o, upd H b o b = some o := fun o => upd_same
      have hll : ∀ o, upd H b o l = some (.lst (ns.map V.int)) := fun o => by rw [upd_ne hne]; exact hls
      have cl : ∀ c' : Int, Bag (upd H b (.lst [.ref l, .int i, .int c', .int (kk + 1), .int t])) b l ns (d + 1) := fun c' => ⟨⟨i, c', kk + 1, t, upd_same, hi0, hi1, by omega, by omega, ht0, ht1⟩, hll _, hne⟩
      have cl2 : ∀ (j c' : Int), 0 ≤ j → j ≤ ns.length → Bag (upd H b (.lst [.ref l, .int j, .int c', .int (kk + 1), .int t])) b l ns (d + 1) := fun j c' h0 h1 => ⟨⟨j, c', kk + 1, t, upd_same, h0, h1, by omega, by omega, ht0, ht1⟩, hll _, hne⟩
      have r0 : ∀ r : Int, 0 ≤ r % n := fun r => Int.emod_nonneg _ (by omega)
      have r1 : ∀ r : Int, r % n < n := fun r => Int.emod_lt_of_pos _ hn
      refine ⟨_, rfl, b, _, _, _, rfl, rfl, SqL.of upd_same, rfl, _, _, rfl, rfl, _, rfl, ite2d (fun hc => ?_) fun hc => ?_⟩
      · refine ⟨_, rfl, b, _, _, _, rfl, rfl, SqL.of upd_same, rfl, _, rfl, b, _, _, _, rfl, rfl, SqL.of upd_same, rfl, l, _, rfl, .inl (SqL.of (hll _)), rfl, _, rfl, ite2d (fun hi => ?_) fun hi => ?_⟩
        · refine ⟨_, rfl, b, _, _, _, rfl, rfl, SqL.of upd_same, rfl, _, rfl, b, _, _, _, rfl, rfl, SqL.of upd_same, rfl, t, kk + 1, rfl, ht0, ht1, by omega, by omega, fun r => ⟨_, rfl, _, _, rfl, rfl, hn, ?_⟩⟩
          exact k _ (r % n) (r0 r) (r1 r) (cl c) (F _)
        · refine ⟨_, rfl, b, _, _, _, rfl, rfl, SqL.of upd_same, rfl, _, _, rfl, rfl, _, rfl, iteD hc ?_⟩
          have hi2 : i ≠ ns.length := fun q => hi (by rw [q, List.length_map])
          have hi3 : i.toNat < ns.length := by omega
          refine ⟨_, rfl, b, _, _, _, rfl, rfl, SqL.of upd_same, rfl, _, rfl, b, _, _, _, rfl, rfl, SqL.of upd_same, rfl, _, _, _, _, rfl, rfl, SqL.of (hll _), at_of (j := i.toNat) (v := V.int ns[i.toNat]) (by omega) (by rw [List.getElem?_map, List.getElem?_eq_getElem hi3]; rfl), ?_⟩
          refine ⟨_, rfl, b, _, _, _, rfl, rfl, SqL.of upd_same, rfl, _, _, rfl, rfl, _, rfl, b, _, _, 1, rfl, rfl, upd_same, rfl, ?_⟩
          rw [upd_upd]
          generalize ns[i.toNat] = cell
          refine ⟨_, rfl, _, _, rfl, rfl, ⟨by decide, by decide, by decide⟩, _, _, rfl, rfl, _, rfl, ite2d (fun hq => ?_) fun hq => ?_⟩
          · refine ⟨_, rfl, _, _, rfl, rfl, (by show (0 : Int) < M61; decide), _, rfl, b, _, _, _, rfl, rfl, SqL.of upd_same, rfl, cell % M61, kk + 1, rfl, Int.emod_nonneg _ (by decide), Int.emod_lt_of_pos _ (by decide), by omega, by omega, fun r => ⟨_, rfl, _, _, rfl, rfl, hn, ?_⟩⟩
            exact k _ (r % n) (r0 r) (r1 r) (cl2 (i + 1) c (by omega) (by omega)) (F _)
          · refine ⟨_, rfl, _, _, rfl, rfl, ⟨by decide, by decide, by decide⟩, _, _, rfl, rfl, _, rfl, b, _, _, 2, rfl, rfl, upd_same, rfl, ?_⟩
            rw [upd_upd]
            refine ⟨_, rfl, b, _, _, _, rfl, rfl, SqL.of upd_same, rfl, _, rfl, _, _, rfl, rfl, hn, _, rfl, b, _, _, _, rfl, rfl, SqL.of upd_same, rfl, _, rfl, _, _, rfl, rfl, ⟨hn, hn2⟩, _, rfl, b, _, _, 2, rfl, rfl, upd_same, rfl, ?_⟩
            rw [upd_upd]
            exact ⟨_, rfl, k _ _ (r0 _) (r1 _) (cl2 (i + 1) _ (by omega) (by omega)) (F _)⟩
      · refine iteF ?_
        refine ⟨_, rfl, b, _, _, _, rfl, rfl, SqL.of upd_same, rfl, _, _, rfl, rfl, _, rfl, iteX hc ?_⟩
        refine ⟨_, rfl, b, _, _, _, rfl, rfl, SqL.of upd_same, rfl, _, rfl, _, _, rfl, rfl, hn, _, rfl, b, _, _, _, rfl, rfl, SqL.of upd_same, rfl, _, rfl, _, _, rfl, rfl, ⟨hn, hn2⟩, _, rfl, b, _, _, 2, rfl, rfl, upd_same, rfl, ?_⟩
        rw [upd_upd]
        exact ⟨_, rfl, k _ _ (r0 _) (r1 _) (cl _) (F _)⟩
end
end LP

namespace LP
open PySem L2 LR
section
variable {P : Program} {w : World} {K : PySem.W.Frag} {mg : Str → Option Value} {base : Heap}
theorem Bag.nb {H : Hp} {b l : Addr} {ns : List Int} {d : Nat} (g : Bag H b l ns d) : ∃ o, H b = some o := let ⟨⟨_, _, _, _, h, _⟩, _, _⟩ := g; ⟨_, h⟩
theorem Bag.ne_new {H : Hp} {b l p : Addr} {ns : List Int} {d : Nat} (g : Bag H b l ns d) (hp : H p = none) : p ≠ b := by
  obtain ⟨o, h⟩ := g.nb
  exact (ne_of_none h hp).symm
theorem Bag.l_ne {H : Hp} {b l p : Addr} {ns : List Int} {d : Nat} (g : Bag H b l ns d) (hp : H p = none) : l ≠ p := ne_of_none g.ls hp
theorem ok__law_size (e : Env K mg) : FnOk P w K mg base CX0 3 e.a__law_size e.d__law_size ["bag"] (sp__law_size) := by
  refine e.f__law_size.ok sc__law_size (fun vs H Q E h => ?_) (fun cdv A outer s H vs Q E hr h => ?_)
  · obtain ⟨b, l, ns, d, rfl, _⟩ := h; rfl
  · obtain ⟨b, l, ns, d, rfl, G, hd, hl, k⟩ := h
    refine ⟨_, (pss_one (ps_ret (pe_ix ix_list (pe_lst (pa_cons (pe_op op_add pe_int (pe_call ((ok__law_draw e).mono (by decide)) hr rfl e.g__law_draw e.f__law_draw.kp e.b__law_draw .nil pass0 (pa_cons (pv 0) (pa_cons pe_int pa_nil)))) (pa_cons (pe_op op_add pe_int (pe_call ((ok__law_draw e).mono (by decide)) hr rfl e.g__law_draw e.f__law_draw.kp e.b__law_draw .nil pass0 (pa_cons (pv 0) (pa_cons pe_int pa_nil)))) (pa_cons pe_int pa_nil)))) (pe_call ((ok__law_draw e).mono (by decide)) hr rfl e.g__law_draw e.f__law_draw.kp e.b__law_draw .nil pass0 (pa_cons (pv 0) (pa_cons pe_int pa_nil))) (fun _ _ => rfl)))), ?_⟩
    refine ⟨_, rfl, b, l, ns, d, 6, rfl, G, by decide, by decide +kernel, by omega, hl, fun H1 r1 a1 b1 G1 F1 => ?_⟩
    refine ⟨_, _, rfl, rfl, _, rfl, b, l, ns, _, 40, rfl, G1, by decide, by decide +kernel, by omega, hl, fun H2 r2 a2 b2 G2 F2 => ?_⟩
    refine ⟨_, _, rfl, rfl, (by show 3 ≤ sizeLine; decide), fun p hp => ?_⟩
    refine ⟨_, rfl, b, l, ns, _, 3, rfl, G2.same (same_upd hp), by decide, by decide +kernel, by omega, hl, fun H3 r3 a3 b3 G3 F3 => ?_⟩
    have h3 : H3 p = some (.lst [.int (1 + r1), .int (1 + r2), .int 200]) := F3 _ _ upd_same (G2.ne_new hp)
    have F : Fr H H3 b := (F1.trans F2).trans ((Fr.of (same_upd hp)).trans F3)
    have k1 := k H3 (1 + r1).toNat (by omega) (by omega) G3 F
    have k2 := k H3 (1 + r2).toNat (by omega) (by omega) G3 F
    have k3 := k H3 200 (by omega) (by omega) G3 F
    rw [show (((1 + r1).toNat : Nat) : Int) = 1 + r1 by omega] at k1
    rw [show (((1 + r2).toNat : Nat) : Int) = 1 + r2 by omega] at k2
    obtain rfl | rfl | rfl : r3 = 0 ∨ r3 = 1 ∨ r3 = 2 := by omega
    · exact rd_ix (j := 0) (SqL.of h3) rfl rfl k1
    · exact rd_ix (j := 1) (SqL.of h3) rfl rfl k2
    · exact rd_ix (j := 2) (SqL.of h3) rfl rfl k3
def placesOf (l : List (Option Int)) (i : Nat) : List Int := ((List.range i).filter fun k => decide (l[k]? ≠ some none)).map fun k : Nat => (k : Int)
theorem placesOf_succ (l : List (Option Int)) (i : Nat) : placesOf l (i + 1) = placesOf l i ++ (if l[i]? ≠ some none then [(i : Int)] else []) := by
  unfold placesOf
  rw [List.range_succ, List.filter_append, List.map_append]
  congr 1
  by_cases h : l[i]? ≠ some none
  · rw [if_pos h, List.filter_cons, if_pos (decide_eq_true h)]; rfl
  · rw [if_neg h, List.filter_cons, if_neg (by rw [decide_eq_false h]; exact Bool.false_ne_true)]; rfl
theorem mem_placesOf {l : List (Option Int)} {i : Nat} {x : Int} : x ∈ placesOf l i ↔ 0 ≤ x ∧ x < i ∧ l[x.toNat]? ≠ some none := by
  unfold placesOf
  rw [List.mem_map]
  constructor
  · rintro ⟨k, hk, rfl⟩
    rw [List.mem_filter, List.mem_range, decide_eq_true_iff] at hk
    exact ⟨by omega, by omega, by simpa using hk.2⟩
  · rintro ⟨h0, h1, h2⟩
    exact ⟨x.toNat, by rw [List.mem_filter, List.mem_range, decide_eq_true_iff]; exact ⟨by omega, h2⟩, by omega⟩
theorem placesOf_len (l : List (Option Int)) (i : Nat) : (placesOf l i).length ≤ i := by
  unfold placesOf
  rw [List.length_map]
  exact Nat.le_trans (List.length_filter_le _ _) (by rw [List.length_range]; exact Nat.le_refl _)
theorem pl_len (l : List (Option Int)) (i : Nat) (h : i ≤ 300) : ((placesOf l i).map V.int).length < sizeLine := by
  rw [List.length_map]
  exact small1000 (by have := placesOf_len l i; omega)
theorem erase_map {α β : Type} (f : α → β) : ∀ (l : List α) (k : Nat), (l.map f).eraseIdx k = (l.eraseIdx k).map f
  | [], _ => rfl
  | _ :: _, 0 => rfl
  | a :: r, k + 1 => by
    show f a :: (r.map f).eraseIdx k = f a :: (r.eraseIdx k).map f
    rw [erase_map f r k]
theorem flat_vo (l : List (Option Int)) : (l.map vo).all flatV = true := by
  rw [List.all_eq_true]; intro v hv; obtain ⟨i, _, rfl⟩ := List.mem_map.mp hv; cases i <;> rfl
theorem gap_vo {l : List (Option Int)} (hg : none ∈ l) : (l.map vo)[gap l]? = some V.non := by rw [List.getElem?_map, gap_get hg]; rfl
theorem before_vo {l : List (Option Int)} {m : Nat} {z : V} (hm : m < gap l) (hz : (l.map vo)[m]? = some z) : eqV z V.non = false := by
  rw [List.getElem?_map] at hz
  cases q : l[m]? with
  | none => rw [q] at hz; cases hz
  | some x =>
    rw [q] at hz
    have hx := gap_before hm q
    cases x with
    | none => exact absurd rfl hx
    | some i => cases hz; rfl
theorem seq_int {n : Nat} {z : Int} (h0 : 0 ≤ z) (h : z.toNat < n) : seqIndex? z n = some z.toNat := by
  unfold seqIndex?
  have e : (if z < 0 then z + (n : Int) else z) = z := if_neg (by omega)
  simp only [e]
  rw [if_pos (by rw [Bool.and_eq_true, decide_eq_true_iff, decide_eq_true_iff]; omega)]
theorem ixN_nat {n j : Nat} (h : j < n) : ixN n (j : Int) = some j := by
  unfold ixN
  rw [if_pos (by omega), if_pos (by omega)]
  congr 1
theorem ixN_int {n : Nat} {z : Int} (h0 : 0 ≤ z) (h : z.toNat < n) : ixN n z = some z.toNat := by
  unfold ixN
  rw [if_pos h0, if_pos (by omega)]
theorem cut {A T : Hp → Prop} {G : Prop} (tk : ∀ H5, A H5 → T H5) (main : (∀ H5, A H5 → T H5) → G) : G := main tk
theorem log_small {n : Nat} (h : n < 1024) : ((n : Int)).natAbs.log2 < 9000 := by
  rw [Int.natAbs_natCast]
  by_cases h0 : n = 0
  · subst h0; decide
  · exact Nat.lt_trans ((Nat.log2_lt h0).mpr (show n < 2 ^ 10 from h)) (by decide)
theorem OpsAt.frame {H H' : Hp} {as : List Addr} {ops : List Op} (o : OpsAt H as ops) (s : ∀ a xs, H a = some (.tup xs) → H' a = some (.tup xs)) : OpsAt H' as ops := ⟨o.len, fun i a p h1 h2 => s _ _ (o.at_ i a p h1 h2)⟩
theorem OpsAt.snoc {H : Hp} {as : List Addr} {ops : List Op} {a : Addr} {p : Op} (o : OpsAt H as ops) (h : OpAt H a p) : OpsAt H (as ++ [a]) (ops ++ [p]) := by
  refine ⟨by rw [List.length_append, List.length_append, o.len]; rfl, fun i x q h1 h2 => ?_⟩
  by_cases hi : i < as.length
  · rw [List.getElem?_append_left hi] at h1
    rw [List.getElem?_append_left (by rw [← o.len]; exact hi)] at h2
    exact o.at_ i x q h1 h2
  · have hl := o.len
    rw [List.getElem?_append_right (by omega)] at h1
    rw [List.getElem?_append_right (by omega), ← hl] at h2
    match i - as.length, h1, h2 with
    | 0, h1, h2 => cases h1; cases h2; exact h
    | k + 1, h1, h2 => simp at h1
theorem none_of_places {l : List (Option Int)} (h : placesOf l l.length = []) : l.filterMap id = [] := by
  rw [List.filterMap_eq_nil_iff]
  intro a ha
  obtain ⟨k, hk, e⟩ := List.getElem_of_mem ha
  cases a with
  | none => rfl
  | some v =>
    have : (k : Int) ∈ placesOf l l.length := mem_placesOf.mpr ⟨by omega, by omega, by
      rw [Int.toNat_natCast, List.getElem?_eq_getElem hk, e]; intro q; cases q⟩
    rw [h] at this; cases this
theorem ok__law_schedule (e : Env K mg) : FnOk P w K mg base CX0 4 e.a__law_schedule e.d__law_schedule ["bag", "size", "most"] (sp__law_schedule) := by
  refine e.f__law_schedule.ok sc__law_schedule (fun vs H Q E h => ?_) (fun cdv A outer s H vs Q E hr h => ?_)
  · obtain ⟨b, l, ns, d, n, m, rfl, _⟩ := h; rfl
  · obtain ⟨b, l, ns, d, n, m, rfl, G, hd, hl, hn1, hn2, hm, k⟩ := h
    refine ⟨_, (pss_cons (ps_asg (pe_tup (pa_cons (pe_listRg rfl (by rfl) e.n_list (prg_1 (by rfl) e.n_range (pv 1))) (pa_cons (pe_lst pa_nil) (pa_cons (pe_lst pa_nil) (pa_cons (pe_op op_add pe_int (pe_call ((ok__law_draw e).mono (by decide)) hr rfl e.g__law_draw e.f__law_draw.kp e.b__law_draw .nil pass0 (pa_cons (pv 0) (pa_cons pe_int pa_nil)))) pa_nil))))) (pg_tup (by rfl) (pgs_cons (pg_name (i := 3) sc__law_schedule.nd rfl (by first | exact Or.inl rfl | exact Or.inr rfl)) (pgs_cons (pg_name (i := 4) sc__law_schedule.nd rfl (by first | exact Or.inl rfl | exact Or.inr rfl)) (pgs_cons (pg_name (i := 5) sc__law_schedule.nd rfl (by first | exact Or.inl rfl | exact Or.inr rfl)) (pgs_cons (pg_name (i := 6) sc__law_schedule.nd rfl (by first | exact Or.inl rfl | exact Or.inr rfl)) pgs_nil))))))
      (pss_cons (ps_for PassesOwn.never rfl (pi_range1 (by rfl) e.n_range (pa_cons (pv 2) pa_nil)) (pg_name (i := 7) sc__law_schedule.nd rfl (by first | exact Or.inl rfl | exact Or.inr rfl))
      (pss_cons (ps_setLc (i := 8) (own := [("place", 9)]) rfl sc__law_schedule.nd rfl rfl (sw_true rfl rfl rfl (by decide +kernel)) (pi_range1 (by rfl) e.n_range (pa_cons (pv 1) pa_nil)) (blkOk_by (N := ["bag", "size", "most", "books", "out", "found", "share", "step", "places", "place", "book"]) (sc := defScope s__law_schedule) (by decide +kernel)) (fun _ _ _ _ _ => (pg_name (i := 9) sc__law_schedule.nd rfl (by first | exact Or.inl rfl | exact Or.inr rfl))) (fun _ _ _ _ _ => pts_one (pt_cmpR op_notN (pe_ix (show IxR _ (rIxL K) from ix_list) (pv 3) (pv 9) (fun _ _ => rfl)) pe_non (nomark _))) (fun _ _ _ _ _ => (pv 9)))
      (pss_one (ps_if (PW.pt (pw_and (pt_cmpR (op_neD hr.units) (pv 8) (pe_lst pa_nil) (nomark _)) (pw_and1 (PW.pt (pw_or (pt_cmpR (op_eqD hr.units) (pv 4) (pe_lst pa_nil) (nomark _)) (pw_or1 (pt_cmpR op_lt (pe_call ((ok__law_draw e).mono (by decide)) hr rfl e.g__law_draw e.f__law_draw.kp e.b__law_draw .nil pass0 (pa_cons (pv 0) (pa_cons pe_int pa_nil))) (pv 6) (nomark _))))))))
        (pss_cons (ps_set (i := 9) sc__law_schedule.nd rfl (by first | exact Or.inl rfl | exact Or.inr rfl) (pe_ix ix_list (pv 8) (pe_call ((ok__law_draw e).mono (by decide)) hr rfl e.g__law_draw e.f__law_draw.kp e.b__law_draw .nil pass0 (pa_cons (pv 0) (pa_cons (pe_callB call_len_seq (by rfl) e.n_len PySem.boot_len (pa_cons (pv 8) pa_nil)) pa_nil))) (fun _ _ => rfl)))
      (pss_cons (ps_expr (pe_bm PySem.F.plainAttrs_list PySem.F.slot_list_append PySem.F.type_list_append mt_append (pv 4) (pa_cons (pe_ix ix_list (pv 3) (pv 9) (fun _ _ => rfl)) pa_nil)))
      (pss_cons (ps_asg pe_non (pg_sub (pv 3) (pv 9) set_list))
      (pss_one (ps_expr (pe_bm PySem.F.plainAttrs_list PySem.F.slot_list_append PySem.F.type_list_append mt_append (pv 5) (pa_cons (pe_tup (pa_cons pe_str (pa_cons (pv 9) pa_nil))) pa_nil)))))))
        (pss_cons (ps_set (i := 10) sc__law_schedule.nd rfl (by first | exact Or.inl rfl | exact Or.inr rfl) (pe_bm PySem.F.plainAttrs_list PySem.F.slot_list_pop PySem.F.type_list_pop mt_popAt (pv 4) (pa_cons (pe_call ((ok__law_draw e).mono (by decide)) hr rfl e.g__law_draw e.f__law_draw.kp e.b__law_draw .nil pass0 (pa_cons (pv 0) (pa_cons (pe_callB call_len_seq (by rfl) e.n_len PySem.boot_len (pa_cons (pv 4) pa_nil)) pa_nil))) pa_nil)))
      (pss_cons (ps_asg (pv 10) (pg_sub (pv 3) (pe_bm PySem.F.plainAttrs_list PySem.F.slot_list_index PySem.F.type_list_index mt_index (pv 3) (pa_cons pe_non pa_nil)) set_list))
      (pss_one (ps_expr (pe_bm PySem.F.plainAttrs_list PySem.F.slot_list_append PySem.F.type_list_append mt_append (pv 5) (pa_cons (pe_tup (pa_cons pe_str (pa_cons (pv 10) pa_nil))) pa_nil))))))))))
      (pss_one (ps_ret (pv 5))))), ?_⟩
    refine ⟨_, rfl, _, rfl, RgOk.of_le (by decide) (by omega) (by decide) (by omega), fun bl hbl => ⟨by decide, fun ol hol => ⟨by decide, fun fl hfl => ?_⟩⟩⟩
    have sb := same_upd (o := HO.lst (rgV 0 n)) hbl
    have so := same_upd (o := HO.lst []) hol
    have sf := same_upd (o := HO.lst []) hfl
    refine ⟨_, rfl, b, l, ns, d, 5, rfl, ((G.same sb).same so).same sf, by decide, by decide +kernel, by omega, hl, fun H1 r1 a1 b1 G1 F1 => ?_⟩
    refine ⟨_, _, rfl, rfl, (by show 4 ≤ sizeLine; decide), fun tp htp => ?_⟩
    refine ⟨_, _, rfl, SqT.of upd_same, rfl, _, _, rfl, _, _, rfl, _, _, rfl, _, _, rfl, rfl, ?_⟩
    have hol0 : H ol = none := sb.free hol
    have hfl0 : H fl = none := sb.free (so.free hfl)
    have n1 : bl ≠ b := G.ne_new hbl
    have n2 : ol ≠ b := G.ne_new hol0
    have n3 : fl ≠ b := G.ne_new hfl0
    have m1 : bl ≠ ol := ne_of_none upd_same hol
    have m2 : bl ≠ fl := ne_of_none (so _ _ upd_same) hfl
    have m3 : ol ≠ fl := ne_of_none upd_same hfl
    have st := same_upd (o := HO.tup [.ref bl, .ref ol, .ref fl, .int (1 + r1)]) htp
    have F0 : Fr H (upd H1 tp (.tup [.ref bl, .ref ol, .ref fl, .int (1 + r1)])) b := ((Fr.of (sb.trans (so.trans sf))).trans F1).trans (Fr.of st)
    have hb1 : H1 bl = some (.lst ((simInit n).books.map vo)) := by rw [init_books]; exact F1 _ _ (sf _ _ (so _ _ upd_same)) n1
    have ho1 : H1 ol = some (.lst ((simInit n).out.map V.int)) := F1 _ _ (sf _ _ upd_same) n2
    have hf1 : H1 fl = some (.lst []) := F1 _ _ upd_same n3
    refine ⟨_, rfl, m, rfl, by omega, by omega, for_it walk_range (fun i σ H2 => ∃ (ops : List Op) (s : Sim) (v7 v8 v9 v10 : Option V), ops.length = i ∧ LR.run (simInit n) ops = some s ∧
        σ = [some (.ref b), some (.int n), some (.int m), some (.ref bl), some (.ref ol), some (.ref fl), some (.int (1 + r1)), v7, v8, v9, v10] ∧
        Bag H2 b l ns (d + 1 + 2 * i) ∧ Fr H H2 b ∧ H2 bl = some (.lst (s.books.map vo)) ∧ H2 ol = some (.lst (s.out.map V.int)) ∧ RowsLst H2 fl ops)
      ⟨[], simInit n, none, none, none, none, rfl, rfl, rfl, (G1.same st).mono (by omega), F0, st _ _ hb1, st _ _ ho1, [], st _ _ hf1, rfl, fun i a o h => by simp at h⟩
      (fun _ _ _ _ _ => trivial) ?_ ?_⟩
    · rintro i x σ Hq H2 hi ⟨ops, s, v7, v8, v9, v10, hlen, hrun, rfl, G2, F2, hb2, ho2, as, hf2, hO⟩ ⟨rfl, rfl⟩
      rw [Int.toNat_natCast] at hi
      have g := good_run (good_init n) hrun
      refine ⟨_, rfl, n, rfl, by omega, by omega, fun D hD => lc_it walk_range (fun j H3 => H3 = upd H2 D (.lst ((placesOf s.books j).map V.int))) rfl (fun _ _ _ _ => trivial) ?_ ?_⟩
      · rintro j x Hq H3 hj rfl ⟨rfl, rfl⟩
        rw [Int.toNat_natCast] at hj
        have hjl : j < s.books.length := by rw [g.len]; exact hj
        have ej := List.getElem?_eq_getElem hjl
        have n4 : bl ≠ D := ne_of_none hb2 hD
        refine ⟨rfl, _, rfl, _, rfl, rd_ix (j := j) (v := vo s.books[j]) (SqL.of (by rw [upd_ne n4]; exact hb2)) (by rw [List.getElem?_map, ej]; rfl) (Int.zero_add _) ⟨rfl, _, rfl, ?_⟩⟩
        rw [placesOf_succ, ej]
        cases s.books[j] with
        | none =>
          refine iteNS rfl ?_
          rw [if_neg (by simp), List.append_nil]
        | some v =>
          refine iteNX (by intro q; cases q) ?_
          refine ⟨_, rfl, _, upd_same, pl_len _ _ (by omega), ?_⟩
          rw [upd_upd, if_pos (by simp), List.map_append]
          show upd H2 D (.lst (_ ++ [V.int (0 + (j : Int))])) = _
          rw [Int.zero_add]; rfl
      · rintro H3 e3
        rw [Int.toNat_natCast] at e3
        subst e3
        have hpl : ∀ x, x ∈ placesOf s.books n → 0 ≤ x ∧ x < n ∧ ∃ v, s.books[x.toNat]? = some (some v) := fun x hx => by
          obtain ⟨h0, h1, h2⟩ := mem_placesOf.mp hx
          have hxl : x.toNat < s.books.length := by rw [g.len]; omega
          rw [List.getElem?_eq_getElem hxl] at h2
          refine ⟨h0, h1, ?_⟩
          rw [List.getElem?_eq_getElem hxl]
          cases q : s.books[x.toNat] with
          | none => rw [q] at h2; exact absurd rfl h2
          | some v => exact ⟨v, rfl⟩
        have hpn : placesOf s.books n = [] → s.out ≠ [] := fun q e => by
          rw [← g.len] at q
          have h1 := g.perm.length_eq
          rw [none_of_places q, e, rangeI_length] at h1
          simp at h1; omega
        have hpll : (placesOf s.books n).length ≤ 200 := by have := placesOf_len s.books n; omega
        generalize placesOf s.books n = pl at hpl hpn hpll
        have hol6 : s.out.length ≤ 200 := by
          have := g.perm.length_eq
          rw [List.length_append, rangeI_length] at this; omega
        have sD := same_upd (o := HO.lst (pl.map V.int)) hD
        have n4 : D ≠ b := G2.ne_new hD
        refine' cut (A := fun H5 : Hp => Bag H5 b l ns (d + 2 + 2 * i) ∧ Fr H2 H5 b ∧ H5 D = some (.lst (pl.map V.int)) ∧ pl ≠ []) ?tk (fun take => ?main)
        case main =>
          refine' cut (A := fun H5 : Hp => Bag H5 b l ns (d + 2 + 2 * i) ∧ Fr H2 H5 b ∧ s.out ≠ []) ?tk2 (fun ret => ?main2)
          case main2 =>
            refine ⟨_, rfl, by decide, fun p hp => rd_neI (l := pl) (m := []) (SqL.of (same_upd hp _ _ upd_same)) (SqL.of upd_same) ⟨_, rfl, ?_⟩⟩
            have sp := same_upd (o := HO.lst []) hp
            by_cases hq : pl = []
            · refine iteNS hq (iteF ?_)
              exact ret _ ⟨((G2.same sD).same sp).mono (by omega), (Fr.of (sD.trans sp)), hpn hq⟩
            · refine iteNX hq ?_
              refine ⟨_, rfl, by decide, fun p2 hp2 => rd_eqI (l := s.out) (m := []) (SqL.of (same_upd hp2 _ _ (sp _ _ (sD _ _ ho2)))) (SqL.of upd_same) ⟨_, rfl, ?_⟩⟩
              have sp2 := same_upd (o := HO.lst []) hp2
              by_cases ho : s.out = []
              · refine iteD ho (iteT ?_)
                exact take _ ⟨(((G2.same sD).same sp).same sp2).mono (by omega), (Fr.of ((sD.trans sp).trans sp2)), sp2 _ _ (sp _ _ upd_same), hq⟩
              · refine iteX ho ?_
                refine ⟨_, rfl, b, l, ns, _, 6, rfl, ((G2.same sD).same sp).same sp2, by decide, by decide +kernel, by omega, hl, fun H5 r5 a5 b5 G5 F5 => ?_⟩
                have F25 : Fr H2 H5 b := (Fr.of ((sD.trans sp).trans sp2)).trans F5
                refine ⟨_, rfl, _, _, rfl, rfl, _, rfl, ite2d (fun hr => ?_) fun hr => ?_⟩
                · exact take _ ⟨G5.mono (by omega), F25, F5 _ _ (sp2 _ _ (sp _ _ upd_same)) n4, hq⟩
                · exact ret _ ⟨G5.mono (by omega), F25, ho⟩
          case tk2 =>
            rintro H5 ⟨G5, F5, ho⟩
            have hpos : 0 < s.out.length := List.length_pos_iff.mpr ho
            have ho5 := F5 _ _ ho2 n2
            refine ⟨_, rfl, .inl ⟨rfl, _, SqL.of ho5⟩, _, rfl, _, rfl, ol, _, rfl, .inl (SqL.of ho5), ?_⟩
            refine ⟨b, l, ns, _, _, rfl, G5, by rw [List.length_map]; omega, by rw [List.length_map]; exact log_small (by omega), by omega, hl, fun H6 r6 a6 b6 G6 F6 => ?_⟩
            rw [List.length_map] at b6
            have F26 := F5.trans F6
            have hb6 := F26 _ _ hb2 n1
            have ho6 := F26 _ _ ho2 n2
            have hf6 := F26 _ _ hf2 n3
            have hr6 : r6.toNat < s.out.length := by omega
            obtain ⟨x, hx⟩ : ∃ x, s.out[r6.toNat]? = some x := ⟨_, List.getElem?_eq_getElem hr6⟩
            have hxm : x ∈ s.out := List.mem_of_getElem? hx
            have hg := g.gap hxm
            have hnd : s.out.Nodup := (List.nodup_append.mp g.nodup).2.1
            have hix : s.out.idxOf x = r6.toNat := by
              have h2 := idx_get hxm
              exact nd_ix hnd h2 hx
            refine ⟨ol, _, r6, r6.toNat, .int x, rfl, rfl, ho6, by omega, by omega, ?_, by rw [List.getElem?_map, hx]; rfl, ?_⟩
            · rw [List.length_map]; exact seq_int a6 hr6
            have k1 : (s.out.map V.int).eraseIdx r6.toNat = (s.out.erase x).map V.int := by
              rw [List.erase_eq_eraseIdx_of_idxOf hix, erase_map]
            rw [k1]
            have hb7 : upd H6 ol (.lst ((s.out.erase x).map V.int)) bl = some (.lst (s.books.map vo)) := by rw [upd_ne m1]; exact hb6
            refine ⟨_, rfl, _, rfl, _, rfl, .inl ⟨rfl, _, SqL.of hb7⟩, ?_⟩
            refine ⟨_, _, _, gap s.books, V.non, rfl, rfl, SqL.of hb7, rfl, flat_vo _, gap_vo hg, rfl, fun m z => before_vo, ?_⟩
            have hgl : gap s.books < (s.books.map vo).length := by rw [List.length_map]; exact gap_lt hg
            refine ⟨_, _, _, gap s.books, rfl, rfl, hb7, ixN_nat hgl, ?_⟩
            have hf8 : upd (upd H6 ol (.lst ((s.out.erase x).map V.int))) bl (.lst ((s.books.map vo).set (gap s.books) (.int x))) fl = some (.lst (as.map V.ref)) := by
              rw [upd_ne m2.symm, upd_ne m3.symm]; exact hf6
            refine ⟨_, rfl, .inl ⟨rfl, _, SqL.of hf8⟩, _, rfl, (by show 2 ≤ sizeLine; decide), fun tq htq => ?_⟩
            have hf9 := same_upd (o := HO.tup [.str "return", .int x]) htq _ _ hf8
            refine ⟨fl, _, _, rfl, rfl, hf9, (by rw [List.length_map, hO.len]; exact small1000 (by omega)), ?_⟩
            have q1 : tq ≠ ol := fun q => by rw [q, upd_ne m1.symm, upd_same] at htq; cases htq
            have q2 : tq ≠ bl := fun q => by rw [q, upd_same] at htq; cases htq
            have q3 : tq ≠ fl := fun q => by rw [q, hf8] at htq; cases htq
            have tup : ∀ a xs, H2 a = some (.tup xs) → upd (upd (upd (upd H6 ol (.lst ((s.out.erase x).map V.int))) bl (.lst ((s.books.map vo).set (gap s.books) (.int x)))) tq (.tup [.str "return", .int x])) fl (.lst (as.map V.ref ++ [V.ref tq])) a = some (.tup xs) := by
              intro a xs ha
              have a1 : a ≠ b := by obtain ⟨_, _, _, _, h, _⟩ := G2.ex; exact ne_of ha h (by intro q; cases q)
              have a2 : a ≠ ol := ne_of ha ho2 (by intro q; cases q)
              have a3 : a ≠ bl := ne_of ha hb2 (by intro q; cases q)
              have a4 : a ≠ fl := ne_of ha hf2 (by intro q; cases q)
              have a5 : a ≠ tq := fun q => by
                rw [← q, upd_ne a3, upd_ne a2, F26 _ _ ha a1] at htq; cases htq
              rw [upd_ne a4, upd_ne a5, upd_ne a3, upd_ne a2]; exact F26 _ _ ha a1
            have fr : ∀ a o, H6 a = some o → a ≠ ol → a ≠ bl → a ≠ fl → upd (upd (upd (upd H6 ol (.lst ((s.out.erase x).map V.int))) bl (.lst ((s.books.map vo).set (gap s.books) (.int x)))) tq (.tup [.str "return", .int x])) fl (.lst (as.map V.ref ++ [V.ref tq])) a = some o := by
              intro a o ha a2 a3 a4
              have a5 : a ≠ tq := fun q => by
                rw [← q, upd_ne a3, upd_ne a2, ha] at htq; cases htq
              rw [upd_ne a4, upd_ne a5, upd_ne a3, upd_ne a2]; exact ha
            have hlne : l ≠ ol ∧ l ≠ bl ∧ l ≠ fl := ⟨G.l_ne hol0, G.l_ne hbl, G.l_ne hfl0⟩
            refine ⟨ops ++ [(false, x)], _, _, _, _, _, by rw [List.length_append, hlen]; rfl, run_snoc hrun (stp_ret_of hxm), rfl, ?_, ?_, ?_, ?_, as ++ [tq], ?_, ?_⟩
            · obtain ⟨⟨ci, cc, ck, ct, e1, e2⟩, e3, e4⟩ := G6.mono (show d + 2 + 2 * i + 1 ≤ d + 1 + 2 * (i + 1) by omega)
              exact ⟨⟨ci, cc, ck, ct, fr _ _ e1 n2.symm n1.symm n3.symm, e2⟩, fr _ _ e3 hlne.1 hlne.2.1 hlne.2.2, e4⟩
            · intro a o ha hab
              exact fr a o (F26 _ _ (F2 _ _ ha hab) hab) (ne_of_none ha hol0) (ne_of_none ha hbl) (ne_of_none ha hfl0)
            · rw [upd_ne m2, upd_ne q2.symm, upd_same, List.map_set]; rfl
            · rw [upd_ne m3, upd_ne q1.symm, upd_ne m1.symm, upd_same]
            · rw [upd_same, List.map_append]; rfl
            · refine (hO.frame tup).snoc ?_
              show upd _ fl _ tq = _
              rw [upd_ne q3, upd_same]; rfl
        case tk =>
          rintro H5 ⟨G5, F5, hD5, hq⟩
          have hpos : 0 < pl.length := List.length_pos_iff.mpr hq
          refine ⟨_, rfl, _, rfl, _, rfl, D, _, rfl, .inl (SqL.of hD5), ?_⟩
          refine ⟨b, l, ns, _, _, rfl, G5, by rw [List.length_map]; omega, by rw [List.length_map]; exact log_small (by omega), by omega, hl, fun H6 r6 a6 b6 G6 F6 => ?_⟩
          rw [List.length_map] at b6
          have F26 := F5.trans F6
          have hb6 := F26 _ _ hb2 n1
          have ho6 := F26 _ _ ho2 n2
          have hf6 := F26 _ _ hf2 n3
          have hD6 := F6 _ _ hD5 n4
          obtain ⟨x, hx⟩ : ∃ x, pl[r6.toNat]? = some x := ⟨_, List.getElem?_eq_getElem (by omega)⟩
          obtain ⟨x0, x1, v, hv⟩ := hpl x (List.mem_of_getElem? hx)
          refine rd_ix (j := r6.toNat) (v := .int x) (SqL.of hD6) (by rw [List.getElem?_map, hx]; rfl) (by omega) ?_
          refine ⟨_, rfl, .inl ⟨rfl, _, SqL.of ho6⟩, _, rfl, _, rfl, rd_ix (j := x.toNat) (v := .int v) (SqL.of hb6) (by rw [List.getElem?_map, hv]; rfl) (by omega) ?_⟩
          refine ⟨ol, _, _, rfl, rfl, ho6, (by rw [List.length_map]; exact small1000 (by omega)), ?_⟩
          have hb7 : upd H6 ol (.lst (s.out.map V.int ++ [.int v])) bl = some (.lst (s.books.map vo)) := by rw [upd_ne m1]; exact hb6
          have hxl : x.toNat < (s.books.map vo).length := by rw [List.length_map, g.len]; omega
          refine ⟨_, rfl, _, rfl, _, _, _, x.toNat, rfl, rfl, hb7, ixN_int x0 hxl, ?_⟩
          have hf8 : upd (upd H6 ol (.lst (s.out.map V.int ++ [.int v]))) bl (.lst ((s.books.map vo).set x.toNat .non)) fl = some (.lst (as.map V.ref)) := by
            rw [upd_ne m2.symm, upd_ne m3.symm]; exact hf6
          refine ⟨_, rfl, .inl ⟨rfl, _, SqL.of hf8⟩, _, rfl, (by show 2 ≤ sizeLine; decide), fun tq htq => ?_⟩
          have hf9 := same_upd (o := HO.tup [.str "take", .int x]) htq _ _ hf8
          refine ⟨fl, _, _, rfl, rfl, hf9, (by rw [List.length_map, hO.len]; exact small1000 (by omega)), ?_⟩
          have q1 : tq ≠ ol := fun q => by rw [q, upd_ne m1.symm, upd_same] at htq; cases htq
          have q2 : tq ≠ bl := fun q => by rw [q, upd_same] at htq; cases htq
          have q3 : tq ≠ fl := fun q => by rw [q, hf8] at htq; cases htq
          have tup : ∀ a xs, H2 a = some (.tup xs) → upd (upd (upd (upd H6 ol (.lst (s.out.map V.int ++ [.int v]))) bl (.lst ((s.books.map vo).set x.toNat .non))) tq (.tup [.str "take", .int x])) fl (.lst (as.map V.ref ++ [V.ref tq])) a = some (.tup xs) := by
            intro a xs ha
            have a1 : a ≠ b := by obtain ⟨_, _, _, _, h, _⟩ := G2.ex; exact ne_of ha h (by intro q; cases q)
            have a2 : a ≠ ol := ne_of ha ho2 (by intro q; cases q)
            have a3 : a ≠ bl := ne_of ha hb2 (by intro q; cases q)
            have a4 : a ≠ fl := ne_of ha hf2 (by intro q; cases q)
            have a5 : a ≠ tq := fun q => by
              rw [← q, upd_ne a3, upd_ne a2, F26 _ _ ha a1] at htq; cases htq
            rw [upd_ne a4, upd_ne a5, upd_ne a3, upd_ne a2]; exact F26 _ _ ha a1
          have fr : ∀ a o, H6 a = some o → a ≠ ol → a ≠ bl → a ≠ fl → upd (upd (upd (upd H6 ol (.lst (s.out.map V.int ++ [.int v]))) bl (.lst ((s.books.map vo).set x.toNat .non))) tq (.tup [.str "take", .int x])) fl (.lst (as.map V.ref ++ [V.ref tq])) a = some o := by
            intro a o ha a2 a3 a4
            have a5 : a ≠ tq := fun q => by
              rw [← q, upd_ne a3, upd_ne a2, ha] at htq; cases htq
            rw [upd_ne a4, upd_ne a5, upd_ne a3, upd_ne a2]; exact ha
          have hlne : l ≠ ol ∧ l ≠ bl ∧ l ≠ fl := ⟨G.l_ne hol0, G.l_ne hbl, G.l_ne hfl0⟩
          refine ⟨ops ++ [(true, x)], _, _, _, _, _, by rw [List.length_append, hlen]; rfl, run_snoc hrun (stp_take_of x0 hv), rfl, ?_, ?_, ?_, ?_, as ++ [tq], ?_, ?_⟩
          · obtain ⟨⟨ci, cc, ck, ct, e1, e2⟩, e3, e4⟩ := G6.mono (show d + 2 + 2 * i + 1 ≤ d + 1 + 2 * (i + 1) by omega)
            exact ⟨⟨ci, cc, ck, ct, fr _ _ e1 n2.symm n1.symm n3.symm, e2⟩, fr _ _ e3 hlne.1 hlne.2.1 hlne.2.2, e4⟩
          · intro a o ha hab
            exact fr a o (F26 _ _ (F2 _ _ ha hab) hab) (ne_of_none ha hol0) (ne_of_none ha hbl) (ne_of_none ha hfl0)
          · rw [upd_ne m2, upd_ne q2.symm, upd_same, List.map_set]; rfl
          · rw [upd_ne m3, upd_ne q1.symm, upd_ne m1.symm, upd_same, List.map_append]; rfl
          · rw [upd_same, List.map_append]; rfl
          · refine (hO.frame tup).snoc ?_
            show upd _ fl _ tq = _
            rw [upd_ne q3, upd_same]; rfl
    · rintro σ H2 ⟨ops, s, v7, v8, v9, v10, hlen, hrun, rfl, G2, F2, hb2, ho2, R2⟩
      rw [Int.toNat_natCast] at hlen G2
      exact ⟨_, rfl, k H2 fl ops s (G2.mono (by omega)) F2 hfl0 R2 hlen hrun⟩
end
end LP

namespace LP
open PySem L2 LR
section
variable {P : Program} {w : World} {K : PySem.W.Frag} {mg : Str → Option Value} {base : Heap}
theorem cut_to (xs : List V) (i : Nat) : cutV xs none (some (i : Int)) = xs.take i := by
  unfold cutV
  rw [HT.sIx_none, HT.sIx_nat, List.drop_zero, Nat.sub_zero]
  by_cases h : i ≤ xs.length
  · rw [Nat.min_eq_left h]
  · rw [Nat.min_eq_right (by omega), List.take_length, List.take_of_length_le (by omega)]
theorem OpsAt.take {H : Hp} {as : List Addr} {ops : List Op} (o : OpsAt H as ops) (i : Nat) : OpsAt H (as.take i) (ops.take i) := by
  refine ⟨by rw [List.length_take, List.length_take, o.len], fun j a p h1 h2 => ?_⟩
  rw [List.getElem?_take] at h1 h2
  by_cases h : j < i
  · rw [if_pos h] at h1 h2; exact o.at_ j a p h1 h2
  · rw [if_neg h] at h1; cases h1
/-- rows[:i] at a new place -/
theorem Runs.part {H : Hp} {n : Nat} {l : Addr} {ops : List Op} {e : Sim} (R : Runs K H n l ops e) {p : Addr} (hp : H p = none) {as : List Addr} (hO : OpsAt H as ops) (i : Nat) {s : Sim} (hs : LR.run (simInit n) (ops.take i) = some s) :
    Runs K (upd H p (.lst (cutV (as.map V.ref) none (some (i : Int))))) n p (ops.take i) s := by
  refine ⟨R.1, R.2.1, ⟨as.take i, SqL.of ?_, (hO.take i).same (same_upd hp)⟩, ?_, hs⟩
  · rw [upd_same, cut_to, List.map_take]
  · rw [List.length_take]; have := R.2.2.2.1; omega
theorem Runs.same {H H' : Hp} {n : Nat} {l : Addr} {ops : List Op} {e : Sim} (R : Runs K H n l ops e) (s : Same H H') : Runs K H' n l ops e := ⟨R.1, R.2.1, R.2.2.1.same s, R.2.2.2⟩
def filtI (f : Nat → Bool) (j : Nat) : List Int := ((List.range j).filter f).map fun k : Nat => (k : Int)
theorem filtI_succ (f : Nat → Bool) (j : Nat) : filtI f (j + 1) = filtI f j ++ (if f j = true then [(j : Int)] else []) := by
  unfold filtI
  rw [List.range_succ, List.filter_append, List.map_append]
  congr 1
  by_cases h : f j = true
  · rw [if_pos h, List.filter_cons, if_pos h]; rfl
  · rw [if_neg h, List.filter_cons, if_neg h]; rfl
theorem filtI_len (f : Nat → Bool) (j : Nat) : (filtI f j).length ≤ j := by
  unfold filtI
  rw [List.length_map]
  exact Nat.le_trans (List.length_filter_le _ _) (by rw [List.length_range]; exact Nat.le_refl _)
theorem fl_len (f : Nat → Bool) (j : Nat) (h : j ≤ 300) : ((filtI f j).map V.int).length < sizeLine := by
  rw [List.length_map]
  exact small1000 (by have := filtI_len f j; omega)
theorem scal_vo (x y : Option Int) : scal (vo x) (vo y) = true := by cases x <;> cases y <;> rfl
theorem vo_inj {x y : Option Int} : vo x = vo y ↔ x = y := by
  cases x <;> cases y <;> simp [vo]
theorem RowsAt.ops {H : Hp} {l : Addr} {ops : List Op} (r : RowsAt K H l ops) : ∃ as : List Addr, SqL K H l (as.map V.ref) ∧ OpsAt H as ops := r
theorem ok__law_step_right (e : Env K mg) : FnOk P w K mg base CX0 7 e.a__law_step_right e.d__law_step_right ["size", "rows", "at"] (sp__law_step_right K) := by
  refine e.f__law_step_right.ok sc__law_step_right (fun vs H Q E h => ?_) (fun cdv A outer s H vs Q E hr h => ?_)
  · obtain ⟨n, i, q, ops, f, rfl, _⟩ := h; rfl
  · obtain ⟨n, i, q, ops, f, rfl, R, hi, k⟩ := h
    obtain ⟨hn1, hn2, hR, hlen, hrun⟩ := id R
    obtain ⟨as, hS, hO⟩ := hR.ops
    obtain ⟨o, eo⟩ : ∃ o, ops[i]? = some o := ⟨_, List.getElem?_eq_getElem hi⟩
    obtain ⟨a, ea⟩ : ∃ a, as[i]? = some a := ⟨_, List.getElem?_eq_getElem (by rw [hO.len]; exact hi)⟩
    obtain ⟨t, u, ht, hu, hr2⟩ := run_stp hrun eo
    have hop := hO.at_ i _ _ ea eo
    have g := good_run (good_init n) ht
    have g2 := good_run (good_init n) hr2
    refine ⟨_, (pss_cons (ps_asg (pe_tup (pa_cons (pe_call ((ok_books_after e).mono (by decide)) hr rfl e.g_books_after e.f_books_after.kp e.b_books_after .nil pass0 (pa_cons (pv 0) (pa_cons (pe_slice sl_list (pv 1) po_none (po_some (pv 2))) pa_nil))) (pa_cons (pe_call ((ok_books_after e).mono (by decide)) hr rfl e.g_books_after e.f_books_after.kp e.b_books_after .nil pass0 (pa_cons (pv 0) (pa_cons (pe_slice sl_list (pv 1) po_none (po_some (pe_op op_add (pv 2) pe_int))) pa_nil))) pa_nil))) (pg_tup (by rfl) (pgs_cons (pg_name (i := 3) sc__law_step_right.nd rfl (by first | exact Or.inl rfl | exact Or.inr rfl)) (pgs_cons (pg_name (i := 4) sc__law_step_right.nd rfl (by first | exact Or.inl rfl | exact Or.inr rfl)) pgs_nil))))
      (pss_cons (ps_asg (pe_ix ix_list (pv 1) (pv 2) (fun _ _ => rfl)) (pg_tup (by rfl) (pgs_cons (pg_name (i := 5) sc__law_step_right.nd rfl (by first | exact Or.inl rfl | exact Or.inr rfl)) (pgs_cons (pg_name (i := 6) sc__law_step_right.nd rfl (by first | exact Or.inl rfl | exact Or.inr rfl)) pgs_nil))))
      (pss_cons (ps_setLc (i := 7) (own := [("place", 9)]) rfl sc__law_step_right.nd rfl rfl (sw_true rfl rfl rfl (by decide +kernel)) (pi_range1 (by rfl) e.n_range (pa_cons (pv 0) pa_nil)) (blkOk_by (N := ["size", "rows", "at", "before", "after", "name", "number", "changed", "least", "place"]) (sc := defScope s__law_step_right) (by decide +kernel)) (fun _ _ _ _ _ => (pg_name (i := 9) sc__law_step_right.nd rfl (by first | exact Or.inl rfl | exact Or.inr rfl))) (fun _ _ _ _ _ => pts_one (pt_cmpR op_ne (pe_ix (show IxR _ (rIxL K) from ix_list) (pv 3) (pv 9) (fun _ _ => rfl)) (pe_ix (show IxR _ (rIxL K) from ix_list) (pv 4) (pv 9) (fun _ _ => rfl)) (nomark _))) (fun _ _ _ _ _ => (pv 9)))
      (pss_cons (ps_if (pt_cmpR op_eq (pv 5) pe_str (nomark _))
        (pss_one (ps_ret (pe_and (pe_cmpR (op_eqD hr.units) (pv 7) (pe_lst (pa_cons (pv 6) pa_nil)) (nomark _)) (pe_and (pe_cmpR op_isN (pe_ix ix_list (pv 4) (pv 6) (fun _ _ => rfl)) pe_non (nomark _)) (pe_one (pe_cmpR op_in_seq (pe_ix ix_list (pv 3) (pv 6) (fun _ _ => rfl)) (pe_call ((ok_books_out e).mono (by decide)) hr rfl e.g_books_out e.f_books_out.kp e.b_books_out .nil pass0 (pa_cons (pv 0) (pa_cons (pe_slice sl_list (pv 1) po_none (po_some (pe_op op_add (pv 2) pe_int))) pa_nil))) (by rfl)))))))
        pss_nil)
      (pss_cons (ps_set (i := 8) sc__law_step_right.nd rfl (by first | exact Or.inl rfl | exact Or.inr rfl) (pe_bm PySem.F.plainAttrs_list PySem.F.slot_list_index PySem.F.type_list_index mt_index (pv 3) (pa_cons pe_non pa_nil)))
      (pss_one (ps_ret (pe_and (pe_cmpR (op_eqD hr.units) (pv 7) (pe_lst (pa_cons (pv 8) pa_nil)) (nomark _)) (pe_and (pe_cmpR op_eq (pe_ix ix_list (pv 4) (pv 8) (fun _ _ => rfl)) (pv 6) (nomark _)) (pe_one (pe_cmpR op_eq (pe_ix ix_list (pe_call ((ok_places_filled e).mono (by decide)) hr rfl e.g_places_filled e.f_places_filled.kp e.b_places_filled .nil pass0 (pa_cons (pv 0) (pa_cons (pe_slice sl_list (pv 1) po_none (po_some (pe_op op_add (pv 2) pe_int))) pa_nil))) (pe_un un_neg pe_int) (fun _ _ => rfl)) (pv 8) (nomark _)))))))))))), ?_⟩
    refine ⟨_, rfl, _, rfl, _, rfl, _, rfl, _, _, rfl, hS, fun p1 hp1 => ?_⟩
    refine ⟨n, p1, _, t, rfl, R.part hp1 hO i ht, fun H2 pb s2 npb hpb => ?_⟩
    have s02 := (same_upd hp1).trans s2
    refine ⟨_, rfl, _, rfl, _, rfl, _, _, rfl, rfl, _, rfl, _, _, rfl, s02.seq hS, fun p2 hp2 => ?_⟩
    have hi1 : ((i : Int) + 1) = ((i + 1 : Nat) : Int) := by omega
    rw [hi1]
    refine ⟨n, p2, _, u, rfl, (R.same s02).part hp2 (hO.same s02) (i + 1) hr2, fun H3 pa s3 npa hpa => ?_⟩
    have s23 := (same_upd hp2).trans s3
    have s03 := s02.trans s23
    have hpb3 := s23 _ _ hpb
    refine ⟨(by show 2 ≤ sizeLine; decide), fun tp htp => ?_⟩
    have st := same_upd (o := HO.tup [V.ref pb, V.ref pa]) htp
    refine ⟨_, _, rfl, SqT.of upd_same, rfl, _, _, rfl, _, _, rfl, rfl, ?_⟩
    refine ⟨_, rfl, _, rfl, rd_ix ((s03.trans st).seq hS) (j := i) (v := .ref a) (by rw [List.getElem?_map, ea]; rfl) rfl ?_⟩
    refine ⟨_, _, rfl, SqT.of (st _ _ (s03 _ _ hop)), rfl, _, _, rfl, _, _, rfl, rfl, ?_⟩
    have hpb4 := st _ _ hpb3
    have hpa4 := st _ _ hpa
    refine ⟨_, rfl, n, rfl, by omega, by omega, fun D hD => lc_it walk_range (fun j H3 => H3 = upd _ D (.lst ((filtI (fun k => decide (t.books[k]? ≠ u.books[k]?)) j).map V.int))) rfl (fun _ _ _ _ => trivial) ?_ ?_⟩
    · rintro j x Hq H5 hj rfl ⟨rfl, rfl⟩
      rw [Int.toNat_natCast] at hj
      obtain ⟨bt, ej⟩ : ∃ bt, t.books[j]? = some bt := ⟨_, List.getElem?_eq_getElem (by rw [g.len]; exact hj)⟩
      obtain ⟨bu, ej2⟩ : ∃ bu, u.books[j]? = some bu := ⟨_, List.getElem?_eq_getElem (by rw [g2.len]; exact hj)⟩
      have sD := same_upd (o := HO.lst ((filtI (fun k => decide (t.books[k]? ≠ u.books[k]?)) j).map V.int)) hD
      refine ⟨rfl, _, rfl, _, rfl, rd_ix (j := j) (v := vo bt) (SqL.of (sD _ _ hpb4)) (by rw [List.getElem?_map, ej]; rfl) (Int.zero_add _) ?_⟩
      refine ⟨_, rfl, _, rfl, rd_ix (j := j) (v := vo bu) (SqL.of (sD _ _ hpa4)) (by rw [List.getElem?_map, ej2]; rfl) (Int.zero_add _) ⟨scal_vo _ _, _, rfl, ?_⟩⟩
      rw [filtI_succ]
      by_cases hv : bt = bu
      · refine iteNS (vo_inj.mpr hv) ?_
        rw [if_neg (by simp [hv, ej, ej2]), List.append_nil]
      · refine iteNX (fun z => hv (vo_inj.mp z)) ?_
        refine ⟨_, rfl, _, upd_same, fl_len _ _ (by omega), ?_⟩
        rw [upd_upd, if_pos (by simp [hv, ej, ej2]), List.map_append]
        show upd _ D (.lst (_ ++ [V.int (0 + (j : Int))])) = _
        rw [Int.zero_add]; rfl
    · rintro H5 e5
      rw [Int.toNat_natCast] at e5
      generalize upd H3 tp (HO.tup [V.ref pb, V.ref pa]) = H4 at *
      have sD : Same H4 H5 := by rw [e5]; exact same_upd hD
      have hD5 : H5 D = some (.lst ((filtI (fun k => decide (t.books[k]? ≠ u.books[k]?)) n).map V.int)) := by rw [e5]; exact upd_same
      have s05 : Same H H5 := (s03.trans st).trans sD
      have hpb5 := sD _ _ hpb4
      have hpa5 := sD _ _ hpa4
      clear e5 sD hpb4 hpa4 st hD htp
      obtain ⟨w0, x⟩ := o
      cases w0 with
      | true =>
        obtain ⟨hx, b, hb, rfl⟩ := stp_take hu
        have hxl := (List.getElem?_eq_some_iff.mp hb).1
        have hf : filtI (fun k => decide (t.books[k]? ≠ (t.books.set x.toNat none)[k]?)) n = [x] := by
          unfold filtI
          rw [filter_range_eq (p := x.toNat) (by rw [← g.len]; exact hxl) _ fun k _ => by rw [decide_eq_true_iff]; exact set_differs hb (by intro q; cases q) k]
          show [((x.toNat : Nat) : Int)] = [x]
          rw [Int.toNat_of_nonneg hx]
        rw [hf] at hD5
        refine ⟨_, rfl, rfl, _, rfl, iteD rfl ?_⟩
        refine ⟨_, rfl, _, rfl, (by show 1 ≤ sizeLine; decide), fun p3 hp3 => rd_eqI (l := [x]) (m := [x]) (SqL.of (same_upd hp3 _ _ hD5)) (SqL.of upd_same) ⟨_, rfl, iteD rfl ?_⟩⟩
        have s3' := same_upd (o := HO.lst [V.int x]) hp3
        refine ⟨_, rfl, _, rfl, rd_ix (j := x.toNat) (v := .non) (SqL.of (s3' _ _ hpa5)) (by rw [List.getElem?_map, List.getElem?_set, if_pos rfl, if_pos hxl]; rfl) (by omega) ⟨rfl, _, rfl, iteD rfl ?_⟩⟩
        refine ⟨_, rfl, _, rfl, rd_ix (j := x.toNat) (v := .int b) (SqL.of (s3' _ _ hpb5)) (by rw [List.getElem?_map, hb]; rfl) (by omega) ?_⟩
        refine ⟨_, rfl, _, rfl, _, rfl, _, _, rfl, rfl, _, rfl, _, _, rfl, (s05.trans s3').seq hS, fun p4 hp4 => ?_⟩
        rw [hi1]
        refine ⟨n, p4, _, _, rfl, (R.same (s05.trans s3')).part hp4 (hO.same (s05.trans s3')) (i + 1) hr2, fun H7 pz zs s7 npz hz1 hz2 hpz => ?_⟩
        refine ⟨pz, _, rfl, .inl (SqL.of hpz), rfl, flat_ints _, ?_⟩
        show Q (V.bl (inV (V.int b) (zs.map V.int))) H7
        rw [in_ints, decide_eq_true (hz1.mem_iff.mpr (List.mem_append_right _ List.mem_cons_self))]
        exact k _ ((s05.trans s3').trans ((same_upd hp4).trans s7))
      | false =>
        obtain ⟨hb, rfl⟩ := stp_ret hu
        have hg := g.gap hb
        have hgl := gap_lt hg
        have hf : filtI (fun k => decide (t.books[k]? ≠ (t.books.set (gap t.books) (some x))[k]?)) n = [(gap t.books : Int)] := by
          unfold filtI
          rw [filter_range_eq (p := gap t.books) (by rw [← g.len]; exact hgl) _ fun k _ => by rw [decide_eq_true_iff]; exact set_differs (gap_get hg) (by intro q; cases q) k]
          rfl
        rw [hf] at hD5
        refine ⟨_, rfl, rfl, _, rfl, iteX ne_w ?_⟩
        refine ⟨_, rfl, .inl ⟨rfl, _, SqL.of hpb5⟩, ?_⟩
        refine ⟨_, _, _, gap t.books, V.non, rfl, rfl, SqL.of hpb5, rfl, flat_vo _, gap_vo hg, rfl, fun m z => before_vo, ?_⟩
        refine ⟨_, rfl, _, rfl, (by show 1 ≤ sizeLine; decide), fun p3 hp3 => rd_eqI (l := [(gap t.books : Int)]) (m := [(gap t.books : Int)]) (SqL.of (same_upd hp3 _ _ hD5)) (SqL.of upd_same) ⟨_, rfl, iteD rfl ?_⟩⟩
        have s3' := same_upd (o := HO.lst [V.int (gap t.books : Int)]) hp3
        refine ⟨_, rfl, _, rfl, rd_ix (j := gap t.books) (v := .int x) (SqL.of (s3' _ _ hpa5)) (by rw [List.getElem?_map, List.getElem?_set, if_pos rfl, if_pos hgl]; rfl) rfl ⟨_, rfl, rfl, _, rfl, iteD rfl ?_⟩⟩
        refine ⟨_, rfl, _, rfl, _, rfl, _, _, rfl, rfl, _, rfl, _, _, rfl, (s05.trans s3').seq hS, fun p4 hp4 => ?_⟩
        rw [hi1]
        refine ⟨n, p4, _, _, rfl, (R.same (s05.trans s3')).part hp4 (hO.same (s05.trans s3')) (i + 1) hr2, fun H7 pz s7 npz hpz => ?_⟩
        refine ⟨_, rfl, pz, _, _, _, rfl, rfl, SqL.of hpz, (by rw [List.map_append]; exact atI_last _ _), _, rfl, rfl, ?_⟩
        show Q (V.bl (decide (V.int (gap t.books : Int) = V.int (gap t.books : Int)))) H7
        rw [decide_eq_true rfl]
        exact k _ ((s05.trans s3').trans ((same_upd hp4).trans s7))
end
end LP

namespace LP
open PySem L2 LR
def dop (o : Op) : PyData := .tuple [.str (if o.1 = true then "take" else "return"), .int o.2]
theorem canLay_ops : ∀ l : List Op, PyData.canLayAll0 (l.map dop) = true
  | [] => rfl
  | (true, x) :: r => by
    have h : PyData.canLay0 (dop (true, x)) = true := by
      have h1 : PyData.canLay0 (.str ("take" : Str)) = true := by decide +kernel
      show (PyData.canLay0 (.str ("take" : Str)) && (PyData.canLay0 (.int x) && true)) = true
      rw [h1]; rfl
    simp [PyData.canLayAll0, h, canLay_ops r]
  | (false, x) :: r => by
    have h : PyData.canLay0 (dop (false, x)) = true := by
      have h1 : PyData.canLay0 (.str ("return" : Str)) = true := by decide +kernel
      show (PyData.canLay0 (.str ("return" : Str)) && (PyData.canLay0 (.int x) && true)) = true
      rw [h1]; rfl
    simp [PyData.canLayAll0, h, canLay_ops r]
theorem depth_ops : ∀ l : List Op, PyData.depthAll (l.map dop) ≤ 1
  | [] => by simp [PyData.depthAll]
  | o :: r => by
    have := depth_ops r
    simp [PyData.depthAll, PyData.depth, dop]
    omega
theorem shaped_ops (l : List Op) : SeqAt.shaped (.list (l.map dop)) = true := by
  have := depth_ops l
  simp [SeqAt.shaped, PyData.canLay0, PyData.depth, canLay_ops]
  omega
theorem dpAll_of {K : PySem.W.Frag} {H : Hp} : ∀ {as : List Addr} {ops : List Op}, OpsAt H as ops → DpAll K H (as.map V.ref) (ops.map dop)
  | [], [], _ => .nil
  | [], _ :: _, h => by have := h.len; simp at this
  | _ :: _, [], h => by have := h.len; simp at this
  | a :: as, o :: ops, h => by
    refine .cons (.tup (SqT.of (h.at_ 0 a o rfl rfl)) (.cons (.str _) (.cons (.int _) .nil))) (dpAll_of ⟨?_, fun i x p h1 h2 => h.at_ (i + 1) x p h1 h2⟩)
    have := h.len; simpa using this
theorem RowsLst.fr {H H' : Hp} {q b l : Addr} {ns : List Int} {d : Nat} {ops : List Op} (r : RowsLst H q ops) (F : Fr H H' b) (hq : q ≠ b) (G : Bag H b l ns d) : RowsLst H' q ops := by
  obtain ⟨as, h, o⟩ := r
  refine ⟨as, F _ _ h hq, o.frame fun a xs ha => F _ _ ha ?_⟩
  obtain ⟨_, _, _, _, hb, _⟩ := G.ex
  exact ne_of ha hb (by intro z; cases z)
theorem RowsLst.same {H H' : Hp} {q : Addr} {ops : List Op} (r : RowsLst H q ops) (F : Same H H') : RowsLst H' q ops := by
  obtain ⟨as, h, o⟩ := r
  exact ⟨as, F _ _ h, o.same F⟩
theorem rets_snoc (l : List Op) (o : Op) : rets (l ++ [o]) = rets l + (if o.1 = true then 0 else 1) := by
  unfold rets
  rw [List.filter_append, List.length_append]
  congr 1
  cases h : o.1 <;> simp [h]
theorem ne_w2 {x : Int} : V.str (if ((true, x) : Op).1 = true then ("take" : Str) else "return") ≠ V.str "return" := by
  intro q
  have h : ("take" : Str) = "return" := V.str.inj q
  exact absurd h (by decide +kernel)
theorem mem_filtI {f : Nat → Option (Option Int)} {n : Nat} {z : Int} : z ∈ filtI (fun k => decide (f k = some none)) n ↔ 0 ≤ z ∧ z < n ∧ f z.toNat = some none := by
  unfold filtI
  rw [List.mem_map]
  constructor
  · rintro ⟨k, hk, rfl⟩
    rw [List.mem_filter, List.mem_range, decide_eq_true_iff] at hk
    exact ⟨by omega, by omega, by simpa using hk.2⟩
  · rintro ⟨h0, h1, h2⟩
    exact ⟨z.toNat, by rw [List.mem_filter, List.mem_range, decide_eq_true_iff]; exact ⟨by omega, h2⟩, by omega⟩
theorem fm_snoc (l : List (Option Int)) (x : Option Int) : (l ++ [x]).filterMap id = l.filterMap id ++ (match x with | some v => [v] | none => []) := by
  rw [List.filterMap_append]
  cases x <;> rfl
theorem cut_upto (xs : List V) (i : Nat) : cutV xs none (some (i : Int)) = xs.take i := cut_to xs i
section
variable {P : Program} {w : World} {K : PySem.W.Frag} {mg : Str → Option Value} {base : Heap}
theorem rd_ne_nil {H : Hp} {a b : Addr} {Q : VK} {ops : List Op} (h1 : RowsLst H a ops) (h2 : SqL K H b []) (q : Q (.bl (!decide (ops = []))) H) : rNeD K (.ref a) (.ref b) H Q := by
  obtain ⟨as, h, o⟩ := h1
  refine ⟨_, .list [], .lst (SqL.of h) (dpAll_of o), .lst h2 .nil, shaped_ops ops, rfl, ?_⟩
  have e : PyData.eqv (.list (ops.map dop)) (.list []) = decide (ops = []) := by
    cases ops with
    | nil => rfl
    | cons a r => simp [PyData.eqv, PyData.eqvAll]
  rw [e]; exact q
theorem ok__law_right (e : Env K mg) : FnOk P w K mg base CX0 8 e.a__law_right e.d__law_right ["bag", "size", "rows"] (sp__law_right K) := by
  refine e.f__law_right.ok sc__law_right (fun vs H Q E h => ?_) (fun cdv A outer s H vs Q E hr h => ?_)
  · obtain ⟨b, l, ns, d, n, q, ops, f, rfl, _⟩ := h; rfl
  · obtain ⟨b, l, ns, d, n, q, ops, f, rfl, G, hd, hl, hRL, hqb, R, k⟩ := h
    obtain ⟨hn1, hn2, hR, hlen, hrun⟩ := id R
    have g := good_run (good_init n) hrun
    refine ⟨_, (pss_cons (ps_set (i := 3) sc__law_right.nd rfl (by first | exact Or.inl rfl | exact Or.inr rfl) (pe_call ((ok__law_draw e).mono (by decide)) hr rfl e.g__law_draw e.f__law_draw.kp e.b__law_draw .nil pass0 (pa_cons (pv 0) (pa_cons (pe_op op_add (pe_callB call_len_seq (by rfl) e.n_len PySem.boot_len (pa_cons (pv 2) pa_nil)) pe_int) pa_nil))))
      (pss_cons (ps_asg (pe_tup (pa_cons (pe_call ((ok_books_after e).mono (by decide)) hr rfl e.g_books_after e.f_books_after.kp e.b_books_after .nil pass0 (pa_cons (pv 1) (pa_cons (pv 2) pa_nil))) (pa_cons (pe_call ((ok_books_out e).mono (by decide)) hr rfl e.g_books_out e.f_books_out.kp e.b_books_out .nil pass0 (pa_cons (pv 1) (pa_cons (pv 2) pa_nil))) pa_nil))) (pg_tup (by rfl) (pgs_cons (pg_name (i := 4) sc__law_right.nd rfl (by first | exact Or.inl rfl | exact Or.inr rfl)) (pgs_cons (pg_name (i := 5) sc__law_right.nd rfl (by first | exact Or.inl rfl | exact Or.inr rfl)) pgs_nil))))
      (pss_cons (ps_if (pt_cmpR (op_neD hr.units) (pe_callB cr_sortedI (by rfl) e.n_sorted (by decide +kernel) (pa_cons (pe_op op_cat (pe_lc (own := [("book", 13)]) rfl sc__law_right.nd (pi_list (pv 4)) (blkOk_by (N := ["bag", "size", "rows", "cut", "books", "out", "filled", "early", "step", "places", "place", "more", "least", "book", "one", "other"]) (sc := defScope s__law_right) (by decide +kernel)) (fun _ _ _ _ _ => (pg_name (i := 13) sc__law_right.nd rfl (by first | exact Or.inl rfl | exact Or.inr rfl))) (fun _ _ _ _ _ => pts_one (pt_cmpR op_notN (pv 13) pe_non (nomark _))) (fun _ _ _ _ _ => (pv 13))) (pv 5)) pa_nil)) (pe_listRg rfl (by rfl) e.n_list (prg_1 (by rfl) e.n_range (pv 1))) (nomark _))
        (pss_one (ps_ret pe_bl))
        pss_nil)
      (pss_cons (ps_par (i := 6) (j := 7) (by rfl) sc__law_right.nd rfl rfl (by decide) rfl rfl (pa_cons (pe_call ((ok_places_filled e).mono (by decide)) hr rfl e.g_places_filled e.f_places_filled.kp e.b_places_filled .nil pass0 (pa_cons (pv 1) (pa_cons (pv 2) pa_nil))) (pa_cons (pe_call ((ok_places_filled e).mono (by decide)) hr rfl e.g_places_filled e.f_places_filled.kp e.b_places_filled .nil pass0 (pa_cons (pv 1) (pa_cons (pe_slice sl_list (pv 2) po_none (po_some (pv 3))) pa_nil))) pa_nil)) (by rfl))
      (pss_cons (ps_if (PW.pt (pw_or (pt_cmpR (op_neD hr.units) (pe_slice sl_list (pv 6) po_none (po_some (pe_callB call_len_seq (by rfl) e.n_len PySem.boot_len (pa_cons (pv 7) pa_nil)))) (pv 7) (nomark _)) (pw_or1 (pt_cmpR op_ne (pe_callB call_len_seq (by rfl) e.n_len PySem.boot_len (pa_cons (pv 6) pa_nil)) (pe_callB call_len_seq (by rfl) e.n_len PySem.boot_len (pa_cons (pe_lc (own := [("one", 14)]) rfl sc__law_right.nd (pi_list (pv 2)) (blkOk_by (N := ["bag", "size", "rows", "cut", "books", "out", "filled", "early", "step", "places", "place", "more", "least", "book", "one", "other"]) (sc := defScope s__law_right) (by decide +kernel)) (fun _ _ _ _ _ => (pg_name (i := 14) sc__law_right.nd rfl (by first | exact Or.inl rfl | exact Or.inr rfl))) (fun _ _ _ _ _ => pts_one (pt_cmpR op_eq (pe_ix (show IxR _ (rIxT K) from ix_tup) (pv 14) pe_int (fun _ _ => rfl)) pe_str (nomark _))) (fun _ _ _ _ _ => pe_int)) pa_nil)) (nomark _)))))
        (pss_one (ps_ret pe_bl))
        pss_nil)
      (pss_cons (ps_if (PW.pt (pw_or (pt_cmpR op_gt (pe_call ((ok_most_out e).mono (by decide)) hr rfl e.g_most_out e.f_most_out.kp e.b_most_out .nil pass0 (pa_cons (pv 1) (pa_cons (pe_slice sl_list (pv 2) po_none (po_some (pv 3))) pa_nil))) (pe_call ((ok_most_out e).mono (by decide)) hr rfl e.g_most_out e.f_most_out.kp e.b_most_out .nil pass0 (pa_cons (pv 1) (pa_cons (pv 2) pa_nil))) (nomark _)) (pw_or1 (pt_cmpR op_gt (pe_callB call_len_seq (by rfl) e.n_len PySem.boot_len (pa_cons (pe_call ((ok_books_out e).mono (by decide)) hr rfl e.g_books_out e.f_books_out.kp e.b_books_out .nil pass0 (pa_cons (pv 1) (pa_cons (pe_slice sl_list (pv 2) po_none (po_some (pv 3))) pa_nil))) pa_nil)) (pe_call ((ok_most_out e).mono (by decide)) hr rfl e.g_most_out e.f_most_out.kp e.b_most_out .nil pass0 (pa_cons (pv 1) (pa_cons (pv 2) pa_nil))) (nomark _)))))
        (pss_one (ps_ret pe_bl))
        pss_nil)
      (pss_cons (ps_for PassesOwn.never rfl (pi_range1 (by rfl) e.n_range (pa_cons (pe_op op_mul pe_int (pe_callTy call_int1 (by rfl) e.n_int (by decide +kernel) (pa_cons (pe_cmpR (op_neD hr.units) (pv 2) (pe_lst pa_nil) (nomark _)) pa_nil))) pa_nil)) (pg_name (i := 8) sc__law_right.nd rfl (by first | exact Or.inl rfl | exact Or.inr rfl))
      (pss_one (ps_if (pt_not (pt_val (pe_call ((ok__law_step_right e).mono (by decide)) hr rfl e.g__law_step_right e.f__law_step_right.kp e.b__law_step_right .nil pass0 (pa_cons (pv 1) (pa_cons (pv 2) (pa_cons (pe_call ((ok__law_draw e).mono (by decide)) hr rfl e.g__law_draw e.f__law_draw.kp e.b__law_draw .nil pass0 (pa_cons (pv 0) (pa_cons (pe_callB call_len_seq (by rfl) e.n_len PySem.boot_len (pa_cons (pv 2) pa_nil)) pa_nil))) pa_nil))))))
        (pss_one (ps_ret pe_bl))
        pss_nil)))
      (pss_cons (ps_if (PW.pt (pw_and (pt_cmpR op_lt (pv 1) pe_int (nomark _)) (pw_and1 (pt_cmpR (op_neD hr.units) (pe_call ((ok_books_after e).mono (by decide)) hr rfl e.g_books_after e.f_books_after.kp e.b_books_after .nil pass0 (pa_cons (pe_op op_add (pv 1) pe_int) (pa_cons (pv 2) pa_nil))) (pe_op op_cat (pv 4) (pe_lst (pa_cons (pv 1) pa_nil))) (nomark _)))))
        (pss_one (ps_ret pe_bl))
        pss_nil)
      (pss_cons (ps_setLc (i := 9) (own := [("place", 10)]) rfl sc__law_right.nd rfl rfl (sw_true rfl rfl rfl (by decide +kernel)) (pi_range1 (by rfl) e.n_range (pa_cons (pv 1) pa_nil)) (blkOk_by (N := ["bag", "size", "rows", "cut", "books", "out", "filled", "early", "step", "places", "place", "more", "least", "book", "one", "other"]) (sc := defScope s__law_right) (by decide +kernel)) (fun _ _ _ _ _ => (pg_name (i := 10) sc__law_right.nd rfl (by first | exact Or.inl rfl | exact Or.inr rfl))) (fun _ _ _ _ _ => pts_one (pt_cmpR op_notN (pe_ix (show IxR _ (rIxL K) from ix_list) (pv 4) (pv 10) (fun _ _ => rfl)) pe_non (nomark _))) (fun _ _ _ _ _ => (pv 10)))
      (pss_cons (ps_if (PW.pt (pw_or (pt_cmpR (op_eqD hr.units) (pv 9) (pe_lst pa_nil) (nomark _)) (pw_or1 (pt_cmpR op_gt (pe_callB call_len_seq (by rfl) e.n_len PySem.boot_len (pa_cons (pv 2) pa_nil)) pe_int (nomark _)))))
        (pss_one (ps_ret pe_bl))
        pss_nil)
      (pss_cons (ps_set (i := 10) sc__law_right.nd rfl (by first | exact Or.inl rfl | exact Or.inr rfl) (pe_ix ix_list (pv 9) (pe_call ((ok__law_draw e).mono (by decide)) hr rfl e.g__law_draw e.f__law_draw.kp e.b__law_draw .nil pass0 (pa_cons (pv 0) (pa_cons (pe_callB call_len_seq (by rfl) e.n_len PySem.boot_len (pa_cons (pv 9) pa_nil)) pa_nil))) (fun _ _ => rfl)))
      (pss_cons (ps_set (i := 11) sc__law_right.nd rfl (by first | exact Or.inl rfl | exact Or.inr rfl) (pe_op op_cat (pv 2) (pe_lst (pa_cons (pe_tup (pa_cons pe_str (pa_cons (pv 10) pa_nil))) (pa_cons (pe_tup (pa_cons pe_str (pa_cons (pe_ix ix_list (pv 4) (pv 10) (fun _ _ => rfl)) pa_nil))) pa_nil)))))
      (pss_cons (ps_set (i := 12) sc__law_right.nd rfl (by first | exact Or.inl rfl | exact Or.inr rfl) (pe_callB (cr_min rfl) (by rfl) e.n_min (by decide +kernel) (pa_cons (pe_op op_cat (pe_lst (pa_cons (pv 10) pa_nil)) (pe_lc (own := [("other", 15)]) rfl sc__law_right.nd (pi_range1 (by rfl) e.n_range (pa_cons (pv 1) pa_nil)) (blkOk_by (N := ["bag", "size", "rows", "cut", "books", "out", "filled", "early", "step", "places", "place", "more", "least", "book", "one", "other"]) (sc := defScope s__law_right) (by decide +kernel)) (fun _ _ _ _ _ => (pg_name (i := 15) sc__law_right.nd rfl (by first | exact Or.inl rfl | exact Or.inr rfl))) (fun _ _ _ _ _ => pts_one (pt_cmpR op_isN (pe_ix (show IxR _ (rIxL K) from ix_list) (pv 4) (pv 15) (fun _ _ => rfl)) pe_non (nomark _))) (fun _ _ _ _ _ => (pv 15)))) pa_nil)))
      (pss_one (ps_ret (pe_and (pe_cmpR op_isBl (pe_call ((ok_is_schedule e).mono (by decide)) hr rfl e.g_is_schedule e.f_is_schedule.kp e.b_is_schedule .nil pass0 (pa_cons (pv 1) (pa_cons (pv 11) pa_nil))) pe_bl (nomark _)) (pe_one (pe_cmpR (op_eqD hr.units) (pe_call ((ok_places_filled e).mono (by decide)) hr rfl e.g_places_filled e.f_places_filled.kp e.b_places_filled .nil pass0 (pa_cons (pv 1) (pa_cons (pv 11) pa_nil))) (pe_op op_cat (pv 6) (pe_lst (pa_cons (pv 12) pa_nil))) (nomark _))))))))))))))))))), ?_⟩
    obtain ⟨as, hS, hO⟩ := id hRL
    have hasl := hO.len
    refine ⟨_, rfl, _, rfl, q, _, rfl, .inl (SqL.of hS), _, _, rfl, rfl, ?_⟩
    rw [List.length_map, hasl]
    refine ⟨b, l, ns, d, _, rfl, G, by omega, log_small (n := ops.length + 1) (by omega), by omega, hl, fun H1 r1 a1 b1 G1 F1 => ?_⟩
    obtain ⟨cut, rfl⟩ : ∃ cut : Nat, r1 = (cut : Int) := ⟨r1.toNat, by omega⟩
    have hcut : cut ≤ ops.length := by omega
    have RL1 := hRL.fr F1 hqb G
    have R1 : Runs K H1 n q ops f := ⟨hn1, hn2, RL1.rows, hlen, hrun⟩
    refine ⟨_, rfl, _, rfl, n, q, ops, f, rfl, R1, fun H2 pb s2 npb hpb => ?_⟩
    refine ⟨_, rfl, _, rfl, n, q, ops, f, rfl, R1.same s2, fun H3 po zs s3 npo hz1 hz2 hpo => ?_⟩
    refine ⟨(by show 2 ≤ sizeLine; decide), fun tp htp => ?_⟩
    have st := same_upd (o := HO.tup [V.ref pb, V.ref po]) htp
    refine ⟨_, _, rfl, SqT.of upd_same, rfl, _, _, rfl, _, _, rfl, rfl, ?_⟩
    have s14 := (s2.trans s3).trans st
    have hpb4 := st _ _ (s3 _ _ hpb)
    have hpo4 := st _ _ hpo
    have R4 := R1.same s14
    have RL4 := RL1.same s14
    have G4 := G1.same s14
    have F4 : Fr H _ b := F1.trans (Fr.of s14)
    have pbb : pb ≠ b := by
      intro z; obtain ⟨o, h⟩ := G1.nb; rw [z, h] at npb; cases npb
    have pob : po ≠ b := by
      intro z; obtain ⟨o, h⟩ := G1.nb; rw [z, s2 _ _ h] at npo; cases npo
    generalize upd H3 tp (HO.tup [V.ref pb, V.ref po]) = H4 at *
    clear hpb hpo st htp s2 s3 s14 npb npo
    refine ⟨_, rfl, pb, rfl, ⟨_, SqL.of hpb4⟩, fun D hD => lc_it (walk_list (xs := f.books.map vo)) (fun j H5 => H5 = upd H4 D (.lst (((f.books.take j).filterMap id).map V.int))) rfl (fun j H5 _ e5 => by rw [e5]; exact (same_upd hD).seq (SqL.of hpb4)) ?_ ?_⟩
    · rintro j x Hq H5 hj rfl ⟨rfl, hx⟩
      have hjl : j < f.books.length := by rw [List.length_map] at hj; exact hj
      obtain ⟨v, ev⟩ : ∃ v, f.books[j]? = some v := ⟨_, List.getElem?_eq_getElem hjl⟩
      rw [List.getElem?_map, ev] at hx
      cases hx
      have et : f.books.take (j + 1) = f.books.take j ++ [v] := by rw [List.take_add_one, ev]; rfl
      have hll : (((f.books.take j).filterMap id).map V.int).length < sizeLine := by
        rw [List.length_map]
        refine small1000 ?_
        have := fm_len (f.books.take j)
        rw [List.length_take, g.len] at this
        omega
      refine ⟨rfl, _, rfl, rfl, _, rfl, ?_⟩
      rw [et, fm_snoc]
      cases v with
      | none =>
        refine iteNS rfl ?_
        rw [List.append_nil]
      | some v =>
        refine iteNX (by intro q; cases q) ?_
        refine ⟨_, rfl, _, upd_same, hll, ?_⟩
        rw [upd_upd, List.map_append]; rfl
    · rintro H5 e5
      rw [List.length_map, List.take_length] at e5
      have s45 : Same H4 H5 := by rw [e5]; exact same_upd hD
      have hD5 : H5 D = some (.lst ((f.books.filterMap id).map V.int)) := by rw [e5]; exact upd_same
      clear e5 hD
      have lens := g.perm.length_eq
      rw [List.length_append, rangeI_length] at lens
      have hzl := hz1.length_eq
      refine ⟨_, rfl, D, po, _, _, rfl, rfl, hD5, s45 _ _ hpo4, (by rw [List.length_map, List.length_map]; exact Nat.le_of_lt (small1000 (by omega))), fun p5 hp5 => ?_⟩
      refine ⟨p5, f.books.filterMap id ++ zs, rfl, SqL.of (by rw [upd_same, List.map_append]), fun ws p6 hw1 hw2 hp6 => ?_⟩
      refine ⟨_, rfl, n, rfl, RgOk.of_le (by decide) (by omega) (by decide) (by omega), fun p7 hp7 => ?_⟩
      have ew : ws = rangeI n := sorted_eq ((hw1.trans (List.Perm.append_left _ hz1)).trans g.perm) hw2 (rangeI_sorted n)
      subst ew
      have erg : rgV 0 (n : Int) = (rangeI n).map V.int := by
        rw [← init_books]; unfold simInit; rw [List.map_map]; rfl
      refine rd_neI (l := rangeI n) (m := rangeI n) (SqL.of (same_upd hp7 _ _ upd_same)) (SqL.of (by rw [upd_same, erg])) ⟨_, rfl, iteNS rfl ?_⟩
      have s48 := ((s45.trans (same_upd hp5)).trans (same_upd hp6)).trans (same_upd (o := HO.lst (rgV 0 (n : Int))) hp7)
      generalize hH8 : upd (upd (upd H5 p5 _) p6 _) p7 (HO.lst (rgV 0 (n : Int))) = H8 at *
      clear hH8 hp7 hp6 hp5 s45 hD5
      have hpb8 := s48 _ _ hpb4
      have hpo8 := s48 _ _ hpo4
      have R8 := R4.same s48
      have RL8 := RL4.same s48
      have G8 := G4.same s48
      have F8 : Fr H H8 b := F4.trans (Fr.of s48)
      clear hpb4 hpo4 R4 RL4 G4 F4 s48
      refine ⟨_, rfl, _, rfl, n, q, ops, f, rfl, R8, fun H9 pf s9 npf hpf => ?_⟩
      obtain ⟨as8, hS8, hO8⟩ := id RL8
      obtain ⟨t, ht, hdrop⟩ := run_take hrun cut
      refine ⟨_, rfl, _, rfl, _, rfl, _, rfl, _, _, rfl, SqL.of (s9 _ _ hS8), fun p10 hp10 => ?_⟩
      refine ⟨n, p10, _, t, rfl, (R8.same s9).part hp10 (hO8.same s9) cut ht, fun H11 pe s11 npe hpe => ?_⟩
      refine ⟨_, _, rfl, ?_⟩
      have s811 : Same H8 H11 := (s9.trans (same_upd hp10)).trans s11
      have hpf11 := s11 _ _ (same_upd hp10 _ _ hpf)
      have pfb : pf ≠ b := by
        intro z; obtain ⟨o, h⟩ := G8.nb; rw [z, h] at npf; cases npf
      have hpb11 := s811 _ _ hpb8
      have hpo11 := s811 _ _ hpo8
      have R11 := R8.same s811
      have RL11 := RL8.same s811
      have G11 := G8.same s811
      have F11 : Fr H H11 b := F8.trans (Fr.of s811)
      clear hpb8 hpo8 R8 RL8 G8 F8 s811 s11 hpf npe npf hp10 hS8 hO8 s9
      obtain ⟨⟨mm, em, lm⟩, hmost⟩ := run_grow hdrop
      obtain ⟨⟨mf, emf, lmf⟩, hmost0⟩ := run_grow hrun
      have emf' : f.filled = mf := by rw [emf]; rfl
      have efl : f.filled.length ≤ 400 := by
        rw [emf', lmf]; unfold rets
        exact Nat.le_trans (List.length_filter_le _ _) hlen
      have hpe11 := hpe
      have cf : cutV (f.filled.map V.int) none (some (((t.filled.map V.int).length : Nat) : Int)) = t.filled.map V.int := by
        rw [cut_to, List.length_map, ← List.map_take, em, List.take_left]
      refine ⟨_, rfl, _, rfl, pe, _, rfl, .inl (SqL.of hpe11), _, rfl, _, _, rfl, SqL.of hpf11, fun p12 hp12 => ?_⟩
      refine ⟨_, rfl, rd_neI (l := t.filled) (m := t.filled) (SqL.of (by rw [upd_same, cf])) (SqL.of (same_upd hp12 _ _ hpe11)) ⟨_, rfl, iteNS rfl ?_⟩⟩
      have s12 := same_upd (o := HO.lst (cutV (f.filled.map V.int) none (some (((t.filled.map V.int).length : Nat) : Int)))) hp12
      obtain ⟨as11, hS11, hO11⟩ := id RL11
      have hasl11 := hO11.len
      refine ⟨_, rfl, pf, _, rfl, .inl (SqL.of (s12 _ _ hpf11)), _, rfl, q, rfl, ⟨_, SqL.of (s12 _ _ hS11)⟩, fun D2 hD2 => lc_it (walk_list (xs := as11.map V.ref)) (fun j H5 => H5 = upd _ D2 (.lst (List.replicate (rets (ops.take j)) (V.int 1)))) rfl (fun j H5 _ e5 => by rw [e5]; exact (same_upd hD2).seq (SqL.of (s12 _ _ hS11))) ?_ ?_⟩
      · rintro j x Hq H13 hj rfl ⟨rfl, hx⟩
        have hjl : j < ops.length := by rw [List.length_map] at hj; omega
        obtain ⟨a, ea⟩ : ∃ a, as11[j]? = some a := ⟨_, List.getElem?_eq_getElem (by omega)⟩
        obtain ⟨o, eo⟩ : ∃ o, ops[j]? = some o := ⟨_, List.getElem?_eq_getElem hjl⟩
        rw [List.getElem?_map, ea] at hx
        cases hx
        have hop := same_upd (o := HO.lst (List.replicate (rets (ops.take j)) (V.int 1))) hD2 _ _ (s12 _ _ (hO11.at_ j a o ea eo))
        have et : ops.take (j + 1) = ops.take j ++ [o] := by rw [List.take_add_one, eo]; rfl
        have hll : (List.replicate (rets (ops.take j)) (V.int 1)).length < sizeLine := by
          rw [List.length_replicate]
          refine small1000 ?_
          unfold rets
          exact Nat.le_trans (List.length_filter_le _ _) (by rw [List.length_take]; omega)
        refine ⟨rfl, _, rfl, _, _, _, _, rfl, rfl, SqT.of hop, rfl, rfl, _, rfl, ?_⟩
        rw [et, rets_snoc]
        obtain ⟨w0, x⟩ := o
        cases w0 with
        | true =>
          refine iteX ne_w2 ?_
          rfl
        | false =>
          refine iteD rfl ?_
          refine ⟨_, upd_same, hll, ?_⟩
          rw [upd_upd]
          show upd _ D2 (.lst (List.replicate (rets (ops.take j)) (V.int 1) ++ [V.int 1])) = upd _ D2 (.lst (List.replicate (rets (ops.take j) + 1) (V.int 1)))
          rw [List.replicate_succ']
      · rintro H13 e13
        rw [show (as11.map V.ref).length = ops.length by rw [List.length_map, hasl11], List.take_length] at e13
        have s1113 : Same H11 H13 := by rw [e13]; exact s12.trans (same_upd hD2)
        have hD13 : H13 D2 = some (.lst (List.replicate (rets ops) (V.int 1))) := by rw [e13]; exact upd_same
        refine ⟨D2, _, rfl, .inl (SqL.of hD13), rfl, _, rfl, iteNS (by rw [List.length_map, List.length_replicate, emf', lmf]) ?_⟩
        clear e13 hD13 hD2 s12 hp12 hS11 hO11
        have hpf13 := s1113 _ _ hpf11
        have hpb13 := s1113 _ _ hpb11
        have R13 := R11.same s1113
        have RL13 := RL11.same s1113
        have G13 := G11.same s1113
        have F13 : Fr H H13 b := F11.trans (Fr.of s1113)
        clear hpf11 hpb11 R11 RL11 G11 F11 s1113 hpe11 hpe hpo11
        obtain ⟨as13, hS13, hO13⟩ := id RL13
        refine ⟨_, rfl, _, rfl, _, rfl, _, rfl, _, _, rfl, SqL.of hS13, fun p14 hp14 => ?_⟩
        refine ⟨n, p14, _, t, rfl, R13.part hp14 hO13 cut ht, fun H15 s15 => ?_⟩
        have s1315 := (same_upd hp14).trans s15
        refine ⟨_, rfl, _, rfl, n, q, ops, f, rfl, R13.same s1315, fun H16 s16 => ⟨_, _, rfl, rfl, _, rfl, iteX (by omega) ?_⟩⟩
        have s1316 := s1315.trans s16
        refine ⟨_, rfl, _, rfl, _, rfl, _, rfl, _, _, rfl, SqL.of (s1316 _ _ hS13), fun p17 hp17 => ?_⟩
        refine ⟨n, p17, _, t, rfl, (R13.same s1316).part hp17 (hO13.same s1316) cut ht, fun H18 pz us s18 npz hu1 hu2 hpz => ?_⟩
        have s1318 := (s1316.trans (same_upd hp17)).trans s18
        have gt := good_run (good_init n) ht
        have gol := gt.out_le
        have hul := hu1.length_eq
        refine ⟨pz, _, rfl, .inl (SqL.of hpz), _, rfl, _, rfl, n, q, ops, f, rfl, R13.same s1318, fun H19 s19 => ⟨_, _, rfl, rfl, _, rfl, iteX (by rw [List.length_map]; omega) ?_⟩⟩
        have s1319 := s1318.trans s19
        have hpf19 := s1319 _ _ hpf13
        have hpb19 := s1319 _ _ hpb13
        have R19 := R13.same s1319
        have RL19 := RL13.same s1319
        have G19 := G13.same s1319
        have F19 : Fr H H19 b := F13.trans (Fr.of s1319)
        clear hpf13 hpb13 R13 RL13 G13 F13 s1319 s19 s1318 s18 s1316 s16 s1315 s15 hp14 hp17 hS13 hO13 hpz
        refine ⟨_, rfl, by decide, fun p20 hp20 => rd_ne_nil (RL19.same (same_upd hp20)) (SqL.of upd_same) (.inr ⟨_, rfl, ?_⟩)⟩
        obtain ⟨c, ec, hc⟩ : ∃ c : Nat, (if (!decide (ops = [])) = true then (1 : Int) else 0) = (c : Int) ∧ c ≤ 1 ∧ (c = 1 → ops ≠ []) := by
          by_cases ho : ops = []
          · exact ⟨0, by simp [ho], by omega, by omega⟩
          · exact ⟨1, by simp [ho], by omega, fun _ => ho⟩
        rw [ec]
        have s20 := same_upd (o := HO.lst []) hp20
        refine ⟨_, _, rfl, rfl, .inl ⟨by decide, by decide⟩, _, rfl, by omega, by omega, ?_⟩
        have ecn : (6 * (c : Int)).toNat = 6 * c := by omega
        rw [ecn]
        have s20' := s20
        refine for_it walk_range (fun i σ H2 => ∃ v8 : Option V, σ = [some (.ref b), some (.int n), some (.ref q), some (.int cut), some (.ref pb), some (.ref po), some (.ref pf), some (.ref pe), v8, none, none, none, none, none, none, none] ∧ Bag H2 b l ns (d + 1 + i) ∧ Fr H19 H2 b)
          ⟨none, rfl, (G19.same s20).mono (by omega), Fr.of s20⟩ (fun _ _ _ _ _ => trivial) ?_ ?_
        · rintro i x σ Hq H2 hi ⟨v8, rfl, G2, F2⟩ ⟨rfl, rfl⟩
          have hne : ops ≠ [] := hc.2 (by omega)
          have hpos : 0 < ops.length := List.length_pos_iff.mpr hne
          have RL2 := RL19.fr F2 hqb G19
          obtain ⟨as2, hS2, hO2⟩ := id RL2
          refine ⟨_, rfl, _, rfl, _, rfl, _, rfl, q, _, rfl, .inl (SqL.of hS2), ?_⟩
          rw [List.length_map, hO2.len]
          refine ⟨b, l, ns, _, _, rfl, G2, by omega, log_small (by omega), by omega, hl, fun H3 r3 a3 b3 G3 F3 => ?_⟩
          obtain ⟨z, rfl⟩ : ∃ z : Nat, r3 = (z : Int) := ⟨r3.toNat, by omega⟩
          refine ⟨n, z, q, ops, f, rfl, ⟨hn1, hn2, (RL2.fr F3 hqb G2).rows, hlen, hrun⟩, by omega, fun H4 s4 => ⟨_, rfl, iteNB rfl ?_⟩⟩
          exact ⟨_, rfl, (G3.same s4).mono (by omega), (F2.trans F3).trans (Fr.of s4)⟩
        · rintro σ H20 ⟨v8, rfl, G20, F20⟩
          have hpf20 := F20 _ _ hpf19 pfb
          have hpb20 := F20 _ _ hpb19 pbb
          have RL20 := RL19.fr F20 hqb G19
          have R20 : Runs K H20 n q ops f := ⟨hn1, hn2, RL20.rows, hlen, hrun⟩
          have FF : Fr H H20 b := F19.trans F20
          have G20' : Bag H20 b l ns (d + 10) := G20.mono (by omega)
          clear hpf19 hpb19 R19 RL19 G19 F19 s20 s20' hp20 F20 G20
          refine' LP.cut (A := fun H5 : Hp => Same H20 H5) ?tk (fun rest => ?main)
          case main =>
            refine ⟨_, rfl, _, _, rfl, rfl, _, rfl, ite2d (fun h200 => ?_) fun h200 => ?_⟩
            · refine ⟨_, rfl, _, _, rfl, rfl, _, rfl, ?_⟩
              refine ⟨n + 1, q, ops, ext n f, rfl, ⟨by omega, by omega, RL20.rows, hlen, by rw [init_ext]; exact run_ext (good_init n) hrun⟩, fun H21 pa s21 npa hpa => ?_⟩
              refine ⟨_, rfl, _, rfl, (by show 1 ≤ sizeLine; decide), fun p22 hp22 => ?_⟩
              have s22 := same_upd (o := HO.lst [V.int (n : Int)]) hp22
              refine ⟨pb, p22, _, _, rfl, rfl, s22 _ _ (s21 _ _ hpb20), upd_same, (by rw [List.length_map, g.len]; exact Nat.le_of_lt (small1000 (by show n + 1 ≤ 1000; omega))), fun p23 hp23 => ?_⟩
              have s23 := same_upd (o := HO.lst (f.books.map vo ++ [V.int (n : Int)])) hp23
              refine rd_ne (l := (ext n f).books) (m := (ext n f).books) (SqL.of (s23 _ _ (s22 _ _ hpa))) (SqL.of (by rw [upd_same]; show _ = some (HO.lst ((f.books ++ [some (n : Int)]).map vo)); rw [List.map_append]; rfl)) ⟨_, rfl, iteNS rfl ?_⟩
              exact rest _ ((s21.trans s22).trans s23)
            · exact iteF (rest _ (Same.refl _))
          case tk =>
            intro H21 s21
            have hpf21 := s21 _ _ hpf20
            have hpb21 := s21 _ _ hpb20
            have RL21 := RL20.same s21
            have R21 := R20.same s21
            have F21 : Fr H H21 b := FF.trans (Fr.of s21)
            have G21 := G20'.same s21
            clear hpf20 hpb20 RL20 R20 FF G20' s21
            refine ⟨_, rfl, n, rfl, by omega, by omega, fun D3 hD3 => lc_it walk_range (fun j H3 => H3 = upd H21 D3 (.lst ((placesOf f.books j).map V.int))) rfl (fun _ _ _ _ => trivial) ?_ ?_⟩
            · rintro j x Hq H3 hj rfl ⟨rfl, rfl⟩
              rw [Int.toNat_natCast] at hj
              obtain ⟨v, ej⟩ : ∃ v, f.books[j]? = some v := ⟨_, List.getElem?_eq_getElem (by rw [g.len]; exact hj)⟩
              refine ⟨rfl, _, rfl, _, rfl, rd_ix (j := j) (v := vo v) (SqL.of (same_upd hD3 _ _ hpb21)) (by rw [List.getElem?_map, ej]; rfl) (Int.zero_add _) ⟨rfl, _, rfl, ?_⟩⟩
              rw [placesOf_succ, ej]
              cases v with
              | none =>
                refine iteNS rfl ?_
                rw [if_neg (by simp), List.append_nil]
              | some v =>
                refine iteNX (by intro q; cases q) ?_
                refine ⟨_, rfl, _, upd_same, pl_len _ _ (by omega), ?_⟩
                rw [upd_upd, if_pos (by simp), List.map_append]
                show upd H21 D3 (.lst (_ ++ [V.int (0 + (j : Int))])) = _
                rw [Int.zero_add]; rfl
            · rintro H22 e22
              rw [Int.toNat_natCast] at e22
              have s22 : Same H21 H22 := by rw [e22]; exact same_upd hD3
              have hD22 : H22 D3 = some (.lst ((placesOf f.books n).map V.int)) := by rw [e22]; exact upd_same
              have nD3 : D3 ≠ b := G21.ne_new hD3
              have hpl : ∀ x, x ∈ placesOf f.books n → 0 ≤ x ∧ x < n ∧ ∃ v, f.books[x.toNat]? = some (some v) := fun x hx => by
                obtain ⟨h0, h1, h2⟩ := mem_placesOf.mp hx
                obtain ⟨w, ew⟩ : ∃ w, f.books[x.toNat]? = some w := ⟨_, List.getElem?_eq_getElem (by rw [g.len]; omega)⟩
                refine ⟨h0, h1, ?_⟩
                rw [ew] at h2 ⊢
                cases w with
                | none => exact absurd rfl h2
                | some v => exact ⟨v, rfl⟩
              have hpll : (placesOf f.books n).length ≤ 200 := by have := placesOf_len f.books n; omega
              generalize placesOf f.books n = pl at hpl hpll hD22
              clear e22 hD3
              have hpf22 := s22 _ _ hpf21
              have hpb22 := s22 _ _ hpb21
              have RL22 := RL21.same s22
              have R22 := R21.same s22
              have F22 : Fr H H22 b := F21.trans (Fr.of s22)
              have G22 := G21.same s22
              clear hpf21 hpb21 RL21 R21 F21 G21 s22
              refine ⟨_, rfl, by decide, fun p23 hp23 => rd_eqI (l := pl) (m := []) (SqL.of (same_upd hp23 _ _ hD22)) (SqL.of upd_same) ⟨_, rfl, ?_⟩⟩
              have s23 := same_upd (o := HO.lst []) hp23
              by_cases hple : pl = []
              · refine iteD hple (iteT ?_)
                exact k _ ((G22.same s23).mono (by omega)) (F22.trans (Fr.of s23))
              refine iteX hple ?_
              obtain ⟨as23, hS23, hO23⟩ := id (RL22.same s23)
              refine ⟨_, rfl, q, _, rfl, .inl (SqL.of hS23), _, _, rfl, rfl, _, rfl, ?_⟩
              rw [List.length_map, hO23.len]
              refine ite2d (fun h398 => ?_) fun h398 => ?_
              · exact k _ ((G22.same s23).mono (by omega)) (F22.trans (Fr.of s23))
              have hpos : 0 < pl.length := List.length_pos_iff.mpr hple
              refine ⟨_, rfl, _, rfl, _, rfl, D3, _, rfl, .inl (SqL.of (s23 _ _ hD22)), ?_⟩
              rw [List.length_map]
              refine ⟨b, l, ns, _, _, rfl, G22.same s23, by omega, log_small (by omega), by omega, hl, fun H24 r a24 b24 G24 F24 => ?_⟩
              have F2224 : Fr H22 H24 b := (Fr.of s23).trans F24
              obtain ⟨x, hx⟩ : ∃ x, pl[r.toNat]? = some x := ⟨_, List.getElem?_eq_getElem (by omega)⟩
              obtain ⟨x0, x1, v, hv⟩ := hpl x (List.mem_of_getElem? hx)
              refine rd_ix (j := r.toNat) (v := .int x) (SqL.of (F24 _ _ (s23 _ _ hD22) nD3)) (by rw [List.getElem?_map, hx]; rfl) (by omega) ?_
              have hpf24 := F2224 _ _ hpf22 pfb
              have hpb24 := F2224 _ _ hpb22 pbb
              have RL24 := RL22.fr F2224 hqb G22
              have FF24 : Fr H H24 b := F22.trans F2224
              have GG24 : Bag H24 b l ns (d + 12) := G24.mono (by omega)
              clear hpf22 hpb22 RL22 R22 F22 G22 s23 hp23 hD22 F2224 G24 F24 hS23 hO23
              obtain ⟨as24, hS24, hO24⟩ := id RL24
              refine ⟨_, rfl, _, rfl, (by show 2 ≤ sizeLine; decide), fun t1 ht1 => ?_⟩
              have s25 := same_upd (o := HO.tup [V.str "take", V.int x]) ht1
              refine ⟨_, rfl, _, rfl, rd_ix (j := x.toNat) (v := .int v) (SqL.of (s25 _ _ hpb24)) (by rw [List.getElem?_map, hv]; rfl) (by omega) ?_⟩
              refine ⟨(by show 2 ≤ sizeLine; decide), fun t2 ht2 => ?_⟩
              have s26 := same_upd (o := HO.tup [V.str "return", V.int v]) ht2
              refine ⟨(by show 2 ≤ sizeLine; decide), fun p27 hp27 => ?_⟩
              have s27 := same_upd (o := HO.lst [V.ref t1, V.ref t2]) hp27
              have s2427 := (s25.trans s26).trans s27
              refine ⟨q, p27, _, _, rfl, rfl, s2427 _ _ hS24, upd_same, (by rw [List.length_map, hO24.len]; exact Nat.le_of_lt (small1000 (by show ops.length + 2 ≤ 1000; omega))), fun pm hpm => ?_⟩
              have s28 := same_upd (o := HO.lst (as24.map V.ref ++ [V.ref t1, V.ref t2])) hpm
              have s2428 := s2427.trans s28
              have RLm : RowsLst _ pm (ops ++ [(true, x)] ++ [(false, v)]) := ⟨as24 ++ [t1] ++ [t2], by rw [upd_same, List.map_append, List.map_append, List.append_assoc]; rfl, ((hO24.same s2428).snoc (s28 _ _ (s27 _ _ (s26 _ _ upd_same)))).snoc (s28 _ _ (s27 _ _ upd_same))⟩
              have hpf28 := s2428 _ _ hpf24
              have hpb28 := s2428 _ _ hpb24
              have G28 := GG24.same s2428
              have F28 : Fr H _ b := FF24.trans (Fr.of s2428)
              generalize hH28 : upd _ pm (HO.lst (as24.map V.ref ++ [V.ref t1, V.ref t2])) = H28 at *
              clear hH28 s2428 s28 s2427 s27 s26 s25 hpm hp27 ht1 ht2 hpf24 hpb24 RL24 FF24 GG24 hS24 hO24
              obtain ⟨s1, hs1⟩ : ∃ s1, stp f (true, x) = some s1 := ⟨_, stp_take_of x0 hv⟩
              have hrun1 := run_snoc hrun hs1
              have es1 := stp_take_of x0 hv
              have es1' : s1 = ⟨f.books.set x.toNat none, f.out ++ [v], f.filled, mx f.most ((f.out ++ [v]).length : Nat)⟩ := Option.some.inj (hs1.symm.trans es1)
              have hvm : v ∈ s1.out := by rw [es1']; exact List.mem_append_right _ List.mem_cons_self
              have es2 := stp_ret_of hvm
              have hrun2 := run_snoc hrun1 es2
              have g1 := good_run (good_init n) hrun1
              have hg1 := g1.gap hvm
              have eb1 : s1.books = f.books.set x.toNat none := by rw [es1']
              have ef1 : s1.filled = f.filled := by rw [es1']
              have hxl : x.toNat < f.books.length := by rw [g.len]; omega
              refine ⟨_, rfl, (by show 1 ≤ sizeLine; decide), fun p29 hp29 => ?_⟩
              have s29 := same_upd (o := HO.lst [V.int x]) hp29
              refine ⟨_, rfl, n, rfl, by omega, by omega, fun D4 hD4 => lc_it walk_range (fun j H3 => H3 = upd (upd H28 p29 (.lst [V.int x])) D4 (.lst ((filtI (fun k => decide (f.books[k]? = some none)) j).map V.int))) rfl (fun _ _ _ _ => trivial) ?_ ?_⟩
              · rintro j x Hq H3 hj rfl ⟨rfl, rfl⟩
                rw [Int.toNat_natCast] at hj
                obtain ⟨w, ej⟩ : ∃ w, f.books[j]? = some w := ⟨_, List.getElem?_eq_getElem (by rw [g.len]; exact hj)⟩
                refine ⟨rfl, _, rfl, _, rfl, rd_ix (j := j) (v := vo w) (SqL.of (same_upd hD4 _ _ (s29 _ _ hpb28))) (by rw [List.getElem?_map, ej]; rfl) (Int.zero_add _) ⟨rfl, _, rfl, ?_⟩⟩
                rw [filtI_succ]
                cases w with
                | some v =>
                  refine iteX (by intro q; cases q) ?_
                  rw [if_neg (by simp [ej]), List.append_nil]
                | none =>
                  refine iteD rfl ?_
                  refine ⟨_, rfl, _, upd_same, fl_len _ _ (by omega), ?_⟩
                  rw [upd_upd, if_pos (by simp [ej]), List.map_append]
                  show upd _ D4 (.lst (_ ++ [V.int (0 + (j : Int))])) = _
                  rw [Int.zero_add]; rfl
              · rintro H30 e30
                rw [Int.toNat_natCast] at e30
                have s2930 : Same (upd H28 p29 (.lst [V.int x])) H30 := by rw [e30]; exact same_upd hD4
                have hD30 : H30 D4 = some (.lst ((filtI (fun k => decide (f.books[k]? = some none)) n).map V.int)) := by rw [e30]; exact upd_same
                have s30 := s29.trans s2930
                have hgl := filtI_len (fun k => decide (f.books[k]? = some none)) n
                refine ⟨p29, D4, _, _, rfl, rfl, s2930 _ _ upd_same, hD30, (by rw [List.length_map]; exact Nat.le_of_lt (small1000 (by show 1 + _ ≤ 1000; omega))), fun p31 hp31 => ?_⟩
                have s31 := same_upd (o := HO.lst ([V.int x] ++ (filtI (fun k => decide (f.books[k]? = some none)) n).map V.int)) hp31
                refine ⟨p31, x :: filtI (fun k => decide (f.books[k]? = some none)) n, rfl, SqL.of (by rw [upd_same]; rfl), by simp, fun m hm hmin => ?_⟩
                have hmg : m = (gap s1.books : Int) := by
                  have gg := gap_get hg1
                  have gl := gap_lt hg1
                  have mem : ∀ z : Int, z ∈ filtI (fun k => decide (f.books[k]? = some none)) n ↔ 0 ≤ z ∧ z < n ∧ f.books[z.toNat]? = some none := fun z => mem_filtI
                  rw [eb1] at gg gl ⊢
                  rw [List.length_set] at gl
                  have le1 : m ≤ (gap (f.books.set x.toNat none) : Int) := by
                    refine hmin _ ?_
                    rw [List.getElem?_set] at gg
                    by_cases hxg : x.toNat = gap (f.books.set x.toNat none)
                    · rw [← hxg, Int.toNat_of_nonneg x0]; exact List.mem_cons_self
                    · rw [if_neg hxg] at gg
                      refine List.mem_cons_of_mem _ ((mem _).mpr ⟨by omega, by rw [g.len] at gl; omega, ?_⟩)
                      rw [Int.toNat_natCast]; exact gg
                  have le2 : (gap (f.books.set x.toNat none) : Int) ≤ m := by
                    rcases List.mem_cons.mp hm with e | e
                    · rw [e]
                      have := gap_least (l := f.books.set x.toNat none) (k := x.toNat) (by rw [List.getElem?_set, if_pos rfl, if_pos hxl])
                      omega
                    · obtain ⟨m0, m1, m2⟩ := (mem m).mp e
                      have := gap_least (l := f.books.set x.toNat none) (k := m.toNat) (by
                        rw [List.getElem?_set]
                        by_cases hq : x.toNat = m.toNat
                        · rw [if_pos hq, if_pos hxl]
                        · rw [if_neg hq]; exact m2)
                      omega
                  omega
                have s2831 := s30.trans s31
                have hlm : (ops ++ [(true, x)] ++ [(false, v)]).length ≤ 400 := by
                  rw [List.length_append, List.length_append]
                  show ops.length + 1 + 1 ≤ 400
                  omega
                refine ⟨_, rfl, _, rfl, n, pm, _, _, rfl, ⟨hn1, hn2, (RLm.same s2831).rows, hlm, hrun2⟩, fun H32 s32 => ⟨true, true, rfl, rfl, _, rfl, iteD rfl ?_⟩⟩
                have s2832 := s2831.trans s32
                refine ⟨_, rfl, _, rfl, n, pm, _, _, rfl, ⟨hn1, hn2, (RLm.same s2832).rows, hlm, hrun2⟩, fun H33 pz s33 npz hpz => ?_⟩
                have s2833 := s2832.trans s33
                refine ⟨_, rfl, _, rfl, (by show 1 ≤ sizeLine; decide), fun p34 hp34 => ?_⟩
                have s34 := same_upd (o := HO.lst [V.int m]) hp34
                refine ⟨pf, p34, _, _, rfl, rfl, s34 _ _ (s2833 _ _ hpf28), upd_same, (by rw [List.length_map]; exact Nat.le_of_lt (small1000 (by show _ + 1 ≤ 1000; omega))), fun p35 hp35 => ?_⟩
                have s35 := same_upd (o := HO.lst (f.filled.map V.int ++ [V.int m])) hp35
                refine rd_eqI (l := s1.filled ++ [(gap s1.books : Int)]) (m := f.filled ++ [m]) (SqL.of (s35 _ _ (s34 _ _ hpz))) (SqL.of (by rw [upd_same, List.map_append]; rfl)) ?_
                rw [show decide (s1.filled ++ [(gap s1.books : Int)] = f.filled ++ [m]) = true from decide_eq_true (by rw [ef1, hmg])]
                exact k _ ((G28.same ((s2833.trans s34).trans s35)).mono (by omega)) (F28.trans (Fr.of ((s2833.trans s34).trans s35)))
end
end LP

namespace LP
open PySem L2 LR
section
variable {P : Program} {w : World} {K : PySem.W.Frag} {mg : Str → Option Value} {base : Heap}
theorem ok_law (e : Env K mg) : FnOk P w K mg base CX0 9 e.a_law e.d_law ["script"] (sp_law K) := by
  refine e.f_law.ok sc_law (fun vs H Q E h => ?_) (fun cdv A outer s H vs Q E hr h => ?_)
  · obtain ⟨a, ns, rfl, _⟩ := h; rfl
  · obtain ⟨a, ns, rfl, hS, hl, k⟩ := h
    refine ⟨_, (pss_cons (ps_set (i := 1) sc_law.nd rfl (by first | exact Or.inl rfl | exact Or.inr rfl) (pe_call ((ok__law_bag e).mono (by decide)) hr rfl e.g__law_bag e.f__law_bag.kp e.b__law_bag .nil pass0 (pa_cons (pv 0) pa_nil)))
      (pss_cons (ps_for PassesOwn.never rfl (pi_range1 (by rfl) e.n_range (pa_cons (pe_op op_add pe_int (pe_callB (call_min2 rfl) (by rfl) e.n_min (by decide +kernel) (pa_cons pe_int (pa_cons (pe_callB call_len_seq (by rfl) e.n_len PySem.boot_len (pa_cons (pv 0) pa_nil)) pa_nil)))) pa_nil)) (pg_name (i := 2) sc_law.nd rfl (by first | exact Or.inl rfl | exact Or.inr rfl))
      (pss_cons (ps_set (i := 3) sc_law.nd rfl (by first | exact Or.inl rfl | exact Or.inr rfl) (pe_call ((ok__law_size e).mono (by decide)) hr rfl e.g__law_size e.f__law_size.kp e.b__law_size .nil pass0 (pa_cons (pv 1) pa_nil)))
      (pss_one (ps_if (pt_not (pt_val (pe_call ((ok__law_right e).mono (by decide)) hr rfl e.g__law_right e.f__law_right.kp e.b__law_right .nil pass0 (pa_cons (pv 1) (pa_cons (pv 3) (pa_cons (pe_call ((ok__law_schedule e).mono (by decide)) hr rfl e.g__law_schedule e.f__law_schedule.kp e.b__law_schedule .nil pass0 (pa_cons (pv 1) (pa_cons (pv 3) (pa_cons (pe_ix ix_list (pe_lst (pa_cons pe_int (pa_cons (pe_call ((ok__law_draw e).mono (by decide)) hr rfl e.g__law_draw e.f__law_draw.kp e.b__law_draw .nil pass0 (pa_cons (pv 1) (pa_cons pe_int pa_nil))) pa_nil))) (pe_callB (call_min2 rfl) (by rfl) e.n_min (by decide +kernel) (pa_cons pe_int (pa_cons (pv 2) pa_nil))) (fun _ _ => rfl)) pa_nil)))) pa_nil))))))
        (pss_one (ps_ret pe_bl))
        pss_nil))))
      (pss_one (ps_ret pe_bl)))), ?_⟩
    refine ⟨_, rfl, a, ns, rfl, hS, hl, fun H1 b l s1 nb nl G1 => ?_⟩
    refine ⟨_, rfl, a, _, rfl, .inl (s1.seq hS), _, _, rfl, _, _, rfl, rfl, _, rfl, ?_⟩
    obtain ⟨c, ec, hc⟩ : ∃ c : Nat, (if ((ns.map V.int).length : Int) < 6 then ((ns.map V.int).length : Int) else 6) = (c : Int) ∧ c ≤ 6 := by
      by_cases h : ((ns.map V.int).length : Int) < 6
      · exact ⟨(ns.map V.int).length, if_pos h, by omega⟩
      · exact ⟨6, if_neg h, by omega⟩
    rw [ec]
    refine ⟨by omega, by omega, for_it walk_range (fun i σ H2 => ∃ v2 v3 : Option V, σ = [some (.ref a), some (.ref b), v2, v3] ∧ Bag H2 b l ns (1100 * i))
      ⟨none, none, rfl, G1⟩ (fun _ _ _ _ _ => trivial) ?_ ?_⟩
    · rintro i x σ Hq H2 hi ⟨v2, v3, rfl, G2⟩ ⟨rfl, rfl⟩
      have hi10 : i < 10 := by omega
      refine ⟨_, rfl, b, l, ns, _, rfl, G2, by omega, hl, fun H3 n hn1 hn2 G3 F3 => ?_⟩
      refine ⟨_, rfl, _, rfl, _, rfl, _, rfl, _, rfl, b, l, ns, _, 80, rfl, G3, by decide, by decide +kernel, by omega, hl, fun H4 r a4 b4 G4 F4 => ?_⟩
      refine ⟨(by show 2 ≤ sizeLine; decide), fun p hp => ?_⟩
      have sp := same_upd (o := HO.lst [V.int 400, V.int r]) hp
      refine ⟨_, rfl, _, _, rfl, ?_⟩
      have go : ∀ m : Nat, m ≤ 400 → sp__law_schedule [.ref b, .int n, .int m] (upd H4 p (.lst [V.int 400, V.int r])) (fun y H5 => sp__law_right K [.ref b, .int n, y] H5 (fun x H1 => ∃ c, x = V.bl c ∧ if (!c) = true then Q (.bl false) H1 else (∃ v2 v3 : Option V, [some (.ref a), some (.ref b), some (.int (0 + (i : Int))), some (.int n)] = [some (.ref a), some (.ref b), v2, v3] ∧ Bag H1 b l ns (1100 * (i + 1)))) E0) E0 := by
        intro m hm
        refine ⟨b, l, ns, _, n, m, rfl, G4.same sp, by omega, hl, hn1, hn2, hm, fun H5 q ops e G5 F5 nq RL hlen hrun => ?_⟩
        have hqb : q ≠ b := (G4.same sp).ne_new nq
        refine ⟨b, l, ns, _, n, q, ops, e, rfl, G5, by omega, hl, RL, hqb, ⟨hn1, hn2, RL.rows, by omega, hrun⟩, fun H6 G6 F6 => ⟨_, rfl, iteNB rfl ?_⟩⟩
        exact ⟨_, _, rfl, G6.mono (by omega)⟩
      by_cases h0 : i = 0
      · subst h0
        exact rd_ix (j := 0) (SqL.of upd_same) rfl rfl (go 400 (by omega))
      · have e1 : (if (0 + (i : Int)) < 1 then (0 + (i : Int)) else 1) = 1 := if_neg (by omega)
        obtain ⟨z, rfl⟩ : ∃ z : Nat, r = (z : Int) := ⟨r.toNat, by omega⟩
        exact rd_ix (j := 1) (v := .int z) (SqL.of upd_same) rfl e1 (go z (by omega))
    · rintro σ H2 ⟨v2, v3, rfl, G2⟩
      exact k _
end
end LP

namespace LP
open PySem L2 LR
set_option maxHeartbeats 4000000 in
theorem all_mk {l : PySem.W.OpenLaw} {w : World} {K : PySem.W.Frag} {h : Heap} {mg : Str → Option Value} {fa : Addr} (X : K.In h) (G : h.Ns mainGlobals mg) (hfa : mg "law" = some (.ref fa))
    {t_MOST_SIZE : Tok}
    {t_MOST_OPERATIONS : Tok}
    {C_Shelf : Addr}
    {a_is_whole : Addr} {od_is_whole an_is_whole : Option Addr} {sl_is_whole : Array (Option Value)} {oc_is_whole kV_is_whole dc_is_whole pm_is_whole cd_is_whole ct_is_whole : Value}
    {a_is_listed : Addr} {od_is_listed an_is_listed : Option Addr} {sl_is_listed : Array (Option Value)} {oc_is_listed kV_is_listed dc_is_listed pm_is_listed cd_is_listed ct_is_listed : Value}
    {a_check_size : Addr} {od_check_size an_check_size : Option Addr} {sl_check_size : Array (Option Value)} {oc_check_size kV_check_size dc_check_size pm_check_size cd_check_size ct_check_size : Value}
    {a_Shelf_init : Addr} {od_Shelf_init an_Shelf_init : Option Addr} {sl_Shelf_init : Array (Option Value)} {oc_Shelf_init kV_Shelf_init dc_Shelf_init pm_Shelf_init cd_Shelf_init ct_Shelf_init : Value}
    {a_Shelf_can_take : Addr} {od_Shelf_can_take an_Shelf_can_take : Option Addr} {sl_Shelf_can_take : Array (Option Value)} {oc_Shelf_can_take kV_Shelf_can_take dc_Shelf_can_take pm_Shelf_can_take cd_Shelf_can_take ct_Shelf_can_take : Value}
    {a_Shelf_can_return : Addr} {od_Shelf_can_return an_Shelf_can_return : Option Addr} {sl_Shelf_can_return : Array (Option Value)} {oc_Shelf_can_return kV_Shelf_can_return dc_Shelf_can_return pm_Shelf_can_return cd_Shelf_can_return ct_Shelf_can_return : Value}
    {a_Shelf_take_from : Addr} {od_Shelf_take_from an_Shelf_take_from : Option Addr} {sl_Shelf_take_from : Array (Option Value)} {oc_Shelf_take_from kV_Shelf_take_from dc_Shelf_take_from pm_Shelf_take_from cd_Shelf_take_from ct_Shelf_take_from : Value}
    {a_Shelf_first_gap : Addr} {od_Shelf_first_gap an_Shelf_first_gap : Option Addr} {sl_Shelf_first_gap : Array (Option Value)} {oc_Shelf_first_gap kV_Shelf_first_gap dc_Shelf_first_gap pm_Shelf_first_gap cd_Shelf_first_gap ct_Shelf_first_gap : Value}
    {a_Shelf_put_back : Addr} {od_Shelf_put_back an_Shelf_put_back : Option Addr} {sl_Shelf_put_back : Array (Option Value)} {oc_Shelf_put_back kV_Shelf_put_back dc_Shelf_put_back pm_Shelf_put_back cd_Shelf_put_back ct_Shelf_put_back : Value}
    {a_can_perform : Addr} {od_can_perform an_can_perform : Option Addr} {sl_can_perform : Array (Option Value)} {oc_can_perform kV_can_perform dc_can_perform pm_can_perform cd_can_perform ct_can_perform : Value}
    {a_run_schedule : Addr} {od_run_schedule an_run_schedule : Option Addr} {sl_run_schedule : Array (Option Value)} {oc_run_schedule kV_run_schedule dc_run_schedule pm_run_schedule cd_run_schedule ct_run_schedule : Value}
    {a_is_schedule : Addr} {od_is_schedule an_is_schedule : Option Addr} {sl_is_schedule : Array (Option Value)} {oc_is_schedule kV_is_schedule dc_is_schedule pm_is_schedule cd_is_schedule ct_is_schedule : Value}
    {a_books_after : Addr} {od_books_after an_books_after : Option Addr} {sl_books_after : Array (Option Value)} {oc_books_after kV_books_after dc_books_after pm_books_after cd_books_after ct_books_after : Value}
    {a_books_out : Addr} {od_books_out an_books_out : Option Addr} {sl_books_out : Array (Option Value)} {oc_books_out kV_books_out dc_books_out pm_books_out cd_books_out ct_books_out : Value}
    {a_places_filled : Addr} {od_places_filled an_places_filled : Option Addr} {sl_places_filled : Array (Option Value)} {oc_places_filled kV_places_filled dc_places_filled pm_places_filled cd_places_filled ct_places_filled : Value}
    {a_most_out : Addr} {od_most_out an_most_out : Option Addr} {sl_most_out : Array (Option Value)} {oc_most_out kV_most_out dc_most_out pm_most_out cd_most_out ct_most_out : Value}
    {a__law_bag : Addr} {od__law_bag an__law_bag : Option Addr} {sl__law_bag : Array (Option Value)} {oc__law_bag kV__law_bag dc__law_bag pm__law_bag cd__law_bag ct__law_bag : Value}
    {a__law_stir : Addr} {od__law_stir an__law_stir : Option Addr} {sl__law_stir : Array (Option Value)} {oc__law_stir kV__law_stir dc__law_stir pm__law_stir cd__law_stir ct__law_stir : Value}
    {a__law_draw : Addr} {od__law_draw an__law_draw : Option Addr} {sl__law_draw : Array (Option Value)} {oc__law_draw kV__law_draw dc__law_draw pm__law_draw cd__law_draw ct__law_draw : Value}
    {a__law_size : Addr} {od__law_size an__law_size : Option Addr} {sl__law_size : Array (Option Value)} {oc__law_size kV__law_size dc__law_size pm__law_size cd__law_size ct__law_size : Value}
    {a__law_schedule : Addr} {od__law_schedule an__law_schedule : Option Addr} {sl__law_schedule : Array (Option Value)} {oc__law_schedule kV__law_schedule dc__law_schedule pm__law_schedule cd__law_schedule ct__law_schedule : Value}
    {a__law_step_right : Addr} {od__law_step_right an__law_step_right : Option Addr} {sl__law_step_right : Array (Option Value)} {oc__law_step_right kV__law_step_right dc__law_step_right pm__law_step_right cd__law_step_right ct__law_step_right : Value}
    {a__law_right : Addr} {od__law_right an__law_right : Option Addr} {sl__law_right : Array (Option Value)} {oc__law_right kV__law_right dc__law_right pm__law_right cd__law_right ct__law_right : Value}
    {a_law : Addr} {od_law an_law : Option Addr} {sl_law : Array (Option Value)} {oc_law kV_law dc_law pm_law cd_law ct_law : Value}
    (z_len : PySem.W.nsIn K mainGlobals "len" = some none)
    (z_range : PySem.W.nsIn K mainGlobals "range" = some none)
    (z_list : PySem.W.nsIn K mainGlobals "list" = some none)
    (z_tuple : PySem.W.nsIn K mainGlobals "tuple" = some none)
    (z_int : PySem.W.nsIn K mainGlobals "int" = some none)
    (z_bool : PySem.W.nsIn K mainGlobals "bool" = some none)
    (z_str : PySem.W.nsIn K mainGlobals "str" = some none)
    (z_isinstance : PySem.W.nsIn K mainGlobals "isinstance" = some none)
    (z_max : PySem.W.nsIn K mainGlobals "max" = some none)
    (z_min : PySem.W.nsIn K mainGlobals "min" = some none)
    (z_sorted : PySem.W.nsIn K mainGlobals "sorted" = some none)
    (z_enumerate : PySem.W.nsIn K mainGlobals "enumerate" = some none)
    (z_MOST_SIZE : PySem.W.nsIn K mainGlobals "MOST_SIZE" = some (some (.int 200 t_MOST_SIZE)))
    (z_MOST_OPERATIONS : PySem.W.nsIn K mainGlobals "MOST_OPERATIONS" = some (some (.int 400 t_MOST_OPERATIONS)))
    (z_Shelf : PySem.W.nsIn K mainGlobals "Shelf" = some (some (.ref C_Shelf)))
    (pg_Shelf : PySem.W.plainGet K C_Shelf Str.empty = true)
    (hd_Shelf : PySem.W.hasDictIn K C_Shelf = true)
    (po_Shelf : PySem.W.plainOver K C_Shelf = true)
    (sa_Shelf : PySem.W.findIn K (.ref C_Shelf) "__setattr__" = some (some (.builtin "object.__setattr__")))
    (mk_Shelf : PySem.W.makesIn K C_Shelf = true)
    (kc_Shelf : PySem.W.keepIn K (.ref C_Shelf) = true)
    (nA_Shelf_books : PySem.W.findIn K (.ref C_Shelf) "books" = some none)
    (nA_Shelf_out : PySem.W.findIn K (.ref C_Shelf) "out" = some none)
    (z_is_whole : PySem.W.nsIn K mainGlobals "is_whole" = some (some (.ref a_is_whole)))
    (l_is_whole : K.lookup a_is_whole = some ⟨oc_is_whole, od_is_whole, .func (PySem.W.fnOf "is_whole" "is_whole" (defArgs s_is_whole) (defBody s_is_whole) (defScope s_is_whole) .none kV_is_whole dc_is_whole pm_is_whole an_is_whole cd_is_whole ct_is_whole), sl_is_whole⟩)
    (c_is_whole : PySem.W.codeIn K cd_is_whole "is_whole" = true)
    (k_is_whole : PySem.W.keepIn K (.ref a_is_whole) = true)
    (z_is_listed : PySem.W.nsIn K mainGlobals "is_listed" = some (some (.ref a_is_listed)))
    (l_is_listed : K.lookup a_is_listed = some ⟨oc_is_listed, od_is_listed, .func (PySem.W.fnOf "is_listed" "is_listed" (defArgs s_is_listed) (defBody s_is_listed) (defScope s_is_listed) .none kV_is_listed dc_is_listed pm_is_listed an_is_listed cd_is_listed ct_is_listed), sl_is_listed⟩)
    (c_is_listed : PySem.W.codeIn K cd_is_listed "is_listed" = true)
    (k_is_listed : PySem.W.keepIn K (.ref a_is_listed) = true)
    (z_check_size : PySem.W.nsIn K mainGlobals "check_size" = some (some (.ref a_check_size)))
    (l_check_size : K.lookup a_check_size = some ⟨oc_check_size, od_check_size, .func (PySem.W.fnOf "check_size" "check_size" (defArgs s_check_size) (defBody s_check_size) (defScope s_check_size) .none kV_check_size dc_check_size pm_check_size an_check_size cd_check_size ct_check_size), sl_check_size⟩)
    (c_check_size : PySem.W.codeIn K cd_check_size "check_size" = true)
    (k_check_size : PySem.W.keepIn K (.ref a_check_size) = true)
    (z_Shelf_init : PySem.W.findIn K (.ref C_Shelf) "__init__" = some (some (.ref a_Shelf_init)))
    (i_Shelf_init : PySem.W.isFn K (.ref a_Shelf_init) = true)
    (l_Shelf_init : K.lookup a_Shelf_init = some ⟨oc_Shelf_init, od_Shelf_init, .func (PySem.W.fnOf "__init__" "Shelf.__init__" (defArgs s_Shelf_init) (defBody s_Shelf_init) (defScope s_Shelf_init) .none kV_Shelf_init dc_Shelf_init pm_Shelf_init an_Shelf_init cd_Shelf_init ct_Shelf_init), sl_Shelf_init⟩)
    (c_Shelf_init : PySem.W.codeIn K cd_Shelf_init "Shelf.__init__" = true)
    (k_Shelf_init : PySem.W.keepIn K (.ref a_Shelf_init) = true)
    (z_Shelf_can_take : PySem.W.findIn K (.ref C_Shelf) "can_take" = some (some (.ref a_Shelf_can_take)))
    (i_Shelf_can_take : PySem.W.isFn K (.ref a_Shelf_can_take) = true)
    (l_Shelf_can_take : K.lookup a_Shelf_can_take = some ⟨oc_Shelf_can_take, od_Shelf_can_take, .func (PySem.W.fnOf "can_take" "Shelf.can_take" (defArgs s_Shelf_can_take) (defBody s_Shelf_can_take) (defScope s_Shelf_can_take) .none kV_Shelf_can_take dc_Shelf_can_take pm_Shelf_can_take an_Shelf_can_take cd_Shelf_can_take ct_Shelf_can_take), sl_Shelf_can_take⟩)
    (c_Shelf_can_take : PySem.W.codeIn K cd_Shelf_can_take "Shelf.can_take" = true)
    (k_Shelf_can_take : PySem.W.keepIn K (.ref a_Shelf_can_take) = true)
    (z_Shelf_can_return : PySem.W.findIn K (.ref C_Shelf) "can_return" = some (some (.ref a_Shelf_can_return)))
    (i_Shelf_can_return : PySem.W.isFn K (.ref a_Shelf_can_return) = true)
    (l_Shelf_can_return : K.lookup a_Shelf_can_return = some ⟨oc_Shelf_can_return, od_Shelf_can_return, .func (PySem.W.fnOf "can_return" "Shelf.can_return" (defArgs s_Shelf_can_return) (defBody s_Shelf_can_return) (defScope s_Shelf_can_return) .none kV_Shelf_can_return dc_Shelf_can_return pm_Shelf_can_return an_Shelf_can_return cd_Shelf_can_return ct_Shelf_can_return), sl_Shelf_can_return⟩)
    (c_Shelf_can_return : PySem.W.codeIn K cd_Shelf_can_return "Shelf.can_return" = true)
    (k_Shelf_can_return : PySem.W.keepIn K (.ref a_Shelf_can_return) = true)
    (z_Shelf_take_from : PySem.W.findIn K (.ref C_Shelf) "take_from" = some (some (.ref a_Shelf_take_from)))
    (i_Shelf_take_from : PySem.W.isFn K (.ref a_Shelf_take_from) = true)
    (l_Shelf_take_from : K.lookup a_Shelf_take_from = some ⟨oc_Shelf_take_from, od_Shelf_take_from, .func (PySem.W.fnOf "take_from" "Shelf.take_from" (defArgs s_Shelf_take_from) (defBody s_Shelf_take_from) (defScope s_Shelf_take_from) .none kV_Shelf_take_from dc_Shelf_take_from pm_Shelf_take_from an_Shelf_take_from cd_Shelf_take_from ct_Shelf_take_from), sl_Shelf_take_from⟩)
    (c_Shelf_take_from : PySem.W.codeIn K cd_Shelf_take_from "Shelf.take_from" = true)
    (k_Shelf_take_from : PySem.W.keepIn K (.ref a_Shelf_take_from) = true)
    (z_Shelf_first_gap : PySem.W.findIn K (.ref C_Shelf) "first_gap" = some (some (.ref a_Shelf_first_gap)))
    (i_Shelf_first_gap : PySem.W.isFn K (.ref a_Shelf_first_gap) = true)
    (l_Shelf_first_gap : K.lookup a_Shelf_first_gap = some ⟨oc_Shelf_first_gap, od_Shelf_first_gap, .func (PySem.W.fnOf "first_gap" "Shelf.first_gap" (defArgs s_Shelf_first_gap) (defBody s_Shelf_first_gap) (defScope s_Shelf_first_gap) .none kV_Shelf_first_gap dc_Shelf_first_gap pm_Shelf_first_gap an_Shelf_first_gap cd_Shelf_first_gap ct_Shelf_first_gap), sl_Shelf_first_gap⟩)
    (c_Shelf_first_gap : PySem.W.codeIn K cd_Shelf_first_gap "Shelf.first_gap" = true)
    (k_Shelf_first_gap : PySem.W.keepIn K (.ref a_Shelf_first_gap) = true)
    (z_Shelf_put_back : PySem.W.findIn K (.ref C_Shelf) "put_back" = some (some (.ref a_Shelf_put_back)))
    (i_Shelf_put_back : PySem.W.isFn K (.ref a_Shelf_put_back) = true)
    (l_Shelf_put_back : K.lookup a_Shelf_put_back = some ⟨oc_Shelf_put_back, od_Shelf_put_back, .func (PySem.W.fnOf "put_back" "Shelf.put_back" (defArgs s_Shelf_put_back) (defBody s_Shelf_put_back) (defScope s_Shelf_put_back) .none kV_Shelf_put_back dc_Shelf_put_back pm_Shelf_put_back an_Shelf_put_back cd_Shelf_put_back ct_Shelf_put_back), sl_Shelf_put_back⟩)
    (c_Shelf_put_back : PySem.W.codeIn K cd_Shelf_put_back "Shelf.put_back" = true)
    (k_Shelf_put_back : PySem.W.keepIn K (.ref a_Shelf_put_back) = true)
    (z_can_perform : PySem.W.nsIn K mainGlobals "can_perform" = some (some (.ref a_can_perform)))
    (l_can_perform : K.lookup a_can_perform = some ⟨oc_can_perform, od_can_perform, .func (PySem.W.fnOf "can_perform" "can_perform" (defArgs s_can_perform) (defBody s_can_perform) (defScope s_can_perform) .none kV_can_perform dc_can_perform pm_can_perform an_can_perform cd_can_perform ct_can_perform), sl_can_perform⟩)
    (c_can_perform : PySem.W.codeIn K cd_can_perform "can_perform" = true)
    (k_can_perform : PySem.W.keepIn K (.ref a_can_perform) = true)
    (z_run_schedule : PySem.W.nsIn K mainGlobals "run_schedule" = some (some (.ref a_run_schedule)))
    (l_run_schedule : K.lookup a_run_schedule = some ⟨oc_run_schedule, od_run_schedule, .func (PySem.W.fnOf "run_schedule" "run_schedule" (defArgs s_run_schedule) (defBody s_run_schedule) (defScope s_run_schedule) .none kV_run_schedule dc_run_schedule pm_run_schedule an_run_schedule cd_run_schedule ct_run_schedule), sl_run_schedule⟩)
    (c_run_schedule : PySem.W.codeIn K cd_run_schedule "run_schedule" = true)
    (k_run_schedule : PySem.W.keepIn K (.ref a_run_schedule) = true)
    (z_is_schedule : PySem.W.nsIn K mainGlobals "is_schedule" = some (some (.ref a_is_schedule)))
    (l_is_schedule : K.lookup a_is_schedule = some ⟨oc_is_schedule, od_is_schedule, .func (PySem.W.fnOf "is_schedule" "is_schedule" (defArgs s_is_schedule) (defBody s_is_schedule) (defScope s_is_schedule) .none kV_is_schedule dc_is_schedule pm_is_schedule an_is_schedule cd_is_schedule ct_is_schedule), sl_is_schedule⟩)
    (c_is_schedule : PySem.W.codeIn K cd_is_schedule "is_schedule" = true)
    (k_is_schedule : PySem.W.keepIn K (.ref a_is_schedule) = true)
    (z_books_after : PySem.W.nsIn K mainGlobals "books_after" = some (some (.ref a_books_after)))
    (l_books_after : K.lookup a_books_after = some ⟨oc_books_after, od_books_after, .func (PySem.W.fnOf "books_after" "books_after" (defArgs s_books_after) (defBody s_books_after) (defScope s_books_after) .none kV_books_after dc_books_after pm_books_after an_books_after cd_books_after ct_books_after), sl_books_after⟩)
    (c_books_after : PySem.W.codeIn K cd_books_after "books_after" = true)
    (k_books_after : PySem.W.keepIn K (.ref a_books_after) = true)
    (z_books_out : PySem.W.nsIn K mainGlobals "books_out" = some (some (.ref a_books_out)))
    (l_books_out : K.lookup a_books_out = some ⟨oc_books_out, od_books_out, .func (PySem.W.fnOf "books_out" "books_out" (defArgs s_books_out) (defBody s_books_out) (defScope s_books_out) .none kV_books_out dc_books_out pm_books_out an_books_out cd_books_out ct_books_out), sl_books_out⟩)
    (c_books_out : PySem.W.codeIn K cd_books_out "books_out" = true)
    (k_books_out : PySem.W.keepIn K (.ref a_books_out) = true)
    (z_places_filled : PySem.W.nsIn K mainGlobals "places_filled" = some (some (.ref a_places_filled)))
    (l_places_filled : K.lookup a_places_filled = some ⟨oc_places_filled, od_places_filled, .func (PySem.W.fnOf "places_filled" "places_filled" (defArgs s_places_filled) (defBody s_places_filled) (defScope s_places_filled) .none kV_places_filled dc_places_filled pm_places_filled an_places_filled cd_places_filled ct_places_filled), sl_places_filled⟩)
    (c_places_filled : PySem.W.codeIn K cd_places_filled "places_filled" = true)
    (k_places_filled : PySem.W.keepIn K (.ref a_places_filled) = true)
    (z_most_out : PySem.W.nsIn K mainGlobals "most_out" = some (some (.ref a_most_out)))
    (l_most_out : K.lookup a_most_out = some ⟨oc_most_out, od_most_out, .func (PySem.W.fnOf "most_out" "most_out" (defArgs s_most_out) (defBody s_most_out) (defScope s_most_out) .none kV_most_out dc_most_out pm_most_out an_most_out cd_most_out ct_most_out), sl_most_out⟩)
    (c_most_out : PySem.W.codeIn K cd_most_out "most_out" = true)
    (k_most_out : PySem.W.keepIn K (.ref a_most_out) = true)
    (z__law_bag : PySem.W.nsIn K mainGlobals "_law_bag" = some (some (.ref a__law_bag)))
    (l__law_bag : K.lookup a__law_bag = some ⟨oc__law_bag, od__law_bag, .func (PySem.W.fnOf "_law_bag" "_law_bag" (defArgs s__law_bag) (defBody s__law_bag) (defScope s__law_bag) .none kV__law_bag dc__law_bag pm__law_bag an__law_bag cd__law_bag ct__law_bag), sl__law_bag⟩)
    (c__law_bag : PySem.W.codeIn K cd__law_bag "_law_bag" = true)
    (k__law_bag : PySem.W.keepIn K (.ref a__law_bag) = true)
    (z__law_stir : PySem.W.nsIn K mainGlobals "_law_stir" = some (some (.ref a__law_stir)))
    (l__law_stir : K.lookup a__law_stir = some ⟨oc__law_stir, od__law_stir, .func (PySem.W.fnOf "_law_stir" "_law_stir" (defArgs s__law_stir) (defBody s__law_stir) (defScope s__law_stir) .none kV__law_stir dc__law_stir pm__law_stir an__law_stir cd__law_stir ct__law_stir), sl__law_stir⟩)
    (c__law_stir : PySem.W.codeIn K cd__law_stir "_law_stir" = true)
    (k__law_stir : PySem.W.keepIn K (.ref a__law_stir) = true)
    (z__law_draw : PySem.W.nsIn K mainGlobals "_law_draw" = some (some (.ref a__law_draw)))
    (l__law_draw : K.lookup a__law_draw = some ⟨oc__law_draw, od__law_draw, .func (PySem.W.fnOf "_law_draw" "_law_draw" (defArgs s__law_draw) (defBody s__law_draw) (defScope s__law_draw) .none kV__law_draw dc__law_draw pm__law_draw an__law_draw cd__law_draw ct__law_draw), sl__law_draw⟩)
    (c__law_draw : PySem.W.codeIn K cd__law_draw "_law_draw" = true)
    (k__law_draw : PySem.W.keepIn K (.ref a__law_draw) = true)
    (z__law_size : PySem.W.nsIn K mainGlobals "_law_size" = some (some (.ref a__law_size)))
    (l__law_size : K.lookup a__law_size = some ⟨oc__law_size, od__law_size, .func (PySem.W.fnOf "_law_size" "_law_size" (defArgs s__law_size) (defBody s__law_size) (defScope s__law_size) .none kV__law_size dc__law_size pm__law_size an__law_size cd__law_size ct__law_size), sl__law_size⟩)
    (c__law_size : PySem.W.codeIn K cd__law_size "_law_size" = true)
    (k__law_size : PySem.W.keepIn K (.ref a__law_size) = true)
    (z__law_schedule : PySem.W.nsIn K mainGlobals "_law_schedule" = some (some (.ref a__law_schedule)))
    (l__law_schedule : K.lookup a__law_schedule = some ⟨oc__law_schedule, od__law_schedule, .func (PySem.W.fnOf "_law_schedule" "_law_schedule" (defArgs s__law_schedule) (defBody s__law_schedule) (defScope s__law_schedule) .none kV__law_schedule dc__law_schedule pm__law_schedule an__law_schedule cd__law_schedule ct__law_schedule), sl__law_schedule⟩)
    (c__law_schedule : PySem.W.codeIn K cd__law_schedule "_law_schedule" = true)
    (k__law_schedule : PySem.W.keepIn K (.ref a__law_schedule) = true)
    (z__law_step_right : PySem.W.nsIn K mainGlobals "_law_step_right" = some (some (.ref a__law_step_right)))
    (l__law_step_right : K.lookup a__law_step_right = some ⟨oc__law_step_right, od__law_step_right, .func (PySem.W.fnOf "_law_step_right" "_law_step_right" (defArgs s__law_step_right) (defBody s__law_step_right) (defScope s__law_step_right) .none kV__law_step_right dc__law_step_right pm__law_step_right an__law_step_right cd__law_step_right ct__law_step_right), sl__law_step_right⟩)
    (c__law_step_right : PySem.W.codeIn K cd__law_step_right "_law_step_right" = true)
    (k__law_step_right : PySem.W.keepIn K (.ref a__law_step_right) = true)
    (z__law_right : PySem.W.nsIn K mainGlobals "_law_right" = some (some (.ref a__law_right)))
    (l__law_right : K.lookup a__law_right = some ⟨oc__law_right, od__law_right, .func (PySem.W.fnOf "_law_right" "_law_right" (defArgs s__law_right) (defBody s__law_right) (defScope s__law_right) .none kV__law_right dc__law_right pm__law_right an__law_right cd__law_right ct__law_right), sl__law_right⟩)
    (c__law_right : PySem.W.codeIn K cd__law_right "_law_right" = true)
    (k__law_right : PySem.W.keepIn K (.ref a__law_right) = true)
    (z_law : PySem.W.nsIn K mainGlobals "law" = some (some (.ref a_law)))
    (l_law : K.lookup a_law = some ⟨oc_law, od_law, .func (PySem.W.fnOf "law" "law" (defArgs s_law) (defBody s_law) (defScope s_law) .none kV_law dc_law pm_law an_law cd_law ct_law), sl_law⟩)
    (c_law : PySem.W.codeIn K cd_law "law" = true)
    (k_law : PySem.W.keepIn K (.ref a_law) = true) :
    ∃ fd : FuncData, (∀ (s : Shared) (v : Value), BindsTo s fd ⟨[v], []⟩ [("script", v)]) ∧ ∀ base : Heap, K.In base → base.Ns mainGlobals mg → FnOk l.prog w K mg base CX0 9 fa fd ["script"] (sp_law K) := by
  have e0 := hfa.symm.trans (PySem.W.mg_of X G z_law)
  cases e0
  have F_is_whole := fun_mk (st := s_is_whole) l_is_whole c_is_whole k_is_whole
  have B_is_whole := F_is_whole.binds (ps := ["value"]) fun _ _ _ _ _ _ us hl => match us, hl with | [_], _ => rfl
  have F_is_listed := fun_mk (st := s_is_listed) l_is_listed c_is_listed k_is_listed
  have B_is_listed := F_is_listed.binds (ps := ["value"]) fun _ _ _ _ _ _ us hl => match us, hl with | [_], _ => rfl
  have F_check_size := fun_mk (st := s_check_size) l_check_size c_check_size k_check_size
  have B_check_size := F_check_size.binds (ps := ["size"]) fun _ _ _ _ _ _ us hl => match us, hl with | [_], _ => rfl
  have F_Shelf_init := fun_mk (st := s_Shelf_init) l_Shelf_init c_Shelf_init k_Shelf_init
  have B_Shelf_init := F_Shelf_init.binds (ps := ["self", "size"]) fun _ _ _ _ _ _ us hl => match us, hl with | [_, _], _ => rfl
  have F_Shelf_can_take := fun_mk (st := s_Shelf_can_take) l_Shelf_can_take c_Shelf_can_take k_Shelf_can_take
  have B_Shelf_can_take := F_Shelf_can_take.binds (ps := ["self", "place"]) fun _ _ _ _ _ _ us hl => match us, hl with | [_, _], _ => rfl
  have F_Shelf_can_return := fun_mk (st := s_Shelf_can_return) l_Shelf_can_return c_Shelf_can_return k_Shelf_can_return
  have B_Shelf_can_return := F_Shelf_can_return.binds (ps := ["self", "book"]) fun _ _ _ _ _ _ us hl => match us, hl with | [_, _], _ => rfl
  have F_Shelf_take_from := fun_mk (st := s_Shelf_take_from) l_Shelf_take_from c_Shelf_take_from k_Shelf_take_from
  have B_Shelf_take_from := F_Shelf_take_from.binds (ps := ["self", "place"]) fun _ _ _ _ _ _ us hl => match us, hl with | [_, _], _ => rfl
  have F_Shelf_first_gap := fun_mk (st := s_Shelf_first_gap) l_Shelf_first_gap c_Shelf_first_gap k_Shelf_first_gap
  have B_Shelf_first_gap := F_Shelf_first_gap.binds (ps := ["self"]) fun _ _ _ _ _ _ us hl => match us, hl with | [_], _ => rfl
  have F_Shelf_put_back := fun_mk (st := s_Shelf_put_back) l_Shelf_put_back c_Shelf_put_back k_Shelf_put_back
  have B_Shelf_put_back := F_Shelf_put_back.binds (ps := ["self", "book"]) fun _ _ _ _ _ _ us hl => match us, hl with | [_, _], _ => rfl
  have F_can_perform := fun_mk (st := s_can_perform) l_can_perform c_can_perform k_can_perform
  have B_can_perform := F_can_perform.binds (ps := ["shelf", "value"]) fun _ _ _ _ _ _ us hl => match us, hl with | [_, _], _ => rfl
  have F_run_schedule := fun_mk (st := s_run_schedule) l_run_schedule c_run_schedule k_run_schedule
  have B_run_schedule := F_run_schedule.binds (ps := ["size", "schedule"]) fun _ _ _ _ _ _ us hl => match us, hl with | [_, _], _ => rfl
  have F_is_schedule := fun_mk (st := s_is_schedule) l_is_schedule c_is_schedule k_is_schedule
  have B_is_schedule := F_is_schedule.binds (ps := ["size", "value"]) fun _ _ _ _ _ _ us hl => match us, hl with | [_, _], _ => rfl
  have F_books_after := fun_mk (st := s_books_after) l_books_after c_books_after k_books_after
  have B_books_after := F_books_after.binds (ps := ["size", "schedule"]) fun _ _ _ _ _ _ us hl => match us, hl with | [_, _], _ => rfl
  have F_books_out := fun_mk (st := s_books_out) l_books_out c_books_out k_books_out
  have B_books_out := F_books_out.binds (ps := ["size", "schedule"]) fun _ _ _ _ _ _ us hl => match us, hl with | [_, _], _ => rfl
  have F_places_filled := fun_mk (st := s_places_filled) l_places_filled c_places_filled k_places_filled
  have B_places_filled := F_places_filled.binds (ps := ["size", "schedule"]) fun _ _ _ _ _ _ us hl => match us, hl with | [_, _], _ => rfl
  have F_most_out := fun_mk (st := s_most_out) l_most_out c_most_out k_most_out
  have B_most_out := F_most_out.binds (ps := ["size", "schedule"]) fun _ _ _ _ _ _ us hl => match us, hl with | [_, _], _ => rfl
  have F__law_bag := fun_mk (st := s__law_bag) l__law_bag c__law_bag k__law_bag
  have B__law_bag := F__law_bag.binds (ps := ["script"]) fun _ _ _ _ _ _ us hl => match us, hl with | [_], _ => rfl
  have F__law_stir := fun_mk (st := s__law_stir) l__law_stir c__law_stir k__law_stir
  have B__law_stir := F__law_stir.binds (ps := ["number", "place"]) fun _ _ _ _ _ _ us hl => match us, hl with | [_, _], _ => rfl
  have F__law_draw := fun_mk (st := s__law_draw) l__law_draw c__law_draw k__law_draw
  have B__law_draw := F__law_draw.binds (ps := ["bag", "bound"]) fun _ _ _ _ _ _ us hl => match us, hl with | [_, _], _ => rfl
  have F__law_size := fun_mk (st := s__law_size) l__law_size c__law_size k__law_size
  have B__law_size := F__law_size.binds (ps := ["bag"]) fun _ _ _ _ _ _ us hl => match us, hl with | [_], _ => rfl
  have F__law_schedule := fun_mk (st := s__law_schedule) l__law_schedule c__law_schedule k__law_schedule
  have B__law_schedule := F__law_schedule.binds (ps := ["bag", "size", "most"]) fun _ _ _ _ _ _ us hl => match us, hl with | [_, _, _], _ => rfl
  have F__law_step_right := fun_mk (st := s__law_step_right) l__law_step_right c__law_step_right k__law_step_right
  have B__law_step_right := F__law_step_right.binds (ps := ["size", "rows", "at"]) fun _ _ _ _ _ _ us hl => match us, hl with | [_, _, _], _ => rfl
  have F__law_right := fun_mk (st := s__law_right) l__law_right c__law_right k__law_right
  have B__law_right := F__law_right.binds (ps := ["bag", "size", "rows"]) fun _ _ _ _ _ _ us hl => match us, hl with | [_, _, _], _ => rfl
  have F_law := fun_mk (st := s_law) l_law c_law k_law
  have B_law := F_law.binds (ps := ["script"]) fun _ _ _ _ _ _ us hl => match us, hl with | [_], _ => rfl
  refine ⟨PySem.W.fnOf "law" "law" (defArgs s_law) (defBody s_law) (defScope s_law) .none kV_law dc_law pm_law an_law cd_law ct_law, fun s v => .of_eq rfl, fun base _ _ => ?_⟩
  exact ok_law (({
    n_len := PySem.W.mg_none_of X G z_len,
    n_range := PySem.W.mg_none_of X G z_range,
    n_list := PySem.W.mg_none_of X G z_list,
    n_tuple := PySem.W.mg_none_of X G z_tuple,
    n_int := PySem.W.mg_none_of X G z_int,
    n_bool := PySem.W.mg_none_of X G z_bool,
    n_str := PySem.W.mg_none_of X G z_str,
    n_isinstance := PySem.W.mg_none_of X G z_isinstance,
    n_max := PySem.W.mg_none_of X G z_max,
    n_min := PySem.W.mg_none_of X G z_min,
    n_sorted := PySem.W.mg_none_of X G z_sorted,
    n_enumerate := PySem.W.mg_none_of X G z_enumerate,
    t_MOST_SIZE := t_MOST_SIZE, g_MOST_SIZE := PySem.W.mg_of X G z_MOST_SIZE,
    t_MOST_OPERATIONS := t_MOST_OPERATIONS, g_MOST_OPERATIONS := PySem.W.mg_of X G z_MOST_OPERATIONS,
    nA_Shelf_books := nA_Shelf_books,
    nA_Shelf_out := nA_Shelf_out,
    C_Shelf := C_Shelf, g_Shelf := PySem.W.mg_of X G z_Shelf, cl_Shelf := ⟨pg_Shelf, hd_Shelf, po_Shelf, sa_Shelf⟩,
    a_is_whole := a_is_whole, d_is_whole := _, f_is_whole := F_is_whole, b_is_whole := B_is_whole, g_is_whole := PySem.W.mg_of X G z_is_whole,
    a_is_listed := a_is_listed, d_is_listed := _, f_is_listed := F_is_listed, b_is_listed := B_is_listed, g_is_listed := PySem.W.mg_of X G z_is_listed,
    a_check_size := a_check_size, d_check_size := _, f_check_size := F_check_size, b_check_size := B_check_size, g_check_size := PySem.W.mg_of X G z_check_size,
    a_Shelf_init := a_Shelf_init, d_Shelf_init := _, f_Shelf_init := F_Shelf_init, b_Shelf_init := B_Shelf_init, mk_Shelf := ⟨mk_Shelf, z_Shelf_init, i_Shelf_init, kc_Shelf⟩,
    a_Shelf_can_take := a_Shelf_can_take, d_Shelf_can_take := _, f_Shelf_can_take := F_Shelf_can_take, b_Shelf_can_take := B_Shelf_can_take, m_Shelf_can_take := ⟨z_Shelf_can_take, i_Shelf_can_take, k_Shelf_can_take⟩,
    a_Shelf_can_return := a_Shelf_can_return, d_Shelf_can_return := _, f_Shelf_can_return := F_Shelf_can_return, b_Shelf_can_return := B_Shelf_can_return, m_Shelf_can_return := ⟨z_Shelf_can_return, i_Shelf_can_return, k_Shelf_can_return⟩,
    a_Shelf_take_from := a_Shelf_take_from, d_Shelf_take_from := _, f_Shelf_take_from := F_Shelf_take_from, b_Shelf_take_from := B_Shelf_take_from, m_Shelf_take_from := ⟨z_Shelf_take_from, i_Shelf_take_from, k_Shelf_take_from⟩,
    a_Shelf_first_gap := a_Shelf_first_gap, d_Shelf_first_gap := _, f_Shelf_first_gap := F_Shelf_first_gap, b_Shelf_first_gap := B_Shelf_first_gap, m_Shelf_first_gap := ⟨z_Shelf_first_gap, i_Shelf_first_gap, k_Shelf_first_gap⟩,
    a_Shelf_put_back := a_Shelf_put_back, d_Shelf_put_back := _, f_Shelf_put_back := F_Shelf_put_back, b_Shelf_put_back := B_Shelf_put_back, m_Shelf_put_back := ⟨z_Shelf_put_back, i_Shelf_put_back, k_Shelf_put_back⟩,
    a_can_perform := a_can_perform, d_can_perform := _, f_can_perform := F_can_perform, b_can_perform := B_can_perform, g_can_perform := PySem.W.mg_of X G z_can_perform,
    a_run_schedule := a_run_schedule, d_run_schedule := _, f_run_schedule := F_run_schedule, b_run_schedule := B_run_schedule, g_run_schedule := PySem.W.mg_of X G z_run_schedule,
    a_is_schedule := a_is_schedule, d_is_schedule := _, f_is_schedule := F_is_schedule, b_is_schedule := B_is_schedule, g_is_schedule := PySem.W.mg_of X G z_is_schedule,
    a_books_after := a_books_after, d_books_after := _, f_books_after := F_books_after, b_books_after := B_books_after, g_books_after := PySem.W.mg_of X G z_books_after,
    a_books_out := a_books_out, d_books_out := _, f_books_out := F_books_out, b_books_out := B_books_out, g_books_out := PySem.W.mg_of X G z_books_out,
    a_places_filled := a_places_filled, d_places_filled := _, f_places_filled := F_places_filled, b_places_filled := B_places_filled, g_places_filled := PySem.W.mg_of X G z_places_filled,
    a_most_out := a_most_out, d_most_out := _, f_most_out := F_most_out, b_most_out := B_most_out, g_most_out := PySem.W.mg_of X G z_most_out,
    a__law_bag := a__law_bag, d__law_bag := _, f__law_bag := F__law_bag, b__law_bag := B__law_bag, g__law_bag := PySem.W.mg_of X G z__law_bag,
    a__law_stir := a__law_stir, d__law_stir := _, f__law_stir := F__law_stir, b__law_stir := B__law_stir, g__law_stir := PySem.W.mg_of X G z__law_stir,
    a__law_draw := a__law_draw, d__law_draw := _, f__law_draw := F__law_draw, b__law_draw := B__law_draw, g__law_draw := PySem.W.mg_of X G z__law_draw,
    a__law_size := a__law_size, d__law_size := _, f__law_size := F__law_size, b__law_size := B__law_size, g__law_size := PySem.W.mg_of X G z__law_size,
    a__law_schedule := a__law_schedule, d__law_schedule := _, f__law_schedule := F__law_schedule, b__law_schedule := B__law_schedule, g__law_schedule := PySem.W.mg_of X G z__law_schedule,
    a__law_step_right := a__law_step_right, d__law_step_right := _, f__law_step_right := F__law_step_right, b__law_step_right := B__law_step_right, g__law_step_right := PySem.W.mg_of X G z__law_step_right,
    a__law_right := a__law_right, d__law_right := _, f__law_right := F__law_right, b__law_right := B__law_right, g__law_right := PySem.W.mg_of X G z__law_right,
    a_law := fa, d_law := _, f_law := F_law, b_law := B_law, g_law := PySem.W.mg_of X G z_law } : Env K mg))
theorem walk {l : PySem.W.OpenLaw} {q : Program} {loose : List Str} {XP : (Str → Option Value) → Heap → Prop} {YP : World → Heap → Prop} {d : DefRec} {K : Params → PySem.W.Frag} (hn : l.most = some 63) (hdf : d.params.defaults = [])
    (hY : ∀ (w : World) (h : Heap), YP w h → (K w.params).In h)
    (F : ∀ (w : World) (mg : Str → Option Value) (fa : Addr) (h : Heap), (K w.params).In h → h.Ns mainGlobals mg → mg d.name = some (.ref fa) →
      ∃ fd : FuncData, (∀ (s : Shared) (u : Value), BindsTo s fd ⟨[u], []⟩ [("script", u)]) ∧ ∀ base : Heap, (K w.params).In base → base.Ns mainGlobals mg → FnOk l.prog w (K w.params) mg base CX0 9 fa fd ["script"] (sp_law (K w.params))) :
    PySem.W.WalkO q loose XP YP l.row.toRowW d [] (fun f vs => PySem.call f vs) :=
  L2.walk_of (n := 63) (k := 9) (x := "script") (CX := fun _ => CX0) (sp := fun w => sp_law (K w.params)) hn (by decide) hdf ⟨rfl, by decide, by decide⟩ hY F (fun _ _ a ns hl _ hS => ⟨a, ns, rfl, hS, hl, fun _ => rfl⟩) fun _ _ _ _ _ z => z
end LP
open PySem PySem.W PyProof.Rows
set_option maxRecDepth 100000 in
set_option maxHeartbeats 0 in
theorem PySem.Challenge.cw_leftreturn_k04_whole_schedules_continued_holds : PySem.Challenge.rw_leftreturn_k04_whole_schedules_continued.Holds := by
  w_on; o_law; k_head; (case hw => w_witness2)
  k_fill
  refine LP.walk (l := PySem.Challenge.rw_leftreturn_k04_whole_schedules_continued) rfl rfl (fun w h Y => PySem.W.kIn_of Y) ?F
  case F =>
    intro w mg fa h KX G hmg
    refine' LP.all_mk KX G hmg ?z_len ?z_range ?z_list ?z_tuple ?z_int ?z_bool ?z_str ?z_isinstance ?z_max ?z_min ?z_sorted ?z_enumerate ?z_MOST_SIZE ?z_MOST_OPERATIONS ?z_Shelf ?pg_Shelf ?hd_Shelf ?po_Shelf ?sa_Shelf ?mk_Shelf ?kc_Shelf ?nA_Shelf_books ?nA_Shelf_out ?z_is_whole ?l_is_whole ?c_is_whole ?k_is_whole ?z_is_listed ?l_is_listed ?c_is_listed ?k_is_listed ?z_check_size ?l_check_size ?c_check_size ?k_check_size ?z_Shelf_init ?i_Shelf_init ?l_Shelf_init ?c_Shelf_init ?k_Shelf_init ?z_Shelf_can_take ?i_Shelf_can_take ?l_Shelf_can_take ?c_Shelf_can_take ?k_Shelf_can_take ?z_Shelf_can_return ?i_Shelf_can_return ?l_Shelf_can_return ?c_Shelf_can_return ?k_Shelf_can_return ?z_Shelf_take_from ?i_Shelf_take_from ?l_Shelf_take_from ?c_Shelf_take_from ?k_Shelf_take_from ?z_Shelf_first_gap ?i_Shelf_first_gap ?l_Shelf_first_gap ?c_Shelf_first_gap ?k_Shelf_first_gap ?z_Shelf_put_back ?i_Shelf_put_back ?l_Shelf_put_back ?c_Shelf_put_back ?k_Shelf_put_back ?z_can_perform ?l_can_perform ?c_can_perform ?k_can_perform ?z_run_schedule ?l_run_schedule ?c_run_schedule ?k_run_schedule ?z_is_schedule ?l_is_schedule ?c_is_schedule ?k_is_schedule ?z_books_after ?l_books_after ?c_books_after ?k_books_after ?z_books_out ?l_books_out ?c_books_out ?k_books_out ?z_places_filled ?l_places_filled ?c_places_filled ?k_places_filled ?z_most_out ?l_most_out ?c_most_out ?k_most_out ?z__law_bag ?l__law_bag ?c__law_bag ?k__law_bag ?z__law_stir ?l__law_stir ?c__law_stir ?k__law_stir ?z__law_draw ?l__law_draw ?c__law_draw ?k__law_draw ?z__law_size ?l__law_size ?c__law_size ?k__law_size ?z__law_schedule ?l__law_schedule ?c__law_schedule ?k__law_schedule ?z__law_step_right ?l__law_step_right ?c__law_step_right ?k__law_step_right ?z__law_right ?l__law_right ?c__law_right ?k__law_right ?z_law ?l_law ?c_law ?k_law
    (case z_len => k_is)
    (case z_range => k_is)
    (case z_list => k_is)
    (case z_tuple => k_is)
    (case z_int => k_is)
    (case z_bool => k_is)
    (case z_str => k_is)
    (case z_isinstance => k_is)
    (case z_max => k_is)
    (case z_min => k_is)
    (case z_sorted => k_is)
    (case z_enumerate => k_is)
    (case z_MOST_SIZE => k_is)
    (case z_MOST_OPERATIONS => k_is)
    (case z_Shelf => k_is)
    (case pg_Shelf => k_is)
    (case hd_Shelf => k_is)
    (case po_Shelf => k_is)
    (case sa_Shelf => k_is)
    (case mk_Shelf => k_is)
    (case kc_Shelf => k_is)
    (case nA_Shelf_books => k_is)
    (case nA_Shelf_out => k_is)
    (case z_is_whole => k_is)
    (case l_is_whole => k_is)
    (case c_is_whole => k_is)
    (case k_is_whole => k_is)
    (case z_is_listed => k_is)
    (case l_is_listed => k_is)
    (case c_is_listed => k_is)
    (case k_is_listed => k_is)
    (case z_check_size => k_is)
    (case l_check_size => k_is)
    (case c_check_size => k_is)
    (case k_check_size => k_is)
    (case z_Shelf_init => k_is)
    (case i_Shelf_init => k_is)
    (case l_Shelf_init => k_is)
    (case c_Shelf_init => k_is)
    (case k_Shelf_init => k_is)
    (case z_Shelf_can_take => k_is)
    (case i_Shelf_can_take => k_is)
    (case l_Shelf_can_take => k_is)
    (case c_Shelf_can_take => k_is)
    (case k_Shelf_can_take => k_is)
    (case z_Shelf_can_return => k_is)
    (case i_Shelf_can_return => k_is)
    (case l_Shelf_can_return => k_is)
    (case c_Shelf_can_return => k_is)
    (case k_Shelf_can_return => k_is)
    (case z_Shelf_take_from => k_is)
    (case i_Shelf_take_from => k_is)
    (case l_Shelf_take_from => k_is)
    (case c_Shelf_take_from => k_is)
    (case k_Shelf_take_from => k_is)
    (case z_Shelf_first_gap => k_is)
    (case i_Shelf_first_gap => k_is)
    (case l_Shelf_first_gap => k_is)
    (case c_Shelf_first_gap => k_is)
    (case k_Shelf_first_gap => k_is)
    (case z_Shelf_put_back => k_is)
    (case i_Shelf_put_back => k_is)
    (case l_Shelf_put_back => k_is)
    (case c_Shelf_put_back => k_is)
    (case k_Shelf_put_back => k_is)
    (case z_can_perform => k_is)
    (case l_can_perform => k_is)
    (case c_can_perform => k_is)
    (case k_can_perform => k_is)
    (case z_run_schedule => k_is)
    (case l_run_schedule => k_is)
    (case c_run_schedule => k_is)
    (case k_run_schedule => k_is)
    (case z_is_schedule => k_is)
    (case l_is_schedule => k_is)
    (case c_is_schedule => k_is)
    (case k_is_schedule => k_is)
    (case z_books_after => k_is)
    (case l_books_after => k_is)
    (case c_books_after => k_is)
    (case k_books_after => k_is)
    (case z_books_out => k_is)
    (case l_books_out => k_is)
    (case c_books_out => k_is)
    (case k_books_out => k_is)
    (case z_places_filled => k_is)
    (case l_places_filled => k_is)
    (case c_places_filled => k_is)
    (case k_places_filled => k_is)
    (case z_most_out => k_is)
    (case l_most_out => k_is)
    (case c_most_out => k_is)
    (case k_most_out => k_is)
    (case z__law_bag => k_is)
    (case l__law_bag => k_is)
    (case c__law_bag => k_is)
    (case k__law_bag => k_is)
    (case z__law_stir => k_is)
    (case l__law_stir => k_is)
    (case c__law_stir => k_is)
    (case k__law_stir => k_is)
    (case z__law_draw => k_is)
    (case l__law_draw => k_is)
    (case c__law_draw => k_is)
    (case k__law_draw => k_is)
    (case z__law_size => k_is)
    (case l__law_size => k_is)
    (case c__law_size => k_is)
    (case k__law_size => k_is)
    (case z__law_schedule => k_is)
    (case l__law_schedule => k_is)
    (case c__law_schedule => k_is)
    (case k__law_schedule => k_is)
    (case z__law_step_right => k_is)
    (case l__law_step_right => k_is)
    (case c__law_step_right => k_is)
    (case k__law_step_right => k_is)
    (case z__law_right => k_is)
    (case l__law_right => k_is)
    (case c__law_right => k_is)
    (case k__law_right => k_is)
    (case z_law => k_is)
    (case l_law => k_is)
    (case c_law => k_is)
    (case k_law => k_is)
