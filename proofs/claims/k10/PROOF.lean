import PyProof.Rows.All
import Wide.All
import OpenK.AllK
import Wide.FinOn
import HandS.ForMost
import PyProof.ReprRoads
import PyProof.ReprLen
import HandS.Walk
import KE.GoesMore
import KE.GoesZip
import HandS.SortInts
import HandS.SetFor
import HandS.Zip
import HandS.DictComp
import PyProof.TupleOfSeq
import HandS.RaiseMore
import HandS.Text
import HandS.IsInst
import HandS.Conv
import HandS.Style
import HandS.Wide
import HandS.ForExc
import HandS.Gcd
import HandS.More
import HandS.RepeatKit
import HandS.Records
import KE.DataMinMax
import KE.KDictZip
import HandS.SortKw
import PyProof.StrOps2
import HandS.Comp
import HandS.Dict
import PySem.Challenge.RW_leftreturn_k10_times_of_many_places
set_option Elab.async false
set_option linter.all false
set_option maxRecDepth 100000
set_option maxHeartbeats 4000000
/-! patterns, times, orders: the mathematics -/
namespace LQ
abbrev Pat := List Bool
def tks (l : Pat) : Nat := l.count true
def fls (l : Pat) : Nat := l.count false
theorem tks_nil : tks [] = 0 := rfl
theorem fls_nil : fls [] = 0 := rfl
theorem tks_app (l m : Pat) : tks (l ++ m) = tks l + tks m := List.count_append
theorem fls_app (l m : Pat) : fls (l ++ m) = fls l + fls m := List.count_append
theorem tks_t (l : Pat) : tks (l ++ [true]) = tks l + 1 := tks_app l [true]
theorem tks_f (l : Pat) : tks (l ++ [false]) = tks l := tks_app l [false]
theorem fls_t (l : Pat) : fls (l ++ [true]) = fls l := fls_app l [true]
theorem fls_f (l : Pat) : fls (l ++ [false]) = fls l + 1 := fls_app l [false]
theorem len_pat : ∀ l : Pat, l.length = tks l + fls l
  | [] => rfl
  | true :: r => by have := len_pat r; simp [tks, fls] at *; omega
  | false :: r => by have := len_pat r; simp [tks, fls] at *; omega
theorem take_snoc {α : Type} {l : List α} {i : Nat} {b : α} (h : l[i]? = some b) : l.take (i + 1) = l.take i ++ [b] := by
  rw [List.take_add_one, h]; rfl
def Pre (l : Pat) : Prop := ∀ i, fls (l.take i) ≤ tks (l.take i)
theorem Pre.nil : Pre [] := fun i => by simp [tks, fls]
theorem Pre.snoc {l : Pat} {b : Bool} (h : Pre l) (hb : fls (l ++ [b]) ≤ tks (l ++ [b])) : Pre (l ++ [b]) := fun i => by
  by_cases c : i ≤ l.length
  · rw [List.take_append_of_le_length c]; exact h i
  · rw [List.take_of_length_le (by simp; omega)]; exact hb
theorem Pre.all {l : Pat} (h : Pre l) : fls l ≤ tks l := by
  have := h l.length
  rwa [List.take_length] at this
theorem tks_take (l : Pat) (i : Nat) : tks (l.take i) ≤ tks l := (List.take_sublist i l).count_le _
theorem fls_take (l : Pat) (i : Nat) : fls (l.take i) ≤ fls l := (List.take_sublist i l).count_le _
def Good (l : Pat) : Prop := Pre l ∧ fls l = tks l
def tm : Nat → Pat → List Nat
  | _, [] => []
  | t, true :: r => tm (t + 1) r
  | t, false :: r => t :: tm t r
theorem tm_app : ∀ (l m : Pat) (t : Nat), tm t (l ++ m) = tm t l ++ tm (t + tks l) m
  | [], m, t => by simp [tm, tks]
  | true :: r, m, t => by
    have := tm_app r m (t + 1)
    simp only [List.cons_append, tm, this]
    congr 2
    simp [tks]; omega
  | false :: r, m, t => by
    have := tm_app r m t
    simp only [List.cons_append, tm, this]
    congr 2
theorem tm_len : ∀ (l : Pat) (t : Nat), (tm t l).length = fls l
  | [], _ => rfl
  | true :: r, t => by rw [tm, tm_len r]; simp [fls]
  | false :: r, t => by rw [tm, List.length_cons, tm_len r]; simp [fls]
abbrev times (l : Pat) : List Nat := tm 0 l
theorem times_t (l : Pat) : times (l ++ [true]) = times l := by rw [times, tm_app]; simp [tm]
theorem times_f (l : Pat) : times (l ++ [false]) = times l ++ [tks l] := by rw [times, tm_app]; simp [tm]
theorem times_len (l : Pat) : (times l).length = fls l := tm_len l 0
theorem times_pre (l : Pat) (i : Nat) : ∃ m, times l = times (l.take i) ++ m := by
  refine ⟨tm (tks (l.take i)) (l.drop i), ?_⟩
  have h := tm_app (l.take i) (l.drop i) 0
  rw [List.take_append_drop, Nat.zero_add] at h
  exact h
/-- the time of the fill that stands at i -/
theorem times_at {l : Pat} {i : Nat} (h : l[i]? = some false) : (times l)[fls (l.take i)]? = some (tks (l.take i)) := by
  obtain ⟨m, e⟩ := times_pre l (i + 1)
  rw [e, take_snoc h, times_f, List.append_assoc, List.getElem?_append_right (by rw [times_len]; exact Nat.le_refl _), times_len, Nat.sub_self]
  rfl
theorem times_all {l : Pat} (h : Pre l) : (∀ j t, (times l)[j]? = some t → j < t ∧ t ≤ tks l) ∧ (times l).Pairwise (· ≤ ·) := by
  have H : ∀ i, i ≤ l.length → (∀ j t, (times (l.take i))[j]? = some t → j < t ∧ t ≤ tks (l.take i)) ∧ (times (l.take i)).Pairwise (· ≤ ·) := by
    intro i
    induction i with
    | zero => intro _; exact ⟨fun j t e => by simp [tm] at e, by simp [tm]⟩
    | succ i ih =>
      intro hi
      obtain ⟨ih1, ih2⟩ := ih (by omega)
      have hb : l[i]? = some l[i] := List.getElem?_eq_getElem (by omega)
      have hp := h (i + 1)
      rw [take_snoc hb] at hp ⊢
      generalize l[i] = b at hp hb
      cases b with
      | true =>
        rw [times_t, tks_t]
        exact ⟨fun j t e => let ⟨a, b⟩ := ih1 j t e; ⟨a, by omega⟩, ih2⟩
      | false =>
        rw [times_f, tks_f]
        rw [fls_f, tks_f] at hp
        refine ⟨fun j t e => ?_, ?_⟩
        · rw [List.getElem?_append] at e
          split at e
          · exact ih1 j t e
          · rename_i c
            rw [times_len] at c e
            cases q : j - fls (l.take i) with
            | zero => rw [q] at e; cases e; omega
            | succ k => rw [q] at e; simp at e
        · rw [List.pairwise_append]
          refine ⟨ih2, by simp, fun a ha b hb => ?_⟩
          rw [List.mem_singleton] at hb; subst hb
          obtain ⟨j, e⟩ := List.mem_iff_getElem?.mp ha
          exact (ih1 j a e).2
  have := H l.length (Nat.le_refl _)
  rwa [List.take_length] at this
def ways : Nat → List Nat → Int
  | _, [] => 1
  | j, t :: r => ((t : Int) - (j : Nat)) * ways (j + 1) r
theorem ways_snoc : ∀ (ts : List Nat) (j t : Nat), ways j (ts ++ [t]) = ways j ts * ((t : Int) - ((j + ts.length : Nat) : Int))
  | [], j, t => by simp [ways]
  | u :: r, j, t => by
    simp only [List.cons_append, ways, ways_snoc r (j + 1) t, List.length_cons]
    rw [show j + 1 + r.length = j + (r.length + 1) by omega, Int.mul_assoc]
theorem ways_bound : ∀ (ts : List Nat) (j n : Nat), (∀ i t, ts[i]? = some t → j + i < t ∧ t ≤ n) → 0 ≤ ways j ts ∧ ways j ts ≤ (n : Int) ^ ts.length
  | [], j, n, _ => by simp [ways]
  | t :: r, j, n, h => by
    have h0 := h 0 t rfl
    obtain ⟨a, b⟩ := ways_bound r (j + 1) n fun i u e => by have := h (i + 1) u e; omega
    rw [ways, List.length_cons, Int.pow_succ]
    refine ⟨Int.mul_nonneg (by omega) a, ?_⟩
    rw [Int.mul_comm ((n : Int) ^ r.length)]
    exact Int.mul_le_mul (by omega) b a (by omega)
/-! ### orders, and those that can be -/
def dueP (tk : List Int) (ts : List Nat) (bs : List Int) : Bool := (bs.zip ts).all fun p => decide (p.1 ∈ tk.take p.2)
def orders (items : List Int) : Nat → List (List Int)
  | 0 => [[]]
  | k + 1 => (orders items k).flatMap fun row => (items.filter fun x => decide (x ∉ row)).map fun x => row ++ [x]
theorem orders_mem {items : List Int} : ∀ {k : Nat} {r : List Int}, r ∈ orders items k → r.length = k ∧ r.Nodup ∧ ∀ x ∈ r, x ∈ items
  | 0, r, h => by
    rw [orders, List.mem_singleton] at h; subst h
    exact ⟨rfl, List.nodup_nil, fun x hx => by cases hx⟩
  | k + 1, r, h => by
    rw [orders, List.mem_flatMap] at h
    obtain ⟨row, h1, h2⟩ := h
    rw [List.mem_map] at h2
    obtain ⟨x, h3, rfl⟩ := h2
    rw [List.mem_filter, decide_eq_true_iff] at h3
    obtain ⟨a, b, c⟩ := orders_mem h1
    refine ⟨by simp [a], ?_, fun y hy => ?_⟩
    · rw [List.nodup_append]
      refine ⟨b, by simp, fun y hy z hz => ?_⟩
      rw [List.mem_singleton] at hz; subst hz
      rintro rfl; exact h3.2 hy
    · rw [List.mem_append, List.mem_singleton] at hy
      rcases hy with hy | rfl
      · exact c y hy
      · exact h3.1
theorem perm_of_subset {l m : List Int} (h1 : l.Nodup) (h2 : m.Nodup) (hs : ∀ x ∈ l, x ∈ m) (hl : l.length = m.length) : l.Perm m := by
  refine (List.perm_ext_iff_of_nodup h1 h2).mpr fun a => ⟨hs a, fun ha => ?_⟩
  by_cases q : a ∈ l
  · exact q
  · exfalso
    have hn : (a :: l).Nodup := List.nodup_cons.mpr ⟨q, h1⟩
    have := List.Nodup.length_le_of_subset hn (l₂ := m) (fun x hx => by
      rcases List.mem_cons.mp hx with rfl | hx
      · exact ha
      · exact hs x hx)
    rw [List.length_cons] at this; omega
theorem orders_perm {items : List Int} (nd : items.Nodup) {r : List Int} (h : r ∈ orders items items.length) : r.Perm items := by
  obtain ⟨a, b, c⟩ := orders_mem h
  exact perm_of_subset b nd c a
theorem sum_flat {α β : Type} (f : α → List β) (d : α → Bool) (c : Nat) : ∀ L : List α, (∀ r ∈ L, (f r).length = if d r = true then c else 0) → (L.flatMap f).length = c * (L.filter d).length
  | [], _ => by simp
  | r :: L, h => by
    rw [List.flatMap_cons, List.length_append, h r List.mem_cons_self, sum_flat f d c L fun r hr => h r (List.mem_cons_of_mem _ hr), List.filter_cons]
    by_cases q : d r = true
    · rw [if_pos q, if_pos q, List.length_cons, Nat.mul_succ]; omega
    · rw [if_neg q, if_neg q]; omega
theorem len_split {α : Type} (p : α → Bool) : ∀ l : List α, l.length = (l.filter p).length + (l.filter fun x => !p x).length
  | [] => rfl
  | a :: r => by
    have := len_split p r
    cases q : p a <;> simp [List.filter_cons, q] <;> omega
theorem filter_split {items row : List Int} {t : Nat} (nd : items.Nodup) (nr : row.Nodup) (ht : t ≤ items.length) (hr : ∀ x ∈ row, x ∈ items.take t) :
    ((items.filter fun x => decide (x ∉ row)).filter fun x => decide (x ∈ items.take t)).length = t - row.length := by
  rw [List.filter_filter]
  have e : items.filter (fun a => decide (a ∈ items.take t) && decide (a ∉ row)) = (items.take t).filter fun a => decide (a ∉ row) := by
    conv => lhs; rw [← List.take_append_drop t items]
    rw [List.filter_append]
    have nd2 := nd
    rw [← List.take_append_drop t items, List.nodup_append] at nd2
    have z : (items.drop t).filter (fun a => decide (a ∈ (items.take t ++ items.drop t).take t) && decide (a ∉ row)) = [] := by
      rw [List.filter_eq_nil_iff]
      intro a ha q
      rw [Bool.and_eq_true, decide_eq_true_iff, List.take_append_drop] at q
      exact nd2.2.2 a q.1 a ha rfl
    rw [z, List.append_nil]
    refine List.filter_congr fun a ha => ?_
    rw [List.take_append_drop, decide_eq_true ha, Bool.true_and]
  rw [e]
  have nt : (items.take t).Nodup := nd.sublist (List.take_sublist _ _)
  have p : ((items.take t).filter fun a => decide (a ∈ row)).Perm row := by
    refine (List.perm_ext_iff_of_nodup (nt.filter _) nr).mpr fun a => ?_
    rw [List.mem_filter, decide_eq_true_iff]
    exact ⟨fun q => q.2, fun q => ⟨hr a q, q⟩⟩
  have s := len_split (fun a => decide (a ∈ row)) (items.take t)
  rw [p.length_eq, List.length_take, Nat.min_eq_left ht] at s
  have e2 : ((items.take t).filter fun x => !decide (x ∈ row)) = (items.take t).filter fun a => decide (a ∉ row) := by
    refine List.filter_congr fun a _ => ?_
    by_cases q : a ∈ row <;> simp [q]
  rw [e2] at s
  omega
theorem dueP_snoc {tk : List Int} {ts : List Nat} {row : List Int} {x : Int} {t : Nat} (h : ts[row.length]? = some t) : dueP tk ts (row ++ [x]) = (dueP tk ts row && decide (x ∈ tk.take t)) := by
  unfold dueP
  have e : (row ++ [x]).zip ts = row.zip ts ++ [(x, t)] := by
    have hl := (List.getElem?_eq_some_iff.mp h).1
    have e1 : ts = ts.take row.length ++ t :: ts.drop (row.length + 1) := by
      conv => lhs; rw [← List.take_append_drop row.length ts]
      congr 1
      rw [List.drop_eq_getElem_cons hl]
      congr 1
      exact (List.getElem?_eq_some_iff.mp h).2
    conv => lhs; rw [e1]
    rw [List.zip_append (by rw [List.length_take]; omega)]
    have e3 : row.zip ts = row.zip (ts.take row.length) := by
      have q : row.zip ts = (row ++ []).zip (ts.take row.length ++ t :: ts.drop (row.length + 1)) := by rw [List.append_nil, ← e1]
      rw [q, List.zip_append (by rw [List.length_take]; omega)]
      simp
    rw [e3]
    simp
  rw [e, List.all_append]
  simp
theorem due_sub {tk : List Int} {ts : List Nat} {row : List Int} {t : Nat} (hd : dueP tk ts row = true) (hl : row.length ≤ ts.length) (hm : ∀ j u, j < row.length → ts[j]? = some u → u ≤ t) : ∀ x ∈ row, x ∈ tk.take t := by
  intro x hx
  obtain ⟨j, hj, rfl⟩ := List.mem_iff_getElem.mp hx
  have hu : ts[j]? = some ts[j] := List.getElem?_eq_getElem (by omega)
  have hz : (row.zip ts)[j]? = some (row[j], ts[j]) := List.getElem?_zip_eq_some.mpr ⟨List.getElem?_eq_getElem hj, hu⟩
  have := List.all_eq_true.mp hd _ (List.mem_of_getElem? hz)
  rw [decide_eq_true_iff] at this
  exact (List.take_subset_take_left _ (hm j _ hj hu)) this
theorem count_due {items : List Int} {ts : List Nat} (nd : items.Nodup) (hts : ∀ j t, ts[j]? = some t → j < t ∧ t ≤ items.length) (mono : ts.Pairwise (· ≤ ·)) :
    ∀ k, k ≤ ts.length → (((orders items k).filter (dueP items ts)).length : Int) = ways 0 (ts.take k)
  | 0, _ => by rw [List.take_zero]; rfl
  | k + 1, hk => by
    have ih := count_due nd hts mono k (by omega)
    have ht : ts[k]? = some ts[k] := List.getElem?_eq_getElem (by omega)
    generalize ts[k] = t at ht
    obtain ⟨h1, h2⟩ := hts k t ht
    rw [take_snoc ht, ways_snoc, ← ih, List.length_take, Nat.min_eq_left (by omega), Nat.zero_add, orders, List.filter_flatMap,
      sum_flat _ (dueP items ts) (t - k) (orders items k) fun row hr => ?_]
    · rw [Int.natCast_mul, Int.mul_comm]
      congr 1
      omega
    · obtain ⟨a, b, c⟩ := orders_mem hr
      have e : ∀ L : List Int, ((L.map fun x => row ++ [x]).filter (dueP items ts)).length = if dueP items ts row = true then (L.filter fun x => decide (x ∈ items.take t)).length else 0 := by
        intro L
        rw [List.filter_map, List.length_map]
        by_cases q : dueP items ts row = true
        · rw [if_pos q]
          congr 2
          funext x
          show dueP items ts (row ++ [x]) = _
          rw [dueP_snoc (t := t) (by rw [a]; exact ht), q, Bool.true_and]
        · rw [if_neg q, List.length_eq_zero_iff, List.filter_eq_nil_iff]
          intro x _ z
          replace z : dueP items ts (row ++ [x]) = true := z
          rw [dueP_snoc (t := t) (by rw [a]; exact ht), Bool.and_eq_true] at z
          exact q z.1
      rw [e]
      by_cases q : dueP items ts row = true
      · rw [if_pos q, if_pos q, filter_split nd b h2 (due_sub q (by omega) fun j u hj hu => ?_), a]
        have hk2 := (List.getElem?_eq_some_iff.mp ht)
        have hj2 := (List.getElem?_eq_some_iff.mp hu)
        have := List.pairwise_iff_getElem.mp mono j k hj2.1 hk2.1 (by omega)
        rw [hj2.2, hk2.2] at this
        exact this
      · rw [if_neg q, if_neg q]
/-- the pattern's number of orders: the product -/
theorem orders_count {items : List Int} {l : Pat} (nd : items.Nodup) (g : Good l) (hn : tks l = items.length) : (((orders items items.length).filter (dueP items (times l))).length : Int) = ways 0 (times l) := by
  obtain ⟨h1, h2⟩ := times_all g.1
  have hl : (times l).length = items.length := by rw [times_len, g.2, hn]
  have := count_due nd (fun j t e => by have := h1 j t e; omega) h2 items.length (by omega)
  rw [← hl, List.take_length, hl] at this
  exact this
theorem idx_take {l : List Int} {x : Int} {t : Nat} (ht : t ≤ l.length) : decide (l.idxOf x < t) = decide (x ∈ l.take t) := by
  refine decide_eq_decide.mpr ⟨fun h => ?_, fun h => ?_⟩
  · rw [List.mem_take_iff_getElem]
    have h2 : l.idxOf x < l.length := by omega
    exact ⟨l.idxOf x, by omega, List.getElem_idxOf h2⟩
  · obtain ⟨j, hj, e⟩ := List.mem_take_iff_getElem.mp h
    have : l.idxOf x ≤ j := by
      apply Nat.le_of_not_lt
      intro q
      have := List.not_of_lt_findIdx (p := (· == x)) (xs := l) q
      rw [e] at this
      simp at this
    omega
theorem swap_perm {l : List Int} {i j : Nat} {a b : Int} (hi : l[i]? = some a) (hj : l[j]? = some b) : ((l.set i b).set j a).Perm l := by
  obtain ⟨h1, rfl⟩ := List.getElem?_eq_some_iff.mp hi
  obtain ⟨h2, rfl⟩ := List.getElem?_eq_some_iff.mp hj
  exact List.set_set_perm h1 h2
end LQ

namespace LQ
/-! the places that a pattern fills -/
def mn : List Int → Int
  | [] => 0
  | [a] => a
  | a :: b :: r => if a ≤ mn (b :: r) then a else mn (b :: r)
theorem mn_ok : ∀ {l : List Int}, l ≠ [] → mn l ∈ l ∧ ∀ x ∈ l, mn l ≤ x
  | [], h => absurd rfl h
  | [a], _ => ⟨List.mem_singleton.mpr rfl, fun x hx => by rw [List.mem_singleton] at hx; subst hx; exact Int.le_refl _⟩
  | a :: b :: r, _ => by
    obtain ⟨h1, h2⟩ := mn_ok (l := b :: r) (by simp)
    rw [mn]
    by_cases c : a ≤ mn (b :: r)
    · rw [if_pos c]
      exact ⟨List.mem_cons_self, fun x hx => by
        rcases List.mem_cons.mp hx with rfl | hx
        · exact Int.le_refl _
        · exact Int.le_trans c (h2 x hx)⟩
    · rw [if_neg c]
      exact ⟨List.mem_cons_of_mem _ h1, fun x hx => by
        rcases List.mem_cons.mp hx with rfl | hx
        · omega
        · exact h2 x hx⟩
theorem mn_eq {l : List Int} {m : Int} (h : m ∈ l) (h2 : ∀ x ∈ l, m ≤ x) : m = mn l := by
  obtain ⟨a, b⟩ := mn_ok (l := l) (fun e => by subst e; cases h)
  exact Int.le_antisymm (h2 _ a) (b _ h)
structure Sh where
  at_ : Nat
  gaps : List Int
  fills : List Int
def stp (tk : List Int) (s : Sh) (b : Bool) : Sh := if b = true then ⟨s.at_ + 1, s.gaps ++ (tk[s.at_]?).toList, s.fills⟩ else ⟨s.at_, s.gaps.erase (mn s.gaps), s.fills ++ [mn s.gaps]⟩
def run (tk : List Int) (l : Pat) : Sh := l.foldl (stp tk) ⟨0, [], []⟩
theorem run_snoc (tk : List Int) (l : Pat) (b : Bool) : run tk (l ++ [b]) = stp tk (run tk l) b := by unfold run; rw [List.foldl_append]; rfl
theorem run_nil (tk : List Int) : run tk [] = ⟨0, [], []⟩ := rfl
/-- what has been kept after a part of a pattern -/
theorem run_ok {tk : List Int} {l : Pat} (h : Pre l) (hl : tks l ≤ tk.length) : ∀ i, i ≤ l.length → (run tk (l.take i)).at_ = tks (l.take i) ∧ (run tk (l.take i)).fills.length = fls (l.take i) ∧ ((run tk (l.take i)).gaps ++ (run tk (l.take i)).fills).Perm (tk.take (tks (l.take i)))
  | 0, _ => by rw [List.take_zero]; exact ⟨rfl, rfl, List.Perm.refl _⟩
  | i + 1, hi => by
    obtain ⟨a, b, c⟩ := run_ok h hl i (by omega)
    have hb : l[i]? = some l[i] := List.getElem?_eq_getElem (by omega)
    have hp := h (i + 1)
    have ht := tks_take l (i + 1)
    rw [take_snoc hb] at hp ht ⊢
    generalize l[i] = x at hp ht hb
    rw [run_snoc]
    cases x with
    | true =>
      rw [tks_t] at ht
      have hx := List.getElem?_eq_getElem (l := tk) (i := tks (l.take i)) (by omega)
      rw [tks_t, fls_t]
      refine ⟨congrArg (· + 1) a, b, ?_⟩
      show (((run tk (l.take i)).gaps ++ (tk[(run tk (l.take i)).at_]?).toList) ++ (run tk (l.take i)).fills).Perm _
      rw [a, hx, take_snoc hx]
      show (((run tk (l.take i)).gaps ++ [_]) ++ (run tk (l.take i)).fills).Perm _
      rw [List.append_assoc]
      refine List.Perm.trans (List.perm_append_comm_assoc _ [_] _) ?_
      exact (List.perm_append_comm (l₁ := [_])).trans (c.append_right _)
    | false =>
      rw [fls_f, tks_f] at hp
      rw [tks_f, fls_f]
      have hlen := c.length_eq
      rw [List.length_append, List.length_take, b] at hlen
      have hne : (run tk (l.take i)).gaps ≠ [] := fun e => by
        rw [e] at hlen
        have := tks_take l i
        simp at hlen; omega
      refine ⟨a, by show ((run tk (l.take i)).fills ++ [_]).length = _; rw [List.length_append, b]; rfl, ?_⟩
      show ((run tk (l.take i)).gaps.erase (mn (run tk (l.take i)).gaps) ++ ((run tk (l.take i)).fills ++ [mn (run tk (l.take i)).gaps])).Perm _
      refine List.Perm.trans ?_ c
      rw [← List.append_assoc]
      refine (List.perm_append_singleton _ _).trans ?_
      exact (List.perm_cons_erase (mn_ok hne).1).symm.append_right _
/-- the places that the pattern fills from the list tk -/
def fillsOf (tk : List Int) (l : Pat) : List Int := (run tk l).fills
theorem fills_perm {tk : List Int} {l : Pat} (g : Good l) (hl : tks l = tk.length) : (fillsOf tk l).Perm tk := by
  obtain ⟨a, b, c⟩ := run_ok g.1 (Nat.le_of_eq hl) l.length (Nat.le_refl _)
  rw [List.take_length] at a b c
  rw [hl, List.take_length] at c
  have h := c.length_eq
  rw [List.length_append, b, g.2, hl] at h
  have e : (run tk l).gaps = [] := List.length_eq_zero_iff.mp (by omega)
  rw [e] at c
  exact c
end LQ

namespace LQ
/-! patterns between takes and fills: times within bounds -/
abbrev ix (tk : List Int) (p : Int) : Nat := tk.idxOf p
structure Lead (tk : List Int) (ts : List Nat) (fs : List Int) : Prop where
  len : fs.length = ts.length
  at_ : ∀ (j : Nat) (f : Int) (t : Nat), fs[j]? = some f → ts[j]? = some t → f ∈ tk.take t ∧ f ∉ fs.take j ∧ ∀ x ∈ tk.take t, x ∉ fs.take j → f ≤ x
theorem Lead.snoc {tk : List Int} {ts : List Nat} {fs : List Int} {f : Int} {t : Nat} (h : Lead tk ts fs) (h1 : f ∈ tk.take t) (h2 : f ∉ fs) (h3 : ∀ x ∈ tk.take t, x ∉ fs → f ≤ x) : Lead tk (ts ++ [t]) (fs ++ [f]) := by
  have hl := h.len
  refine ⟨by rw [List.length_append, List.length_append, hl]; rfl, fun j g u e1 e2 => ?_⟩
  by_cases c : j < fs.length
  · rw [List.getElem?_append_left c] at e1
    rw [List.getElem?_append_left (by omega)] at e2
    rw [List.take_append_of_le_length (by omega)]
    exact h.at_ j g u e1 e2
  · rw [List.getElem?_append_right (by omega)] at e1
    rw [List.getElem?_append_right (by omega), ← hl] at e2
    cases z : j - fs.length with
    | zero =>
      rw [z] at e1 e2
      cases e1; cases e2
      have : j = fs.length := by omega
      subst this
      rw [List.take_left]
      exact ⟨h1, h2, h3⟩
    | succ m => rw [z] at e1; simp at e1
theorem lead_run {tk : List Int} {l : Pat} (nd : tk.Nodup) (h : Pre l) (hl : tks l ≤ tk.length) : ∀ i, i ≤ l.length → Lead tk (times (l.take i)) (run tk (l.take i)).fills
  | 0, _ => by rw [List.take_zero]; exact ⟨rfl, fun j f t e => by simp [run_nil] at e⟩
  | i + 1, hi => by
    have ih := lead_run nd h hl i (by omega)
    obtain ⟨a, b, c⟩ := run_ok h hl i (by omega)
    have hb : l[i]? = some l[i] := List.getElem?_eq_getElem (by omega)
    have hp := h (i + 1)
    rw [take_snoc hb] at hp ⊢
    generalize l[i] = x at hp hb
    rw [run_snoc]
    cases x with
    | true => rw [times_t]; exact ih
    | false =>
      rw [times_f]
      rw [fls_f, tks_f] at hp
      have hlen := c.length_eq
      have ht := tks_take l i
      rw [List.length_append, List.length_take, b] at hlen
      have hne : (run tk (l.take i)).gaps ≠ [] := fun e => by
        rw [e] at hlen
        simp at hlen; omega
      obtain ⟨m1, m2⟩ := mn_ok hne
      have nd2 : ((run tk (l.take i)).gaps ++ (run tk (l.take i)).fills).Nodup := c.nodup_iff.mpr (nd.sublist (List.take_sublist _ _))
      rw [List.nodup_append] at nd2
      refine ih.snoc (c.subset (List.mem_append_left _ m1)) (fun q => nd2.2.2 _ m1 _ q rfl) fun x hx hn => ?_
      rcases List.mem_append.mp (c.symm.subset hx) with q | q
      · exact m2 x q
      · exact absurd q hn
theorem lead_of {tk : List Int} {l : Pat} (nd : tk.Nodup) (g : Good l) (hl : tks l = tk.length) : Lead tk (times l) (fillsOf tk l) := by
  have := lead_run nd g.1 (Nat.le_of_eq hl) l.length (Nat.le_refl _)
  rwa [List.take_length] at this
theorem lead_unique {tk : List Int} {ts : List Nat} {fs gs : List Int} (h1 : Lead tk ts fs) (h2 : Lead tk ts gs) : fs = gs := by
  have key : ∀ j, j ≤ ts.length → fs.take j = gs.take j := by
    intro j
    induction j with
    | zero => intro _; rfl
    | succ j ih =>
      intro hj
      have e := ih (by omega)
      have l1 := h1.len
      have l2 := h2.len
      have a := List.getElem?_eq_getElem (l := fs) (i := j) (by omega)
      have b := List.getElem?_eq_getElem (l := gs) (i := j) (by omega)
      have t := List.getElem?_eq_getElem (l := ts) (i := j) (by omega)
      obtain ⟨p1, p2, p3⟩ := h1.at_ j _ _ a t
      obtain ⟨q1, q2, q3⟩ := h2.at_ j _ _ b t
      have e2 : fs[j]'(by omega) = gs[j]'(by omega) := Int.le_antisymm (p3 _ q1 (by rw [e]; exact q2)) (q3 _ p1 (by rw [← e]; exact p2))
      rw [take_snoc a, take_snoc b, e, e2]
  have := key ts.length (Nat.le_refl _)
  rwa [← h1.len, List.take_length, h1.len, ← h2.len, List.take_length] at this
/-! ### the bounds of each time -/
structure InB (tk fs : List Int) (ts : List Nat) : Prop where
  len : fs.length = ts.length
  lo : ∀ (j : Nat) (f : Int) (t : Nat), fs[j]? = some f → ts[j]? = some t → ix tk f < t
  hi : ∀ (j : Nat) (f : Int) (t : Nat), fs[j]? = some f → ts[j]? = some t → ∀ (k : Nat) (g : Int), j < k → fs[k]? = some g → g < f → t ≤ ix tk g
theorem mem_take_ix {tk : List Int} {x : Int} {t : Nat} (h : x ∈ tk.take t) : ix tk x < t := by
  obtain ⟨j, hj, e⟩ := List.mem_take_iff_getElem.mp h
  have h1 : ix tk x ≤ j := by
    apply Nat.le_of_not_lt
    intro q
    have := List.not_of_lt_findIdx (p := (· == x)) (xs := tk) q
    rw [e] at this
    simp at this
  omega
theorem ix_take {tk : List Int} {x : Int} {t : Nat} (hx : x ∈ tk) (h : ix tk x < t) : x ∈ tk.take t := by
  rw [List.mem_take_iff_getElem]
  have h2 : ix tk x < tk.length := List.idxOf_lt_length_iff.mpr hx
  exact ⟨ix tk x, by omega, List.getElem_idxOf h2⟩
theorem ix_at {l : List Int} (nd : l.Nodup) {j : Nat} {x : Int} (h : l[j]? = some x) : ix l x = j := by
  obtain ⟨hj, e⟩ := List.getElem?_eq_some_iff.mp h
  have hm : x ∈ l := List.mem_of_getElem? h
  have h2 : ix l x < l.length := List.idxOf_lt_length_iff.mpr hm
  exact (List.getElem_inj nd).mp ((List.getElem_idxOf h2).trans e.symm)
theorem at_ix {l : List Int} {x : Int} (h : x ∈ l) : l[ix l x]? = some x := by
  have h1 := List.idxOf_lt_length_iff.mpr h
  rw [List.getElem?_eq_getElem h1]
  exact congrArg some (List.getElem_idxOf h1)
theorem not_take {l : List Int} (nd : l.Nodup) {j k : Nat} {x : Int} (h : l[k]? = some x) (hk : j ≤ k) : x ∉ l.take j := fun q => by
  have := mem_take_ix q
  rw [ix_at nd h] at this
  omega
theorem Lead.inB {tk fs : List Int} {ts : List Nat} (h : Lead tk ts fs) (nd : tk.Nodup) (p : fs.Perm tk) : InB tk fs ts := by
  have nf : fs.Nodup := p.nodup_iff.mpr nd
  refine ⟨h.len, fun j f t e1 e2 => mem_take_ix (h.at_ j f t e1 e2).1, fun j f t e1 e2 k g hk e3 hg => ?_⟩
  apply Nat.le_of_not_lt
  intro q
  have := (h.at_ j f t e1 e2).2.2 g (ix_take (p.subset (List.mem_of_getElem? e3)) q) (not_take nf e3 (by omega))
  omega
theorem InB.lead {tk fs : List Int} {ts : List Nat} (h : InB tk fs ts) (nd : tk.Nodup) (p : fs.Perm tk) : Lead tk ts fs := by
  have nf : fs.Nodup := p.nodup_iff.mpr nd
  refine ⟨h.len, fun j f t e1 e2 => ⟨ix_take (p.subset (List.mem_of_getElem? e1)) (h.lo j f t e1 e2), not_take nf e1 (Nat.le_refl _), fun x hx hn => ?_⟩⟩
  have hxf : x ∈ fs := p.symm.subset (List.mem_of_mem_take hx)
  have ek := at_ix hxf
  have hk : j ≤ ix fs x := by
    apply Nat.le_of_not_lt
    intro q
    exact hn (ix_take hxf q)
  rcases Nat.lt_or_eq_of_le hk with q | q
  · apply Int.le_of_not_gt
    intro z
    have := h.hi j f t e1 e2 _ x q ek z
    have := mem_take_ix hx
    omega
  · rw [← q, e1] at ek
    cases ek
    exact Int.le_refl _
/-! ### no obstruction -/
structure NoObs (tk fs : List Int) : Prop where
  two : ∀ a b, a ∈ tk → b ∈ tk → a < b → ix tk a < ix tk b → ¬ ix fs b < ix fs a
  three : ∀ a b c, a ∈ tk → b ∈ tk → c ∈ tk → a < b → b < c → ix tk c < ix tk b → ix tk b < ix tk a → ix fs a < ix fs c → ¬ ix fs c < ix fs b
theorem mono_at {ts : List Nat} (m : ts.Pairwise (· ≤ ·)) {i j a b : Nat} (h : i ≤ j) (h1 : ts[i]? = some a) (h2 : ts[j]? = some b) : a ≤ b := by
  obtain ⟨p1, e1⟩ := List.getElem?_eq_some_iff.mp h1
  obtain ⟨p2, e2⟩ := List.getElem?_eq_some_iff.mp h2
  rcases Nat.lt_or_eq_of_le h with q | q
  · have := List.pairwise_iff_getElem.mp m i j p1 p2 q
    rw [e1, e2] at this; exact this
  · subst q
    rw [h1] at h2; cases h2; exact Nat.le_refl _
theorem InB.noObs {tk fs : List Int} {ts : List Nat} (h : InB tk fs ts) (m : ts.Pairwise (· ≤ ·)) (p : fs.Perm tk) : NoObs tk fs := by
  have hl := h.len
  have get : ∀ {x : Int}, x ∈ tk → fs[ix fs x]? = some x ∧ ∃ t, ts[ix fs x]? = some t := fun {x} hx => by
    have hf := p.symm.subset hx
    have h1 := List.idxOf_lt_length_iff.mpr hf
    exact ⟨at_ix hf, _, List.getElem?_eq_getElem (by show ix fs x < ts.length; rw [← hl]; exact h1)⟩
  refine ⟨fun a b ha hb hab h1 h2 => ?_, fun a b c ha hb hc hab hbc h1 h2 h3 h4 => ?_⟩
  · obtain ⟨ea, _⟩ := get ha
    obtain ⟨eb, t, et⟩ := get hb
    have := h.lo _ _ _ eb et
    have := h.hi _ _ _ eb et _ _ h2 ea hab
    omega
  · obtain ⟨ea, ta, eta⟩ := get ha
    obtain ⟨eb, _⟩ := get hb
    obtain ⟨ec, tc, etc⟩ := get hc
    have l1 := h.lo _ _ _ ea eta
    have l2 := h.hi _ _ _ ec etc _ _ h4 eb hbc
    have l3 := mono_at m (Nat.le_of_lt h3) eta etc
    omega
/-! ### least and greatest times -/
def mnN (n : Nat) (l : List Nat) : Nat := l.foldr min n
theorem mnN_ok (n : Nat) : ∀ l : List Nat, (mnN n l = n ∨ mnN n l ∈ l) ∧ mnN n l ≤ n ∧ ∀ y ∈ l, mnN n l ≤ y
  | [] => ⟨.inl rfl, Nat.le_refl _, fun y hy => by cases hy⟩
  | a :: r => by
    obtain ⟨h1, h2, h3⟩ := mnN_ok n r
    have e : mnN n (a :: r) = min a (mnN n r) := rfl
    rw [e]
    refine ⟨?_, by omega, fun y hy => ?_⟩
    · rcases Nat.le_total a (mnN n r) with q | q
      · rw [Nat.min_eq_left q]; exact .inr List.mem_cons_self
      · rw [Nat.min_eq_right q]
        exact h1.imp id fun z => List.mem_cons_of_mem _ z
    · rcases List.mem_cons.mp hy with rfl | hy
      · exact Nat.min_le_left _ _
      · exact Nat.le_trans (Nat.min_le_right _ _) (h3 y hy)
theorem mnN_eq {n m : Nat} {l : List Nat} (h1 : m = n ∨ m ∈ l) (h2 : m ≤ n) (h3 : ∀ y ∈ l, m ≤ y) : m = mnN n l := by
  obtain ⟨g1, g2, g3⟩ := mnN_ok n l
  apply Nat.le_antisymm
  · rcases g1 with q | q
    · rw [q]; exact h2
    · exact h3 _ q
  · rcases h1 with q | q
    · rw [q]; exact g2
    · exact g3 _ q
/-- the bound of one fill by the smaller places behind it -/
def hi1 (tk : List Int) (p : Int) (r : List Int) : Nat := mnN tk.length ((r.filter fun q => decide (q < p)).map (ix tk))
def hiL (tk : List Int) : List Int → Nat
  | [] => tk.length
  | p :: r => min (hi1 tk p r) (hiL tk r)
def loL (tk : List Int) (l : List Int) : Nat := l.foldl (fun m p => max m (ix tk p + 1)) 0
theorem loL_snoc (tk l : List Int) (p : Int) : loL tk (l ++ [p]) = max (loL tk l) (ix tk p + 1) := by unfold loL; rw [List.foldl_append]; rfl
def lo (tk fs : List Int) (j : Nat) : Nat := loL tk (fs.take (j + 1))
def hi (tk fs : List Int) (j : Nat) : Nat := hiL tk (fs.drop j)
theorem loF_ok (tk : List Int) : ∀ (l : List Int) (m0 : Nat), (l.foldl (fun m p => max m (ix tk p + 1)) m0 = m0 ∨ ∃ p ∈ l, l.foldl (fun m p => max m (ix tk p + 1)) m0 = ix tk p + 1) ∧ m0 ≤ l.foldl (fun m p => max m (ix tk p + 1)) m0 ∧ ∀ p ∈ l, ix tk p + 1 ≤ l.foldl (fun m p => max m (ix tk p + 1)) m0
  | [], m0 => ⟨.inl rfl, Nat.le_refl _, fun y hy => by cases hy⟩
  | a :: r, m0 => by
    obtain ⟨h1, h2, h3⟩ := loF_ok tk r (max m0 (ix tk a + 1))
    rw [List.foldl_cons]
    refine ⟨?_, by omega, fun y hy => ?_⟩
    · rcases h1 with q | ⟨p, hp, q⟩
      · rw [q]
        rcases Nat.le_total m0 (ix tk a + 1) with z | z
        · rw [Nat.max_eq_right z]; exact .inr ⟨a, List.mem_cons_self, rfl⟩
        · rw [Nat.max_eq_left z]; exact .inl rfl
      · exact .inr ⟨p, List.mem_cons_of_mem _ hp, q⟩
    · rcases List.mem_cons.mp hy with rfl | hy
      · omega
      · exact h3 y hy
theorem loL_ok (tk l : List Int) : (loL tk l = 0 ∨ ∃ p ∈ l, loL tk l = ix tk p + 1) ∧ ∀ p ∈ l, ix tk p + 1 ≤ loL tk l :=
  let ⟨a, _, c⟩ := loF_ok tk l 0
  ⟨a, c⟩
theorem loL_eq {tk l : List Int} {m : Nat} (h1 : ∃ p ∈ l, m = ix tk p + 1) (h2 : ∀ p ∈ l, ix tk p + 1 ≤ m) : m = loL tk l := by
  obtain ⟨g1, g2⟩ := loL_ok tk l
  apply Nat.le_antisymm
  · obtain ⟨p, hp, rfl⟩ := h1
    exact g2 p hp
  · rcases g1 with q | ⟨p, hp, q⟩
    · rw [q]; exact Nat.zero_le _
    · rw [q]; exact h2 p hp
theorem hi1_ok (tk : List Int) (p : Int) (r : List Int) : (hi1 tk p r = tk.length ∨ ∃ q ∈ r, q < p ∧ hi1 tk p r = ix tk q) ∧ hi1 tk p r ≤ tk.length ∧ ∀ q ∈ r, q < p → hi1 tk p r ≤ ix tk q := by
  obtain ⟨a, b, c⟩ := mnN_ok tk.length ((r.filter fun q => decide (q < p)).map (ix tk))
  refine ⟨a.imp id fun z => ?_, b, fun q hq hp => c _ (List.mem_map.mpr ⟨q, List.mem_filter.mpr ⟨hq, decide_eq_true hp⟩, rfl⟩)⟩
  obtain ⟨q, h1, h2⟩ := List.mem_map.mp z
  obtain ⟨h3, h4⟩ := List.mem_filter.mp h1
  exact ⟨q, h3, of_decide_eq_true h4, h2.symm⟩
theorem hiL_ok (tk : List Int) : ∀ l : List Int, (hiL tk l = tk.length ∨ ∃ (k : Nat) (p : Int), l[k]? = some p ∧ hiL tk l = hi1 tk p (l.drop (k + 1))) ∧ hiL tk l ≤ tk.length ∧ ∀ (k : Nat) (p : Int), l[k]? = some p → hiL tk l ≤ hi1 tk p (l.drop (k + 1))
  | [] => ⟨.inl rfl, Nat.le_refl _, fun k p h => by simp at h⟩
  | a :: r => by
    obtain ⟨h1, h2, h3⟩ := hiL_ok tk r
    have e : hiL tk (a :: r) = min (hi1 tk a r) (hiL tk r) := rfl
    rw [e]
    refine ⟨?_, by omega, fun k p hk => ?_⟩
    · rcases Nat.le_total (hi1 tk a r) (hiL tk r) with q | q
      · rw [Nat.min_eq_left q]; exact .inr ⟨0, a, rfl, rfl⟩
      · rw [Nat.min_eq_right q]
        rcases h1 with z | ⟨k, p, z1, z2⟩
        · exact .inl z
        · exact .inr ⟨k + 1, p, z1, z2⟩
    · cases k with
      | zero => cases hk; exact Nat.min_le_left _ _
      | succ k => exact Nat.le_trans (Nat.min_le_right _ _) (h3 k p hk)
theorem hiL_drop (tk : List Int) (l : List Int) {j k : Nat} (h : j ≤ k) : hiL tk (l.drop j) ≤ hiL tk (l.drop k) := by
  rcases (hiL_ok tk (l.drop k)).1 with q | ⟨i, p, q1, q2⟩
  · rw [q]; exact (hiL_ok tk (l.drop j)).2.1
  · rw [q2]
    have e : (l.drop j)[k - j + i]? = some p := by
      rw [List.getElem?_drop] at q1 ⊢
      rw [← q1]; congr 1; omega
    have := (hiL_ok tk (l.drop j)).2.2 _ p e
    rw [List.drop_drop] at this ⊢
    rw [show k + (i + 1) = j + (k - j + i + 1) by omega]
    exact this
theorem hi_mono (tk fs : List Int) {j k : Nat} (h : j ≤ k) : hi tk fs j ≤ hi tk fs k := hiL_drop tk fs h
theorem lo_mono (tk fs : List Int) {j k : Nat} (h : j ≤ k) : lo tk fs j ≤ lo tk fs k := by
  unfold lo
  rcases (loL_ok tk (fs.take (j + 1))).1 with q | ⟨p, hp, q⟩
  · rw [q]; exact Nat.zero_le _
  · rw [q]
    exact (loL_ok tk (fs.take (k + 1))).2 p (List.take_subset_take_left _ (by omega) hp)
theorem hi_le (tk fs : List Int) (j : Nat) : hi tk fs j ≤ tk.length := (hiL_ok tk _).2.1
theorem lo_ge {tk fs : List Int} (nd : tk.Nodup) (p : fs.Perm tk) {j : Nat} (hj : j < fs.length) : j + 1 ≤ lo tk fs j := by
  have nf : fs.Nodup := p.nodup_iff.mpr nd
  have h1 : (fs.take (j + 1)).Nodup := nf.sublist (List.take_sublist _ _)
  have h2 := List.Nodup.length_le_of_subset h1 (l₂ := tk.take (lo tk fs j)) fun x hx => ix_take (p.subset (List.mem_of_mem_take hx)) (Nat.lt_of_succ_le ((loL_ok tk _).2 x hx))
  rw [List.length_take, List.length_take] at h2
  omega
/-- times that never fall are those of a pattern of the pair if and only if they keep the bounds -/
theorem InB_within {tk fs : List Int} {ts : List Nat} (h : InB tk fs ts) (m : ts.Pairwise (· ≤ ·)) (hn : ∀ t ∈ ts, t ≤ tk.length) {j t : Nat} (ht : ts[j]? = some t) : lo tk fs j ≤ t ∧ t ≤ hi tk fs j := by
  have hl := h.len
  have hj : j < ts.length := (List.getElem?_eq_some_iff.mp ht).1
  constructor
  · unfold lo
    rcases (loL_ok tk (fs.take (j + 1))).1 with q | ⟨p, hp, q⟩
    · rw [q]; exact Nat.zero_le _
    · rw [q]
      obtain ⟨i, hi, e⟩ := List.mem_take_iff_getElem.mp hp
      have e1 : fs[i]? = some p := by rw [List.getElem?_eq_getElem (by omega), e]
      have e2 := List.getElem?_eq_getElem (l := ts) (i := i) (by omega)
      have := h.lo _ _ _ e1 e2
      have := mono_at m (show i ≤ j by omega) e2 ht
      omega
  · show t ≤ hiL tk (fs.drop j)
    rcases (hiL_ok tk (fs.drop j)).1 with q | ⟨k, p, q1, q2⟩
    · rw [q]; exact hn t (List.mem_of_getElem? ht)
    · rw [q2]
      rw [List.getElem?_drop] at q1
      have hk : j + k < fs.length := (List.getElem?_eq_some_iff.mp q1).1
      have e2 := List.getElem?_eq_getElem (l := ts) (i := j + k) (by omega)
      have l1 := mono_at m (show j ≤ j + k by omega) ht e2
      rcases (hi1_ok tk p ((fs.drop j).drop (k + 1))).1 with z | ⟨g, hg, z1, z2⟩
      · rw [z]; exact hn t (List.mem_of_getElem? ht)
      · rw [z2]
        rw [List.drop_drop] at hg
        obtain ⟨i, hi, e⟩ := List.mem_iff_getElem.mp hg
        rw [List.length_drop] at hi
        have e3 : fs[j + (k + 1) + i]? = some g := by rw [List.getElem?_eq_getElem (by omega), ← e, List.getElem_drop]
        have := h.hi _ _ _ q1 e2 _ _ (by omega) e3 z1
        omega
theorem inB_of {tk fs : List Int} {ts : List Nat} (hl : fs.length = ts.length) (h : ∀ (j t : Nat), ts[j]? = some t → lo tk fs j ≤ t ∧ t ≤ hi tk fs j) : InB tk fs ts := by
  refine ⟨hl, fun j f t e1 e2 => ?_, fun j f t e1 e2 k g hk e3 hg => ?_⟩
  · have h1 := (h j t e2).1
    have : f ∈ fs.take (j + 1) := by
      have hj := List.getElem?_eq_some_iff.mp e1
      obtain ⟨hj, e⟩ := hj
      exact List.mem_take_iff_getElem.mpr ⟨j, by omega, e⟩
    have := (loL_ok tk (fs.take (j + 1))).2 f this
    unfold lo at h1
    omega
  · have h1 := (h j t e2).2
    unfold hi at h1
    have e4 : (fs.drop j)[0]? = some f := by rw [List.getElem?_drop]; exact e1
    have h2 := (hiL_ok tk (fs.drop j)).2.2 0 f e4
    have hg2 : g ∈ (fs.drop j).drop (0 + 1) := by
      rw [List.drop_drop]
      have hk2 := List.getElem?_eq_some_iff.mp e3
      refine List.mem_of_getElem? (i := k - (j + 1)) ?_
      rw [List.getElem?_drop, show j + (0 + 1) + (k - (j + 1)) = k by omega]
      exact e3
    have h3 := (hi1_ok tk f ((fs.drop j).drop (0 + 1))).2.2 g hg2 hg
    omega
/-! ### the pattern with given times -/
def wr (ts : List Nat) : Nat → Pat × Nat
  | 0 => ([], 0)
  | j + 1 => ((wr ts j).1 ++ List.replicate (ts.getD j 0 - (wr ts j).2) true ++ [false], ts.getD j 0)
theorem tks_rep (k : Nat) : tks (List.replicate k true) = k := by simp [tks]
theorem fls_rep (k : Nat) : fls (List.replicate k true) = 0 := by
  unfold fls
  rw [List.count_eq_zero]
  intro h
  exact absurd (List.eq_of_mem_replicate h) (by decide)
theorem Pre.reps {l : Pat} (h : Pre l) : ∀ k, Pre (l ++ List.replicate k true)
  | 0 => by simpa using h
  | k + 1 => by
    have ih := Pre.reps h k
    rw [List.replicate_succ', ← List.append_assoc]
    have := ih.all
    exact ih.snoc (by rw [fls_t, tks_t]; omega)
theorem times_reps (l : Pat) : ∀ k, times (l ++ List.replicate k true) = times l
  | 0 => by simp
  | k + 1 => by rw [List.replicate_succ', ← List.append_assoc, times_t, times_reps l k]
theorem wr_ok {ts : List Nat} (m : ts.Pairwise (· ≤ ·)) (hj : ∀ (j t : Nat), ts[j]? = some t → j < t) : ∀ j, j ≤ ts.length → Pre (wr ts j).1 ∧ tks (wr ts j).1 = (wr ts j).2 ∧ fls (wr ts j).1 = j ∧ times (wr ts j).1 = ts.take j ∧ (∀ i t, ts[i]? = some t → j ≤ i → (wr ts j).2 ≤ t) ∧ (0 < j → ts[j - 1]? = some (wr ts j).2)
  | 0, _ => ⟨Pre.nil, rfl, rfl, rfl, fun i t _ _ => Nat.zero_le _, fun h => absurd h (by omega)⟩
  | j + 1, h => by
    obtain ⟨a, b, c, d, e, _⟩ := wr_ok m hj j (by omega)
    have ht := List.getElem?_eq_getElem (l := ts) (i := j) (by omega)
    have eD : ts.getD j 0 = ts[j]'(by omega) := by rw [List.getD_eq_getElem?_getD, ht]; rfl
    have h1 := hj j _ ht
    have h2 := e j _ ht (Nat.le_refl _)
    have e1 : wr ts (j + 1) = ((wr ts j).1 ++ List.replicate (ts[j]'(by omega) - (wr ts j).2) true ++ [false], ts[j]'(by omega)) := by rw [wr, eD]
    rw [e1]
    generalize ts[j]'(by omega) = t at ht h1 h2 e1
    have t1 : tks ((wr ts j).1 ++ List.replicate (t - (wr ts j).2) true) = t := by rw [tks_app, tks_rep, b]; omega
    have t2 : fls ((wr ts j).1 ++ List.replicate (t - (wr ts j).2) true) = j := by rw [fls_app, fls_rep, c]; rfl
    refine ⟨(a.reps _).snoc (by rw [fls_f, tks_f, t1, t2]; omega), by rw [tks_f, t1], by rw [fls_f, t2], ?_, fun i u hu hi => mono_at m (by omega) ht hu, fun _ => ht⟩
    rw [times_f, times_reps, d, t1, take_snoc ht]
def wrote (ts : List Nat) : Pat := (wr ts ts.length).1
theorem wrote_ok {ts : List Nat} (m : ts.Pairwise (· ≤ ·)) (hj : ∀ (j t : Nat), ts[j]? = some t → j < t ∧ t ≤ ts.length) : Good (wrote ts) ∧ tks (wrote ts) = ts.length ∧ times (wrote ts) = ts ∧ (wr ts ts.length).2 = ts.length := by
  obtain ⟨a, b, c, d, e, f⟩ := wr_ok m (fun j t h => (hj j t h).1) ts.length (Nat.le_refl _)
  have z : (wr ts ts.length).2 = ts.length := by
    by_cases q : ts.length = 0
    · rw [q]; rfl
    · have g := f (by omega)
      have := hj _ _ g
      omega
  refine ⟨⟨a, ?_⟩, ?_, ?_, z⟩
  · show fls (wr ts ts.length).1 = tks (wr ts ts.length).1
    rw [b, c, z]
  · show tks (wr ts ts.length).1 = _
    rw [b, z]
  · show times (wr ts ts.length).1 = _
    rw [d, List.take_length]
/-- bounds and times: the pattern written leads to the fills -/
theorem wrote_leads {tk fs : List Int} {ts : List Nat} (nd : tk.Nodup) (p : fs.Perm tk) (m : ts.Pairwise (· ≤ ·)) (hl : fs.length = ts.length) (h : ∀ (j t : Nat), ts[j]? = some t → lo tk fs j ≤ t ∧ t ≤ hi tk fs j) :
    Good (wrote ts) ∧ tks (wrote ts) = tk.length ∧ fillsOf tk (wrote ts) = fs ∧ times (wrote ts) = ts ∧ (wr ts ts.length).2 = ts.length := by
  have hp := p.length_eq
  obtain ⟨a, b, c, d⟩ := wrote_ok m fun j t e => by
    have h1 := h j t e
    have hj := (List.getElem?_eq_some_iff.mp e).1
    have h2 := lo_ge nd p (show j < fs.length by omega)
    have h3 := hi_le tk fs j
    omega
  have e : tks (wrote ts) = tk.length := by omega
  refine ⟨a, e, ?_, c, d⟩
  have l1 := lead_of nd a e
  rw [c] at l1
  exact lead_unique l1 ((inB_of hl h).lead nd p)
/-- what is known of the pair that a pattern leads to -/
theorem pair_ok {tk : List Int} {l : Pat} (nd : tk.Nodup) (g : Good l) (hn : tks l = tk.length) : (fillsOf tk l).Perm tk ∧ NoObs tk (fillsOf tk l) ∧ ∀ j t, (times l)[j]? = some t → lo tk (fillsOf tk l) j ≤ t ∧ t ≤ hi tk (fillsOf tk l) j := by
  have p := fills_perm g hn
  obtain ⟨t1, t2⟩ := times_all g.1
  have b := (lead_of nd g hn).inB nd p
  exact ⟨p, b.noObs t2 p, fun j t e => InB_within b t2 (fun u hu => by obtain ⟨i, e⟩ := List.mem_iff_getElem?.mp hu; have := (t1 i u e).2; omega) e⟩
end LQ

/-! defs that may be run only where no repr is under way: the promise FnG beside FnOk; repr of data -/
namespace LG
open PySem PySem.Spec PyProof.Rows L2
structure FnG (P : Program) (w : World) (K : PySem.W.Frag) (mg : Str → Option Value) (base : Heap) (CX : CXT) (k : Nat) (f : Addr) (fd : FuncData) (ps : List Str) (sp : Sp) : Prop where
  arity : ∀ vs H Q E, sp vs H Q E → vs.length = ps.length
  does : ∀ (A : Around) (out : List Env) (s : Shared) (H : Hp) (ar : Args) (us : List Value) (vs : List V) (Q : VK) (E : XK), A.guards = some [] →
    Room k A → Env0 P w K mg base A out s H → BindsTo s fd ar (ps.zip us) → Vals vs us → sp vs H Q E → codeAny (model P w) A (.call (.ref f) ar) (CR CX out P w H s Q E) s
section
variable {P : Program} {w : World} {K : PySem.W.Frag} {mg : Str → Option Value} {base : Heap} {CX : CXT}
theorem FnG.up {j k : Nat} {f : Addr} {fd : FuncData} {ps : List Str} {sp : Sp} (F : FnG P w K mg base CX j f fd ps sp) (h : j ≤ k) : FnG P w K mg base CX k f fd ps sp :=
  ⟨F.arity, fun A out s H ar us vs Q E hg hr => F.does A out s H ar us vs Q E hg (hr.mono h)⟩
theorem fnG_of {k : Nat} {f : Addr} {name qual : Str} {params : Arguments} {body : List Stmt} {scope : Scope} {dV kV doc pm cdv ct oc : Value} {an od : Option Addr} {osl : Array (Option Value)} {N ps : List Str} {sp : Sp}
    (lk : K.lookup f = some ⟨oc, od, .func (PySem.W.fnOf name qual params body scope dV kV doc pm an cdv ct), osl⟩) (cd : PySem.W.codeIn K cdv qual = true) (S : FnScope N ps scope) (ar : ∀ vs H Q E, sp vs H Q E → vs.length = ps.length)
    (hb : ∀ (A : Around) (out : List Env) (s : Shared) (H : Hp) (vs : List V) (Q : VK) (E : XK), A.guards = some [] → Room k (A.deeper (envOfC qual scope s.heap.objs.size f cdv)) → sp vs H Q E →
      ∃ t, PSs (cxOf CX P w K mg base N qual scope f cdv A out s H E) body t ∧ t ⟨fun _ H1 => Q .non H1, Q, fun _ _ => False, fun _ _ => False⟩ (start N vs) H) :
    FnG P w K mg base CX (k + 1) f (PySem.W.fnOf name qual params body scope dV kV doc pm an cdv ct) ps sp := by
  constructor
  · exact ar
  intro A out s H args us vs Q E hgd hr e0 bnd rel want
  obtain ⟨t, der, wish⟩ := hb A out s H vs Q E hgd (hr.deeper _) want
  have old := fun b o (e : base.get? b = some o) => (e0.bs b o e).1
  have kin : K.In s.heap := e0.mod.kin.keeps old
  have slots : ∀ y ∈ ps.zip us, scope.names.lookup y.1 = some .local ∨ scope.names.lookup y.1 = some .cell ∧ ((cellsFrom (s.heap.objs.size + 1) scope.names []).lookup y.1).isSome = true := by
    rintro ⟨nm, v⟩ mem
    have z := S.par nm (List.of_mem_zip mem).1
    exact z.imp id fun c => ⟨c, PySem.W.cellsFrom_some _ _ _ (Or.inl c)⟩
  apply codeAny_call_function hr.depth (kin _ _ lk) rfl S.co S.gen rfl (PySem.W.codeRec_of kin cd)
  apply bnd
  apply wpAny_newFunctionEnv_cells S.kind slots
  rintro env rfl s1 inC
  refine ⟨(e0.mod.nolimit.keeps old).keeps inC.toInCall.keep, ?_⟩
  apply codeAny_func
  have J := inv_start (CX := CX) (E := E) S hr.hd e0 (ar _ _ _ _ want) rel inC
  apply wpAny_mono (der.run [] s1 (start N vs) H _ J wish)
  · intro fl s2 got
    cases fl with
    | next => obtain ⟨σ2, H2, J2, q⟩ := got; exact ⟨V.non, H2, J2.os, J2.bare, J2.base, J2.hok, rfl, q⟩
    | ret u => obtain ⟨v, σ2, H2, J2, rv, q⟩ := got; exact ⟨v, H2, J2.os, J2.bare, J2.base, J2.hok, rv, q⟩
    | brk => obtain ⟨_, _, _, q⟩ := got; exact q.elim
    | cont => obtain ⟨_, _, _, q⟩ := got; exact q.elim
  · exact fun _ _ z => z
/-- a def of the text by its body, where nothing is raised -/
theorem okG {x qual : Str} {st : Stmt} {f : Addr} {fd : FuncData} {N ps : List Str} {k : Nat} {sp : Sp} (F : Fun K x qual st f fd) (S : FnScope N ps (defScope st)) (ar : ∀ vs H Q E, sp vs H Q E → vs.length = ps.length)
    (hb : ∀ (cdv : Value) (A : Around) (out : List Env) (s : Shared) (H : Hp) (vs : List V) (Q : VK) (E : XK), A.guards = some [] → Room k (A.deeper (envOfC qual (defScope st) s.heap.objs.size f cdv)) → sp vs H Q E →
      ∃ t, PSs (cxOf CX0 P w K mg base N qual (defScope st) f cdv A out s H E).nox (defBody st) t ∧ t ⟨fun _ H1 => Q .non H1, Q, fun _ _ => False, fun _ _ => False⟩ (start N vs) H) : FnG P w K mg base CX0 (k + 1) f fd ps sp := by
  obtain ⟨oc, od, kV, doc, pm, an, cdv, ct, osl, rfl, lk, cd⟩ := F.ex
  refine fnG_of lk cd S ar fun A out s H vs Q E hgd hr want => ?_
  obtain ⟨t, der, wish⟩ := hb cdv A out s H vs Q E hgd hr want
  exact ⟨t, der.nox, wish⟩
theorem of_ok {k : Nat} {f : Addr} {fd : FuncData} {ps : List Str} {sp : Sp} (F : FnOk P w K mg base CX k f fd ps sp) : FnG P w K mg base CX k f fd ps sp :=
  ⟨F.len, fun A out s H ar us vs Q E _ hr => F.run A out s H ar us vs Q E hr⟩
end
section
variable {X : Cx} {CX : CXT} {k : Nat} {f : Addr} {fd : FuncData} {ps : List Str} {sp : Sp} {dvs : List V} {ds : List Value} {E : XK} {x : Str} {p pos : Pos} {e : Expr} {es : List Expr} {t : TA}
/-- f(e, ..), f such a def -/
theorem pe_callG (F : FnG X.prog X.w X.K X.mg X.base CX k f fd ps sp) (hgd : X.A.guards = some []) (hr : Room k X.A) (hg : Gl X x) (hm : X.mg x = some (.ref f)) (hk : PySem.W.keepIn X.K (.ref f) = true) (hb : Binds X.K fd ps ds) (hd : Vals dvs ds) (hx : Passes CX X E)
    (ha : PA X (e :: es) t) (hdb : (x == ("__debug__" : Str)) = false := by decide) (he : starEach (e :: es) X.env = (false, eval e X.env) :: starEach es X.env := by rfl) (hpl : (backTo pos (starEach es X.env)).any (·.1) = false := by rfl) :
    PE X (.Call (.Name x p) (e :: es) [] pos) (tCall sp dvs E t) := by
  constructor
  intro pins s σ H Q I want
  apply wpAny_Call_Name_kw (ld_glob I hg hm _ hdb)
  apply PySem.W.callWith_K (h₀ := X.base) I.ok.mod.kin hk (thn (ha.run pos pins s σ H _ I want) _) he hpl
  rintro us s1 ⟨vs, H1, J, rel, q⟩
  have rel2 : Vals (vs ++ dvs) (us ++ ds) := rel.append hd
  have len : (us ++ ds).length = ps.length := rel2.length.symm.trans (F.arity _ _ _ _ q)
  refine ⟨J.kIn, wpAny_call (codeAny_mono (F.does X.A X.stack s1 H1 ⟨us, []⟩ _ _ Q E hgd hr J.env0 (hb s1 us J.kIn len) rel2 q) ?_)⟩
  intro r s2 got
  match r, got with
  | .error err, got => exact hx pins σ H1 s1 err s2 J got
  | .ok (.ret u), got => exact J.after got
  | .ok .next, got => exact got.elim
  | .ok .brk, got => exact got.elim
  | .ok .cont, got => exact got.elim
/-- repr of a list or a tuple of data -/
def rRepr (K : PySem.W.Frag) : List V → Hp → VK → Prop := fun xs H Q => ∃ (a : Addr) (d : PyData), xs = [.ref a] ∧ Dp K H (.ref a) d ∧ d.showable = true ∧ SeqAt.shaped d = true ∧ d.shown.length ≤ sizeLine ∧ Q (.str d.shown) H
theorem call_repr (hgd : X.A.guards = some []) (hu : X.A.units + 66 < cLine) : CallR X (.builtin "repr") (rRepr X.K) := by
  rintro pins s σ H xs us Q I rel ⟨a, d, rfl, hd, sh, sp, len, q⟩
  obtain ⟨u, rfl, ru⟩ := vals1 rel
  obtain ⟨as, rd⟩ := Dp.reads I d (.ref a) u hd ru
  cases ru
  have dep := SeqAt.depth_of_shaped sp
  refine repr_of_reads' rd sh (PyData.noDict_hsm (PyData.hasDict_of_canLay d (SeqAt.canLay_of_shaped sp))) hgd (by omega) (fun _ _ z => z) (fun h1 u1 tk keep => ?_) len
  exact ⟨.str d.shown, H, I.kept keep, ⟨_, rfl⟩, q⟩
end
/-! the end of a law's row -/
theorem law_callG {P : Program} {w : World} {K : PySem.W.Frag} {mg mb : Str → Option Value} {k : Nat} {fa a : Addr} {fd : FuncData} {x : Str} {sp : Sp} {s : Shared} {vs : List Value} {ns : List Int}
    (kin : K.In s.heap) (gns : s.heap.Ns mainGlobals mg) (bns : s.heap.Ns builtinsNs mb) (hbb : ∀ x : Str, x ≠ "__name__" → mb x = bootBuiltins x) (lim : s.heap.NoLimit) (gens : s.gens = #[])
    (obj : s.heap.get? a = some { cls := .type "list", data := .seq vs.toArray }) (hin : IntsAre vs ns) (len : ns.length ≤ sizeLine) (hr : Room k callerA)
    (F : ∀ base : Heap, K.In base → base.Ns mainGlobals mg → FnG P w K mg base CX0 k fa fd [x] sp) (bnd : ∀ (s : Shared) (u : Value), BindsTo s fd ⟨[u], []⟩ [(x, u)])
    (want : ∀ H : Hp, Only H → SqL K H a (ns.map V.int) → sp [.ref a] H (fun v _ => v = .bl true) fun _ _ _ => False) :
    codeAny (model P w) callerA (.call (.ref fa) ⟨[.ref a], []⟩) (fun r s1 => r = .ok (.ret (.bool true)) ∧ OldK s.heap s1.heap ∧ s1.os = s.os ∧ AllBare s1.gens) s := by
  have rel := vals_ints hin
  have nlen := hin.length
  obtain ⟨H, hH⟩ : ∃ H : Hp, ∀ b, H b = if b = a ∧ K.lookup a = none then some (.frz { cls := .type "list", data := .seq vs.toArray } (.lst (ns.map V.int))) else none := ⟨_, fun b => rfl⟩
  have off : ∀ {b o}, s.heap.get? b = some o → (b = a → K.lookup a ≠ none) → H b = none := fun {b o} _ hne => by
    rw [hH, if_neg fun z => hne z.1 z.2]
  have at_ : ∀ b u, H b = some u → b = a ∧ K.lookup a = none ∧ u = .frz { cls := .type "list", data := .seq vs.toArray } (.lst (ns.map V.int)) := fun b u z => by
    rw [hH] at z
    by_cases c : b = a ∧ K.lookup a = none
    · rw [if_pos c] at z; exact ⟨c.1, c.2, (Option.some.inj z).symm⟩
    · rw [if_neg c] at z; cases z
  have only : Only H := fun b => by
    cases z : H b with
    | none => exact Or.inl rfl
    | some u => obtain ⟨_, _, rfl⟩ := at_ b u z; exact Or.inr ⟨_, _, rfl⟩
  have seq : SqL K H a (ns.map V.int) := by
    cases z : K.lookup a with
    | none => exact Or.inl (Or.inr ⟨_, by rw [hH, if_pos ⟨rfl, z⟩]⟩)
    | some o =>
      have e := kin a o z
      rw [obj] at e
      cases e
      exact Or.inr ⟨_, vs.toArray, _, z, rfl, rfl, rfl, by rw [List.size_toArray, nlen]; exact len, by simpa using rel⟩
  have hok : HOk P w H s.heap := fun b u z => by
    obtain ⟨rfl, _, rfl⟩ := at_ b u z
    exact ⟨obj, by rw [List.length_map]; exact len, vs, _, rel, obj⟩
  have kept : ∀ {b o}, s.heap.get? b = some o → H b = none → (hidT s.heap H).get? b = some o := fun e z => hidT_get e z
  have dicts : ∀ {b o es n}, s.heap.get? b = some o → o.data = .dict es n → H b = none := fun {b o es n} e d => off e fun q => by
    rw [q, obj] at e
    cases e
    have d2 : Data.seq vs.toArray _ = Data.dict es n := d
    cases d2
  have names : ∀ {b m}, s.heap.Ns b m → (hidT s.heap H).Ns b m := fun ⟨o, es, n, e, d, r⟩ => ⟨o, es, n, kept e (dicts e d), d, r⟩
  have kin2 : K.In (hidT s.heap H) := fun b o e => kept (kin b o e) (off (kin b o e) fun q => by rw [← q, e]; exact fun z => nomatch z)
  have lim2 : (hidT s.heap H).NoLimit := let ⟨mc, l1, l2⟩ := lim; ⟨mc, names l1, l2⟩
  have e0 : Env0 P w K mg (hidT s.heap H) callerA [] s H := ⟨rfl, ⟨kin2, names gns, ⟨mb, names bns, hbb⟩, lim2⟩, fun b o e => of_hidT e, Nat.le_of_eq (hidT_size _ _), trivial, fun b m => (by cases (show b ∈ ([] : List Addr) from m)), hok, .of_eq gens⟩
  refine codeAny_mono ((F _ kin2 (names gns)).does callerA [] s H ⟨[.ref a], []⟩ [.ref a] [.ref a] _ _ rfl hr e0 (bnd s (.ref a)) (.cons rfl .nil) (want H only seq)) ?_
  intro r s1 got
  match r, got with
  | .error _, got => exact got.elim
  | .ok .next, got => exact got.elim
  | .ok .brk, got => exact got.elim
  | .ok .cont, got => exact got.elim
  | .ok (.ret u), got =>
    obtain ⟨v, H1, os, bare, un, hok1, ru, q⟩ := got
    cases (show v = .bl true from q)
    cases (show u = Value.bool true from ru)
    refine ⟨rfl, OldK.of_keep fun b o e => ?_, os, bare⟩
    cases z : H b with
    | none => exact un.keep b o e z (by intro y; cases (show b ∈ ([] : List Addr) from y)) (by simp)
    | some u =>
      obtain ⟨rfl, _, rfl⟩ := at_ b u z
      have y := un.frzs b _ _ z
      rw [obj] at e
      cases e
      exact (hok1 b _ y).1
theorem walk_ofG {l : PySem.W.OpenLaw} {n k : Nat} {q : Program} {loose : List Str} {XP : (Str → Option Value) → Heap → Prop} {YP : World → Heap → Prop} {d : DefRec} {K : Params → PySem.W.Frag} {sp : PySem.W.Frag → Sp} {x : Str}
    (hn : l.most = some n) (hn2 : n ≤ sizeLine) (hdf : d.params.defaults = []) (hr : Room k callerA) (hY : ∀ (w : World) (h : Heap), YP w h → (K w.params).In h)
    (F : ∀ (w : World) (mg : Str → Option Value) (fa : Addr) (h : Heap), (K w.params).In h → h.Ns mainGlobals mg → mg d.name = some (.ref fa) →
      ∃ fd : FuncData, (∀ (s : Shared) (u : Value), BindsTo s fd ⟨[u], []⟩ [(x, u)]) ∧ ∀ base : Heap, (K w.params).In base → base.Ns mainGlobals mg → FnG l.prog w (K w.params) mg base CX0 k fa fd [x] (sp (K w.params)))
    (want : ∀ (K : PySem.W.Frag) (H : Hp) (a : Addr) (ns : List Int), ns.length ≤ n → Only H → SqL K H a (ns.map V.int) → sp K [.ref a] H (fun v _ => v = .bl true) fun _ _ _ => False) :
    PySem.W.WalkO q loose XP YP l.row.toRowW d [] (fun f vs => PySem.call f vs) := by
  apply Att.attach_call hn hdf
  intro w s0 s1 mg mb fa o pm cd doc a vs ns G Y ho hd hcd hmg obj hin len gens
  have kin := hY w _ Y
  obtain ⟨fd, bnd, does⟩ := F w mg fa _ kin G.T.g hmg
  exact law_callG kin G.T.g G.T.b G.T.builtins G.T.nolimit gens obj hin (Nat.le_trans len hn2) hr does bnd fun H o q => want _ H a ns len o q
end LG

namespace LT
open PySem PySem.Spec PyProof.Rows L2
open Sem (wp)
open AutoSeq1 (wpAny_loadPart')
theorem meets_enum_tup (l : Addr) (items : Array Value) (n : Nat) (dct : Option Addr) (sl : Array (Option Value)) :
    Meets (Builtin.«enumerate.__new__» ⟨[.type "enumerate", .ref l], []⟩) (fun _ R s => s.heap.get? l = some { cls := .type "tuple", dict := dct, data := .seq items n, slots := sl } ∧
      R (.ok (.ret (.ref (s.heap.objs.size + 1))))
        { s with heap := (s.heap.push { cls := .type "tuple_iterator", data := .fields #[.ref l, .int 0 0] }).push { cls := .type "enumerate", data := .fields #[.none, .bool false, .ref s.heap.objs.size, rawInt 0, .none, .none] } }) :=
  .of_wp fun prog w A R s h => by
    obtain ⟨hp, g, d, tk, os⟩ := s
    obtain ⟨hl, h⟩ := h
    have sub := sub_enumerate
    have tup : Heap.IsTuple (Shared.heap ⟨hp, g, d, tk, os⟩) l items := ⟨_, hl, rfl, n, rfl⟩
    wp_walk using wpAny_loadPart' hl
    refine wpAny_stack_any fun st => wpAny_pure ?_
    have z : (hp.push { cls := .type "tuple_iterator", data := .fields #[.ref l, .int 0 0] }).objs.size = hp.objs.size + 1 := Heap.size_push ..
    split
    · rename_i c _ _ _ _ _
      cases (c == Value.type "enumerate")
      · wp_walk using wpAny_loadPart' hl, wpAny_pyIter_tuple tup
        exact ⟨_, rfl, by rw [z]; exact h⟩
      · wp_walk using wpAny_loadPart' hl, wpAny_pyIter_tuple tup
        exact ⟨_, rfl, by rw [z]; exact h⟩
    · wp_walk using wpAny_loadPart' hl, wpAny_pyIter_tuple tup
      exact ⟨_, rfl, by rw [z]; exact h⟩
section
variable {prog : Program} {w : World} {A : Around} {E : Value → Shared → Prop} {s : Shared}
theorem call_enum_tup {l : Addr} {items : Array Value} {Q : Value → Shared → Prop} (hl : s.heap.IsTuple l items)
    (h : ∀ h', IsEnum h' (s.heap.objs.size + 1) s.heap.objs.size 0 .none → h'.IsTupleIter s.heap.objs.size l 0 →
      (∀ b o, s.heap.get? b = some o → h'.get? b = some o) → Q (.ref (s.heap.objs.size + 1)) { s with heap := h' }) :
    wpAny (model prog w) A (call (.type "enumerate") [.ref l]) Q E s := by
  obtain ⟨⟨c, dct, dt, sl⟩, get, hc, n, hd⟩ := hl
  cases (show c = .type "tuple" from hc)
  cases (show dt = .seq items n from hd)
  refine callType_new F.called_enumerate (by decide) (F.typeCall_enumerate_1 _) (F.newCall_enumerate_1 _) (fun obj => F.args_object_init_2 obj _) F.entry_enumerate_new (meets_enum_tup l items n dct sl) ⟨get, ?_⟩
  have z : (s.heap.push { cls := .type "tuple_iterator", data := .fields #[.ref l, .int 0 0] }).objs.size = s.heap.objs.size + 1 := Heap.size_push ..
  have he := Heap.get?_push_size (s.heap.push { cls := .type "tuple_iterator", data := .fields #[.ref l, .int 0 0] }) (o := { cls := .type "enumerate", data := .fields #[.none, .bool false, .ref s.heap.objs.size, rawInt 0, .none, .none] }) rfl
  rw [z] at he
  exact ⟨⟨_, he, rfl⟩, h _ he ⟨_, Heap.get?_push_of_some _ (Heap.get?_push_size _ rfl), rfl, rfl⟩ fun b o x => Heap.get?_push_of_some _ (Heap.get?_push_of_some _ x)⟩
end
/-- the tuple at a, each item in a new pair with its place -/
def IteT (K : PySem.W.Frag) (a : Addr) : It :=
  ⟨fun i H => ∃ (xs : List V) (x : V), SqT K H a xs ∧ xs[i]? = some x, fun i H v H' => ∃ T x, v = .ref T ∧ H T = none ∧ H' = upd H T (.tup [.int (i : Nat), x]) ∧ ∀ xs, SqT K H a xs → xs[i]? = some x, fun i H => ∃ xs : List V, SqT K H a xs ∧ xs.length = i⟩
theorem apart_it {h : Heap} {it a : Addr} {i : Nat} {items : Array Value} (x : h.IsTupleIter it a i) (p : h.IsTuple a items) : a ≠ it := by
  rintro rfl
  obtain ⟨o, g, c, _⟩ := x
  obtain ⟨o2, g2, c2, _⟩ := p
  rw [g] at g2
  cases g2
  rw [c] at c2
  exact absurd c2 (by decide)
theorem turn_enumT {P : Program} {w : World} {K : PySem.W.Frag} {elts : List Expr} {kk : Nat} {tpos : Pos} (a e it : Addr) :
    Turn P w K (.Tuple elts kk tpos) (IteT K a) [e, it] e (fun i h => (∃ old, IsEnum h e it ((i : Nat) : Int) old) ∧ h.IsTupleIter it a i ∧ e ≠ it) where
  mem := List.mem_cons_self
  obj := fun i h ⟨⟨old, he⟩, ⟨o, ho, _, hd⟩, _⟩ b hb => by
    rcases List.mem_cons.mp hb with rfl | hb
    · exact ⟨_, he, fun v q => by cases q⟩
    · rw [List.mem_singleton.mp hb]; exact ⟨o, ho, fun v q => by rw [hd] at q; cases q⟩
  keep := fun i h h' ⟨⟨old, he⟩, hi, ne⟩ k => ⟨⟨old, k e List.mem_cons_self _ he⟩, hi.at fun o q => k it (List.mem_cons_of_mem _ List.mem_cons_self) o q, ne⟩
  item := by
    intro X hP hw hK hc i pins s σ H E I hf ⟨⟨old, he⟩, hit, ne⟩ ⟨xs, x, hq, hx⟩
    subst hP hw hK
    obtain ⟨its, rv, p, hz⟩ := I.tuple hq
    have tup : s.heap.IsTuple a its.toArray := p
    obtain ⟨u, hu, ru⟩ := rv.get hx
    have hi : i < its.toArray.size := by
      have := (List.getElem?_eq_some_iff.mp hu).1
      simpa using this
    have nai := apart_it hit tup
    have nea : e ≠ a := by
      rintro rfl
      obtain ⟨o2, g2, c2, _⟩ := tup
      rw [show s.heap.get? e = _ from he] at g2
      cases g2
      have c3 : Value.type "enumerate" = Value.type "tuple" := c2
      exact absurd c3 (by decide)
    have lte : e < s.heap.objs.size := Heap.lt_size he
    have lti : it < s.heap.objs.size := let ⟨_, q, _⟩ := hit; Heap.lt_size q
    refine wpAny_pyNext_enum_itemD (Draws.tuple (A := X.A.in1) (show X.A.in1.handled = none from I.ok.hd hc) it a nai its.toArray) he ⟨hit, tup⟩ hi ne (by simp [ne, nea]) fun y h1 tk hy out st new sz kept => ?_
    have ey : y = u := by
      have q : its.toArray[i]? = some u := by simpa using hu
      rw [q] at hy; exact (Option.some.inj hy).symm
    subst ey
    refine ⟨_, rfl, wpAny_letOwnedTupleGo_enum (s := { s with heap := h1, toks := tk + 1 }) out fun h2 he2 sb => ?_⟩
    have new2 := (sb.2 _ (Nat.ne_of_gt lte)).trans new
    have ob : ObjOk X.prog X.w (upd H s.heap.objs.size (.tup [.int (i : Nat), x])) h2 s.heap.objs.size (.tup [.int (i : Nat), x]) :=
      ⟨by show 2 ≤ sizeLine; decide, [.int i tk, y], .cons ⟨_, rfl⟩ (.cons ru .nil), ⟨_, new2, rfl, _, rfl⟩⟩
    have J : Inv X pins σ (upd H s.heap.objs.size (.tup [.int (i : Nat), x])) { s with heap := h2, toks := tk + 1 } :=
      I.turnedNew (ch := [e, it]) (fun b o nb q => (sb.2 b fun z => nb (by simp [z])).trans (kept b o (fun z => nb (by simp [z])) (fun z => nb (by simp [z])) q)) hf (Nat.le_refl _) ob
    refine ⟨.ref s.heap.objs.size, _, J, rfl, ⟨_, x, rfl, I.hok.fresh (Nat.le_refl _), rfl, fun ys hy => by rw [I.tuple_inj hy hq]; exact hx⟩, ⟨⟨y, ?_⟩, st.1.at fun o q => (sb.2 it ne.symm).trans q, ne⟩, fun b hb => ?_⟩
    · rw [show ((i + 1 : Nat) : Int) = (i : Int) + 1 by omega]; exact he2
    · have lt : b < s.heap.objs.size := by
        rcases List.mem_cons.mp hb with rfl | hb
        · exact lte
        · rw [List.mem_singleton.mp hb]; exact lti
      rw [upd_ne (Nat.ne_of_lt lt)]
      exact (hf b hb).1
  done := by
    intro X hP hw hK hc i pins s σ H E I hf ⟨⟨old, he⟩, hit, ne⟩ ⟨xs, hq, hx⟩
    subst hP hw hK
    obtain ⟨its, rv, p, hz⟩ := I.tuple hq
    have tup : s.heap.IsTuple a its.toArray := p
    have nai := apart_it hit tup
    have hl := rv.length
    have ei : i = its.toArray.size := by rw [List.size_toArray, ← hl]; exact hx.symm
    subst ei
    obtain ⟨f0, f1, f2, f3, f4, f5⟩ := hf it (by simp)
    exact wpAny_pyNext_enum_endD (Draws.tuple (A := X.A.in1) (show X.A.in1.handled = none from I.ok.hd hc) it a nai its.toArray) he ⟨hit, tup⟩ fun h1 eb => ⟨rfl, I.turned (t' := s.toks) (fun b o nb q => eb b o nb q) f0 f1 f3 f4 f5⟩
  self := fun A i s Q E ⟨⟨_, he⟩, _⟩ h => wpAny_pyIter_enum he h
def iEnumT (K : PySem.W.Frag) (ta : TA) : TI := fun σ H R => ta σ H fun vs H1 => ∃ a xs, vs = [.ref a] ∧ SqT K H1 a xs ∧ R (IteT K a) H1
/-- enumerate(t), t a tuple -/
theorem pi_enumT {X : Cx} {e : Expr} {ta : TA} {p pos tpos : Pos} {elts : List Expr} {kk : Nat} (hg : Gl X "enumerate") (hm : X.mg "enumerate" = none) (ha : PA X [e] ta) (hs : starEach [e] X.env = [(false, eval e X.env)] := by rfl) :
    PI X (.Tuple elts kk tpos) (.Call (.Name "enumerate" p) [e] [] pos) (iEnumT X.K ta) := by
  constructor
  intro pins s σ H R I want
  refine Call_ (ld_blt I hg hm boot_enumerate (PyProof.Rows.callWith_type1 (thn (ha.run pos pins s σ H _ I want) ?_) hs rfl))
  rintro us s1 ⟨vs, H1, J, rel, a, xs, rfl, hq, q⟩
  obtain ⟨u, rfl, ru⟩ := vals1 rel
  cases ru
  obtain ⟨its, rv, p2, hz⟩ := J.tuple hq
  refine call_enum_tup p2 fun h1 he hit keep => wpAny_pyIter_enum he ?_
  have J2 : Inv X pins σ H1 { s1 with heap := h1 } := J.kept (t' := s1.toks) keep
  refine ⟨s1.heap.objs.size + 1, [s1.heap.objs.size + 1, s1.heap.objs.size], _, _, H1, rfl, J2, turn_enumT a _ _, ⟨⟨.none, he⟩, hit, Nat.succ_ne_self _⟩, fun b hb => ?_, q⟩
  have le : s1.heap.objs.size ≤ b := by
    rcases List.mem_cons.mp hb with rfl | hb
    · exact Nat.le_add_right _ _
    · rw [List.mem_singleton.mp hb]; exact Nat.le_refl _
  exact J.fpOk le (J.hok.fresh le)
theorem walk_enumT {K : PySem.W.Frag} {a : Addr} {xs : List V} : Walk (IteT K a) xs.length (fun H => SqT K H a xs) (YPair (fun i => some (.int (i : Nat))) (fun i => xs[i]?)) := by
  refine ⟨fun i _ hi q => ⟨xs, xs[i], q, by simp [hi]⟩, fun _ q => ⟨xs, q, rfl⟩, fun i H v H' _ q y => ?_⟩
  obtain ⟨T, x, h1, h2, h3, h4⟩ := y
  exact ⟨T, .int (i : Nat), x, h1, h2, h3, rfl, h4 xs q⟩
/-- two derivations of one expression: either reading serves -/
theorem PE.or {X : Cx} {e : Expr} {t u : TE} (h1 : PE X e t) (h2 : PE X e u) : PE X e (fun σ H Q => t σ H Q ∨ u σ H Q) :=
  ⟨fun pins s σ H Q I w => w.elim (h1.run pins s σ H Q I) (h2.run pins s σ H Q I)⟩
theorem PI.or {X : Cx} {tg e : Expr} {t u : TI} (h1 : PI X tg e t) (h2 : PI X tg e u) : PI X tg e (fun σ H R => t σ H R ∨ u σ H R) :=
  ⟨fun pins s σ H R I w => w.elim (h1.run pins s σ H R I) (h2.run pins s σ H R I)⟩
end LT

namespace LT
open PySem PySem.Spec PyProof.Rows L2
/-- zip of the tuple at a and the list at b, as many turns as both have -/
def ItzTL (K : PySem.W.Frag) (a b : Addr) : It :=
  ⟨fun i H => ∃ (xs ys : List V) (x y : V), SqT K H a xs ∧ SqL K H b ys ∧ xs[i]? = some x ∧ ys[i]? = some y,
    fun i H v H' => ∃ T x y, v = .ref T ∧ H T = none ∧ H' = upd H T (.tup [x, y]) ∧ (∀ xs, SqT K H a xs → xs[i]? = some x) ∧ ∀ ys, SqL K H b ys → ys[i]? = some y,
    fun i H => ∃ xs ys : List V, SqT K H a xs ∧ SqL K H b ys ∧ xs.length = i ∧ ys.length = i⟩
theorem sep_tl {z TI TO i1 i2 a b : Addr} (D : ZipApart z TI TO i1 i2 a b) : ZipSep2 z TI TO i1 i2 [i1, a] [i2, b] where
  TIz := D.TIz
  TOz := D.TOz
  TITO := D.TITO
  TIi1 := D.TIi1
  mem1 := List.mem_cons_self
  zf1 := by simp [D.i1z.symm, D.l1z.symm]
  Tf1 := by simp [D.TOi1, D.l1TO.symm]
  TIi2 := D.TIi2
  mem2 := List.mem_cons_self
  zf2 := by simp [D.i2z.symm, D.l2z.symm]
  Tf2 := by simp [D.TOi2, D.l2TO.symm]
  sep1_2 := by simp [D.i12, D.l2i1.symm]
  sep2_1 := by simp [D.i12.symm, D.l1i2.symm]
theorem turn_zipTL {P : Program} {w : World} {K : PySem.W.Frag} {elts : List Expr} {kk : Nat} {tpos : Pos} {a b z TI TO i1 i2 : Addr} (D : ZipApart z TI TO i1 i2 a b) :
    Turn P w K (.Tuple elts kk tpos) (ItzTL K a b) [z, TI, TO, i1, i2] z (fun i h => IsZip h z TI TO .none ∧ IsTupOf2 h TI (.ref i1) (.ref i2) ∧ (∃ x y, IsTupOf2 h TO x y) ∧ h.IsTupleIter i1 a i ∧ h.IsListIter i2 b i) where
  mem := List.mem_cons_self
  obj := fun i h ⟨hz, hTI, ⟨x, y, hTO⟩, ⟨o1, e1, _, d1⟩, ⟨o2, e2, _, d2⟩⟩ c hc => by
    simp only [List.mem_cons, List.not_mem_nil, or_false] at hc
    rcases hc with rfl | rfl | rfl | rfl | rfl
    · exact ⟨_, hz, fun v q => by cases q⟩
    · exact ⟨_, hTI, fun v q => by cases q⟩
    · exact ⟨_, hTO, fun v q => by cases q⟩
    · exact ⟨o1, e1, fun v q => by rw [d1] at q; cases q⟩
    · exact ⟨o2, e2, fun v q => by rw [d2] at q; cases q⟩
  keep := fun i h h' ⟨hz, hTI, ⟨x, y, hTO⟩, h1, h2⟩ k =>
    ⟨k z (by simp) _ hz, k TI (by simp) _ hTI, ⟨x, y, k TO (by simp) _ hTO⟩, h1.at fun o q => k i1 (by simp) o q, h2.at fun o q => k i2 (by simp) o q⟩
  item := by
    intro X hP hw hK hc i pins s σ H E I hf ⟨hz, hTI, ⟨x0, y0, hTO⟩, h1, h2⟩ ⟨xs, ys, x, y, qx, qy, hx, hy⟩
    subst hP hw hK
    obtain ⟨its, rv, p, _⟩ := I.tuple qx
    obtain ⟨its2, rv2, p2, _⟩ := I.list qy
    have tup : s.heap.IsTuple a its.toArray := p
    obtain ⟨u, hu, ru⟩ := rv.get hx
    obtain ⟨u2, hu2, ru2⟩ := rv2.get hy
    have li : i < its.toArray.size := by have := (List.getElem?_eq_some_iff.mp hu).1; simpa using this
    have li2 : i < its2.toArray.size := by have := (List.getElem?_eq_some_iff.mp hu2).1; simpa using this
    have hh : X.A.in1.handled = none := I.ok.hd hc
    have ltz : z < s.heap.objs.size := Heap.lt_size hz
    refine wpAny_pyNext_zipD2_item (sep_tl D) (Draws.tuple hh i1 a D.l1i1 its.toArray) (Draws.list hh i2 b D.l2i2 its2.toArray) hz hTI hTO ⟨h1, tup⟩ ⟨h2, p2.isList⟩ li li2 fun v1 v2 h3 tk y1 y2 z3 TO3 st1 st2 new sz kept => ?_
    have ev1 : v1 = u := by
      have q : its.toArray[i]? = some u := by simpa using hu
      rw [q] at y1; exact (Option.some.inj y1).symm
    have ev2 : v2 = u2 := by
      have q : its2.toArray[i]? = some u2 := by simpa using hu2
      rw [q] at y2; exact (Option.some.inj y2).symm
    subst ev1 ev2
    refine ⟨_, rfl, wpAny_letOwnedTupleGo_zip (s := { s with heap := h3, toks := tk }) z3 fun h4 z4 sb => ?_⟩
    have new4 := (sb.2 _ (Nat.ne_of_gt ltz)).trans new
    have ob : ObjOk X.prog X.w (upd H s.heap.objs.size (.tup [x, y])) h4 s.heap.objs.size (.tup [x, y]) :=
      ⟨by show 2 ≤ sizeLine; decide, [v1, v2], .cons ru (.cons ru2 .nil), ⟨_, new4, rfl, _, rfl⟩⟩
    have J : Inv X pins σ (upd H s.heap.objs.size (.tup [x, y])) { s with heap := h4, toks := tk } :=
      I.turnedNew (ch := [z, TI, TO, i1, i2]) (fun c o nb q => (sb.2 c fun e => nb (by simp [e])).trans (kept c o (fun e => nb (by simp [e])) (fun e => nb (by simp [e])) (fun e => nb (by simp [e])) (fun e => nb (by simp [e])) q)) hf (Nat.le_refl _) ob
    refine ⟨.ref s.heap.objs.size, _, J, rfl, ⟨_, x, y, rfl, I.hok.fresh (Nat.le_refl _), rfl, fun l hl => by rw [I.tuple_inj hl qx]; exact hx, fun l hl => by rw [I.list_inj hl qy]; exact hy⟩, ⟨z4, ?_, ⟨v1, v2, ?_⟩, ?_, ?_⟩, fun c hm => ?_⟩
    · exact (sb.2 _ D.TIz).trans (kept _ _ D.TIz D.TITO D.TIi1 D.TIi2 hTI)
    · exact (sb.2 _ D.TOz).trans TO3
    · exact st1.1.at fun o q => (sb.2 _ D.i1z).trans q
    · exact st2.1.at fun o q => (sb.2 _ D.i2z).trans q
    · have lt : c < s.heap.objs.size := by
        have hm2 := hm
        simp only [List.mem_cons, List.not_mem_nil, or_false] at hm2
        rcases hm2 with rfl | rfl | rfl | rfl | rfl
        · exact ltz
        · exact Heap.lt_size hTI
        · exact Heap.lt_size hTO
        · obtain ⟨_, e1, _⟩ := h1; exact Heap.lt_size e1
        · obtain ⟨_, e2, _⟩ := h2; exact Heap.lt_size e2
      rw [upd_ne (Nat.ne_of_lt lt)]
      exact (hf c hm).1
  done := by
    intro X hP hw hK hc i pins s σ H E I hf ⟨hz, hTI, ⟨x0, y0, hTO⟩, h1, h2⟩ ⟨xs, ys, qx, qy, e1, e2⟩
    subst hP hw hK
    obtain ⟨its, rv, p, _⟩ := I.tuple qx
    obtain ⟨its2, rv2, p2, _⟩ := I.list qy
    have tup : s.heap.IsTuple a its.toArray := p
    have n1 : i = its.toArray.size := by rw [List.size_toArray, ← rv.length]; exact e1.symm
    have n2 : i = its2.toArray.size := by rw [List.size_toArray, ← rv2.length]; exact e2.symm
    have hh : X.A.in1.handled = none := I.ok.hd hc
    exact wpAny_pyNext_zipD2_end (sep_tl D) (Draws.tuple hh i1 a D.l1i1 its.toArray) (Draws.list hh i2 b D.l2i2 its2.toArray) hz hTI hTO ⟨h1, tup⟩ ⟨h2, p2.isList⟩ (Nat.le_of_eq n1) (Nat.le_of_eq n2) (.inl n1) fun h3 tk kept =>
      ⟨rfl, I.turnedL (ch := [z, TI, TO, i1, i2]) (fun c o nb q => kept c o (fun e => nb (by simp [e])) (fun e => nb (by simp [e])) (fun e => nb (by simp [e])) (fun e => nb (by simp [e])) q) hf⟩
  self := fun A i s Q E st h => wpAny_pyIter_zip st.1 h
def iZipTL (K : PySem.W.Frag) (ta : TA) : TI := fun σ H R => ta σ H fun vs H1 => ∃ a b xs ys, vs = [.ref a, .ref b] ∧ SqT K H1 a xs ∧ SqL K H1 b ys ∧ R (ItzTL K a b) H1
theorem pi_zipTL {X : Cx} {e e2 : Expr} {ta : TA} {p pos tpos : Pos} {elts : List Expr} {kk : Nat} (hg : Gl X "zip") (hm : X.mg "zip" = none) (ha : PA X [e, e2] ta)
    (hs : starEach [e, e2] X.env = (false, eval e X.env) :: starEach [e2] X.env := by rfl) (hpl : (backTo pos (starEach [e2] X.env)).any (·.1) = false := by rfl) :
    PI X (.Tuple elts kk tpos) (.Call (.Name "zip" p) [e, e2] [] pos) (iZipTL X.K ta) := by
  constructor
  intro pins s σ H R I want
  refine Call_ (ld_blt I hg hm PyProof.Rows.boot_zip (PyProof.Rows.callWith_type1 (thn (ha.run pos pins s σ H _ I want) ?_) hs hpl))
  rintro us s1 ⟨vs, H1, J, rel, a, b, xs, ys, rfl, qx, qy, q⟩
  obtain ⟨u1, u2, rfl, r1, r2⟩ := vals2 rel
  cases r1
  cases r2
  obtain ⟨its, rv, p1, _⟩ := J.tuple qx
  obtain ⟨its2, rv2, p2, _⟩ := J.list qy
  have la : a < s1.heap.objs.size := let ⟨_, g, _⟩ := p1; Heap.lt_size g
  refine zip_begins2 (begins_tuple a its.toArray) (begins_list b its2.toArray) p1 p2.isList fun h' hz hTI hTO g1 g2 sz keep => wpAny_pyIter_zip hz ?_
  have J2 : Inv X pins σ H1 { s1 with heap := h' } := J.kept (t' := s1.toks) keep
  refine ⟨s1.heap.objs.size + 4, [s1.heap.objs.size + 4, s1.heap.objs.size + 2, s1.heap.objs.size + 3, s1.heap.objs.size, s1.heap.objs.size + 1], _, _, H1, rfl, J2, turn_zipTL (PySem.W.ktu_apart s1.heap.objs.size a b la p2.lt),
    ⟨hz, hTI, ⟨_, _, hTO⟩, ⟨_, g1, rfl, rfl⟩, ⟨_, g2, rfl, rfl⟩⟩, fun c hc => ?_, q⟩
  have le : s1.heap.objs.size ≤ c := by
    simp only [List.mem_cons, List.not_mem_nil, or_false] at hc
    rcases hc with rfl | rfl | rfl | rfl | rfl <;> first | exact Nat.le_add_right _ _ | exact Nat.le_refl _
  exact J.fpOk le (J.hok.fresh le)
theorem walk_zipTL {K : PySem.W.Frag} {a b : Addr} {xs ys : List V} (hl : xs.length = ys.length) : Walk (ItzTL K a b) xs.length (fun H => SqT K H a xs ∧ SqL K H b ys) (YPair (fun i => xs[i]?) (fun i => ys[i]?)) := by
  refine ⟨fun i _ hi q => ⟨xs, ys, xs[i], ys[i]'(by omega), q.1, q.2, by simp [hi], by simp [show i < ys.length by omega]⟩, fun _ q => ⟨xs, ys, q.1, q.2, rfl, hl.symm⟩, fun i H v H' _ q y => ?_⟩
  obtain ⟨T, x, y2, h1, h2, h3, h4, h5⟩ := y
  exact ⟨T, x, y2, h1, h2, h3, h4 xs q.1, h5 ys q.2⟩
end LT

namespace LT
open PySem PySem.Spec PyProof.Rows L2
section
variable {prog : Program} {w : World} {A : Around} {E : Value → Shared → Prop} {s : Shared}
/-- what is to be iterated is gathered into a new list; the heap does not get shorter -/
theorem gather {Q : List Value → Shared → Prop} (l : Addr) {T : String} {o : Obj} {its : Array Value} {n : Nat} (hT : T = "list" ∨ T = "tuple") (ho : s.heap.get? l = some o) (hc : o.cls = .type T) (hd : o.data = .seq its n) (hz : its.size ≤ sizeLine)
    (fin : ∀ h1 : Heap, s.heap.objs.size ≤ h1.objs.size → (∀ b u, s.heap.get? b = some u → h1.get? b = some u) → Q its.toList { s with heap := h1 }) : wpAny (model prog w) A (collect (.ref l)) Q E s := by
  unfold collect
  refine wpAny_bind (wpAny_runValue (codeAny_builtin PySem.F.entry_proto_collect ?_))
  rw [Around.under_plainId PySem.F.plain_proto_collect _]
  refine wpAny_bind (m := newList []) (wpAny_newObj_type ?_)
  refine wpAny_pure ⟨plainId_quiet PySem.F.plain_list_iadd _, codeAny_builtin PySem.F.entry_list_iadd ?_⟩
  rw [Around.under_plainId PySem.F.plain_list_iadd _]
  generalize hp : s.heap.push { cls := .type "list", data := .seq ([] : List Value).toArray } = h0
  have e0 : h0.get? s.heap.objs.size = some { cls := .type "list", data := .seq #[] 0 } := by rw [← hp]; exact Heap.get?_push_size _ rfl
  have k0 : ∀ b u, s.heap.get? b = some u → h0.get? b = some u := fun b u q => by rw [← hp]; exact Heap.get?_push_of_some _ q
  have z0 : s.heap.objs.size ≤ h0.objs.size := by rw [← hp, Heap.size_push]; exact Nat.le_succ _
  have e1 := Heap.get?_update_self (Obj.mapSeq (· ++ its)) e0 rfl
  have last : Q its.toList { s with heap := h0.update s.heap.objs.size (Obj.mapSeq (· ++ its)) } :=
    fin _ (by rw [Heap.size_update]; exact z0) fun b u q => (Heap.get?_update_other _ _ (Nat.ne_of_gt (Heap.lt_size q))).trans (k0 b u q)
  have tail : wpAny (model prog w) A (do match (← load s.heap.objs.size).data with
      | Data.seq xs _ => pure xs.toList
      | _ => unsupported "internal:collect") Q E { s with heap := h0.update s.heap.objs.size (Obj.mapSeq (· ++ its)) } := by
    refine wpAny_bind (wpAny_load e1 (wpAny_pure ?_))
    show Q ((#[] : Array Value) ++ its).toList _
    rw [show ((#[] : Array Value) ++ its).toList = its.toList by simp]
    exact last
  refine wpAny_mono (wpAny_extend_seq (hsz := hz) (A := A) (R := fun r t => r = .ok (.ret (.ref s.heap.objs.size)) ∧ t = { s with heap := h0.update s.heap.objs.size (Obj.mapSeq (· ++ its)) })
    (s := { s with heap := h0 }) _ l _ 0 hT e0 (k0 _ _ ho) hc hd ⟨rfl, rfl⟩) (fun r t q => ?_) fun _ t q => absurd q.1 (by simp)
  cases r with
  | done f =>
    obtain ⟨e, rfl⟩ := q
    cases e
    exact tail
  | again c => exact ⟨q.1, codeAny_mono q.2 fun r u hr => by obtain ⟨rfl, rfl⟩ := hr; exact tail⟩
open Srt SrtO in
/-- sorted(x), x a list or a tuple: a new list -/
theorem sorted_seq {l : Addr} {T : String} {o : Obj} {vs : List Value} {n : Nat} {ltv : Value → Value → Bool} {Q : Value → Shared → Prop} (O : Swo ltv) (hT : T = "list" ∨ T = "tuple") (ho : s.heap.get? l = some o) (hc : o.cls = .type T) (hd : o.data = .seq vs.toArray n) (hz : vs.length ≤ sizeLine)
    (hS : 2 ≤ vs.length → ∀ (h₁ : Heap) (a : Addr), h₁.get? a = some (seqObj "list" vs.toArray 0) → (∀ b o, s.heap.get? b = some o → b ≠ a ∧ h₁.get? b = some o) → SortableO prog w A.in1.in1 { s with heap := h₁ } a vs ltv)
    (h : ∀ (out : List Value) (p : Addr) (h' : Heap), Srtd ltv out → Stb ltv out vs → s.heap.objs.size ≤ p → (∃ e, h'.get? p = some (seqObj "list" out.toArray e)) → (∀ b o, s.heap.get? b = some o → h'.get? b = some o) → Q (.ref p) { s with heap := h' }) :
    wpAny (model prog w) A (call (.builtin "sorted") [.ref l]) Q E s := by
  refine Calls.call_function_entry kind_sorted plain_sorted entry_sorted (args_sorted1 _) ?_
  unfold Builtin.«sorted»
  refine wpAny_bind (m := checkCount "sorted" 1 1 _) (wpAny_pure ?_)
  refine wpAny_bind (gather l hT ho hc hd (by rw [List.size_toArray]; exact hz) fun h1 hz2 k1 => ?_)
  refine wpAny_bind (wpAny_newList ?_ (by simpa using hz))
  have hoL : (h1.push (seqObj "list" vs.toArray 0)).get? h1.objs.size = some (seqObj "list" vs.toArray 0) := Heap.get?_push_size _ rfl
  have keep : ∀ b o, s.heap.get? b = some o → b ≠ h1.objs.size ∧ (h1.push (seqObj "list" vs.toArray 0)).get? b = some o := fun b o q =>
    ⟨Nat.ne_of_lt (Heap.lt_size (k1 b o q)), Heap.get?_push_of_some _ (k1 b o q)⟩
  show wpAny _ _ _ _ _ { s with heap := h1.push (seqObj "list" vs.toArray 0) }
  refine wpAny_bind (wpAny_holding (wpAny_call_entry slot_list_sort ⟨_, hoL, rfl⟩ entry_list_sort (list_sort_ord O hoL hz (fun h2 => hS h2 _ _ hoL keep) fun out hs hb => ⟨_, rfl, ?_⟩) (args_list_sort _)))
  refine wpAny_pure ⟨_, rfl, h out _ _ hs hb hz2 (sortedHeap_at hoL) fun b o q => ?_⟩
  obtain ⟨ne, q1⟩ := keep b o q
  rw [sortedHeap_old ne (Heap.lt_size q1)]
  exact q1
end
/-- sorted(xs), xs a list or a tuple of ints -/
def rSortedE (K : PySem.W.Frag) : List V → Hp → VK → Prop := fun vs H Q => ∃ (a : Addr) (ns : List Int), vs = [V.ref a] ∧ (SqL K H a (ns.map V.int) ∨ SqT K H a (ns.map V.int)) ∧
  ∀ (ns' : List Int) (p : Addr), ns'.Perm ns → ns'.Pairwise (· ≤ ·) → H p = none → Q (.ref p) (upd H p (.lst (ns'.map V.int)))
theorem cr_sortedE {X : Cx} : CallR X (.builtin "sorted") (rSortedE X.K) := by
  intro pins s σ H vs us Q I r h
  obtain ⟨a, ns, rfl, hs, q⟩ := h
  rcases hs with hs | hs
  · exact cr_sortedI pins s σ H _ us Q I r ⟨a, ns, rfl, hs, q⟩
  obtain ⟨its, rv, ⟨o, ho, hc, n, hd⟩, hz⟩ := I.tuple hs
  rw [Vals.ref1 r]
  have hi := rv.ints
  refine sorted_seq SrtO.swo_int (.inr rfl) ho hc hd (by rw [← rv.length]; exact hz) (fun h2 h₁ a' _ _ => SrtO.ints_sortable hi h2) fun out p h' h1 h2 le at_ keep => ?_
  obtain ⟨k1, k2, k3⟩ := SrtO.ints_out hi h1 h2
  obtain ⟨ep, he'⟩ := at_
  have hlen : ((out.map SrtO.iv).map V.int).length ≤ sizeLine := by
    rw [List.length_map, k2.length_eq]
    rw [List.length_map] at hz
    exact hz
  exact ⟨.ref p, upd H p (.lst ((out.map SrtO.iv).map V.int)), I.laid (t' := s.toks) keep le ⟨hlen, out, ep, vals_of_ints k1, he'⟩, rfl, q _ _ k2 k3 (I.hok.fresh le)⟩
/-- len(set(xs)), xs a list or a tuple of ints, each once -/
def tLenSetS (K : PySem.W.Frag) (ta : TE) : TE := fun σ H Q => ta σ H fun x H1 => ∃ (l : Addr) (ns : List Int), x = .ref l ∧ (SqL K H1 l (ns.map V.int) ∨ SqT K H1 l (ns.map V.int)) ∧ ns.Nodup ∧ ns.length ≤ 4000 ∧ Q (.int (ns.length : Nat)) H1
theorem pe_lenSetS {X : Cx} {a : Expr} {ta : TE} {p p2 q pos : Pos} (hg : Gl X "len") (hm : X.mg "len" = none) (hg2 : Gl X "set") (hm2 : X.mg "set" = none) (ha : PE X a ta) (hc : X.calm = true := by rfl)
    (na : starEach [a] X.env = (false, eval a X.env) :: starEach [] X.env := by rfl) : PE X (.Call (.Name "len" p) [.Call (.Name "set" p2) [a] [] q] [] pos) (tLenSetS X.K ta) := by
  refine ⟨fun pins s σ H Q I h => ?_⟩
  refine Call_ (ld_blt I hg hm boot_len ?_)
  refine PyProof.Rows.callWith_builtin1 (PyProof.Rows.args_cons ?_ rfl) rfl rfl
  refine Call_ (ld_blt I hg2 hm2 boot_set ?_)
  refine PyProof.Rows.callWith_type1 (PyProof.Rows.args_cons (thn (ha.run pins s σ H _ I h) fun v s1 ⟨x, H1, I1, r1, q1⟩ => PyProof.Rows.args_nil ?_) na) na rfl
  obtain ⟨l, ns, rfl, hq, hnd, hl, q1⟩ := q1
  cases r1
  rcases hq with hq | hq
  · obtain ⟨its, r, pl, hz⟩ := I1.list hq
    have hlen : its.toArray.size = ns.length := by rw [List.size_toArray, ← r.length, List.length_map]
    refine call_set_list (I1.ok.hd hc) pl.isList (by simpa using RZ.intsAre_vals r) (by rw [hlen]; unfold scanBound; omega) fun h' tk hS hk => ?_
    refine PyProof.Rows.args_nil ?_
    rw [hlen, RZ.firstMet_nodup hnd ns.length (Nat.le_refl _), List.take_length] at hS
    obtain ⟨o, es, ep, t, ho, hex, hd, _, _, _, hf, hn⟩ := hS
    have I2 : Inv X pins σ H1 { s1 with heap := h', toks := tk } := I1.kept fun b o e => hk b o (Heap.lt_size e) e
    exact call_len_set ho hex hd hf (by rw [hn] <;> omega) ⟨.int ns.length, H1, I2.tok _, ⟨_, by rw [hn]⟩, q1⟩
  · obtain ⟨its, r, pl, hz⟩ := I1.tuple hq
    refine call_set_tupI ns (I1.ok.hd hc) (show s1.heap.IsTuple l its.toArray from pl) (by simpa using r.ints) (by unfold scanBound; omega) fun h' tk c R hcn hk => ?_
    refine PyProof.Rows.args_nil ?_
    obtain ⟨o, es, ep, t, ho, hex, hd, g, nd, mem, _, hf, hn, _⟩ := R
    have I2 : Inv X pins σ H1 { s1 with heap := h', toks := tk } := I1.kept fun b o e => hk b o e
    have hperm : (es.toList.map keyOf).Perm ns := (List.perm_ext_iff_of_nodup nd hnd).mpr fun k => by rw [← mem k, decide_eq_true_iff]
    have hes : es.size = ns.length := by have := hperm.length_eq; simpa using this
    exact call_len_set ho hex hd hf (by omega) ⟨.int ns.length, H1, I2.tok _, ⟨_, by rw [hes]⟩, q1⟩
/-- a dict comprehension over it: Pv by the turn and the heap (the new dict at D within) -/
theorem dc_it {J : It} {n : Nat} {G : Hp → Prop} {Y : Nat → Hp → V → Hp → Prop} (w : Walk J n G Y) {g : TG} {tt : TT} {tk tv : TE} {vs : List Nat} {σ : L2.St} {H1 : Hp} {D : Addr} {Qd : Hp → Prop} (Pv : Nat → Hp → Prop) (h0 : Pv 0 (upd H1 D (.dK []))) (hG : ∀ i H, i ≤ n → Pv i H → G H)
    (hs : ∀ i x H H', i < n → Pv i H → Y i H x H' → g x (wipe σ vs) H' fun σ2 H2 => wipe σ2 vs = wipe σ vs ∧ tt σ2 H2 fun b H3 =>
      if b = true then tk σ2 H3 fun y H4 => tv σ2 H4 fun z H5 => ∃ kvs k, y = kV k ∧ H5 D = some (.dK kvs) ∧ kvs.length < sizeLine ∧ Pv (i + 1) (upd H5 D (.dK (putK kvs k z))) else Pv (i + 1) H3) (hd : ∀ H, Pv n H → Qd H) :
    ∃ W : Nat → Nat → Hp → Prop, (∃ m, W 0 m (upd H1 D (.dK []))) ∧ ∀ i m H, W i m H →
      (J.stop i H ∧ Qd H) ∨ (J.go i H ∧ ∃ Nx : Hp → Prop, (∀ H', Nx H' → ∃ m', m' < m ∧ W (i + 1) m' H') ∧ ∀ x H', J.yld i H x H' → g x (wipe σ vs) H' fun σ2 H2 => wipe σ2 vs = wipe σ vs ∧ tt σ2 H2 fun b H3 =>
        if b = true then tk σ2 H3 fun y H4 => tv σ2 H4 fun z H5 => ∃ kvs k, y = kV k ∧ H5 D = some (.dK kvs) ∧ kvs.length < sizeLine ∧ Nx (upd H5 D (.dK (putK kvs k z))) else Nx H3) := by
  refine ⟨fun i m H => m = n - i ∧ i ≤ n ∧ Pv i H, ⟨n, by simp, Nat.zero_le _, h0⟩, ?_⟩
  rintro i m H ⟨rfl, hi, p⟩
  have q := hG i H hi p
  by_cases hlt : i < n
  · refine .inr ⟨w.goes i H hlt q, Pv (i + 1), fun H' p' => ⟨n - (i + 1), by omega, rfl, hlt, p'⟩, fun x H' y => hs i x H H' hlt p (w.yields i H x H' hlt q y)⟩
  · obtain rfl : i = n := by omega
    exact .inl ⟨w.stops H q, hd H p⟩
end LT

namespace LG
open PySem PySem.Spec PyProof.Rows L2
section
variable {X : Cx}
/-- repr of a bool -/
theorem call_repr_bl : CallR X (.builtin "repr") (fun xs H Q => ∃ b : Bool, xs = [.bl b] ∧ Q (.str (if b then "True" else "False")) H) := by
  intro pins s σ H xs us Q I r h
  obtain ⟨b, rfl, q⟩ := h
  obtain ⟨u, rfl, ru⟩ := vals1 r
  cases ru
  exact PySem.P.repr_of_bool ⟨.str _, H, I.tok _, ⟨_, rfl⟩, q⟩
/-- repr of data: lists, tuples, ints, bools -/
def rReprA (K : PySem.W.Frag) : List V → Hp → VK → Prop := fun xs H Q => (∃ b : Bool, xs = [.bl b] ∧ Q (.str (if b then "True" else "False")) H) ∨ (∃ i : Int, xs = [.int i] ∧ i.natAbs.log2 < 1920 ∧ Q (.str (toString i)) H) ∨ rRepr K xs H Q
theorem call_reprA (hgd : X.A.guards = some []) (hu : X.A.units + 66 < cLine) : CallR X (.builtin "repr") (rReprA X.K) := by
  intro pins s σ H xs us Q I r h
  rcases h with h | h | h
  · exact call_repr_bl pins s σ H xs us Q I r h
  · exact SkE.call_repr_int pins s σ H xs us Q I r h
  · exact call_repr hgd hu pins s σ H xs us Q I r h
end
end LG

/-! what the laws share: tests, values, the bag, lists or tuples -/
namespace LP
open PySem L2 LT LG
theorem iteD {c A B : Prop} [Decidable c] (hc : c) (h : A) : if decide c = true then A else B := by
  rw [if_pos (decide_eq_true hc)]; exact h
theorem iteX {c A B : Prop} [Decidable c] (hc : ¬ c) (h : B) : if decide c = true then A else B := by
  rw [if_neg (by rw [decide_eq_false hc]; exact Bool.false_ne_true)]; exact h
theorem iteNX {c A B : Prop} [Decidable c] (hc : ¬ c) (h : A) : if (!decide c) = true then A else B := by
  rw [decide_eq_false hc]; exact iteT h
theorem ite2d {c A B : Prop} [Decidable c] (h1 : c → A) (h2 : ¬ c → B) : if decide c = true then A else B := by
  by_cases h : c
  · exact iteD h (h1 h)
  · exact iteX h (h2 h)
theorem iteNB {b : Bool} {A B : Prop} (hb : b = true) (h : B) : if (!b) = true then A else B := by
  subst hb; exact iteF h
theorem iteNF {b : Bool} {A B : Prop} (hb : b = false) (h : A) : if (!b) = true then A else B := by
  subst hb; exact iteT h
theorem iteB {b : Bool} {A B : Prop} (hb : b = true) (h : A) : if b = true then A else B := by
  subst hb; exact iteT h
theorem iteBF {b : Bool} {A B : Prop} (hb : b = false) (h : B) : if b = true then A else B := by
  subst hb; exact iteF h
theorem idx_before {α : Type} [BEq α] [LawfulBEq α] {a : α} : ∀ {l : List α} {m : Nat}, m < l.idxOf a → l[m]? ≠ some a
  | [], m, h => by simp at h
  | b :: r, 0, h => by
    intro e
    have e1 : b = a := Option.some.inj e
    subst e1
    rw [List.idxOf_cons] at h
    simp at h
  | b :: r, m + 1, h => by
    rw [List.idxOf_cons] at h
    by_cases q : (b == a) = true
    · simp [q] at h
    · rw [Bool.not_eq_true] at q
      rw [q] at h
      have h' : m + 1 < r.idxOf a + 1 := h
      exact idx_before (l := r) (m := m) (by omega)
theorem idx_get {α : Type} [BEq α] [LawfulBEq α] {a : α} {l : List α} (h : a ∈ l) : l[l.idxOf a]? = some a := by
  have h1 := List.idxOf_lt_length_iff.mpr h
  rw [List.getElem?_eq_getElem h1]
  have h2 := List.findIdx_getElem (p := (· == a)) (xs := l) (w := h1)
  exact congrArg some (eq_of_beq h2)

theorem same_upd {H : Hp} {p : Addr} {o : HO} (h : H p = Option.none) : Same H (upd H p o) := fun b x e => by rw [upd_ne (ne_of_none e h)]; exact e
/-- all but the bag at b is as it was -/
def Fr (H H' : Hp) (b : Addr) : Prop := ∀ a o, H a = some o → a ≠ b → H' a = some o
theorem Fr.refl (H : Hp) (b : Addr) : Fr H H b := fun _ _ h _ => h
theorem Fr.trans {H H1 H2 : Hp} {b : Addr} (a : Fr H H1 b) (c : Fr H1 H2 b) : Fr H H2 b := fun x o h n => c x o (a x o h n) n
theorem Fr.of {H H' : Hp} {b : Addr} (s : Same H H') : Fr H H' b := fun a o h _ => s a o h
theorem Fr.free {H H' : Hp} {b l : Addr} (e : Fr H H' b) (hb : ∃ o, H b = some o) (h : H' l = Option.none) (h' : ∃ o, H' b = some o) : H l = Option.none := by
  cases q : H l with
  | none => rfl
  | some o =>
    by_cases hl : l = b
    · subst hl; obtain ⟨o', h'⟩ := h'; rw [h'] at h; cases h
    · rw [e l o q hl] at h; cases h
abbrev M61 : Int := 2305843009213693951
/-- the bag: the script's copy at l, the place in it, the rest of a large cell, the number of draws (at most d), the script's sum -/
structure Bag (H : Hp) (b l : Addr) (ns : List Int) (d : Nat) : Prop where
  ex : ∃ i c k t : Int, H b = some (.lst [.ref l, .int i, .int c, .int k, .int t]) ∧ 0 ≤ i ∧ i ≤ ns.length ∧ 0 ≤ k ∧ k ≤ d ∧ 0 ≤ t ∧ t < M61
  ls : H l = some (.lst (ns.map V.int))
  ne : l ≠ b
theorem Bag.mono {H : Hp} {b l : Addr} {ns : List Int} {d d' : Nat} (g : Bag H b l ns d) (h : d ≤ d') : Bag H b l ns d' := by
  obtain ⟨⟨i, c, k, t, h1, h2, h3, h4, h5, h6⟩, ls, ne⟩ := g
  exact ⟨⟨i, c, k, t, h1, h2, h3, h4, by omega, h6⟩, ls, ne⟩
theorem Bag.same {H H' : Hp} {b l : Addr} {ns : List Int} {d : Nat} (g : Bag H b l ns d) (s : Same H H') : Bag H' b l ns d := by
  obtain ⟨⟨i, c, k, t, h1, h2⟩, ls, ne⟩ := g
  exact ⟨⟨i, c, k, t, s _ _ h1, h2⟩, s _ _ ls, ne⟩

theorem flat_ints (l : List Int) : (l.map V.int).all flatV = true := by
  rw [List.all_eq_true]; intro v hv; obtain ⟨i, _, rfl⟩ := List.mem_map.mp hv; rfl
theorem in_ints {p : Int} {l : List Int} : inV (.int p) (l.map V.int) = decide (p ∈ l) := by
  induction l with
  | nil => rfl
  | cons a r ih =>
    show (eqV (.int a) (.int p) || inV (.int p) (r.map V.int)) = _
    rw [ih]
    show ((a == p) || decide (p ∈ r)) = _
    by_cases h : a = p
    · subst h; simp
    · have h2 : ¬ p = a := fun q => h q.symm
      simp [h, h2]

theorem Bag.nb {H : Hp} {b l : Addr} {ns : List Int} {d : Nat} (g : Bag H b l ns d) : ∃ o, H b = some o := let ⟨⟨_, _, _, _, h, _⟩, _, _⟩ := g; ⟨_, h⟩
theorem Bag.ne_new {H : Hp} {b l p : Addr} {ns : List Int} {d : Nat} (g : Bag H b l ns d) (hp : H p = none) : p ≠ b := by
  obtain ⟨o, h⟩ := g.nb
  exact (ne_of_none h hp).symm
theorem Bag.l_ne {H : Hp} {b l p : Addr} {ns : List Int} {d : Nat} (g : Bag H b l ns d) (hp : H p = none) : l ≠ p := ne_of_none g.ls hp

section
variable (K : PySem.W.Frag)
def sp__law_bag : Sp := fun vs H Q _ => ∃ (a : Addr) (ns : List Int), vs = [.ref a] ∧ SqL K H a (ns.map V.int) ∧ ns.length ≤ 63 ∧ ∀ (H' : Hp) (b l : Addr), Same H H' → H b = none → H l = none → Bag H' b l ns 0 → Q (.ref b) H'
def sp__law_stir : Sp := fun vs H Q _ => ∃ x y : Int, vs = [.int x, .int y] ∧ 0 ≤ x ∧ x < M61 ∧ 0 ≤ y ∧ y < 2 ^ 40 ∧ ∀ r : Int, Q (.int r) H
def sp__law_draw : Sp := fun vs H Q _ => ∃ (b l : Addr) (ns : List Int) (d : Nat) (n : Int), vs = [.ref b, .int n] ∧ Bag H b l ns d ∧ 0 < n ∧ n.natAbs.log2 < 9000 ∧ d < 1000000 ∧ ns.length ≤ 63 ∧
  ∀ (H' : Hp) (r : Int), 0 ≤ r → r < n → Bag H' b l ns (d + 1) → Fr H H' b → Q (.int r) H'


end
/-- what len asks of a list or a tuple -/
def rLenS (K : PySem.W.Frag) : List V → Hp → VK → Prop := fun vs H Q => ∃ a xs, vs = [.ref a] ∧ (SqL K H a xs ∨ SqT K H a xs) ∧ Q (.int xs.length) H
theorem u1 {k : Nat} {A : Around} (r : Room k A) : A.units + 1 < cLine := by have := r.un; omega
theorem u66 {k : Nat} {A : Around} (r : Room k A) : A.units + 66 < cLine := by have := r.un; omega
theorem ixN_at {n j : Nat} (h : j < n) : ixN n (j : Int) = some j := by
  unfold ixN; rw [if_pos (by omega), if_pos (by omega)]; congr 1
/-- a list or a tuple -/
def SqE (K : PySem.W.Frag) (H : Hp) (a : Addr) (xs : List V) : Prop := SqL K H a xs ∨ SqT K H a xs
theorem same_tup {K : PySem.W.Frag} {H H' : Hp} {a : Addr} {xs : List V} (e : Same H H') (h : SqT K H a xs) : SqT K H' a xs := by
  rcases h with (h | ⟨o, h⟩) | h
  · exact .inl (.inl (e _ _ h))
  · exact .inl (.inr ⟨o, e _ _ h⟩)
  · exact .inr h
theorem SqE.same {K : PySem.W.Frag} {H H' : Hp} {a : Addr} {xs : List V} (h : SqE K H a xs) (e : Same H H') : SqE K H' a xs := h.imp e.seq (same_tup e)
theorem SqE.l {K : PySem.W.Frag} {H : Hp} {a : Addr} {xs : List V} (h : H a = some (.lst xs)) : SqE K H a xs := .inl (SqL.of h)
theorem SqE.t {K : PySem.W.Frag} {H : Hp} {a : Addr} {xs : List V} (h : H a = some (.tup xs)) : SqE K H a xs := .inr (SqT.of h)
theorem rd_ix {K : PySem.W.Frag} {H : Hp} {a : Addr} {Q : VK} {xs : List V} {j : Nat} {v : V} {z : Int} (h : SqL K H a xs) (e : xs[j]? = some v) (hz : z = (j : Int)) (q : Q v H) : rIxL K (.ref a) (.int z) H Q :=
  ⟨a, xs, z, v, rfl, rfl, h, at_of hz e, q⟩
theorem int_at {ns : List Int} {j : Nat} {x : Int} (h : ns[j]? = some x) : (ns.map V.int)[j]? = some (V.int x) := by rw [List.getElem?_map, h]; rfl
theorem at_int {ns : List Int} {j : Nat} {v : V} (h : (ns.map V.int)[j]? = some v) : ∃ x, ns[j]? = some x ∧ v = .int x := by
  rw [List.getElem?_map] at h
  cases q : ns[j]? with
  | none => rw [q] at h; cases h
  | some x => rw [q] at h; cases h; exact ⟨x, rfl, rfl⟩
/-! a walk over a list or a tuple: one turn for both -/
theorem or_E {K : PySem.W.Frag} {H : Hp} {a : Addr} {xs : List V} {σ : St} {i : Nat} {R : It → Hp → Prop} (hE : SqE K H a xs) (hv : σ[i]? = some (some (.ref a))) (k : ∀ (J : It) (G : Hp → Prop), Walk J xs.length G (YAt xs) → (∀ H', Same H H' → G H') → R J H) :
    iList K (tVar i) σ H R ∨ iTup K (tVar i) σ H R := by
  rcases hE with h | h
  · exact .inl ⟨_, hv, a, rfl, ⟨_, h⟩, k _ _ walk_list fun H' s => s.seq h⟩
  · exact .inr ⟨_, hv, a, rfl, ⟨_, h⟩, k _ _ walk_tup fun H' s => same_tup s h⟩
theorem or_enumE {K : PySem.W.Frag} {H : Hp} {a : Addr} {xs : List V} {σ : St} {R : It → Hp → Prop} {ta : TA} (hE : SqE K H a xs) (hv : ∀ Q : List V → Hp → Prop, Q [.ref a] H → ta σ H Q)
    (k : ∀ (J : It) (G : Hp → Prop), Walk J xs.length G (YPair (fun i => some (.int (i : Nat))) (fun i => xs[i]?)) → (∀ H', Same H H' → G H') → R J H) :
    iEnum K ta σ H R ∨ iEnumT K ta σ H R := by
  rcases hE with h | h
  · exact .inl (hv _ ⟨a, xs, rfl, h, k _ _ walk_enum fun H' s => s.seq h⟩)
  · exact .inr (hv _ ⟨a, xs, rfl, h, k _ _ walk_enumT fun H' s => same_tup s h⟩)
theorem or_zipE {K : PySem.W.Frag} {H : Hp} {a : Addr} {xs ys : List V} {σ : St} {R : It → Hp → Prop} {ta : TA} (hE : SqE K H a xs) (hl : xs.length = ys.length)
    (hv : ∀ Q : List V → Hp → Prop, (∀ H1 p, Same H H1 → H p = none → H1 p = some (.lst ys) → Q [.ref a, .ref p] H1) → ta σ H Q)
    (k : ∀ (H1 : Hp) (p : Addr) (J : It) (G : Hp → Prop), Same H H1 → H p = none → H1 p = some (.lst ys) → Walk J xs.length G (YPair (fun i => xs[i]?) (fun i => ys[i]?)) → (∀ H', Same H1 H' → G H') → R J H1) :
    iZip K ta σ H R ∨ iZipTL K ta σ H R := by
  rcases hE with h | h
  · exact .inl (hv _ fun H1 p s np hp => ⟨a, p, xs, ys, rfl, s.seq h, SqL.of hp, k _ p _ _ s np hp (walk_zip (by omega)) fun H' t => ⟨t.seq (s.seq h), SqL.of (t _ _ hp)⟩⟩)
  · exact .inr (hv _ fun H1 p s np hp => ⟨a, p, xs, ys, rfl, same_tup s h, SqL.of hp, k _ p _ _ s np hp (walk_zipTL hl) fun H' t => ⟨same_tup t (same_tup s h), SqL.of (t _ _ hp)⟩⟩)
theorem ty_E {K : PySem.W.Frag} {H : Hp} {a : Addr} {xs : List V} (h : SqE K H a xs) : TyX K H (.ref a) (.type "list") ∨ TyX K H (.ref a) (.type "tuple") := by
  rcases h with ((h | ⟨o, h⟩) | ⟨dd, its, n, h1, h2⟩) | ((h | ⟨o, h⟩) | ⟨dd, its, n, h1, h2⟩)
  · exact .inl (.base (.lst h))
  · exact .inl (.base (.frz h))
  · exact .inl (.kList h1 h2.1)
  · exact .inr (.base (.tup h))
  · exact .inr (.fTuple h)
  · exact .inr (.kTuple h1 h2.1)
theorem kit_lt {K : PySem.W.Frag} : PySem.W.kitAny K (.type "list") [.type "list", .type "tuple"] = some true := kitAny_cons (b := true) (kit_ty (by decide +kernel)) (fun z => nomatch z) fun _ => rfl
theorem kit_tt {K : PySem.W.Frag} : PySem.W.kitAny K (.type "tuple") [.type "list", .type "tuple"] = some true := kitAny_cons (b := false) (kit_ty (by decide +kernel)) (fun _ => kitAny_cons (b := true) (kit_ty (by decide +kernel)) (fun z => nomatch z) fun _ => rfl) fun z => nomatch z
/-! patterns as texts -/
def sgn (b : Bool) : Nat := if b = true then 84 else 82
def pstr (l : List Bool) : Str := ⟨(l.map sgn).toArray⟩
theorem pstr_nil : pstr [] = ("" : Str) := by decide +kernel
theorem pstr_T (l : List Bool) : pstr l ++ ("T" : Str) = pstr (l ++ [true]) := by
  show (⟨(l.map sgn).toArray ++ ("T" : Str).cps⟩ : Str) = _
  rw [show ("T" : Str).cps = #[84] by decide +kernel]
  simp [pstr, sgn]
theorem pstr_R (l : List Bool) : pstr l ++ ("R" : Str) = pstr (l ++ [false]) := by
  show (⟨(l.map sgn).toArray ++ ("R" : Str).cps⟩ : Str) = _
  rw [show ("R" : Str).cps = #[82] by decide +kernel]
  simp [pstr, sgn]
theorem pstr_size (l : List Bool) : (pstr l).cps.size = l.length := by simp [pstr]
theorem pstr_at {l : List Bool} {i c : Nat} (h : (pstr l).cps[i]? = some c) : ∃ b, l[i]? = some b ∧ c = sgn b := by
  simp only [pstr, List.getElem?_toArray, List.getElem?_map] at h
  cases q : l[i]? with
  | none => rw [q] at h; cases h
  | some b => rw [q] at h; cases h; exact ⟨b, rfl, rfl⟩
theorem sgnT : (⟨#[sgn true]⟩ : Str) = ("T" : Str) := by decide +kernel
theorem sgnR : (⟨#[sgn false]⟩ : Str) = ("R" : Str) := by decide +kernel
theorem R_ne_T : ¬ ((⟨#[sgn false]⟩ : Str) = ("T" : Str)) := by decide +kernel
theorem vsT : V.str ⟨#[sgn true]⟩ = V.str "T" := congrArg V.str sgnT
theorem vsR : ¬ (V.str ⟨#[sgn false]⟩ = V.str "T") := fun h => R_ne_T (V.str.inj h)
theorem vsRR : V.str ⟨#[sgn false]⟩ = V.str "R" := congrArg V.str sgnR
theorem count_T (l : List Bool) : Txt.count (pstr l) ("T" : Str) = ((l.count true : Nat) : Int) := by
  rw [show ("T" : Str) = ⟨#[84]⟩ by decide +kernel, PyProof.Rows.count_cnt]
  show PyProof.Rows.cnt 84 (l.map sgn).toArray.toList = _
  rw [List.toList_toArray]
  induction l with
  | nil => rfl
  | cons b r ih =>
    rw [List.map_cons, PyProof.Rows.cnt_cons, ih]
    cases b with
    | true => rw [if_pos (by decide)]; simp; omega
    | false => rw [if_neg (by decide)]; simp
/-! dicts by place -/
def numK (ns : List Int) : List (Key × V) := ns.zipIdx.map fun p => (.inl p.1, .int (p.2 : Nat))
theorem numK_len (ns : List Int) : (numK ns).length = ns.length := by simp [numK]
theorem putK_new {kvs : List (Key × V)} {k : Key} {v : V} (h : ∀ q ∈ kvs, q.1 ≠ k) : putK kvs k v = kvs ++ [(k, v)] := by
  unfold putK
  rw [if_neg]
  intro q
  obtain ⟨x, hx, e⟩ := List.any_eq_true.mp q
  exact h x hx (of_decide_eq_true e)
theorem numK_snoc (ns : List Int) (x : Int) : numK (ns ++ [x]) = numK ns ++ [(.inl x, .int (ns.length : Nat))] := by
  unfold numK
  rw [List.zipIdx_append]
  simp
theorem numK_put {ns : List Int} {x : Int} (h : x ∉ ns) : putK (numK ns) (.inl x) (.int (ns.length : Nat)) = numK (ns ++ [x]) := by
  rw [numK_snoc, putK_new]
  intro q hq e
  obtain ⟨⟨a, i⟩, hp, rfl⟩ := List.mem_map.mp hq
  cases e
  exact h (List.mem_of_getElem? (List.mem_zipIdx_iff_getElem?.mp hp))
theorem numK_val {ns : List Int} (nd : ns.Nodup) {j : Nat} {x : Int} (h : ns[j]? = some x) : valV (numK ns) (.inl x) = some (.int (j : Nat)) := by
  unfold valV
  have key : (numK ns).find? (fun kv => decide (kv.1 = Sum.inl x)) = some (.inl x, .int (j : Nat)) := by
    obtain ⟨hj, e⟩ := List.getElem?_eq_some_iff.mp h
    rw [List.find?_eq_some_iff_getElem]
    refine ⟨decide_eq_true rfl, j, by rw [numK_len]; exact hj, ?_, fun m hm => ?_⟩
    · simp [numK, e]
    · have hm2 : m < ns.length := by omega
      have e2 : ((numK ns)[m]'(by rw [numK_len]; omega)).1 = Sum.inl ns[m] := by simp [numK]
      rw [e2, decide_eq_false]
      · rfl
      · intro z
        cases z
        exact Nat.ne_of_lt hm ((List.getElem_inj nd).mp e.symm)
  rw [key]; rfl

theorem seq_int {n : Nat} {z : Int} (h0 : 0 ≤ z) (h : z.toNat < n) : seqIndex? z n = some z.toNat := by
  unfold seqIndex?
  have e : (if z < 0 then z + (n : Int) else z) = z := if_neg (by omega)
  simp only [e]
  rw [if_pos (by rw [Bool.and_eq_true, decide_eq_true_iff, decide_eq_true_iff]; omega)]
theorem ixN_int {n : Nat} {z : Int} (h0 : 0 ≤ z) (h : z.toNat < n) : ixN n z = some z.toNat := by
  unfold ixN
  rw [if_pos h0, if_pos (by omega)]
theorem log_small {n : Nat} (h : n < 1024) : ((n : Int)).natAbs.log2 < 9000 := by
  rw [Int.natAbs_natCast]
  by_cases h0 : n = 0
  · subst h0; decide
  · exact Nat.lt_trans ((Nat.log2_lt h0).mpr (show n < 2 ^ 10 from h)) (by decide)
theorem erase_map {α β : Type} (f : α → β) : ∀ (l : List α) (k : Nat), (l.map f).eraseIdx k = (l.eraseIdx k).map f
  | [], _ => rfl
  | _ :: _, 0 => rfl
  | a :: r, k + 1 => by
    show f a :: (r.map f).eraseIdx k = f a :: (r.eraseIdx k).map f
    rw [erase_map f r k]
end LP

/-! binary heaps in lists: the mathematics -/
namespace LH
def IsH (ns : List Int) : Prop := ∀ (i : Nat) (x y : Int), 0 < i → ns[i]? = some x → ns[(i - 1) / 2]? = some y → y ≤ x
def Gr (ns : List Int) (p : Nat) : Prop := ∀ (i : Nat) (x y : Int), 0 < i → 0 < p → (i - 1) / 2 = p → ns[i]? = some x → ns[(p - 1) / 2]? = some y → y ≤ x
def Up (ns : List Int) (p : Nat) : Prop := (∀ (i : Nat) (x y : Int), 0 < i → i ≠ p → ns[i]? = some x → ns[(i - 1) / 2]? = some y → y ≤ x) ∧ Gr ns p
def Dn (ns : List Int) (p : Nat) : Prop := (∀ (i : Nat) (x y : Int), 0 < i → i ≠ p → (i - 1) / 2 ≠ p → ns[i]? = some x → ns[(i - 1) / 2]? = some y → y ≤ x) ∧ Gr ns p
def sw (ns : List Int) (i j : Nat) (x y : Int) : List Int := (ns.set i y).set j x
theorem sw_get {ns : List Int} {i j k : Nat} {x y : Int} (hi : ns[i]? = some x) (hj : ns[j]? = some y) : (sw ns i j x y)[k]? = if k = j then some x else if k = i then some y else ns[k]? := by
  have h1 := (List.getElem?_eq_some_iff.mp hi).1
  have h2 := (List.getElem?_eq_some_iff.mp hj).1
  unfold sw
  rw [List.getElem?_set, List.getElem?_set, List.length_set]
  by_cases a : k = j
  · subst a; rw [if_pos rfl, if_pos h2, if_pos rfl]
  · rw [if_neg (fun q => a q.symm), if_neg a]
    by_cases b : k = i
    · subst b; rw [if_pos rfl, if_pos h1, if_pos rfl]
    · rw [if_neg (fun q => b q.symm), if_neg b]
theorem sw_len (ns : List Int) (i j : Nat) (x y : Int) : (sw ns i j x y).length = ns.length := by unfold sw; rw [List.length_set, List.length_set]
theorem sw_perm {ns : List Int} {i j : Nat} {x y : Int} (hi : ns[i]? = some x) (hj : ns[j]? = some y) : (sw ns i j x y).Perm ns := by
  obtain ⟨h1, rfl⟩ := List.getElem?_eq_some_iff.mp hi
  obtain ⟨h2, rfl⟩ := List.getElem?_eq_some_iff.mp hj
  exact List.set_set_perm h1 h2
theorem up_zero {ns : List Int} (h : Up ns 0) : IsH ns := fun i x y h0 hx hy => h.1 i x y h0 (by omega) hx hy
theorem up_done {ns : List Int} {p : Nat} {x y : Int} (h : Up ns p) (hx : ns[p]? = some x) (hy : ns[(p - 1) / 2]? = some y) (hc : ¬ x < y) : IsH ns := fun i a b h0 ha hb => by
  by_cases e : i = p
  · subst e
    rw [hx] at ha; rw [hy] at hb
    cases ha; cases hb; omega
  · exact h.1 i a b h0 e ha hb
theorem up_step {ns : List Int} {p : Nat} {x y : Int} (h : Up ns p) (hp : 0 < p) (hx : ns[p]? = some x) (hy : ns[(p - 1) / 2]? = some y) (hc : x < y) : Up (sw ns ((p - 1) / 2) p y x) ((p - 1) / 2) := by
  refine ⟨fun i a b h0 hi ha hb => ?_, fun i a b h0 hq hi ha hb => ?_⟩
  · rw [sw_get hy hx] at ha hb
    by_cases e : i = p
    · subst e
      rw [if_pos rfl] at ha
      rw [if_neg (by omega), if_pos rfl] at hb
      cases ha; cases hb; omega
    · rw [if_neg e, if_neg hi] at ha
      by_cases e1 : (i - 1) / 2 = p
      · rw [if_pos e1] at hb; cases hb
        exact h.2 i a y h0 hp e1 ha hy
      · rw [if_neg e1] at hb
        by_cases e2 : (i - 1) / 2 = (p - 1) / 2
        · rw [if_pos e2] at hb; cases hb
          have := h.1 i a y h0 e ha (by rw [e2]; exact hy)
          omega
        · rw [if_neg e2] at hb
          exact h.1 i a b h0 e ha hb
  · rw [sw_get hy hx] at ha hb
    rw [if_neg (by omega), if_neg (by omega)] at hb
    have g := h.1 ((p - 1) / 2) y b hq (by omega) hy hb
    by_cases e : i = p
    · rw [if_pos e] at ha; cases ha; exact g
    · rw [if_neg e, if_neg (by omega)] at ha
      have := h.1 i a y h0 e ha (by rw [hi]; exact hy)
      omega
theorem dn_step {ns : List Int} {p c : Nat} {x z : Int} (h : Dn ns p) (hc0 : 0 < c) (hc : (c - 1) / 2 = p) (hx : ns[p]? = some x) (hz : ns[c]? = some z) (least : ∀ (i : Nat) (a : Int), 0 < i → (i - 1) / 2 = p → ns[i]? = some a → z ≤ a) : Dn (sw ns c p z x) c := by
  refine ⟨fun i a b h0 hi hpi ha hb => ?_, fun i a b h0 _ hi ha hb => ?_⟩
  · rw [sw_get hz hx] at ha hb
    by_cases e : i = p
    · rw [if_pos e] at ha; cases ha
      rw [if_neg (by omega), if_neg (by omega)] at hb
      subst e
      exact h.2 c z b hc0 h0 hc hz hb
    · rw [if_neg e, if_neg hi] at ha
      by_cases e1 : (i - 1) / 2 = p
      · rw [if_pos e1] at hb; cases hb
        exact least i a h0 e1 ha
      · rw [if_neg e1, if_neg hpi] at hb
        exact h.1 i a b h0 e e1 ha hb
  · rw [sw_get hz hx] at ha hb
    rw [if_neg (by omega), if_neg (by omega)] at ha
    rw [hc, if_pos rfl] at hb
    cases hb
    exact h.1 i a z h0 (by omega) (by omega) ha (by rw [hi]; exact hz)
theorem dn_leaf {ns : List Int} {p : Nat} (h : Dn ns p) (hp : ns.length ≤ 2 * p + 1) : Up ns p := by
  refine ⟨fun i x y h0 hi hx hy => ?_, h.2⟩
  by_cases e : (i - 1) / 2 = p
  · have := (List.getElem?_eq_some_iff.mp hx).1; omega
  · exact h.1 i x y h0 hi e hx hy
theorem up_push {ns : List Int} {x : Int} (h : IsH ns) : Up (ns ++ [x]) ns.length := by
  refine ⟨fun i a b h0 hi ha hb => ?_, fun i a b h0 hp hi ha hb => ?_⟩
  · have hl := (List.getElem?_eq_some_iff.mp ha).1
    rw [List.length_append] at hl
    have hl2 : i < ns.length := by simp at hl; omega
    rw [List.getElem?_append_left hl2] at ha
    rw [List.getElem?_append_left (by omega)] at hb
    exact h i a b h0 ha hb
  · have hl := (List.getElem?_eq_some_iff.mp ha).1
    simp at hl; omega
theorem dn_pop {f last : Int} {mid : List Int} (h : IsH (f :: (mid ++ [last]))) : Dn (last :: mid) 0 := by
  refine ⟨fun i x y h0 _ h1 hx hy => ?_, fun i x y _ h0 => by omega⟩
  obtain ⟨k, rfl⟩ : ∃ k, i = k + 1 := ⟨i - 1, by omega⟩
  obtain ⟨m, hm⟩ : ∃ m, (k + 1 - 1) / 2 = m + 1 := ⟨(k + 1 - 1) / 2 - 1, by omega⟩
  rw [hm] at hy
  have hx1 : mid[k]? = some x := hx
  have hy1 : mid[m]? = some y := hy
  have lx := (List.getElem?_eq_some_iff.mp hx1).1
  have ly := (List.getElem?_eq_some_iff.mp hy1).1
  refine h (k + 1) x y h0 ?_ ?_
  · show (mid ++ [last])[k]? = some x
    rw [List.getElem?_append_left lx]; exact hx1
  · rw [hm]
    show (mid ++ [last])[m]? = some y
    rw [List.getElem?_append_left ly]; exact hy1
theorem heap_min {ns : List Int} {m : Int} (h : IsH ns) (hm : ns[0]? = some m) : ∀ (i : Nat) (x : Int), ns[i]? = some x → m ≤ x := by
  intro i
  induction i using Nat.strongRecOn with
  | _ i ih =>
    intro x hx
    by_cases e : i = 0
    · subst e; rw [hm] at hx; cases hx; exact Int.le_refl _
    · have hl := (List.getElem?_eq_some_iff.mp hx).1
      have hq : ns[(i - 1) / 2]? = some (ns[(i - 1) / 2]'(by omega)) := List.getElem?_eq_getElem (by omega)
      exact Int.le_trans (ih _ (by omega) _ hq) (h i x _ (by omega) hx hq)
theorem heap_nil : IsH [] := fun i x y _ h => by simp at h
theorem heap_one (x : Int) : IsH [x] := fun i a b h0 ha => by
  have := (List.getElem?_eq_some_iff.mp ha).1
  simp at this; omega
end LH

namespace LH
open PySem PySem.Spec PyProof.Rows L2
open AutoSeq1 (wpAny_loadPart')
theorem plain_sift : plainId "_heapq.heapify.sift" = true := by decide +kernel
theorem entry_sift : entryFor table "_heapq.heapify.sift" = some Builtin.«_heapq.heapify.sift» := entryFor_of_fast (by kernel_rfl)
theorem plain_push : plainId "_heapq.heappush" = true := by decide +kernel
theorem entry_push : entryFor table "_heapq.heappush" = some Builtin.«_heapq.heappush» := entryFor_of_fast (by kernel_rfl)
theorem kind_push : builtinKind "_heapq.heappush" = none := by decide +kernel
theorem args_push (a b : Value) : argsOk "_heapq.heappush" ⟨[a, b], []⟩ := by unfold argsOk; kernel_rfl
theorem plain_pop : plainId "_heapq.heappop" = true := by decide +kernel
theorem entry_pop : entryFor table "_heapq.heappop" = some Builtin.«_heapq.heappop» := entryFor_of_fast (by kernel_rfl)
theorem kind_pop : builtinKind "_heapq.heappop" = none := by decide +kernel
theorem args_pop (a : Value) : argsOk "_heapq.heappop" ⟨[a], []⟩ := by unfold argsOk; kernel_rfl
/-- the list object at a holds these ints -/
def Li (h : Heap) (a : Addr) (vs : List Value) (ns : List Int) : Prop := (∃ n, h.get? a = some (seqObj "list" vs.toArray n)) ∧ IntsAre vs ns
/-- only the object at a is other than it was -/
def Ot (h h' : Heap) (a : Addr) : Prop := h'.objs.size = h.objs.size ∧ ∀ b, b ≠ a → h'.get? b = h.get? b
theorem Ot.refl (h : Heap) (a : Addr) : Ot h h a := ⟨rfl, fun _ _ => rfl⟩
theorem Ot.trans {h h1 h2 : Heap} {a : Addr} (x : Ot h h1 a) (y : Ot h1 h2 a) : Ot h h2 a := ⟨y.1.trans x.1, fun b hb => (y.2 b hb).trans (x.2 b hb)⟩
theorem Ot.up (h : Heap) (a : Addr) (f : Obj → Obj) : Ot h (h.update a f) a := ⟨Heap.size_update .., fun b hb => Heap.get?_update_ne _ _ _ _ hb⟩
theorem ints_get {vs : List Value} {ns : List Int} (h : IntsAre vs ns) {i : Nat} {x : Int} (hx : ns[i]? = some x) : ∃ t, vs[i]? = some (.int x t) := by
  induction h generalizing i with
  | nil => simp at hx
  | cons n t r ih =>
    cases i with
    | zero => cases hx; exact ⟨t, rfl⟩
    | succ k => exact ih hx
theorem ints_set {vs : List Value} {ns : List Int} (h : IntsAre vs ns) {i : Nat} {x : Int} {t : Tok} : IntsAre (vs.set i (.int x t)) (ns.set i x) := by
  induction h generalizing i with
  | nil => exact .nil
  | cons n u r ih =>
    cases i with
    | zero => exact .cons x t r
    | succ k => exact .cons n u ih
theorem ints_app {vs us : List Value} {ns ms : List Int} (h : IntsAre vs ns) (g : IntsAre us ms) : IntsAre (vs ++ us) (ns ++ ms) := by
  induction h with
  | nil => exact g
  | cons n u r ih => exact .cons n u ih
section
variable {prog : Program} {w : World} {A : Around} {E : Value → Shared → Prop} {s : Shared}
theorem lt_int {a b : Int} {t u : Tok} {Q : Value → Shared → Prop} (h : Q (.bool (decide (a < b))) s) : wpAny (model prog w) A (richCompare .Lt (.int a t) (.int b u)) Q E s :=
  richCompare_gives (op := .Lt) (typeIs_int s _ t) (typeIs_int s _ u) PySem.F.slot_int_lt PySem.F.entry_int_lt (PySem.F.args_int_lt_2 _ _) (gives_int_lt _ _ t u) (fun x => nomatch x) h
/-- two items exchanged -/
theorem swap_li {h : Heap} {a : Addr} {vs : List Value} {ns : List Int} {n i j : Nat} {x y : Int} {t u : Tok} (ho : h.get? a = some (seqObj "list" vs.toArray n)) (hI : IntsAre vs ns) :
    Li (h.update a (Obj.mapSeq fun xs => (xs.setIfInBounds i (.int y u)).setIfInBounds j (.int x t))) a ((vs.set i (.int y u)).set j (.int x t)) (sw ns i j x y) := by
  have e := get?_update_seq ho (fun xs => (xs.setIfInBounds i (.int y u)).setIfInBounds j (.int x t))
  rw [List.setIfInBounds_toArray, List.setIfInBounds_toArray] at e
  exact ⟨⟨_, e⟩, ints_set (ints_set hI)⟩
theorem sift_up {a : Addr} {R : Result → Shared → Prop} {res : Value} : ∀ (p : Nat) (s : Shared) (vs : List Value) (ns : List Int), Li s.heap a vs ns → ns.length ≤ 1000 → p < ns.length → Up ns p →
    (∀ (h' : Heap) (ws : List Value) (ms : List Int), IsH ms → ms.Perm ns → Li h' a ws ms → Ot s.heap h' a → R (.ok (.ret res)) { s with heap := h' }) →
    codeAny (model prog w) A (.builtin "_heapq.heapify.sift" ⟨[.ref a, .bool false, .bool false, rawInt (p : Nat), rawInt (0 : Nat), res, rawInt (-1)], []⟩) R s := by
  intro p
  induction p using Nat.strongRecOn with
  | _ p ih =>
  intro s vs ns hL hz hlt hup k
  obtain ⟨⟨n, ho⟩, hI⟩ := id hL
  refine codeAny_builtin entry_sift ?_
  rw [Around.under_plainId plain_sift _]
  wp_walk using wpAny_loadPart' ho
  simp only [Int.toNat_natCast]
  by_cases hp : p > 0
  · rw [if_pos (by simpa using hp)]
    have hx1 : ns[p]? = some ns[p] := List.getElem?_eq_getElem hlt
    have hy1 : ns[(p - 1) / 2]? = some (ns[(p - 1) / 2]'(by omega)) := List.getElem?_eq_getElem (by omega)
    generalize ns[p] = x at hx1
    generalize ns[(p - 1) / 2]'(by omega) = y at hy1
    obtain ⟨t, hx⟩ := ints_get hI hx1
    obtain ⟨u, hy⟩ := ints_get hI hy1
    have hxa : vs.toArray[p]? = some (.int x t) := by simpa using hx
    have hya : vs.toArray[(p - 1) / 2]? = some (.int y u) := by simpa using hy
    wp_step
    wp_step
    rw [hxa]
    wp_step
    wp_step
    wp_step
    rw [hya]
    wp_step
    wp_walk using wpAny_loadPart' ho, lt_int, wpAny_truthy_bool
    by_cases hc : x < y
    · rw [if_pos (decide_eq_true hc)]
      wp_walk using wpAny_loadPart' ho
      rw [hya]
      wp_step
      wp_step
      wp_step
      rw [hxa]
      wp_step
      have hvl := hI.length
      refine wpAny_updateSeq ho rfl ?_ (by rw [List.size_toArray, hvl]; exact Nat.le_of_lt (small1000 hz)) (by rw [Array.size_setIfInBounds, Array.size_setIfInBounds, List.size_toArray, hvl]; exact Nat.le_succ_of_le (Nat.le_of_lt (small1000 hz)))
      wp_walk
      refine ⟨plainId_quiet plain_sift _, ?_⟩
      have hL2 := swap_li (i := (p - 1) / 2) (j := p) (x := y) (y := x) (t := u) (u := t) ho hI
      refine ih ((p - 1) / 2) (by omega) _ _ _ hL2 (by rw [sw_len]; exact hz) (by rw [sw_len]; omega) (up_step hup hp hx1 hy1 hc) fun h' ws ms q1 q2 q3 q4 => ?_
      exact k h' ws ms q1 (q2.trans (sw_perm hy1 hx1)) q3 ((Ot.up _ _ _).trans q4)
    · rw [if_neg (by rw [decide_eq_false hc]; exact Bool.false_ne_true)]
      wp_walk
      exact k s.heap vs ns (up_done hup hx1 hy1 hc) (List.Perm.refl _) hL (Ot.refl _ _)
  · rw [if_neg (by simpa using hp)]
    have e : p = 0 := by omega
    subst e
    wp_walk
    exact k s.heap vs ns (up_zero hup) (List.Perm.refl _) hL (Ot.refl _ _)
end
end LH

namespace LH
open PySem PySem.Spec PyProof.Rows L2
open AutoSeq1 (wpAny_loadPart')
section
variable {prog : Program} {w : World} {A : Around} {E : Value → Shared → Prop} {s : Shared}
theorem sift_down {a : Addr} {R : Result → Shared → Prop} {res : Value} : ∀ (d p : Nat) (s : Shared) (vs : List Value) (ns : List Int), ns.length - p ≤ d → Li s.heap a vs ns → ns.length ≤ 1000 → p < ns.length → Dn ns p →
    (∀ (h' : Heap) (ws : List Value) (ms : List Int), IsH ms → ms.Perm ns → Li h' a ws ms → Ot s.heap h' a → R (.ok (.ret res)) { s with heap := h' }) →
    codeAny (model prog w) A (.builtin "_heapq.heapify.sift" ⟨[.ref a, .bool false, .bool true, rawInt (p : Nat), rawInt (0 : Nat), res, rawInt (-1)], []⟩) R s := by
  intro d
  induction d with
  | zero => intro p s vs ns hd _ _ hlt; omega
  | succ d ih =>
  intro p s vs ns hd hL hz hlt hdn k
  obtain ⟨⟨n, ho⟩, hI⟩ := id hL
  have hvl := hI.length
  have hsz : vs.toArray.size = ns.length := by rw [List.size_toArray, hvl]
  refine codeAny_builtin entry_sift ?_
  rw [Around.under_plainId plain_sift _]
  wp_walk using wpAny_loadPart' ho
  simp only [Int.toNat_natCast]
  by_cases hp : p < vs.toArray.size / 2
  · rw [if_pos hp]
    rw [hsz] at hp
    have hx1 : ns[p]? = some ns[p] := List.getElem?_eq_getElem hlt
    have hl1 : ns[2 * p + 1]? = some (ns[2 * p + 1]'(by omega)) := List.getElem?_eq_getElem (by omega)
    generalize ns[p] = x at hx1
    generalize ns[2 * p + 1]'(by omega) = y at hl1
    obtain ⟨t, hx⟩ := ints_get hI hx1
    obtain ⟨u, hy⟩ := ints_get hI hl1
    have hxa : vs.toArray[p]? = some (.int x t) := by simpa using hx
    have hya : vs.toArray[2 * p + 1]? = some (.int y u) := by simpa using hy
    by_cases hr : 2 * p + 1 + 1 < vs.toArray.size
    · rw [if_pos hr]
      rw [hsz] at hr
      have hr1 : ns[2 * p + 1 + 1]? = some (ns[2 * p + 1 + 1]'(by omega)) := List.getElem?_eq_getElem (by omega)
      generalize ns[2 * p + 1 + 1]'(by omega) = z at hr1
      obtain ⟨v, hz1⟩ := ints_get hI hr1
      have hz2a : vs.toArray[2 * p + 1 + 1]? = some (.int z v) := by simpa using hz1
      wp_step
      wp_step
      rw [hya]
      wp_step
      wp_step
      wp_step
      rw [hz2a]
      wp_step
      wp_walk using wpAny_loadPart' ho, lt_int, wpAny_truthy_bool
      by_cases hc : y < z
      · rw [decide_eq_true hc]
        wp_walk using wpAny_loadPart' ho
        rw [hya]
        wp_step
        wp_step
        wp_step
        rw [hxa]
        wp_step
        refine wpAny_updateSeq ho rfl ?_ (by rw [hsz]; exact Nat.le_of_lt (small1000 hz)) (by rw [Array.size_setIfInBounds, Array.size_setIfInBounds, hsz]; exact Nat.le_succ_of_le (Nat.le_of_lt (small1000 hz)))
        wp_walk
        refine ⟨plainId_quiet plain_sift _, ?_⟩
        have hL2 := swap_li (i := 2 * p + 1) (j := p) (x := y) (y := x) (t := u) (u := t) ho hI
        refine ih (2 * p + 1) _ _ _ (by rw [sw_len]; omega) hL2 (by rw [sw_len]; exact hz) (by rw [sw_len]; omega) (dn_step hdn (by omega) (by omega) hx1 hl1 (fun i b h0 hi hb => ?_)) fun h' ws ms q1 q2 q3 q4 => k h' ws ms q1 (q2.trans (sw_perm hl1 hx1)) q3 ((Ot.up _ _ _).trans q4)
        rcases (show i = 2 * p + 1 ∨ i = 2 * p + 1 + 1 by omega) with e | e
        · subst e; rw [hl1] at hb; cases hb; exact Int.le_refl _
        · subst e; rw [hr1] at hb; cases hb; omega
      · rw [decide_eq_false hc]
        wp_walk using wpAny_loadPart' ho
        rw [hz2a]
        wp_step
        wp_step
        wp_step
        rw [hxa]
        wp_step
        refine wpAny_updateSeq ho rfl ?_ (by rw [hsz]; exact Nat.le_of_lt (small1000 hz)) (by rw [Array.size_setIfInBounds, Array.size_setIfInBounds, hsz]; exact Nat.le_succ_of_le (Nat.le_of_lt (small1000 hz)))
        wp_walk
        refine ⟨plainId_quiet plain_sift _, ?_⟩
        have hL2 := swap_li (i := 2 * p + 1 + 1) (j := p) (x := z) (y := x) (t := v) (u := t) ho hI
        refine ih (2 * p + 1 + 1) _ _ _ (by rw [sw_len]; omega) hL2 (by rw [sw_len]; exact hz) (by rw [sw_len]; omega) (dn_step hdn (by omega) (by omega) hx1 hr1 (fun i b h0 hi hb => ?_)) fun h' ws ms q1 q2 q3 q4 => k h' ws ms q1 (q2.trans (sw_perm hr1 hx1)) q3 ((Ot.up _ _ _).trans q4)
        rcases (show i = 2 * p + 1 ∨ i = 2 * p + 1 + 1 by omega) with e | e
        · subst e; rw [hl1] at hb; cases hb; omega
        · subst e; rw [hr1] at hb; cases hb; exact Int.le_refl _
    · rw [if_neg hr]
      rw [hsz] at hr
      wp_walk using wpAny_loadPart' ho
      rw [hya]
      wp_step
      wp_step
      wp_step
      rw [hxa]
      wp_step
      refine wpAny_updateSeq ho rfl ?_ (by rw [hsz]; exact Nat.le_of_lt (small1000 hz)) (by rw [Array.size_setIfInBounds, Array.size_setIfInBounds, hsz]; exact Nat.le_succ_of_le (Nat.le_of_lt (small1000 hz)))
      wp_walk
      refine ⟨plainId_quiet plain_sift _, ?_⟩
      have hL2 := swap_li (i := 2 * p + 1) (j := p) (x := y) (y := x) (t := u) (u := t) ho hI
      refine ih (2 * p + 1) _ _ _ (by rw [sw_len]; omega) hL2 (by rw [sw_len]; exact hz) (by rw [sw_len]; omega) (dn_step hdn (by omega) (by omega) hx1 hl1 (fun i b h0 hi hb => ?_)) fun h' ws ms q1 q2 q3 q4 => k h' ws ms q1 (q2.trans (sw_perm hl1 hx1)) q3 ((Ot.up _ _ _).trans q4)
      have hlt2 := (List.getElem?_eq_some_iff.mp hb).1
      have e : i = 2 * p + 1 := by omega
      subst e; rw [hl1] at hb; cases hb; exact Int.le_refl _
  · rw [if_neg hp]
    rw [hsz] at hp
    wp_walk
    refine ⟨plainId_quiet plain_sift _, ?_⟩
    exact sift_up p s vs ns hL hz hlt (dn_leaf hdn (by omega)) k
end
end LH

namespace LH
open PySem PySem.Spec PyProof.Rows L2
open AutoSeq1 (wpAny_loadPart')
section
variable {prog : Program} {w : World} {A : Around} {E : Value → Shared → Prop} {s : Shared}
theorem push_li {h : Heap} {a : Addr} {vs : List Value} {ns : List Int} {n : Nat} {x : Int} {t : Tok} (ho : h.get? a = some (seqObj "list" vs.toArray n)) (hI : IntsAre vs ns) :
    Li (h.update a (Obj.mapSeq fun xs => xs.push (.int x t))) a (vs ++ [.int x t]) (ns ++ [x]) := by
  have e := get?_update_seq ho (fun xs => xs.push (.int x t))
  rw [List.push_toArray] at e
  exact ⟨⟨_, e⟩, ints_app hI (.cons x t .nil)⟩
theorem call_push {a : Addr} {vs : List Value} {ns : List Int} {x : Int} {t : Tok} {Q : Value → Shared → Prop} (hL : Li s.heap a vs ns) (hz : ns.length < 1000) (hH : IsH ns)
    (k : ∀ (h' : Heap) (ws : List Value) (ms : List Int), IsH ms → ms.Perm (ns ++ [x]) → Li h' a ws ms → Ot s.heap h' a → Q .none { s with heap := h' }) :
    wpAny (model prog w) A (call (.builtin "_heapq.heappush") [.ref a, .int x t]) Q E s := by
  obtain ⟨⟨n, ho⟩, hI⟩ := id hL
  have hvl := hI.length
  have hT : s.TypeIs (.ref a) "list" := ⟨_, ho, rfl⟩
  have hsub := sub_list_self
  refine call_function_tree kind_push plain_push entry_push (args_push _ _) ?_
  have U : ∀ {Q : Unit → Shared → Prop}, Q () { s with heap := s.heap.update a (Obj.mapSeq fun xs => xs.push (.int x t)) } → wpAny (model prog w) A.in1 (updateSeq a fun xs => xs.push (.int x t)) Q E s :=
    fun h => wpAny_updateSeq ho rfl h (by rw [List.size_toArray, hvl]; exact Nat.le_of_lt (small1000 (by omega))) (by rw [Array.size_push, List.size_toArray, hvl]; exact Nat.le_of_lt (Nat.lt_succ_of_lt (small1000 (by omega))))
  have hL2 := push_li (x := x) (t := t) ho hI
  obtain ⟨⟨n2, ho2⟩, hI2⟩ := id hL2
  have hOt := Ot.up s.heap a (Obj.mapSeq fun xs => xs.push (.int x t))
  generalize s.heap.update a (Obj.mapSeq fun xs => xs.push (.int x t)) = h2 at U hL2 ho2 hOt
  wp_walk using wpAny_typeOf hT, U, wpAny_loadPart' ho2
  refine ⟨plainId_quiet plain_sift _, ?_⟩
  have e : (vs ++ [Value.int x t]).toArray.size - 1 = ns.length := by rw [List.size_toArray, List.length_append, hvl]; rfl
  rw [e]
  exact sift_up ns.length { s with heap := h2 } _ _ hL2 (by rw [List.length_append]; exact hz) (by rw [List.length_append]; exact Nat.lt_succ_self _) (up_push hH) fun h' ws ms q1 q2 q3 q4 => k h' ws ms q1 q2 q3 (hOt.trans q4)
theorem ints_split {vs : List Value} : ∀ {ms ks : List Int}, IntsAre vs (ms ++ ks) → ∃ us ws, vs = us ++ ws ∧ IntsAre us ms ∧ IntsAre ws ks
  | [], ks, h => ⟨[], vs, rfl, .nil, h⟩
  | m :: ms, ks, h => by
    cases h with
    | cons n t r =>
      obtain ⟨us, ws, e, h1, h2⟩ := ints_split r
      exact ⟨.int m t :: us, ws, by rw [e]; rfl, .cons m t h1, h2⟩
theorem call_pop1 {a : Addr} {vs : List Value} {m : Int} {Q : Value → Shared → Prop} (hL : Li s.heap a vs [m])
    (k : ∀ (h' : Heap) (t : Tok), Li h' a [] [] → Ot s.heap h' a → Q (.int m t) { s with heap := h' }) :
    wpAny (model prog w) A (call (.builtin "_heapq.heappop") [.ref a]) Q E s := by
  obtain ⟨⟨n, ho⟩, hI⟩ := id hL
  have hT : s.TypeIs (.ref a) "list" := ⟨_, ho, rfl⟩
  have hsub := sub_list_self
  cases hI with
  | cons _ t r =>
    cases r
    have U : ∀ {Q : Unit → Shared → Prop}, Q () { s with heap := s.heap.update a (Obj.mapSeq fun xs => xs.pop) } → wpAny (model prog w) A.in1 (updateSeq a fun xs => xs.pop) Q E s :=
      fun h => wpAny_updateSeq ho rfl h (by show 1 ≤ sizeLine; decide) (by show 0 ≤ sizeLine + 1; exact Nat.zero_le _)
    have e := get?_update_seq ho (fun xs => xs.pop)
    have hOt := Ot.up s.heap a (Obj.mapSeq fun xs => xs.pop)
    generalize s.heap.update a (Obj.mapSeq fun xs => xs.pop) = h2 at U e hOt
    have hL2 : Li h2 a [] [] := ⟨⟨_, e⟩, .nil⟩
    refine call_function_tree kind_pop plain_pop entry_pop (args_pop _) ?_
    wp_walk using wpAny_typeOf hT, U, wpAny_loadPart' ho
    exact k h2 t hL2 hOt
theorem call_pop2 {a : Addr} {vs : List Value} {f last : Int} {mid : List Int} {Q : Value → Shared → Prop} (hL : Li s.heap a vs (f :: (mid ++ [last]))) (hz : mid.length < 900) (hH : IsH (f :: (mid ++ [last])))
    (k : ∀ (h' : Heap) (t : Tok) (ws : List Value) (ms : List Int), IsH ms → ms.Perm (last :: mid) → Li h' a ws ms → Ot s.heap h' a → Q (.int f t) { s with heap := h' }) :
    wpAny (model prog w) A (call (.builtin "_heapq.heappop") [.ref a]) Q E s := by
  obtain ⟨⟨n, ho⟩, hI⟩ := id hL
  have hT : s.TypeIs (.ref a) "list" := ⟨_, ho, rfl⟩
  have hsub := sub_list_self
  cases hI with
  | cons _ t r =>
    obtain ⟨um, ul, rfl, hm, hl⟩ := ints_split r
    cases hl with
    | cons _ t2 r2 =>
      cases r2
      have hml := hm.length
      have U : ∀ {Q : Unit → Shared → Prop}, Q () { s with heap := s.heap.update a (Obj.mapSeq fun xs => xs.pop) } → wpAny (model prog w) A.in1 (updateSeq a fun xs => xs.pop) Q E s :=
        fun h => wpAny_updateSeq ho rfl h (by simp only [List.size_toArray, List.length_cons, List.length_append, List.length_nil]; exact Nat.le_of_lt (small1000 (by omega))) (by rw [Array.size_pop]; simp only [List.size_toArray, List.length_cons, List.length_append, List.length_nil]; exact Nat.le_succ_of_le (Nat.le_of_lt (small1000 (by omega))))
      have e := get?_update_seq ho (fun xs => xs.pop)
      have hOt := Ot.up s.heap a (Obj.mapSeq fun xs => xs.pop)
      generalize s.heap.update a (Obj.mapSeq fun xs => xs.pop) = h2 at U e hOt
      refine call_function_tree kind_pop plain_pop entry_pop (args_pop _) ?_
      wp_walk using wpAny_typeOf hT, U, wpAny_loadPart' ho
      have hb : (Value.int f t :: (um ++ [Value.int last t2])).toArray.back? = some (.int last t2) := by
        show ((Value.int f t :: um) ++ [Value.int last t2]).toArray.back? = _
        simp only [List.back?_toArray, List.getLast?_concat]
      rw [hb]
      have ep : (Value.int f t :: (um ++ [Value.int last t2])).toArray.pop = (Value.int f t :: um).toArray := by
        show ((Value.int f t :: um) ++ [Value.int last t2]).toArray.pop = _
        simp only [List.pop_toArray, List.dropLast_concat]
      rw [ep] at e
      wp_step
      wp_step
      refine U ?_
      rw [if_neg (by simp)]
      wp_step
      wp_step
      show wpAny _ _ (pure (Value.int f t)) _ _ _
      wp_step
      have U2 : ∀ {Q : Unit → Shared → Prop}, Q () { s with heap := h2.update a (Obj.mapSeq fun xs => xs.setIfInBounds 0 (.int last t2)) } → wpAny (model prog w) A.in1 (updateSeq a fun xs => xs.setIfInBounds 0 (.int last t2)) Q E { s with heap := h2 } :=
        fun h => wpAny_updateSeq e rfl h (by simp only [List.size_toArray, List.length_cons]; exact Nat.le_of_lt (small1000 (by omega))) (by rw [Array.size_setIfInBounds]; simp only [List.size_toArray, List.length_cons]; exact Nat.le_succ_of_le (Nat.le_of_lt (small1000 (by omega))))
      have e2 := get?_update_seq e (fun xs => xs.setIfInBounds 0 (.int last t2))
      rw [List.setIfInBounds_toArray] at e2
      have hOt2 := hOt.trans (Ot.up h2 a (Obj.mapSeq fun xs => xs.setIfInBounds 0 (.int last t2)))
      generalize h2.update a (Obj.mapSeq fun xs => xs.setIfInBounds 0 (.int last t2)) = h3 at U2 e2 hOt2
      wp_walk using U2
      refine ⟨plainId_quiet plain_sift _, ?_⟩
      exact sift_down (last :: mid).length 0 { s with heap := h3 } (.int last t2 :: um) (last :: mid) (by omega) ⟨⟨_, e2⟩, .cons last t2 hm⟩ (by simp only [List.length_cons]; omega) (by simp) (dn_pop hH) fun h' ws ms q1 q2 q3 q4 => k h' t ws ms q1 q2 q3 (hOt2.trans q4)
end
/-! ### the rules -/
/-- heappush(xs, x), ints in heap order -/
def rPush : List V → Hp → VK → Prop := fun vs H Q => ∃ (a : Addr) (ns : List Int) (x : Int), vs = [.ref a, .int x] ∧ H a = some (.lst (ns.map V.int)) ∧ IsH ns ∧ ns.length < 900 ∧
  ∀ ms : List Int, ms.Perm (ns ++ [x]) → IsH ms → Q .non (upd H a (.lst (ms.map V.int)))
/-- heappop(xs), ints in heap order, at least one -/
def rPop : List V → Hp → VK → Prop := fun vs H Q => ∃ (a : Addr) (ns : List Int), vs = [.ref a] ∧ H a = some (.lst (ns.map V.int)) ∧ IsH ns ∧ ns ≠ [] ∧ ns.length < 900 ∧
  ∀ (m : Int) (ms : List Int), (m :: ms).Perm ns → (∀ x ∈ ns, m ≤ x) → IsH ms → Q (.int m) (upd H a (.lst (ms.map V.int)))
section
variable {X : Cx}
theorem li_of {P : Program} {w : World} {H : Hp} {h : Heap} {a : Addr} {ns : List Int} (x : ObjOk P w H h a (.lst (ns.map V.int))) : ∃ vs, Li h a vs ns := by
  obtain ⟨_, its, n, rv, hob⟩ := x
  exact ⟨its, ⟨n, hob⟩, rv.ints⟩
theorem cr_push : CallR X (.builtin "_heapq.heappush") rPush := by
  intro pins s σ H vs us Q I r h
  obtain ⟨a, ns, x, rfl, ha, hH, hz, q⟩ := h
  obtain ⟨u1, u2, rfl, r1, r2⟩ := vals2 r
  cases r1
  obtain ⟨t, rfl⟩ := r2
  obtain ⟨ws, hL⟩ := li_of (I.hok a _ ha)
  refine call_push hL (by omega) hH fun h' us ms h1 h2 h3 h4 => ?_
  obtain ⟨⟨n, hn⟩, hI⟩ := id h3
  have hlen : (ms.map V.int).length ≤ sizeLine := by rw [List.length_map, h2.length_eq, List.length_append]; exact Nat.le_of_lt (small1000 (by show ns.length + 1 ≤ 1000; omega))
  exact ⟨.non, upd H a (.lst (ms.map V.int)), I.write (e := a) (t' := s.toks) (by rw [ha]; trivial) (.inl rfl) (fun b u hb hu => (h4.2 b hb).trans hu) ⟨_, hn⟩ ⟨hlen, us, n, vals_of_ints hI, hn⟩, rfl, q ms h2 h1⟩
theorem cr_pop : CallR X (.builtin "_heapq.heappop") rPop := by
  intro pins s σ H vs us Q I r h
  obtain ⟨a, ns, rfl, ha, hH, hne, hz, q⟩ := h
  rw [Vals.ref1 r]
  obtain ⟨ws, hL⟩ := li_of (I.hok a _ ha)
  have fin : ∀ (m : Int) (t : Tok) (h' : Heap) (us : List Value) (ms : List Int), (m :: ms).Perm ns → (∀ x ∈ ns, m ≤ x) → IsH ms → Li h' a us ms → Ot s.heap h' a → EP X pins σ Q (.int m t) { s with heap := h' } := by
    intro m t h' us ms h1 hmin h2 h3 h4
    obtain ⟨⟨n, hn⟩, hI⟩ := id h3
    have hl := h1.length_eq
    rw [List.length_cons] at hl
    have hlen : (ms.map V.int).length ≤ sizeLine := by rw [List.length_map]; exact Nat.le_of_lt (small1000 (by omega))
    exact ⟨.int m, upd H a (.lst (ms.map V.int)), I.write (e := a) (t' := s.toks) (by rw [ha]; trivial) (.inl rfl) (fun b u hb hu => (h4.2 b hb).trans hu) ⟨_, hn⟩ ⟨hlen, us, n, vals_of_ints hI, hn⟩, ⟨t, rfl⟩, q m ms h1 hmin h2⟩
  have hmin : ∀ f r, ns = f :: r → ∀ x ∈ ns, f ≤ x := fun f r e x hx => by
    obtain ⟨i, hi⟩ := List.mem_iff_getElem?.mp hx
    exact heap_min hH (by rw [e]; rfl) i x hi
  match ns, hne, hL, hH, hmin, hz with
  | [m], _, hL, hH, hmin, hz => exact call_pop1 hL fun h' t h1 h2 => fin m t h' [] [] (List.Perm.refl _) (hmin m [] rfl) heap_nil h1 h2
  | f :: b :: r, _, hL, hH, hmin, hz =>
    obtain ⟨mid, last, e⟩ : ∃ mid last, b :: r = mid ++ [last] := ⟨(b :: r).dropLast, (b :: r).getLast (by simp), (List.dropLast_concat_getLast (by simp)).symm⟩
    rw [e] at hL hH hmin hz ha fin q
    refine call_pop2 hL (by simp only [List.length_cons, List.length_append, List.length_nil] at hz; omega) hH fun h' t ws ms h1 h2 h3 h4 => ?_
    refine fin f t h' ws ms ?_ (hmin f _ rfl) h1 h3 h4
    exact (h2.trans ((List.perm_append_singleton last mid).symm)).cons f
end
end LH

namespace LT
open PySem PySem.Spec PyProof.Rows L2
/-- sorted(d), d a dict by ints: its keys in a new list -/
def rSortedK : List V → Hp → VK → Prop := fun vs H Q => ∃ (a : Addr) (kvs : List (Key × V)) (ks : List Int), vs = [.ref a] ∧ Rd H a (.dK kvs) ∧ kvs.map (·.1) = ks.map Sum.inl ∧ ks.length ≤ 1000 ∧
  ∀ (ys : List Int) (p : Addr), ys.Perm ks → ys.Pairwise (· ≤ ·) → H p = none → Q (.ref p) (upd H p (.lst (ys.map V.int)))
theorem cr_sortedK {X : Cx} (hcalm : X.calm = true) : CallR X (.builtin "sorted") rSortedK := by
  intro pins s σ H vs us Q I r want
  obtain ⟨a, kvs, ks, rfl, hd, hks, hz, q⟩ := want
  rw [Vals.ref1 r]
  obtain ⟨z, lo, es, rel, dd⟩ := dk_rd I.hok hd
  obtain ⟨ep, hat⟩ := dd.dictAt
  have keys : es.map (·.1) = ks.map Sum.inl := rel.keys.symm.trans hks
  have len : es.length = ks.length := by simpa using congrArg List.length keys
  have fits : ks.length ≤ sizeLine := Nat.le_of_lt (small1000 hz)
  refine Calls.call_function_entry kind_sorted plain_sorted entry_sorted (args_sorted1 _) ?_
  unfold Builtin.«sorted»
  refine wpAny_bind (m := checkCount "sorted" 1 1 _) (wpAny_pure ?_)
  refine wpAny_bind (PySem.W.kdu_collect (A := X.A.in1) (PySem.W.kdl_dict (knd := mixKind X.prog X.w) (kvs := es) (ep := ep) lo) (I.ok.hd hcalm) hat (by rw [len]; exact fits) fun h1 tk acc kept items => ?_)
  have al : acc.toList.length = ks.length := by rw [Array.length_toList, items.1, len]
  have hints : IntsAre acc.toList ks := ints_each al fun j v e => by
    obtain ⟨k, x, e1, e2⟩ := items.2 j v (by rw [← Array.getElem?_toList]; exact e)
    have e3 : (ks.map (Sum.inl (β := Str)))[j]? = some k := by rw [← keys, List.getElem?_map, e1]; rfl
    rw [List.getElem?_map] at e3
    cases e4 : ks[j]? with
    | none => rw [e4] at e3; cases e3
    | some y =>
      rw [e4] at e3
      cases e3
      rcases keyIs_shape (show keyIs (Sum.inl y) v = true from e2) with ⟨i, t, ek, ev⟩ | ⟨w, t, ek, ev⟩
      · cases ek; exact ⟨y, t, rfl, ev⟩
      · cases ek
  have I1 : Inv X pins σ H { s with heap := h1, toks := tk } := I.kept kept
  refine wpAny_bind (wpAny_newList ?_ (by rw [al]; exact fits))
  have at1 : (h1.push (seqObj "list" acc.toList.toArray 0)).get? h1.objs.size = some (seqObj "list" acc.toList.toArray 0) := Heap.get?_push_size _ rfl
  show wpAny _ _ _ _ _ { s with heap := h1.push (seqObj "list" acc.toList.toArray 0), toks := tk }
  refine wpAny_bind (wpAny_holding (wpAny_call_entry slot_list_sort ⟨_, at1, rfl⟩ entry_list_sort (SrtO.list_sort_ord (s := { s with heap := h1.push (seqObj "list" acc.toList.toArray 0), toks := tk }) SrtO.swo_int at1 (by rw [al]; exact fits) (fun h2 => SrtO.ints_sortable hints h2) fun out g1 g2 => ⟨_, rfl, ?_⟩) (args_list_sort _)))
  obtain ⟨k1, k2, k3⟩ := SrtO.ints_out hints g1 g2
  obtain ⟨e', he⟩ := sortedHeap_at (vs := acc.toList) (out := out.toArray) at1
  have hlen : ((out.map SrtO.iv).map V.int).length ≤ sizeLine := by rw [List.length_map, k2.length_eq]; exact fits
  refine wpAny_pure ⟨_, rfl, .ref h1.objs.size, upd H h1.objs.size (.lst ((out.map SrtO.iv).map V.int)), I1.laid (t' := tk) (fun b u e => ?_) (Nat.le_refl _)
    (show ObjOk X.prog X.w _ _ _ (.lst ((out.map SrtO.iv).map V.int)) from ⟨hlen, out, e', vals_of_ints k1, he⟩), rfl, q _ _ k2 k3 (I1.hok.fresh (Nat.le_refl _))⟩
  have lt : b < h1.objs.size := Heap.lt_size e
  rw [sortedHeap_old (Nat.ne_of_lt lt) (by rw [size_push']; exact Nat.lt_succ_of_lt lt)]
  exact Heap.get?_push_of_some _ e
end LT

namespace LC
open PySem PySem.Spec PyProof.Rows
open Sem (wp)
theorem mro_co : mroOf (.type "itertools.combinations") = pure [.type "itertools.combinations", .type "object"] := by rw [mroOf_type]; kernel_rfl
theorem look_co : typeLookup (.type "itertools.combinations") "__new__" = pure (some (.builtin "itertools.combinations.__new__")) := by rw [typeLookup_type, builtinLookup_eq_fast]; kernel_rfl
theorem init_co : Slot "itertools.combinations" "__init__" "object.__init__" :=
  .of (owner := "object") (n := "__init__") (by rw [typeLookup_type, builtinLookup_eq_fast]; kernel_rfl) (by decide +kernel) (by decide +kernel) (by decide +kernel) (by first | exact .inl (by decide +kernel) | exact .inr (by decide +kernel)) (by rw [isSubtype_type]; kernel_rfl)
theorem self_co : isSubtype (.type "itertools.combinations") (.type "itertools.combinations") = pure true := by rw [isSubtype_type]; kernel_rfl
theorem called_co : TypeCalled "itertools.combinations" "itertools.combinations.__new__" "object.__init__" :=
  ⟨by decide +kernel, by decide +kernel, ⟨_, _, mro_co⟩, madeBy_type mro_co look_co (by decide +kernel), by decide +kernel, self_co, init_co⟩
theorem tcall_co (a b : Value) : checkTypeCall "itertools.combinations" ⟨[a, b], []⟩ = pure () := by kernel_rfl
theorem ncall_co (a b : Value) : checkBuiltinCall "itertools.combinations.__new__" ⟨[.type "itertools.combinations", a, b], []⟩ = pure () := by kernel_rfl
theorem enew_co : entryFor table "itertools.combinations.__new__" = some Builtin.«itertools.combinations.__new__» := entryFor_of_tree (by kernel_rfl)
theorem siter_co : Slot "itertools.combinations" "__iter__" "itertools.combinations.__iter__" :=
  .of (owner := "itertools.combinations") (n := "__iter__") (by rw [typeLookup_type, builtinLookup_eq_fast]; kernel_rfl) (by decide +kernel) (by decide +kernel) (by decide +kernel) (by first | exact .inl (by decide +kernel) | exact .inr (by decide +kernel)) self_co
theorem snext_co : Slot "itertools.combinations" "__next__" "itertools.combinations.__next__" :=
  .of (owner := "itertools.combinations") (n := "__next__") (by rw [typeLookup_type, builtinLookup_eq_fast]; kernel_rfl) (by decide +kernel) (by decide +kernel) (by decide +kernel) (by first | exact .inl (by decide +kernel) | exact .inr (by decide +kernel)) self_co
theorem eiter_co : entryFor table "itertools.combinations.__iter__" = some Builtin.«dict_keyiterator.__iter__» :=
  entryFor_alias (id' := "dict_keyiterator.__iter__") (by kernel_rfl) (by first | rfl | decide +kernel | (unfold String.splitOn; simp +decide [String.splitOnAux])) (by decide +kernel) (by kernel_rfl)
theorem enext_co : entryFor table "itertools.combinations.__next__" = some Builtin.«itertools.combinations.__next__» := entryFor_of_tree (by kernel_rfl)
theorem owner_co : Manifest.owners.lookup (String.ofList "itertools.combinations".toList) = some Manifest.sig_itertools_combinations := by kernel_rfl
theorem aiter_co (a : Value) : argsOk "itertools.combinations.__iter__" ⟨[a], []⟩ := by unfold argsOk; kernel_rfl
theorem anext_co (a : Value) : argsOk "itertools.combinations.__next__" ⟨[a], []⟩ := by unfold argsOk; kernel_rfl
theorem nodict_co : typeHasDict (.type "itertools.combinations") = false := by decide +kernel
theorem self_co2 : isSubtype (.type "itertools.combinations") (.type ("itertools." ++ "combinations")) = pure true := by
  rw [show ("itertools." ++ "combinations" : String) = "itertools.combinations" by decide]; exact self_co
end LC

namespace LC
open PySem PySem.Spec PyProof.Rows
open Sem (wp)
/-- a walk over pairs: the pool, the state, what was handed out, the two indices -/
def coObj (p : Addr) (st : Int) (old : Value) (i j : Nat) : Obj := { cls := .type "itertools.combinations", data := .fields #[.ref p, rawInt st, old, rawInt i, rawInt j] }
theorem meets_co (l : Addr) (T : String) (o : Obj) (its : Array Value) (n : Nat) (t : Tok) (hT : T = "list" ∨ T = "tuple") (hc : o.cls = .type T) (hd : o.data = .seq its n) (hz : its.size ≤ 1000) :
    Meets (Builtin.«itertools.combinations.__new__» ⟨[.type "itertools.combinations", .ref l, .int 2 t], []⟩)
      (fun _ R s => s.heap.get? l = some o ∧ ∀ h1 : Heap, s.heap.objs.size ≤ h1.objs.size → (∀ b u, s.heap.get? b = some u → h1.get? b = some u) →
        R (.ok (.ret (.ref (h1.objs.size + 1)))) { s with heap := (h1.push { cls := .type "tuple", data := .seq its.toList.toArray }).push (coObj h1.objs.size (if 2 > its.toList.length then 2 else 0) .none 0 1) }) :=
  .of_wp fun prog w A R s h => by
    obtain ⟨hp, g, dd, tk, os⟩ := s
    obtain ⟨ho, h⟩ := h
    have hsub := self_co
    have hsub2 := self_co2
    have hnd := nodict_co
    repeat (first
      | (with_reducible refine LT.gather (s := ⟨hp, g, dd, tk, os⟩) l hT ho hc hd (Nat.le_of_lt (L2.small1000 hz)) fun h1 z1 k1 => ?_)
      | (with_reducible refine wpAny_newTuple ?_ (by rw [Array.length_toList]; exact Nat.le_of_lt (L2.small1000 hz)))
      | wp_step
      | simp only [List.head?_cons, Option.some_or, List.getElem?_cons_succ, List.getElem?_cons_zero, List.length_cons, List.length_nil, List.forIn_nil])
    have z := h h1 z1 k1
    refine ⟨_, rfl, ?_⟩
    rw [Heap.size_push]
    exact z
section
variable {prog : Program} {w : World} {A : Around} {E : Value → Shared → Prop} {s : Shared}
theorem call_co {l : Addr} {T : String} {o : Obj} {its : Array Value} {n : Nat} {t : Tok} {Q : Value → Shared → Prop} (hT : T = "list" ∨ T = "tuple") (ho : s.heap.get? l = some o) (hc : o.cls = .type T) (hd : o.data = .seq its n) (hz : its.size ≤ 1000)
    (k : ∀ (h' : Heap) (p : Addr), s.heap.objs.size ≤ p → h'.get? (p + 1) = some (coObj p (if 2 > its.toList.length then 2 else 0) .none 0 1) → h'.get? p = some { cls := .type "tuple", data := .seq its.toList.toArray } → (∀ b u, s.heap.get? b = some u → h'.get? b = some u) → Q (.ref (p + 1)) { s with heap := h' }) :
    wpAny (model prog w) A (call (.type "itertools.combinations") [.ref l, .int 2 t]) Q E s := by
  refine callType_new called_co (by decide +kernel) (tcall_co _ _) (ncall_co _ _) (fun obj => PySem.F.args_object_init_3 obj _ _) enew_co (meets_co l T o its n t hT hc hd hz) ⟨ho, fun h1 z1 k1 => ?_⟩
  have e1 : ((h1.push { cls := .type "tuple", data := .seq its.toList.toArray }).push (coObj h1.objs.size (if 2 > its.toList.length then 2 else 0) .none 0 1)).get? (h1.objs.size + 1) = some (coObj h1.objs.size (if 2 > its.toList.length then 2 else 0) .none 0 1) := by
    have := Heap.get?_push_size (h1.push { cls := .type "tuple", data := .seq its.toList.toArray }) (o := coObj h1.objs.size (if 2 > its.toList.length then 2 else 0) .none 0 1) rfl
    rwa [Heap.size_push] at this
  have e2 : ((h1.push { cls := .type "tuple", data := .seq its.toList.toArray }).push (coObj h1.objs.size (if 2 > its.toList.length then 2 else 0) .none 0 1)).get? h1.objs.size = some { cls := .type "tuple", data := .seq its.toList.toArray } :=
    Heap.get?_push_of_some _ (Heap.get?_push_size _ rfl)
  exact ⟨⟨_, e1, rfl⟩, k _ h1.objs.size z1 e1 e2 fun b u q => Heap.get?_push_of_some _ (Heap.get?_push_of_some _ (k1 b u q))⟩
theorem iter_co {c p : Addr} {st : Int} {old : Value} {i j : Nat} {Q : Value → Shared → Prop} (hit : s.heap.get? c = some (coObj p st old i j)) (h : Q (.ref c) s) : wpAny (model prog w) A (pyIter (.ref c)) Q E s := by
  have hT : s.TypeIs (.ref c) "itertools.combinations" := ⟨_, hit, rfl⟩
  refine wpAny_pyIter_slot hT siter_co (wpAny_call_entry siter_co hT eiter_co ?_ (aiter_co _))
  show wpAny _ _ (ret (.ref c)) _ _ s
  exact wpAny_pure ⟨_, rfl, "itertools.combinations", _, hT, snext_co.lookup, h⟩
end
end LC

namespace LC
open PySem PySem.Spec PyProof.Rows
open Sem (wp)
open AutoSeq1 (wpAny_loadPart')
/-- only the object at c is other than it was, and new ones -/
def Oc (h h' : Heap) (c : Addr) : Prop := h.objs.size ≤ h'.objs.size ∧ ∀ b u, b ≠ c → h.get? b = some u → h'.get? b = some u
section
variable {prog : Program} {w : World} {A : Around} {E : Value → Shared → Prop} {s : Shared}
theorem next_first {c p : Addr} {its : Array Value} {n : Nat} {Q : Option Value → Shared → Prop} (hit : s.heap.get? c = some (coObj p 0 .none 0 1)) (hp : s.heap.get? p = some { cls := .type "tuple", data := .seq its n }) (hpc : p ≠ c)
    (k : ∀ (h' : Heap) (T : Addr), s.heap.objs.size ≤ T → h'.get? T = some { cls := .type "tuple", data := .seq #[its.getD 0 .none, its.getD 1 .none] } → h'.get? c = some (coObj p 1 (.ref T) 0 1) → (∀ b u, b ≠ c → s.heap.get? b = some u → h'.get? b = some u) → Q (some (.ref T)) { s with heap := h' }) :
    wpAny (model prog w) A (pyNext (.ref c)) Q E s := by
  have hT : s.TypeIs (.ref c) "itertools.combinations" := ⟨_, hit, rfl⟩
  unfold pyNext
  refine wpAny_bind (wpAny_attempt (wpAny_callSpecial?_slot (name := Str.ofString "__next__") hT snext_co (wpAny_call_entry snext_co hT enext_co ?_ (anext_co _))))
  wp_walk using wpAny_loadPart' hit, wpAny_loadPart' hp
  have e1 : (s.heap.update c (Obj.mapFields fun x => x.setIfInBounds 1 (rawInt 1))).get? c = some (coObj p 1 .none 0 1) := Heap.get?_update_self _ hit rfl
  have e2 := (Heap.get?_update_ne _ _ _ (Obj.mapFields fun x => x.setIfInBounds 1 (rawInt 1)) hpc).trans hp
  have e3 : ∀ b u, b ≠ c → s.heap.get? b = some u → (s.heap.update c (Obj.mapFields fun x => x.setIfInBounds 1 (rawInt 1))).get? b = some u := fun b u hb hu => (Heap.get?_update_ne _ _ _ _ hb).trans hu
  have e4 : (s.heap.update c (Obj.mapFields fun x => x.setIfInBounds 1 (rawInt 1))).objs.size = s.heap.objs.size := Heap.size_update ..
  generalize s.heap.update c (Obj.mapFields fun x => x.setIfInBounds 1 (rawInt 1)) = h2 at e1 e2 e3 e4
  wp_walk using wpAny_loadPart' e2
  have f1 := fun o => Heap.get?_push_of_some o e1
  refine ⟨_, rfl, wpAny_pure ?_⟩
  have lt := Heap.lt_size e1
  refine k _ h2.objs.size (by omega) ?_ (Heap.get?_update_self _ (f1 _) rfl) fun b u hb hu => ?_
  · exact (Heap.get?_update_ne _ _ _ _ (Nat.ne_of_gt lt)).trans (Heap.get?_push_size _ rfl)
  · exact (Heap.get?_update_ne _ _ _ _ hb).trans (Heap.get?_push_of_some _ (e3 b u hb hu))
end
end LC

namespace LC
open PySem PySem.Spec PyProof.Rows
open Sem (wp)
open AutoSeq1 (wpAny_loadPart')
/-- the pair of indices behind (i, j), as the walk finds it -/
def nx (n i j : Nat) : Option (List Nat) :=
  match (List.range 2).reverse.find? (fun k => [i, j].getD k 0 != k + n - 2) with
  | none => none
  | some k => some ([i, j].take k ++ (List.range (2 - k)).map fun m => [i, j].getD k 0 + 1 + m)
theorem nx_a {n i j : Nat} (h : j + 1 < n) : nx n i j = some [i, j + 1] := by
  have e : (List.range 2).reverse = [1, 0] := by decide
  unfold nx
  rw [e, List.find?_cons_of_pos (by simp; omega)]
  rfl
theorem nx_b {n i j : Nat} (h : j + 1 = n) (h2 : i + 2 < n) : nx n i j = some [i + 1, i + 2] := by
  have e : (List.range 2).reverse = [1, 0] := by decide
  unfold nx
  rw [e, List.find?_cons_of_neg (by simp; omega), List.find?_cons_of_pos (by simp; omega)]
  rfl
theorem nx_c {n i j : Nat} (h : j + 1 = n) (h2 : i + 2 = n) : nx n i j = none := by
  have e : (List.range 2).reverse = [1, 0] := by decide
  unfold nx
  rw [e, List.find?_cons_of_neg (by simp; omega), List.find?_cons_of_neg (by simp; omega)]
  rfl
section
variable {prog : Program} {w : World} {A : Around} {E : Value → Shared → Prop} {s : Shared}
theorem next_more {c p : Addr} {its : Array Value} {n i j i2 j2 : Nat} {old : Value} {Q : Option Value → Shared → Prop} (hit : s.heap.get? c = some (coObj p 1 old i j)) (hp : s.heap.get? p = some { cls := .type "tuple", data := .seq its n }) (hpc : p ≠ c) (hn : nx its.size i j = some [i2, j2])
    (k : ∀ (h' : Heap) (T : Addr), s.heap.objs.size ≤ T → h'.get? T = some { cls := .type "tuple", data := .seq #[its.getD i2 .none, its.getD j2 .none] } → h'.get? c = some (coObj p 1 (.ref T) i2 j2) → (∀ b u, b ≠ c → s.heap.get? b = some u → h'.get? b = some u) → Q (some (.ref T)) { s with heap := h' }) :
    wpAny (model prog w) A (pyNext (.ref c)) Q E s := by
  have hT : s.TypeIs (.ref c) "itertools.combinations" := ⟨_, hit, rfl⟩
  unfold pyNext
  refine wpAny_bind (wpAny_attempt (wpAny_callSpecial?_slot (name := Str.ofString "__next__") hT snext_co (wpAny_call_entry snext_co hT enext_co ?_ (anext_co _))))
  wp_walk using wpAny_loadPart' hit, wpAny_loadPart' hp
  split
  · rename_i nxt he
    change nx its.size i j = some nxt at he
    rw [hn] at he
    cases he
    have e1 : (s.heap.update c (Obj.mapFields fun fs => fs.extract 0 3 ++ (List.map (fun (n : Nat) => rawInt n) [i2, j2]).toArray)).get? c = some (coObj p 1 old i2 j2) := (Heap.get?_update_self _ hit rfl).trans (by simp [coObj, Obj.mapFields])
    have e2 := (Heap.get?_update_ne _ _ _ (Obj.mapFields fun fs => fs.extract 0 3 ++ (List.map (fun (n : Nat) => rawInt n) [i2, j2]).toArray) hpc).trans hp
    have e3 : ∀ b u, b ≠ c → s.heap.get? b = some u → (s.heap.update c (Obj.mapFields fun fs => fs.extract 0 3 ++ (List.map (fun (n : Nat) => rawInt n) [i2, j2]).toArray)).get? b = some u := fun b u hb hu => (Heap.get?_update_ne _ _ _ _ hb).trans hu
    have e4 : (s.heap.update c (Obj.mapFields fun fs => fs.extract 0 3 ++ (List.map (fun (n : Nat) => rawInt n) [i2, j2]).toArray)).objs.size = s.heap.objs.size := Heap.size_update ..
    wp_step
    wp_step
    wp_step
    refine wpAny_bind (wpAny_load hit ?_)
    show wpAny _ _ (update c (Obj.mapFields fun fs => fs.extract 0 3 ++ (List.map (fun (n : Nat) => rawInt n) [i2, j2]).toArray) >>= fun _ => lookBehind c) _ _ _
    wp_step
    with_reducible apply wpAny_update'
    · exact hit
    generalize s.heap.update c (Obj.mapFields fun fs => fs.extract 0 3 ++ (List.map (fun (n : Nat) => rawInt n) [i2, j2]).toArray) = h2 at e1 e2 e3 e4 ⊢
    wp_walk using wpAny_loadPart' e1, wpAny_loadPart' e2
    refine ⟨_, rfl, wpAny_pure ?_⟩
    have lt := Heap.lt_size e1
    have f1 := fun o => Heap.get?_push_of_some o e1
    refine k _ h2.objs.size (by omega) ?_ (Heap.get?_update_self _ (f1 _) rfl) fun b u hb hu => ?_
    · exact (Heap.get?_update_ne _ _ _ _ (Nat.ne_of_gt lt)).trans (Heap.get?_push_size _ rfl)
    · exact (Heap.get?_update_ne _ _ _ _ hb).trans (Heap.get?_push_of_some _ (e3 b u hb hu))
  · rename_i he
    change nx its.size i j = none at he
    rw [hn] at he
    cases he
theorem next_none {c p : Addr} {its : Array Value} {n i j : Nat} {old : Value} {Q : Option Value → Shared → Prop} (hh : A.handled = none) (hit : s.heap.get? c = some (coObj p 1 old i j)) (hp : s.heap.get? p = some { cls := .type "tuple", data := .seq its n }) (hpc : p ≠ c) (hn : nx its.size i j = none)
    (k : ∀ h' : Heap, s.heap.objs.size ≤ h'.objs.size → (∀ b u, b ≠ c → s.heap.get? b = some u → h'.get? b = some u) → Q none { s with heap := h' }) :
    wpAny (model prog w) A (pyNext (.ref c)) Q E s := by
  have hT : s.TypeIs (.ref c) "itertools.combinations" := ⟨_, hit, rfl⟩
  have hh1 : A.in1.handled = none := hh
  unfold pyNext
  refine wpAny_bind (wpAny_attempt (wpAny_callSpecial?_slot (name := Str.ofString "__next__") hT snext_co (wpAny_call_entry snext_co hT enext_co ?_ (anext_co _))))
  wp_walk using wpAny_loadPart' hit, wpAny_loadPart' hp
  split
  · rename_i nxt he
    change nx its.size i j = some nxt at he
    rw [hn] at he
    cases he
  · wp_walk using wpAny_loadPart' hit
    simp only [raiseNew]
    refine wpAny_bind (wpAny_handled ?_)
    rw [hh1]
    refine wpAny_bind (wpAny_pure (wpAny_throw ?_))
    refine wpAny_bind (wpAny_isInstance (T := "StopIteration") (b := true) ⟨_, Heap.get?_push_size _ rfl, rfl⟩ isSubtype_stop ?_)
    refine wpAny_pure (k _ (by simp only [Heap.size_push, Heap.size_update]; omega) fun b u hb hu => Heap.get?_push_of_some _ (Heap.get?_push_of_some _ ((Heap.get?_update_ne _ _ _ _ hb).trans hu)))
theorem next_over {c p : Addr} {i j : Nat} {old : Value} {Q : Option Value → Shared → Prop} (hh : A.handled = none) (hit : s.heap.get? c = some (coObj p 2 old i j))
    (k : ∀ h' : Heap, s.heap.objs.size ≤ h'.objs.size → (∀ b u, b ≠ c → s.heap.get? b = some u → h'.get? b = some u) → Q none { s with heap := h' }) :
    wpAny (model prog w) A (pyNext (.ref c)) Q E s := by
  have hT : s.TypeIs (.ref c) "itertools.combinations" := ⟨_, hit, rfl⟩
  have hh1 : A.in1.handled = none := hh
  unfold pyNext
  refine wpAny_bind (wpAny_attempt (wpAny_callSpecial?_slot (name := Str.ofString "__next__") hT snext_co (wpAny_call_entry snext_co hT enext_co ?_ (anext_co _))))
  wp_walk using wpAny_loadPart' hit
  simp only [raiseNew]
  refine wpAny_bind (wpAny_handled ?_)
  rw [hh1]
  refine wpAny_bind (wpAny_pure (wpAny_throw ?_))
  refine wpAny_bind (wpAny_isInstance (T := "StopIteration") (b := true) ⟨_, Heap.get?_push_size _ rfl, rfl⟩ isSubtype_stop ?_)
  refine wpAny_pure (k _ (by simp only [Heap.size_push, Heap.size_update]; omega) fun b u hb hu => Heap.get?_push_of_some _ (Heap.get?_push_of_some _ hu))
end
end LC

namespace LC
open PySem PySem.Spec PyProof.Rows L2
/-! ### the pairs, in their order -/
def nxp (n : Nat) (q : Nat × Nat) : Option (Nat × Nat) := if q.2 + 1 < n then some (q.1, q.2 + 1) else if q.1 + 2 < n then some (q.1 + 1, q.1 + 2) else none
def gop (n : Nat) : Nat → Nat × Nat → List (Nat × Nat)
  | 0, _ => []
  | f + 1, q => q :: match nxp n q with
    | none => []
    | some r => gop n f r
def prs (n : Nat) : List (Nat × Nat) := if n < 2 then [] else gop n (n * n + 1) (0, 1)
def mu (n : Nat) (q : Nat × Nat) : Nat := (n - q.1) * n - q.2
theorem nxp_ok {n : Nat} {q r : Nat × Nat} (h1 : q.1 < q.2) (h2 : q.2 < n) (h : nxp n q = some r) : r.1 < r.2 ∧ r.2 < n ∧ mu n r < mu n q := by
  unfold nxp at h
  have e : n ≤ (n - q.1) * n := Nat.le_mul_of_pos_left n (by omega)
  split at h
  · cases h
    refine ⟨by show q.1 < q.2 + 1; omega, by assumption, ?_⟩
    show (n - q.1) * n - (q.2 + 1) < (n - q.1) * n - q.2
    omega
  · split at h
    · cases h
      refine ⟨by show q.1 + 1 < q.1 + 2; omega, by assumption, ?_⟩
      show (n - (q.1 + 1)) * n - (q.1 + 2) < (n - q.1) * n - q.2
      have e2 : (n - q.1) * n = (n - (q.1 + 1)) * n + n := by
        rw [show n - q.1 = (n - (q.1 + 1)) + 1 by omega, Nat.add_mul, Nat.one_mul]
      omega
    · cases h
theorem gop_step {n : Nat} : ∀ (f : Nat) (q : Nat × Nat), q.1 < q.2 → q.2 < n → mu n q < f → ∀ (k : Nat) (r : Nat × Nat), (gop n f q)[k]? = some r → r.1 < r.2 ∧ r.2 < n ∧ (gop n f q)[k + 1]? = nxp n r
  | 0, q, _, _, h, _, _, _ => by omega
  | f + 1, q, h1, h2, h, k, r, hk => by
    cases e : nxp n q with
    | none =>
      have eg : gop n (f + 1) q = [q] := by rw [gop, e]
      rw [eg] at hk ⊢
      cases k with
      | zero => cases hk; exact ⟨h1, h2, by rw [e]; rfl⟩
      | succ k => simp at hk
    | some u =>
      obtain ⟨a, b, c⟩ := nxp_ok h1 h2 e
      have eg : gop n (f + 1) q = q :: gop n f u := by rw [gop, e]
      rw [eg] at hk ⊢
      cases k with
      | zero =>
        cases hk
        refine ⟨h1, h2, ?_⟩
        rw [e]
        show (gop n f u)[0]? = some u
        cases f with
        | zero => omega
        | succ f => rw [gop]; rfl
      | succ k => exact gop_step f u a b (by omega) k r hk
theorem prs_zero {n : Nat} (h : 2 ≤ n) : (prs n)[0]? = some (0, 1) := by
  unfold prs
  rw [if_neg (by omega), gop]; rfl
theorem prs_step {n k : Nat} {r : Nat × Nat} (h : (prs n)[k]? = some r) : r.1 < r.2 ∧ r.2 < n ∧ (prs n)[k + 1]? = nxp n r := by
  unfold prs at h ⊢
  by_cases c : n < 2
  · rw [if_pos c] at h; simp at h
  · rw [if_neg c] at h ⊢
    refine gop_step _ _ (by decide) (by show 1 < n; omega) ?_ k r h
    show (n - 0) * n - 1 < n * n + 1
    rw [Nat.sub_zero]; omega
theorem nx_of {n : Nat} {q r : Nat × Nat} (h1 : q.1 < q.2) (h2 : q.2 < n) (h : nxp n q = some r) : nx n q.1 q.2 = some [r.1, r.2] := by
  unfold nxp at h
  split at h
  · cases h; exact nx_a (by assumption)
  · split at h
    · cases h; exact nx_b (by omega) (by assumption)
    · cases h
theorem nx_of_none {n : Nat} {q : Nat × Nat} (h1 : q.1 < q.2) (h2 : q.2 < n) (h : nxp n q = none) : nx n q.1 q.2 = none := by
  unfold nxp at h
  split at h
  · cases h
  · split at h
    · cases h
    · exact nx_c (by omega) (by omega)
/-! ### the walk -/
/-- the pairs of the items xs, in their order, as new tuples -/
def Ico (xs : List V) : It :=
  ⟨fun k _ => k < (prs xs.length).length,
    fun k H v H' => ∃ (T : Addr) (q : Nat × Nat) (x y : V), v = .ref T ∧ H T = none ∧ H' = upd H T (.tup [x, y]) ∧ (prs xs.length)[k]? = some q ∧ xs[q.1]? = some x ∧ xs[q.2]? = some y,
    fun k _ => k = (prs xs.length).length⟩
def coSt (c p : Addr) (its : List Value) (k : Nat) (h : Heap) : Prop :=
  h.get? p = some { cls := .type "tuple", data := .seq its.toArray } ∧
    ((k = 0 ∧ h.get? c = some (coObj p (if 2 > its.length then 2 else 0) .none 0 1)) ∨ ∃ old q, 0 < k ∧ (prs its.length)[k - 1]? = some q ∧ h.get? c = some (coObj p 1 old q.1 q.2))
theorem coSt.c {c p : Addr} {its : List Value} {k : Nat} {h : Heap} (s : coSt c p its k h) : ∃ st old i j, h.get? c = some (coObj p st old i j) := by
  rcases s.2 with ⟨_, e⟩ | ⟨old, q, _, _, e⟩
  · exact ⟨_, _, _, _, e⟩
  · exact ⟨_, _, _, _, e⟩
theorem turn_co {P : Program} {w : World} {K : PySem.W.Frag} {tg : Expr} {c p : Addr} {xs : List V} {its : List Value} (rv : Vals xs its) (hpc : p ≠ c) :
    Turn P w K tg (Ico xs) [c, p] c (coSt c p its) where
  mem := List.mem_cons_self
  obj := fun k h st b hb => by
    rcases List.mem_cons.mp hb with rfl | hb
    · obtain ⟨_, _, _, _, e⟩ := st.c
      exact ⟨_, e, fun v q => by cases q⟩
    · rw [List.mem_singleton.mp hb]; exact ⟨_, st.1, fun v q => by cases q⟩
  keep := fun k h h' st kp => by
    refine ⟨kp p (by simp) _ st.1, ?_⟩
    rcases st.2 with ⟨k0, e⟩ | ⟨old, q, k0, e1, e⟩
    · exact .inl ⟨k0, kp c (by simp) _ e⟩
    · exact .inr ⟨old, q, k0, e1, kp c (by simp) _ e⟩
  item := by
    intro X hP hw hK hc k pins s σ H E I hf st hk
    subst hP hw hK
    replace hk : k < (prs xs.length).length := hk
    have hl := rv.length
    obtain ⟨q, hq⟩ : ∃ q, (prs xs.length)[k]? = some q := ⟨_, List.getElem?_eq_getElem hk⟩
    obtain ⟨q1, q2, _⟩ := prs_step hq
    have hx := List.getElem?_eq_getElem (l := xs) (i := q.1) (by omega)
    have hy := List.getElem?_eq_getElem (l := xs) (i := q.2) (by omega)
    obtain ⟨u, hu, ru⟩ := rv.get hx
    obtain ⟨v, hv, rv2⟩ := rv.get hy
    have hfc : ∀ b ∈ [c], FpOk X pins H b := fun b hb => hf b (by simp at hb; simp [hb])
    have fin : ∀ (h' : Heap) (T : Addr), s.heap.objs.size ≤ T → h'.get? T = some { cls := .type "tuple", data := .seq #[its.toArray.getD q.1 .none, its.toArray.getD q.2 .none] } → h'.get? c = some (coObj p 1 (.ref T) q.1 q.2) → (∀ b u, b ≠ c → s.heap.get? b = some u → h'.get? b = some u) →
        (∃ u, (some (Value.ref T)) = some u ∧ wpAny (model X.prog X.w) X.A (letOwnedTupleGo tg (.ref c) u) (fun _ s2 => ∃ x H', Inv X pins σ H' s2 ∧ RelV x u ∧ (Ico xs).yld k H x H' ∧ coSt c p its (k + 1) s2.heap ∧ ∀ b ∈ [c, p], H' b = none) E { s with heap := h' }) := by
      intro h' T hT eT ec kp
      refine ⟨_, rfl, go_of ec rfl rfl (by decide) ?_⟩
      have e1 : its.toArray.getD q.1 .none = u := by simp [hu]
      have e2 : its.toArray.getD q.2 .none = v := by simp [hv]
      rw [e1, e2] at eT
      have ob : ObjOk X.prog X.w (upd H T (.tup [xs[q.1]'(by omega), xs[q.2]'(by omega)])) h' T (.tup [xs[q.1]'(by omega), xs[q.2]'(by omega)]) :=
        ⟨by show 2 ≤ sizeLine; decide, [u, v], .cons ru (.cons rv2 .nil), ⟨_, eT, rfl, _, rfl⟩⟩
      have hTn := I.hok.fresh hT
      refine ⟨.ref T, _, I.turnedNew (ch := [c]) (t' := s.toks) (fun b o nb e => kp b o (fun z => nb (by simp [z])) e) hfc hT ob, rfl, ⟨T, q, _, _, rfl, hTn, rfl, hq, hx, hy⟩, ⟨kp p _ hpc st.1, .inr ⟨_, q, Nat.succ_pos k, by rw [Nat.add_sub_cancel, ← hl]; exact hq, ec⟩⟩, fun b hb => ?_⟩
      have lt : b < s.heap.objs.size := by
        rcases List.mem_cons.mp hb with rfl | hb
        · obtain ⟨_, _, _, _, e⟩ := st.c; exact Heap.lt_size e
        · rw [List.mem_singleton.mp hb]; exact Heap.lt_size st.1
      rw [upd_ne (Nat.ne_of_lt (Nat.lt_of_lt_of_le lt hT))]
      exact (hf b hb).1
    rcases st.2 with ⟨rfl, e⟩ | ⟨old, q0, k0, e1, e⟩
    · have hn : 2 ≤ its.length := by
        rw [← hl]
        rcases Nat.lt_or_ge xs.length 2 with z | z
        · unfold prs at hk; rw [if_pos z] at hk; simp at hk
        · exact z
      rw [if_neg (by omega)] at e
      have e0 := prs_zero (n := xs.length) (by omega)
      rw [hq] at e0
      cases e0
      exact next_first e st.1 hpc fun h' T hT eT ec kp => fin h' T hT eT ec kp
    · obtain ⟨a1, a2, a3⟩ := prs_step e1
      rw [← hl, show k - 1 + 1 = k by omega] at a3
      have hn : nxp xs.length q0 = some q := a3.symm.trans hq
      refine next_more e st.1 hpc (i2 := q.1) (j2 := q.2) ?_ fun h' T hT eT ec kp => fin h' T hT eT ec kp
      rw [List.size_toArray, ← hl]
      exact nx_of a1 (by omega) hn
  done := by
    intro X hP hw hK hc k pins s σ H E I hf st hk
    subst hP hw hK
    replace hk : k = (prs xs.length).length := hk
    have hl := rv.length
    have hfc : ∀ b ∈ [c], FpOk X pins H b := fun b hb => hf b (by simp at hb; simp [hb])
    have hh : X.A.handled = none := I.ok.hd hc
    rcases st.2 with ⟨rfl, e⟩ | ⟨old, q0, k0, e1, e⟩
    · have hn : 2 > its.length := by
        rw [← hl]
        rcases Nat.lt_or_ge xs.length 2 with z | z
        · exact z
        · have := (List.getElem?_eq_some_iff.mp (prs_zero z)).1; omega
      rw [if_pos hn] at e
      exact next_over hh e fun h' _ kp => ⟨rfl, I.turnedL (ch := [c]) (t' := s.toks) (fun b o nb q => kp b o (fun z => nb (by simp [z])) q) hfc⟩
    · obtain ⟨a1, a2, a3⟩ := prs_step e1
      rw [← hl, show k - 1 + 1 = k by omega, hk, List.getElem?_eq_none (Nat.le_refl _)] at a3
      exact next_none hh e st.1 hpc (by rw [List.size_toArray, ← hl]; exact nx_of_none a1 (by omega) a3.symm) fun h' _ kp => ⟨rfl, I.turnedL (ch := [c]) (t' := s.toks) (fun b o nb q => kp b o (fun z => nb (by simp [z])) q) hfc⟩
  self := fun A k s Q E st h => by
    obtain ⟨_, _, _, _, e⟩ := st.c
    exact iter_co e h
def iCo (K : PySem.W.Frag) (ta : TA) : TI := fun σ H R => ta σ H fun vs H1 => ∃ a xs, vs = [.ref a, .int 2] ∧ SqL K H1 a xs ∧ xs.length ≤ 1000 ∧ R (Ico xs) H1
theorem pi_co {X : Cx} {x : Str} {e e2 tg : Expr} {ta : TA} {p pos : Pos} (hg : Gl X x) (hm : X.mg x = some (.type "itertools.combinations")) (ha : PA X [e, e2] ta) (hdb : (x == ("__debug__" : Str)) = false := by decide)
    (hs : starEach [e, e2] X.env = (false, eval e X.env) :: starEach [e2] X.env := by rfl) (hpl : (backTo pos (starEach [e2] X.env)).any (·.1) = false := by rfl) :
    PI X tg (.Call (.Name x p) [e, e2] [] pos) (iCo X.K ta) := by
  constructor
  intro pins s σ H R I want
  refine wpAny_Call_Name_kw (ld_glob I hg hm ?_ hdb)
  refine PyProof.Rows.callWith_type1 (thn (ha.run pos pins s σ H _ I want) ?_) hs hpl
  rintro us s1 ⟨vs, H1, J, rel, a, xs, rfl, qx, hz, q⟩
  obtain ⟨u1, u2, rfl, r1, r2⟩ := vals2 rel
  cases r1
  obtain ⟨t, rfl⟩ := r2
  obtain ⟨its, rv, p1, _⟩ := J.list qx
  have hl := rv.length
  obtain ⟨o, ho, hc, n, hd⟩ := p1.isList
  refine call_co (.inl rfl) ho hc hd (by rw [List.size_toArray, ← hl]; exact hz) fun h' pp hpp e1 e2 kp => iter_co e1 ?_
  have J2 : Inv X pins σ H1 { s1 with heap := h' } := J.kept (t' := s1.toks) kp
  refine ⟨pp + 1, [pp + 1, pp], _, _, H1, rfl, J2, turn_co rv (Nat.ne_of_lt (Nat.lt_succ_self pp)), ⟨by simpa using e2, .inl ⟨rfl, by simpa using e1⟩⟩, fun b hb => ?_, q⟩
  have le : s1.heap.objs.size ≤ b := by
    rcases List.mem_cons.mp hb with rfl | hb
    · omega
    · rw [List.mem_singleton.mp hb]; exact hpp
  exact J.fpOk le (J.hok.fresh le)
theorem walk_co {xs : List V} : Walk (Ico xs) (prs xs.length).length (fun _ => True) (fun k H v H' => ∃ (T : Addr) (q : Nat × Nat) (x y : V), v = .ref T ∧ H T = none ∧ H' = upd H T (.tup [x, y]) ∧ (prs xs.length)[k]? = some q ∧ xs[q.1]? = some x ∧ xs[q.2]? = some y) :=
  ⟨fun _ _ h _ => h, fun _ _ => rfl, fun _ _ _ _ _ _ y => y⟩
end LC

namespace LX
open PySem PySem.Spec PyProof.Rows L2
/-! ### a sign, n times -/
def repS (c : Nat) (n : Int) : Str := ⟨Array.replicate n.toNat c⟩
theorem rep_fold (c : Nat) : ∀ (k : Nat) (a : Array Nat), (List.replicate k #[c]).foldl (· ++ ·) a = a ++ Array.replicate k c
  | 0, a => by simp
  | k + 1, a => by
    rw [List.replicate_succ, List.foldl_cons, rep_fold c k]
    apply Array.toList_inj.mp
    simp [List.replicate_succ]
theorem op_mulS {X : Cx} : OpR X (binaryOp .Mult) (fun x y H Q => ∃ (c : Nat) (n : Int), x = .str ⟨#[c]⟩ ∧ y = .int n ∧ -1000 ≤ n ∧ n ≤ 1000 ∧ Q (.str (repS c n)) H) := by
  intro pins s σ H x y v u Q I rx ry h
  obtain ⟨c, n, rfl, rfl, h0, h1, q⟩ := h
  obtain ⟨t, rfl⟩ := rx
  obtain ⟨t', rfl⟩ := ry
  have el : (⟨#[c]⟩ : Str).length = 1 := rfl
  refine P.mul_str (by
      have a1 : ¬ n < -(2 ^ 63 : Int) := by omega
      have a2 : ¬ n ≥ 2 ^ 63 := by omega
      rw [decide_eq_false a1, decide_eq_false a2]; rfl) (fun g1 _ g3 => ?_) (fun g1 _ => ?_) ?_
  · rw [el] at g3
    have : (1 : Int) ≤ (2 ^ 63 - 1) / n := by
      rw [Int.le_ediv_iff_mul_le (by omega)]; omega
    have g4 : ((1 : Nat) : Int) > (2 ^ 63 - 1) / n := g3
    omega
  · rw [el]
    refine decide_eq_false ?_
    have : n.toNat ≤ 1000 := by omega
    intro q2
    have q3 : 1 * n.toNat > 1000 := Nat.lt_of_lt_of_le (by decide +kernel) (Nat.le_of_lt q2)
    omega
  · by_cases g1 : n < 1
    · rw [if_pos g1]
      have e : repS c n = Str.empty := by
        unfold repS
        rw [show n.toNat = 0 by omega]; rfl
      rw [e] at q
      exact ⟨by decide, ⟨.str Str.empty, H, I.tok _, ⟨_, rfl⟩, q⟩⟩
    · rw [if_neg g1]
      by_cases g2 : n = 1
      · subst g2
        rw [if_pos (by rfl)]
        exact ⟨.str ⟨#[c]⟩, H, I, ⟨_, rfl⟩, q⟩
      · rw [if_neg (by
          rw [el]
          have : (n == 1) = false := by rw [beq_eq_false_iff_ne]; exact g2
          rw [this]; decide)]
        have e : (⟨(List.replicate n.toNat (⟨#[c]⟩ : Str).cps).foldl (· ++ ·) #[]⟩ : Str) = repS c n := by
          unfold repS
          rw [show (⟨#[c]⟩ : Str).cps = #[c] from rfl, rep_fold]
          simp
        rw [e]
        refine ⟨?_, ⟨.str _, H, I.tok _, ⟨_, rfl⟩, q⟩⟩
        show (repS c n).length ≤ sizeLine
        show (Array.replicate n.toNat c).size ≤ sizeLine
        rw [Array.size_replicate]
        exact Nat.le_trans (show n.toNat ≤ 1000 by omega) (by decide +kernel)
end LX

namespace LX
open PySem PySem.Spec PyProof.Rows L2
/-! ### t[::-1] of a tuple -/
theorem applied_rev {prog : Program} {w : World} {A : Around} {E : Value → Shared → Prop} {s : Shared} {sl : Addr} {vl vu vs : Value} {n : Nat} {Q : Int × Int × Nat → Shared → Prop} (hs : s.heap.IsSliceOf sl vl vu vs) (pl : IsPart vl none) (pu : IsPart vu none) (ps : IsPart vs (some (-1)))
    (h : Q ((n : Int) - 1, -1, n) s) : wpAny (model prog w) A (Builtin.Slice.sliceApplied (.ref sl) (pure (n : Int))) Q E s := by
  obtain ⟨os, hos, hcs, hds⟩ := id hs
  unfold Builtin.Slice.sliceApplied Builtin.Slice.sliceFields
  refine wpAny_bind (wpAny_bind (wpAny_field hos hds (x := vl) rfl (wpAny_bind (wpAny_field hos hds (x := vu) rfl (wpAny_bind (wpAny_field hos hds (x := vs) rfl (wpAny_pure ?_)))))))
  refine wpAny_bind (HT.slicePart_ ps ?_)
  show wpAny _ _ (if ((-1 : Int) == 0) = true then _ else _) _ _ s
  rw [if_neg (by decide)]
  refine wpAny_bind (HT.slicePart_ pl (wpAny_bind (HT.slicePart_ pu (wpAny_bind (wpAny_pure ?_)))))
  show wpAny _ _ (match Builtin.Slice.sliceAdjust none none (-1) (n : Int) with | (lo, hi) => pure (lo, (-1 : Int), Builtin.Slice.slicePlaces lo hi (-1))) _ _ s
  have e : Builtin.Slice.sliceAdjust none none (-1) (n : Int) = ((n : Int) - 1, -1) := by
    unfold Builtin.Slice.sliceAdjust
    simp
  rw [e]
  have e2 : Builtin.Slice.slicePlaces ((n : Int) - 1) (-1) (-1) = n := by
    unfold Builtin.Slice.slicePlaces
    by_cases z : n = 0
    · subst z; rfl
    · rw [if_neg (by decide), if_pos (by omega), show (n : Int) - 1 - -1 - 1 = (n : Int) - 1 by omega, show (- -1 : Int) = 1 by decide, Int.ediv_one]
      omega
  show wpAny _ _ (pure ((n : Int) - 1, (-1 : Int), Builtin.Slice.slicePlaces ((n : Int) - 1) (-1) (-1))) _ _ s
  rw [e2]
  exact wpAny_pure h
theorem fmc {α β : Type} {f g : α → Option β} : ∀ {l : List α}, (∀ a ∈ l, f a = g a) → l.filterMap f = l.filterMap g
  | [], _ => rfl
  | a :: r, h => by rw [List.filterMap_cons, List.filterMap_cons, h a List.mem_cons_self, fmc fun b hb => h b (List.mem_cons_of_mem _ hb)]
theorem pick_rev (xs : Array Value) : ((List.range xs.size).filterMap fun (m : Nat) => xs[((xs.size : Int) - 1 + (m : Int) * (-1)).toNat]?).toArray = xs.toList.reverse.toArray := by
  have e := PySem.W.krv_pick xs
  unfold slicePick at e
  rw [PySem.W.krv_bounds] at e
  rw [← e]
  show _ = ((sliceRange ((xs.size : Int) - 1) (-1) (-1)).filterMap (xs[·]?)).toArray
  rw [PySem.W.krv_sliceRange, List.filterMap_map]
  congr 1
  refine fmc fun m hm => ?_
  have := List.mem_range.mp hm
  show _ = xs[xs.size - 1 - m]?
  congr 1
  omega
theorem getItem_tuple_rev {prog : Program} {w : World} {A : Around} {E : Value → Shared → Prop} {s : Shared} {t sl : Addr} {items : Array Value} {vl vu vs : Value} {Q : Value → Shared → Prop} (ht : IsTup s.heap t items) (hs : s.heap.IsSliceOf sl vl vu vs) (pl : IsPart vl none) (pu : IsPart vu none) (ps : IsPart vs (some (-1)))
    (h : Q (.ref s.heap.objs.size) { s with heap := s.heap.push { cls := .type "tuple", data := .seq items.toList.reverse.toArray } })
    (hsz : items.size ≤ sizeLine) : wpAny (model prog w) A (getItem (.ref t) (.ref sl)) Q E s := by
  have htake : sizeOk (.seq items.toList.reverse.toArray) := by
    show items.toList.reverse.toArray.size ≤ sizeLine
    rw [List.size_toArray, List.length_reverse, Array.length_toList]
    exact hsz
  obtain ⟨os, hos, hcs, hds⟩ := id hs
  have hTs : s.TypeIs (.ref sl) "slice" := ⟨os, hos, hcs⟩
  unfold getItem
  try with_reducible refine wpAny_holding ?_
  first | refine wpAny_bind (wpAny_pure ?_) | skip
  refine wpAny_bind (wpAny_sequenceKey ht.typeIs (by decide) ?_)
  refine wpAny_bind (wpAny_callSpecial?_slot (name := Str.ofString "__getitem__") ht.typeIs PyProof.Rows.slot_tuple_getitem
    (wpAny_call_entry PyProof.Rows.slot_tuple_getitem ht.typeIs PyProof.Rows.entry_tuple_getitem ?_ (PyProof.Rows.args_tuple_getitem _ _)))
  show wpAny _ _ (Builtin.Tuple.tupleItemsOf (.ref t) >>= _) _ _ s
  refine wpAny_bind (tupleItemsOf_ ht ?_)
  refine wpAny_bind (wpAny_typeOf hTs ?_)
  rw [if_pos (by decide)]
  refine wpAny_bind (applied_rev hs pl pu ps ?_)
  have hno : ¬ ((((items.size : Int) - 1) == 0 && (-1 : Int) == 1 && items.size == items.size) = true) := by
    intro q
    rw [Bool.and_eq_true, Bool.and_eq_true] at q
    exact absurd q.1.2 (by decide)
  show wpAny _ _ (if (((items.size : Int) - 1) == 0 && (-1 : Int) == 1 && items.size == items.size) = true then _ else _) _ _ s
  rw [if_neg hno, pick_rev]
  first
    | exact wpAny_bind (m := Builtin.Tuple.tupleExact _) (wpAny_newObj_type (wpAny_pure ⟨_, rfl, wpAny_pure h⟩) htake)
    | exact wpAny_bind (m := Builtin.Tuple.tupleExact _) (wpAny_newObj_type (wpAny_bind (wpAny_pure (wpAny_pure ⟨_, rfl, wpAny_pure h⟩))) htake)
    | exact wpAny_bind (wpAny_bind (m := Builtin.Tuple.tupleExact _) (wpAny_newObj_type (wpAny_pure (wpAny_pure ⟨_, rfl, wpAny_pure h⟩)) htake))
    | exact wpAny_bind (wpAny_bind (m := Builtin.Tuple.tupleExact _) (wpAny_newObj_type (wpAny_pure ⟨_, rfl, wpAny_pure h⟩) htake))
def tRevT (K : PySem.W.Frag) (te : TE) : TE := fun σ H Q => te σ H fun x H1 => ∃ a xs, x = .ref a ∧ SqT K H1 a xs ∧ ∀ p, H1 p = none → Q (.ref p) (upd H1 p (.tup xs.reverse))
theorem pe_revT {X : Cx} {e : Expr} {te : TE} {k : Nat} {p1 p2 p3 pos : Pos} (he : PE X e te) : PE X (.Subscript e (.Slice none none (some (.UnaryOp .USub (.Constant (.int 1) k p1) p2)) p3) pos) (tRevT X.K te) := by
  refine ⟨fun pins s σ H Q I h => ?_⟩
  refine Subscript_ (thn (he.run pins s σ H _ I h) fun v s1 ⟨x, H1, I1, r1, q1⟩ => ?_)
  obtain ⟨a, xs, ex, hx, q⟩ := q1
  subst ex
  cases r1
  have hst : PO X (some (.UnaryOp .USub (.Constant (.int 1) k p1) p2)) (tPart (tUn (rU fun i => .int (-i)) (tC (.int 1)))) := po_some (pe_un un_neg pe_int)
  refine wpAny_Slice (thn (po_none.run pins s1 σ H1 (fun o H2 => o = none ∧ H2 = H1) I1 ⟨rfl, rfl⟩) fun vl s2 ⟨l, H2, I2, pl, el, e2⟩ => ?_)
  subst el e2
  refine thn (po_none.run pins s2 σ H2 (fun o H3 => o = none ∧ H3 = H2) I2 ⟨rfl, rfl⟩) fun vu s3 ⟨u, H3, I3, pu, eu, e3⟩ => ?_
  subst eu e3
  refine thn (hst.run pins s3 σ H3 (fun o H4 => o = some (-1) ∧ H4 = H3) I3 ⟨1, rfl, -1, rfl, rfl, rfl⟩) fun vs s4 ⟨o, H4, I4, ps, eo, e4⟩ => ?_
  subst eo e4
  have I5 : Inv X pins σ H4 { s4 with heap := s4.heap.push { cls := .type "slice", data := .fields #[vl, vu, vs] } } := I4.kept (t' := s4.toks) fun b ob q => Heap.get?_push_of_some _ q
  obtain ⟨its, r, ht, hz⟩ := I5.tuple hx
  have hlen := r.length
  show wpAny (model X.prog X.w) X.A (subscriptTail e (.Slice none none (some (.UnaryOp .USub (.Constant (.int 1) k p1) p2)) p3) (.ref a) (.ref s4.heap.objs.size)) (EP X pins σ Q) X.xe { s4 with heap := s4.heap.push { cls := .type "slice", data := .fields #[vl, vu, vs] } }
  refine tail_any (ops := [.ref a, .ref s4.heap.objs.size]) ht.typeIs (PyProof.Rows.slot_tuple_getitem.lookup) ?_ (by with_unfolding_all rfl)
  refine getItem_tuple_rev ht (Heap.IsSliceOf.new _ vl vu vs) pl pu ps ?_ (by rw [List.size_toArray]; omega)
  refine ⟨.ref _, _, I5.laid (t' := s4.toks) (o := .tup xs.reverse) (fun b ob q => Heap.get?_push_of_some _ q) (Nat.le_refl _) ?_, rfl, q _ (I5.hok.fresh (Nat.le_refl _))⟩
  exact ⟨by rw [List.length_reverse]; exact hz, _, r.reverse, IsTup.new _ _⟩
/-! ### max(xs, default=d) of a list of ints -/
def rMaxDef (K : PySem.W.Frag) : List V → List V → Hp → VK → Prop := fun vs zs H Q => ∃ (a : Addr) (ns : List Int) (d : V), vs = [.ref a] ∧ zs = [d] ∧ SqL K H a (ns.map V.int) ∧ (ns = [] → Q d H) ∧ (ns ≠ [] → ∀ m, m ∈ ns → (∀ y ∈ ns, y ≤ m) → Q (.int m) H)
theorem cr_maxDef {X : Cx} (hc : X.calm = true) : CallRK X (.builtin "max") [Str.ofString "default"] (rMaxDef X.K) := by
  intro pins s σ H vs zs us ws Q I r rz h
  obtain ⟨a, ns, d, rfl, rfl, hs, q0, q1⟩ := h
  obtain rfl := Vals.ref1 r
  obtain ⟨w1, rfl, e1⟩ := vals1 rz
  obtain ⟨its, rv, hl, _⟩ := I.list hs
  have hi := rv.ints
  have hh : X.A.handled = none := I.ok.hd hc
  obtain ⟨xs, e⟩ := hi.allInts.items
  have hn : numsOf (intItems xs).toList = ns := by rw [← e]; exact hi.numsOf
  rw [nums_intItems] at hn
  have hl2 := hl.isList
  rw [e] at hl2
  refine PySem.call_max_walkD (PySem.W.iter_listW (A := X.A.in1) hh hl2 fun s₂ e2 W st hfp hw hk => ?_)
  refine ⟨_, _, _, _, _, _, _, s.heap, (fun i j => decide (numAt xs i > numAt xs j)), rfl, W, st, hfp, hw, hk, fun hz s' m => ?_, fun hp => ⟨fun i j vi vj s3 Q3 E3 _ hi hj h3 => CmpOf.ints_gt (numAt xs) (fun _ _ => intItems_at) i j vi vj s3 Q3 E3 hi hj h3, fun v s' hP m => ?_⟩⟩
  · obtain ⟨h', tk, rfl, hk'⟩ := PySem.W.moved_old e2 rfl m
    refine ⟨d, H, I.kept hk', e1, q0 ?_⟩
    rw [← hn]
    have : xs.size = 0 := by simpa [intItems] using hz
    rw [Array.eq_empty_of_size_eq_zero this]; rfl
  · obtain ⟨h', tk, rfl, hk'⟩ := PySem.W.moved_old e2 rfl m
    have hp2 : 0 < xs.size := by simpa [intItems] using hp
    have hsz : (intItems xs).size = xs.size := by simp [intItems]
    rw [hsz] at hP
    obtain ⟨t, rfl⟩ := intItems_at hP
    obtain ⟨h1, h2⟩ := argBest_gt (numAt xs) (xs.size - 1)
    refine ⟨.int _, H, I.kept hk', ⟨_, rfl⟩, q1 ?_ _ ?_ fun y hy => ?_⟩
    · intro z
      rw [← hn] at z
      have := congrArg List.length z
      rw [List.length_map, Array.length_toList, List.length_nil] at this
      omega
    · rw [← hn, numAt_eq]; exact PySem.getD_mem (by rw [List.length_map, Array.length_toList]; omega)
    · rw [← hn] at hy
      obtain ⟨j, hj, rfl⟩ := mem_getD hy
      rw [List.length_map, Array.length_toList] at hj
      rw [← numAt_eq]; exact h2 j (by omega)
end LX

namespace LX
open PySem PySem.Spec PyProof.Rows L2
/-! ### list(zip(xs, ys)) of two lists -/
theorem nolen_zip : typeLookup (.type "zip") "__len__" = pure none := by rw [typeLookup_type, builtinLookup_eq_fast]; kernel_rfl
theorem nohint_zip : typeLookup (.type "zip") "__length_hint__" = pure none := by rw [typeLookup_type, builtinLookup_eq_fast]; kernel_rfl
def ZSt (z TI TO i1 i2 l1 l2 S : Addr) (h : Heap) (j : Nat) : Prop := IsPair h TI (.ref i1) (.ref i2) ∧ h.IsListIter i1 l1 j ∧ h.IsListIter i2 l2 j ∧
  ((IsZip h z TI TO .none ∧ ∃ a b, IsPair h TO a b) ∨ ∃ T f oT, IsZipHeld h z TI TO T f ∧ h.get? T = some oT ∧ T ≠ z ∧ T ≠ i1 ∧ T ≠ i2 ∧ T ≠ S)
theorem ZSt.at {z TI TO i1 i2 l1 l2 S : Addr} {h h' : Heap} {j : Nat} (x : ZSt z TI TO i1 i2 l1 l2 S h j) (hS : S ≠ z ∧ S ≠ TI ∧ S ≠ TO ∧ S ≠ i1 ∧ S ≠ i2) (k : ∀ b o, b ≠ S → h.get? b = some o → h'.get? b = some o) : ZSt z TI TO i1 i2 l1 l2 S h' j := by
  obtain ⟨a, b, c, d⟩ := x
  refine ⟨k _ _ hS.2.1.symm a, b.at fun o e => k _ o hS.2.2.2.1.symm e, c.at fun o e => k _ o hS.2.2.2.2.symm e, ?_⟩
  rcases d with ⟨d, u, v, e⟩ | ⟨T, f, oT, d, e, n1, n2, n3, n4⟩
  · exact .inl ⟨k _ _ hS.1.symm d, u, v, k _ _ hS.2.2.1.symm e⟩
  · exact .inr ⟨T, f, oT, k _ _ hS.1.symm d, k _ _ n4 e, n1, n2, n3, n4⟩
/-- the tuples made so far -/
def Zd (H1 H : Hp) (xs ys : List V) (Ts : List Addr) : Prop := ∀ (i : Nat) T x y, Ts[i]? = some T → xs[i]? = some x → ys[i]? = some y → H1 T = none ∧ H T = some (.tup [x, y])
section
variable {X : Cx} {pins : List (Addr × Obj)} {σ : L2.St} {z TI TO i1 i2 l1 l2 S : Addr} {H1 : Hp} {xs ys : List V} {A : Around} {R : Result → Shared → Prop} {res : Value}
theorem zip_loop (hh : A.handled = none) (D : ZipApart z TI TO i1 i2 l1 l2) (hS : S ≠ z ∧ S ≠ TI ∧ S ≠ TO ∧ S ≠ i1 ∧ S ≠ i2) (hl : xs.length = ys.length) (hz : xs.length ≤ 1000) (q1 : SqL X.K H1 l1 xs) (q2 : SqL X.K H1 l2 ys) (hS0 : H1 S = none) :
    ∀ (k j : Nat) (s : Shared) (H : Hp) (Ts : List Addr), xs.length - j = k → j ≤ xs.length → Inv X pins σ H s → (∀ b ∈ [z, TI, TO, i1, i2], FpOk X pins H b) → ZSt z TI TO i1 i2 l1 l2 S s.heap j → (∀ b ∈ [z, TI, TO, i1, i2], b < s.heap.objs.size) →
    Same H1 H → H S = some (.lst (Ts.map V.ref)) → Ts.length = j → Zd H1 H xs ys Ts →
    (∀ (s' : Shared) (H' : Hp) (Us : List Addr), Inv X pins σ H' s' → Same H1 H' → H' S = some (.lst (Us.map V.ref)) → Us.length = xs.length → Zd H1 H' xs ys Us → R (.ok (.ret res)) s') →
    codeAny (model X.prog X.w) A (.builtin "list.extend.loop" ⟨[.ref S, .ref z, res], []⟩) R s := by
  intro k
  induction k with
  | zero =>
    intro j s H Ts hk hj I hf st lt sm hHS hT zd fin
    have hj2 : j = xs.length := by omega
    obtain ⟨its, rv, p1, _⟩ := I.list (sm.seq q1)
    obtain ⟨its2, rv2, p2, _⟩ := I.list (sm.seq q2)
    have e1 := rv.length
    have hend : its.toArray[j]? = none ∨ its2.toArray[j]? = none := .inl (Array.getElem?_eq_none (by rw [List.size_toArray]; omega))
    refine codeAny_builtin F.entry_extend_loop ?_
    rw [Around.under_plainId F.plain_extend_loop _]
    show wpAny _ A.in1 (pyNext (.ref z) >>= _) _ _ s
    obtain ⟨s1, s2, s3, s4⟩ := st
    rcases s4 with ⟨g1, a, b, g2⟩ | ⟨T, f, oT, g1, g2, n1, n2, n3, n4⟩
    · refine wpAny_bind (wpAny_pyNext_zip_end (A := A.in1) hh D g1 s1 g2 s2 s3 p1.isList p2.isList hend fun h' hk' => ?_)
      refine wpAny_pure (fin _ H Ts (I.turnedL (ch := [z, TI, TO, i1, i2]) (t' := s.toks) (fun c o nb q => hk' c o (fun e => nb (by simp [e])) (fun e => nb (by simp [e])) (fun e => nb (by simp [e])) (fun e => nb (by simp [e])) q) hf) sm hHS (by omega) zd)
    · refine wpAny_bind (wpAny_pyNext_zip_end_held (A := A.in1) hh D g1 g2 s1 s2 s3 p1.isList p2.isList hend fun h' hk' => ?_)
      refine wpAny_pure (fin _ H Ts (I.turnedL (ch := [z, TI, TO, i1, i2]) (t' := s.toks) (fun c o nb q => hk' c o (fun e => nb (by simp [e])) (fun e => nb (by simp [e])) (fun e => nb (by simp [e])) q) hf) sm hHS (by omega) zd)
  | succ k ih =>
    intro j s H Ts hk hj I hf st lt sm hHS hT zd fin
    have hlt : j < xs.length := by omega
    obtain ⟨its, rv, p1, _⟩ := I.list (sm.seq q1)
    obtain ⟨its2, rv2, p2, _⟩ := I.list (sm.seq q2)
    have ex := List.getElem?_eq_getElem hlt
    have ey := List.getElem?_eq_getElem (l := ys) (i := j) (by omega)
    generalize xs[j] = x at ex
    generalize ys[j]'(by omega) = y at ey
    obtain ⟨u, hu, ru⟩ := rv.get ex
    obtain ⟨u2, hu2, ru2⟩ := rv2.get ey
    have hu' : its.toArray[j]? = some u := by simpa using hu
    have hu2' : its2.toArray[j]? = some u2 := by simpa using hu2
    refine codeAny_builtin F.entry_extend_loop ?_
    rw [Around.under_plainId F.plain_extend_loop _]
    show wpAny _ A.in1 (pyNext (.ref z) >>= _) _ _ s
    have hTn : H s.heap.objs.size = none := I.hok.fresh (Nat.le_refl _)
    have tail : ∀ (h' : Heap), IsPair h' s.heap.objs.size u u2 → h'.objs.size = s.heap.objs.size + 1 → ZSt z TI TO i1 i2 l1 l2 S h' (j + 1) → (∀ c o, c ∉ [z, TI, TO, i1, i2] → s.heap.get? c = some o → h'.get? c = some o) →
        wpAny (model X.prog X.w) A.in1 (do let x ← pure (some (Value.ref s.heap.objs.size)); match x with
          | none => ret res
          | some x => do Builtin.List.listUpdate (.ref S) (·.push x); again (.builtin "list.extend.loop" ⟨[.ref S, .ref z, res], []⟩)) (fun fin s' => match fin with | .done f => R (.ok f) s' | .again c' => c'.quiet = true ∧ codeAny (model X.prog X.w) A c' R s') (fun e s' => R (.error e) s') { s with heap := h' } := by
      intro h' pr sz st' kp
      have ob : ObjOk X.prog X.w (upd H s.heap.objs.size (.tup [x, y])) h' s.heap.objs.size (.tup [x, y]) :=
        ⟨by show 2 ≤ sizeLine; decide, [u, u2], .cons ru (.cons ru2 .nil), ⟨_, pr, rfl, _, rfl⟩⟩
      have J : Inv X pins σ (upd H s.heap.objs.size (.tup [x, y])) { s with heap := h', toks := s.toks } := I.turnedNew (ch := [z, TI, TO, i1, i2]) kp hf (Nat.le_refl _) ob
      have hST : S ≠ s.heap.objs.size := ne_of_none hHS hTn
      have hH2 : (upd H s.heap.objs.size (.tup [x, y])) S = some (.lst (Ts.map V.ref)) := by rw [upd_ne hST]; exact hHS
      obtain ⟨z0, itS, n, rS, lS, eS⟩ := J.lstM hH2
      rw [List.length_map] at lS
      have J2 := J.lset (its' := itS ++ [.ref s.heap.objs.size]) (ys := Ts.map V.ref ++ [V.ref s.heap.objs.size]) (f := fun a => a.push (.ref s.heap.objs.size)) (t' := s.toks) hH2 eS (by simp) (rS.append (.cons (show L2.RelV (V.ref s.heap.objs.size) (.ref s.heap.objs.size) from rfl) .nil)) (by
        rw [List.length_append, List.length_map]
        exact Nat.le_of_lt (small1000 (by show Ts.length + 1 ≤ 1000; omega)))
      refine wpAny_bind (wpAny_pure ?_)
      show wpAny _ A.in1 (updateSeq S (·.push (.ref s.heap.objs.size)) >>= _) _ _ _
      refine wpAny_bind (wpAny_updateSeq eS rfl (wpAny_pure ⟨plainId_quiet F.plain_extend_loop _, ?_⟩) (by rw [List.size_toArray]; exact Nat.le_of_lt (small1000 (by omega))) (by
        rw [Array.size_push, List.size_toArray]
        exact Nat.le_succ_of_le (Nat.le_of_lt (small1000 (by omega)))))
      refine ih (j + 1) _ _ (Ts ++ [s.heap.objs.size]) (by omega) hlt J2 (fun b hb => ?_) (st'.at hS fun b o hb e => (Heap.get?_update_other _ _ (Ne.symm hb)).trans e) (fun b hb => ?_) ?_ (by rw [upd_same, List.map_append]; rfl) (by rw [List.length_append, hT]; rfl) ?_ fin
      · have q := hf b hb
        refine ⟨?_, q.2⟩
        have nb : b ≠ S := fun e => by
          have q0 := q.1
          rw [e, hHS] at q0; cases q0
        rw [upd_ne nb, upd_ne (Nat.ne_of_lt (lt b hb))]
        exact q.1
      · have l0 := lt b hb
        show b < (h'.update S _).objs.size
        rw [Heap.size_update, sz]
        exact Nat.lt_succ_of_lt l0
      · intro b o hb
        rw [upd_ne (ne_of_none hb hS0), upd_ne (ne_of_none (sm _ _ hb) hTn)]
        exact sm _ _ hb
      · intro i T a b e1 e2 e3
        by_cases c : i < Ts.length
        · rw [List.getElem?_append_left c] at e1
          obtain ⟨w1, w2⟩ := zd i T a b e1 e2 e3
          have nT : T ≠ S := fun e => by rw [e, hHS] at w2; cases w2
          exact ⟨w1, by rw [upd_ne nT, upd_ne (ne_of_none w2 hTn)]; exact w2⟩
        · rw [List.getElem?_append_right (by omega)] at e1
          cases w : i - Ts.length with
          | zero =>
            rw [w] at e1
            cases e1
            have ij : i = j := by
              have c2 : Ts.length ≤ i := Nat.le_of_not_lt c
              have w2 : i - Ts.length = 0 := w
              omega
            subst ij
            rw [ex] at e2
            rw [ey] at e3
            cases e2; cases e3
            exact ⟨sm.free hTn, by rw [upd_ne hST.symm, upd_same]⟩
          | succ m => rw [w] at e1; simp at e1
    obtain ⟨s1, s2, s3, s4⟩ := st
    rcases s4 with ⟨g1, a, b, g2⟩ | ⟨T, f, oT, g1, g2, n1, n2, n3, n4⟩
    · refine wpAny_bind (wpAny_pyNext_zip_item (A := A.in1) D g1 s1 g2 s2 s3 p1.isList p2.isList hu' hu2' fun h' a1 a2 a3 a4 a5 a6 hk' => ?_)
      have n0 : s.heap.objs.size ≠ S := (ne_of_none hHS hTn).symm
      refine tail h' a5 a6 ⟨hk' _ _ D.TIz D.TITO D.TIi1 D.TIi2 s1, a3, a4, .inr ⟨_, false, _, a1, a5, Nat.ne_of_gt (lt z (by simp)), Nat.ne_of_gt (lt i1 (by simp)), Nat.ne_of_gt (lt i2 (by simp)), n0⟩⟩ fun c o nb q => hk' c o (fun e => nb (by simp [e])) (fun e => nb (by simp [e])) (fun e => nb (by simp [e])) (fun e => nb (by simp [e])) q
    · refine wpAny_bind (wpAny_pyNext_zip_item_held (A := A.in1) D g1 g2 s1 s2 s3 p1.isList p2.isList hu' hu2' fun h' a1 a3 a4 a5 a6 hk' => ?_)
      refine tail h' a5 a6 ⟨hk' _ _ D.TIz D.TIi1 D.TIi2 s1, a3, a4, .inr ⟨T, true, oT, a1, hk' _ _ n1 n2 n3 g2, n1, n2, n3, n4⟩⟩ fun c o nb q => hk' c o (fun e => nb (by simp [e])) (fun e => nb (by simp [e])) (fun e => nb (by simp [e])) q
theorem list_zip_call (hh : A.handled = none) {s : Shared} {H : Hp} {Q : Value → Shared → Prop} {E : Value → Shared → Prop} (I : Inv X pins σ H s) (D : ZipApart z TI TO i1 i2 l1 l2) (hl : xs.length = ys.length) (hz : xs.length ≤ 1000) (q1 : SqL X.K H l1 xs) (q2 : SqL X.K H l2 ys)
    (hf : ∀ b ∈ [z, TI, TO, i1, i2], FpOk X pins H b) (hZ : IsZip s.heap z TI TO .none) (hTI : IsPair s.heap TI (.ref i1) (.ref i2)) (hTO : ∃ a b, IsPair s.heap TO a b) (h1 : s.heap.IsListIter i1 l1 0) (h2 : s.heap.IsListIter i2 l2 0)
    (fin : ∀ (s' : Shared) (H' : Hp) (S : Addr) (Us : List Addr), Inv X pins σ H' s' → Same H H' → H S = none → H' S = some (.lst (Us.map V.ref)) → Us.length = xs.length → Zd H H' xs ys Us → Q (.ref S) s') :
    wpAny (model X.prog X.w) A (call (.type "list") [.ref z]) Q E s := by
  refine callType_codes (Q₁ := fun obj s₁ => obj = .ref s.heap.objs.size ∧ s₁ = { s with heap := s.heap.push { cls := .type "list", data := .seq #[] } }) PySem.F.called_list (PySem.F.typeCall_list_1 _) PySem.F.entry_list_init
    (code_list_new _ ⟨rfl, rfl⟩) fun obj s₁ h₁ => ?_
  obtain ⟨rfl, rfl⟩ := h₁
  have hS : (s.heap.push { cls := .type "list", data := .seq #[] }).get? s.heap.objs.size = some { cls := .type "list", data := .seq #[] } := Heap.get?_push_size _ rfl
  refine ⟨⟨_, hS, rfl⟩, PySem.F.args_list_init_2 _ _, ?_⟩
  have sz0 : (s.heap.push { cls := .type "list", data := .seq #[] }).objs.size = s.heap.objs.size + 1 := Heap.size_push ..
  have hSn : H s.heap.objs.size = none := I.hok.fresh (Nat.le_refl _)
  have ltz : z < s.heap.objs.size := Heap.lt_size hZ
  have lTI : TI < s.heap.objs.size := Heap.lt_size hTI
  have lTO : TO < s.heap.objs.size := let ⟨_, _, q⟩ := hTO; Heap.lt_size q
  have li1 : i1 < s.heap.objs.size := let ⟨_, q, _⟩ := h1; Heap.lt_size q
  have li2 : i2 < s.heap.objs.size := let ⟨_, q, _⟩ := h2; Heap.lt_size q
  have I1 : Inv X pins σ (upd H s.heap.objs.size (.lst [])) { s with heap := s.heap.push { cls := .type "list", data := .seq #[] }, toks := s.toks } := I.lnew (its := []) .nil (by decide)
  have hHS : (upd H s.heap.objs.size (.lst [])) s.heap.objs.size = some (.lst []) := upd_same
  show wpAny _ _ (do let old ← Builtin.List.listItems (.ref s.heap.objs.size); Builtin.List.listUpdate (.ref s.heap.objs.size) (fun _ => #[]); letGo old.toList.reverse; Builtin.List.listExtendWith (.ref s.heap.objs.size) (.ref z) .none) _ _ _
  refine wpAny_bind ?_
  unfold Builtin.List.listItems
  refine wpAny_bind (wpAny_seqItems hS rfl (wpAny_pure ?_))
  show wpAny _ _ (updateSeq s.heap.objs.size (fun _ => #[]) >>= fun _ => letGo (#[] : Array Value).toList.reverse >>= fun _ => Builtin.List.listExtendWith (.ref s.heap.objs.size) (.ref z) .none) _ _ _
  refine wpAny_bind (wpAny_updateSeq hS rfl ?_)
  have hS₂ := Heap.get?_update_self (Obj.mapSeq (fun _ => (#[] : Array Value))) hS rfl
  have I2 := I1.lset (its' := []) (ys := []) (f := fun _ => #[]) (t' := s.toks) hHS hS rfl .nil (by decide)
  rw [upd_upd] at I2
  have k2 : ∀ b o, b ≠ s.heap.objs.size → s.heap.get? b = some o → ((s.heap.push { cls := .type "list", data := .seq #[] }).update s.heap.objs.size (Obj.mapSeq (fun _ => (#[] : Array Value)))).get? b = some o := fun b o hb e => (Heap.get?_update_other _ _ (Ne.symm hb)).trans (Heap.get?_push_of_some _ e)
  have sz2 : ((s.heap.push { cls := .type "list", data := .seq #[] }).update s.heap.objs.size (Obj.mapSeq (fun _ => (#[] : Array Value)))).objs.size = s.heap.objs.size + 1 := by rw [Heap.size_update, sz0]
  generalize ((s.heap.push { cls := .type "list", data := .seq #[] }).update s.heap.objs.size (Obj.mapSeq (fun _ => (#[] : Array Value)))) = h2' at hS₂ I2 k2 sz2
  refine wpAny_bind (wpAny_letGo ?_)
  unfold Builtin.List.listExtendWith
  have hT2 : Shared.TypeIs { s with heap := h2' } (.ref z) "zip" := ⟨_, k2 _ _ (Nat.ne_of_lt ltz) hZ, rfl⟩
  refine wpAny_bind (wpAny_typeOf hT2 ?_)
  have e1 : Builtin.List.listSameRef (.ref s.heap.objs.size) (.ref z) = false := by simp [Builtin.List.listSameRef, Nat.ne_of_gt ltz]
  simp only [e1, show (Value.type "zip" == Value.type "list") = false by decide, show (Value.type "zip" == Value.type "tuple") = false by decide, Bool.or_false, Bool.false_eq_true, if_false]
  refine wpAny_bind (wpAny_pyIter_zip (k2 _ _ (Nat.ne_of_lt ltz) hZ) ?_)
  refine wpAny_bind (wpAny_holding ?_)
  unfold Builtin.List.listLengthHint
  refine wpAny_bind (wpAny_specialOf hT2 nolen_zip ?_)
  show wpAny _ _ (specialOf (Value.ref z) (Str.ofString "__length_hint__") >>= _) _ _ _
  refine wpAny_bind (wpAny_specialOf hT2 nohint_zip ?_)
  refine wpAny_pure ?_
  show wpAny _ _ (rule "list.extend.makes-room" >>= fun _ => Builtin.List.listTouch (.ref s.heap.objs.size) >>= fun _ =>
    again (.builtin "list.extend.loop" ⟨[.ref s.heap.objs.size, .ref z, .none], []⟩)) _ _ _
  refine wpAny_bind (wpAny_rule ?_)
  refine wpAny_bind ?_
  show wpAny _ _ (updateSeq s.heap.objs.size (·.push .none) >>= fun _ => updateSeq s.heap.objs.size (·.pop)) _ _ _
  refine wpAny_bind (wpAny_updateSeq hS₂ rfl ?_)
  have hS₃ := Heap.get?_update_self (Obj.mapSeq (·.push Value.none)) hS₂ rfl
  refine wpAny_updateSeq hS₃ rfl ?_
  have I4 := I2.lset (its' := []) (ys := []) (f := fun a => (a.push Value.none).pop) (t' := s.toks) upd_same hS₂ rfl .nil (by decide)
  have eqU : (h2'.update s.heap.objs.size (Obj.mapSeq (·.push Value.none))).update s.heap.objs.size (Obj.mapSeq (·.pop)) = (h2'.update s.heap.objs.size (Obj.mapSeq (·.push Value.none))).update s.heap.objs.size (Obj.mapSeq (·.pop)) := rfl
  have J4 : Inv X pins σ (upd H s.heap.objs.size (.lst [])) { s with heap := (h2'.update s.heap.objs.size (Obj.mapSeq (·.push Value.none))).update s.heap.objs.size (Obj.mapSeq (·.pop)), toks := s.toks } := by
    have z := I2.write (x := s.heap.objs.size) (e := s.heap.objs.size) (o := .lst []) (h' := (h2'.update s.heap.objs.size (Obj.mapSeq (·.push Value.none))).update s.heap.objs.size (Obj.mapSeq (·.pop))) (t' := s.toks) (by rw [upd_same]; exact trivial) (.inl rfl)
      (fun b u hb hu => (Heap.get?_update_other _ _ (Ne.symm hb)).trans ((Heap.get?_update_other _ _ (Ne.symm hb)).trans hu)) ⟨_, Heap.get?_update_self _ hS₃ rfl⟩ ⟨by decide, [], _, .nil, Heap.get?_update_self _ hS₃ rfl⟩
    rw [upd_upd] at z
    exact z
  have sm : Same H (upd H s.heap.objs.size (.lst [])) := fun b x e => by rw [upd_ne (ne_of_none e hSn)]; exact e
  have k4 : ∀ b o, b ≠ s.heap.objs.size → s.heap.get? b = some o → ((h2'.update s.heap.objs.size (Obj.mapSeq (·.push Value.none))).update s.heap.objs.size (Obj.mapSeq (·.pop))).get? b = some o := fun b o hb e => (Heap.get?_update_other _ _ (Ne.symm hb)).trans ((Heap.get?_update_other _ _ (Ne.symm hb)).trans (k2 b o hb e))
  refine wpAny_pure ⟨plainId_quiet F.plain_extend_loop _, zip_loop (A := A.in1) (S := s.heap.objs.size) hh D ⟨Nat.ne_of_gt ltz, Nat.ne_of_gt lTI, Nat.ne_of_gt lTO, Nat.ne_of_gt li1, Nat.ne_of_gt li2⟩ hl hz q1 q2 hSn _ 0 _ _ [] rfl (Nat.zero_le _) J4 (fun b hb => ?_) ?_ (fun b hb => ?_) sm upd_same rfl (fun i T x y e => by simp at e) fun s' H' Us J sm2 hU lU zd => ?_⟩
  · have q := hf b hb
    refine ⟨?_, q.2⟩
    have nb : b ≠ s.heap.objs.size := by
      simp only [List.mem_cons, List.not_mem_nil, or_false] at hb
      rcases hb with rfl | rfl | rfl | rfl | rfl
      · exact Nat.ne_of_lt ltz
      · exact Nat.ne_of_lt lTI
      · exact Nat.ne_of_lt lTO
      · exact Nat.ne_of_lt li1
      · exact Nat.ne_of_lt li2
    rw [upd_ne nb]
    exact q.1
  · obtain ⟨a, b, hTO⟩ := hTO
    exact ⟨k4 _ _ (Nat.ne_of_lt lTI) hTI, h1.at fun o e => k4 _ o (Nat.ne_of_lt li1) e, h2.at fun o e => k4 _ o (Nat.ne_of_lt li2) e, .inl ⟨k4 _ _ (Nat.ne_of_lt ltz) hZ, a, b, k4 _ _ (Nat.ne_of_lt lTO) hTO⟩⟩
  · have lt2 : b < s.heap.objs.size := by
      simp only [List.mem_cons, List.not_mem_nil, or_false] at hb
      rcases hb with rfl | rfl | rfl | rfl | rfl <;> assumption
    show b < ((h2'.update s.heap.objs.size (Obj.mapSeq (·.push Value.none))).update s.heap.objs.size (Obj.mapSeq (·.pop))).objs.size
    rw [Heap.size_update, Heap.size_update, sz2]
    exact Nat.lt_succ_of_lt lt2
  · exact ⟨rfl, fin s' H' _ Us J sm2 hSn hU lU zd⟩
end
/-- what list(zip(e, f)) asks: two lists of one length; behind it a new list of new pairs -/
def tListZip (K : PySem.W.Frag) (ta : TA) : TE := fun σ H Q => ta σ H fun vs H1 => ∃ (a b : Addr) (xs ys : List V), vs = [.ref a, .ref b] ∧ SqL K H1 a xs ∧ SqL K H1 b ys ∧ xs.length = ys.length ∧ xs.length ≤ 1000 ∧
  ∀ (H2 : Hp) (p : Addr) (Us : List Addr), Same H1 H2 → H1 p = none → H2 p = some (.lst (Us.map V.ref)) → Us.length = xs.length → Zd H1 H2 xs ys Us → Q (.ref p) H2
theorem pe_listZip {X : Cx} {e e2 : Expr} {ta : TA} {p p2 pos pos2 : Pos} (hc : X.calm = true) (hg : Gl X "list") (hm : X.mg "list" = none) (hg2 : Gl X "zip") (hm2 : X.mg "zip" = none) (ha : PA X [e, e2] ta)
    (hs : starEach [e, e2] X.env = (false, eval e X.env) :: starEach [e2] X.env := by rfl) (hpl : (backTo pos2 (starEach [e2] X.env)).any (·.1) = false := by rfl)
    (na : starEach [.Call (.Name "zip" p2) [e, e2] [] pos2] X.env = (false, eval (.Call (.Name "zip" p2) [e, e2] [] pos2) X.env) :: starEach [] X.env := by rfl) :
    PE X (.Call (.Name "list" p) [.Call (.Name "zip" p2) [e, e2] [] pos2] [] pos) (tListZip X.K ta) := by
  refine ⟨fun pins s σ H Q I want => ?_⟩
  refine Call_ (ld_blt I hg hm boot_list (PyProof.Rows.callWith_type1 (args_cons (Q := fun us s1 => wpAny (model X.prog X.w) X.A (call (.type "list") us) (EP X pins σ Q) X.xe s1) ?_ na) na))
  refine Call_ (ld_blt I hg2 hm2 PyProof.Rows.boot_zip (PyProof.Rows.callWith_type1 (thn (ha.run pos2 pins s σ H _ I want) ?_) hs hpl))
  rintro us s1 ⟨vs, H1, J, rel, a, b, xs, ys, rfl, qx, qy, hl, hz, q⟩
  obtain ⟨u1, u2, rfl, r1, r2⟩ := vals2 rel
  cases r1
  cases r2
  obtain ⟨its, rv, p1, _⟩ := J.list qx
  obtain ⟨its2, rv2, p3, _⟩ := J.list qy
  have la : a < s1.heap.objs.size := p1.lt
  refine zip_begins2 (begins_list a its.toArray) (begins_list b its2.toArray) p1.isList p3.isList fun h' hz2 hTI hTO g1 g2 sz keep => args_nil ?_
  have J2 : Inv X pins σ H1 { s1 with heap := h' } := J.kept (t' := s1.toks) keep
  refine list_zip_call (J.ok.hd hc) J2 (PySem.W.ktu_apart s1.heap.objs.size a b la p3.lt) hl hz qx qy (fun c hc2 => ?_) hz2 hTI ⟨_, _, hTO⟩ ⟨_, g1, rfl, rfl⟩ ⟨_, g2, rfl, rfl⟩ fun s' H' S Us I' sm n0 hU lU zd => ⟨.ref S, H', I', rfl, q H' S Us sm n0 hU lU zd⟩
  have le : s1.heap.objs.size ≤ c := by
    simp only [List.mem_cons, List.not_mem_nil, or_false] at hc2
    rcases hc2 with rfl | rfl | rfl | rfl | rfl <;> omega
  exact J.fpOk le (J.hok.fresh le)
end LX

namespace LX
open PySem PySem.Spec PyProof.Rows L2
variable {X : Cx}
/-- name = {k: v for ..} on one line, the name a local -/
theorem ps_setDc {i : Nat} {y : Str} {py : Pos} {kx vx tg iter : Expr} {ifs : List Expr} {scope : Scope} {own : List (Str × Nat)} {pos spos : Pos} {wi : TI} {g : TG} {tt : TT} {tk tv : TE} (hc : X.calm = true) (hN : X.N.Nodup) (hy : X.N[i]? = some y) (hyl : X.env.scope.names.lookup y = some .local)
    (hsw : swapsWith (.DictComp kx vx [⟨tg, iter, ifs, 0⟩] scope pos) (some (.Name y py)) spos.line X.env = pure true) (hi : PI X tg iter wi) (ok : BlkOk X.N X.env.scope scope own)
    (hg : ∀ (s : Shared) (H : Hp) (C : Addr) (cl : List (Str × Addr)) (fp : List Addr), PG (X.blk s H scope (compEnvC scope cl C X.env) fp) tg g) (ht : ∀ (s : Shared) (H : Hp) (C : Addr) (cl : List (Str × Addr)) (fp : List Addr), PTs (X.blk s H scope (compEnvC scope cl C X.env) fp) ifs tt)
    (hk : ∀ (s : Shared) (H : Hp) (C : Addr) (cl : List (Str × Addr)) (fp : List Addr), PE (X.blk s H scope (compEnvC scope cl C X.env) fp) kx tk)
    (he : ∀ (s : Shared) (H : Hp) (C : Addr) (cl : List (Str × Addr)) (fp : List Addr), PE (X.blk s H scope (compEnvC scope cl C X.env) fp) vx tv) (hs : ∀ x, foldedSetIterable iter X.env x = pure x := by intro _; rfl) :
    PS X (.Assign [.Name y py] (.DictComp kx vx [⟨tg, iter, ifs, 0⟩] scope pos) spos) (tAsg (tDc wi g tt tk tv (own.map (·.2))) (gName i)) := by
  refine ⟨fun pins s σ H D I h => ?_⟩
  rw [exec_Assign_Name_used _ _ _ _ hsw]
  refine wpAny_bind (wpAny_standAt (wpAny_bind ?_))
  show wpAny _ X.A (do let _ ← comprehension (.DictComp kx vx [⟨tg, iter, ifs, 0⟩] scope pos) scope X.env (firstIterPos [⟨tg, iter, ifs, 0⟩] pos) newDict false (eval iter X.env) (some (assign (.Name y py) X.env))) _ _ s
  have h : tDc wi g tt tk tv (own.map (·.2)) σ H (fun x H1 => gName i x σ H1 D.nx) := h
  refine wpAny_bind (thn (dc_core (Qf := fun _ s' => SP X pins D .next s') hc hN I hi ok hg ht hk he hs h fun L C s' m H' I' q hn f => ?_) fun _ s' hq => wpAny_pure (wpAny_pure hq))
  show wpAny _ _ (assign (.Name y py) X.env (.ref L)) _ _ _
  refine wpAny_assign_Name (store_ok2 (v := V.ref L) I' hN hy (.inl hyl) rfl (fun s2 I2 ⟨a, sb, ha⟩ => ?_) (.inr hyl))
  obtain ⟨f0, f1, f2, f3, f4, f5⟩ := f
  have haC : C ≠ a := by
    rcases ha with z | z
    · rw [z]; exact f1
    · exact fun e => f4 y a z e.symm
  refine ⟨m, hn.sameBut sb haC, fun h3 sb3 => ?_⟩
  exact ⟨_, H', I2.turned (t' := s2.toks) (fun b o hb e => (sb3.2 b hb).trans e) f0 f1 f3 f4 f5, q⟩
theorem sw_trueD {kx vx : Expr} {gs : List Comprehension} {scope : Scope} {pos py : Pos} {y : Str} {l : Nat} {env : Env} (hk : env.scope.kind = .function) (hy : env.scope.names.lookup y = some .local) (hl : (py.line == pos.line) = true)
    (ha : (scope.names.any fun (n, k) => n == y && (k == .local || k == .cell)) = false) : swapsWith (.DictComp kx vx gs scope pos) (some (.Name y py)) l env = pure true := by
  have ky : env.kindOf y = some .local := hy
  have hb : env.blockKind = .function := by unfold Env.blockKind; rw [hk]; rfl
  unfold swapsWith
  simp only [hb, ky, ha, Expr.pos, hl]
  rfl
end LX

/-! small data: what repr and == ask of it -/
namespace LG
open PySem L2
structure Sm (d : PyData) (k w : Nat) : Prop where
  sh : d.showable = true
  ls : d.leavesShort 40 = true
  cl : d.canLay0 = true
  dp : d.depth ≤ k
  wt : d.weight ≤ w
theorem Sm.mono {d : PyData} {k w k' w' : Nat} (h : Sm d k w) (hk : k ≤ k') (hw : w ≤ w') : Sm d k' w' := ⟨h.sh, h.ls, h.cl, Nat.le_trans h.dp hk, Nat.le_trans h.wt hw⟩
theorem Sm.int {i : Int} (hb : i.natAbs < 10 ^ 31) : Sm (.int i) 0 121 := by
  have hlog : i.natAbs.log2 < 1920 := by
    by_cases z : i.natAbs = 0
    · rw [z]; decide
    · exact Nat.lt_trans ((Nat.log2_lt z).mpr (show i.natAbs < 2 ^ 120 from Nat.lt_trans hb (by decide))) (by decide)
  have hlen : (PyData.shown (.int i)).length ≤ 40 := by
    have e := int_text_length_le10 (k := 31) (by decide) hb
    show (Str.ofString (toString i)).length ≤ 40
    rw [ofString_length]; omega
  refine ⟨?_, ?_, rfl, Nat.le_refl _, ?_⟩
  · simp only [PyData.showable, decide_eq_true_eq]; exact hlog
  · simp only [PyData.leavesShort, decide_eq_true_eq]; exact hlen
  · simp only [PyData.weight]
    split
    · omega
    · rename_i z
      have z2 : i.natAbs ≠ 0 := fun q => z (by simp [Int.natAbs_eq_zero.mp q])
      have := (Nat.log2_lt z2).mpr (show i.natAbs < 2 ^ 120 from Nat.lt_trans hb (by decide))
      omega
theorem Sm.non : Sm .none 0 0 := ⟨rfl, rfl, rfl, Nat.le_refl _, Nat.le_refl _⟩
theorem Sm.bl (b : Bool) : Sm (.bool b) 0 0 := ⟨rfl, rfl, rfl, Nat.le_refl _, Nat.le_refl _⟩
theorem Sm.all {k w : Nat} : ∀ {l : List PyData}, (∀ d ∈ l, Sm d k w) → PyData.showableAll l = true ∧ PyData.leavesShortAll 40 l = true ∧ PyData.canLayAll0 l = true ∧ PyData.depthAll l ≤ k ∧ PyData.weightAll l ≤ (w + 1) * l.length
  | [], _ => ⟨rfl, rfl, rfl, Nat.zero_le _, Nat.zero_le _⟩
  | d :: r, h => by
    obtain ⟨a, b, c, e, f⟩ := Sm.all (l := r) fun x hx => h x (List.mem_cons_of_mem _ hx)
    have g := h d List.mem_cons_self
    refine ⟨?_, ?_, ?_, ?_, ?_⟩
    · simp only [PyData.showableAll, Bool.and_eq_true]; exact ⟨g.sh, a⟩
    · simp only [PyData.leavesShortAll, Bool.and_eq_true]; exact ⟨g.ls, b⟩
    · simp only [PyData.canLayAll0, Bool.and_eq_true]; exact ⟨g.cl, c⟩
    · simp only [PyData.depthAll]
      have := g.dp
      omega
    · simp only [PyData.weightAll, List.length_cons]
      have := g.wt
      rw [Nat.mul_succ]
      omega
theorem Sm.list {k w : Nat} {l : List PyData} (h : ∀ d ∈ l, Sm d k w) : Sm (.list l) (k + 1) ((w + 1) * l.length) := by
  obtain ⟨a, b, c, e, f⟩ := Sm.all h
  exact ⟨by simp only [PyData.showable]; exact a, by simp only [PyData.leavesShort]; exact b, by simp only [PyData.canLay0]; exact c, by simp only [PyData.depth]; omega, by simp only [PyData.weight]; exact f⟩
theorem Sm.tup {k w : Nat} {l : List PyData} (h : ∀ d ∈ l, Sm d k w) : Sm (.tuple l) (k + 1) ((w + 1) * l.length) := by
  obtain ⟨a, b, c, e, f⟩ := Sm.all h
  exact ⟨by simp only [PyData.showable]; exact a, by simp only [PyData.leavesShort]; exact b, by simp only [PyData.canLay0]; exact c, by simp only [PyData.depth]; omega, by simp only [PyData.weight]; exact f⟩
theorem Sm.ok {d : PyData} {k w : Nat} (h : Sm d k w) (hk : k ≤ 64) (hw : w ≤ 200000) : d.showable = true ∧ SeqAt.shaped d = true ∧ d.shown.length ≤ sizeLine := by
  refine ⟨h.sh, ?_, ?_⟩
  · unfold SeqAt.shaped
    rw [Bool.and_eq_true, decide_eq_true_iff]
    exact ⟨h.cl, Nat.le_trans h.dp hk⟩
  · have := PyData.shown_le 40 (by decide) _ h.ls
    have e : (40 + 2) * d.weight ≤ 42 * 200000 := Nat.mul_le_mul_left _ (Nat.le_trans h.wt hw)
    exact Nat.le_trans this (Nat.le_trans (show _ ≤ 9000000 by omega) (by decide))
theorem dpAll_of {K : PySem.W.Frag} {H : Hp} : ∀ {vs : List V} {ds : List PyData}, vs.length = ds.length → (∀ (i : Nat) v d, vs[i]? = some v → ds[i]? = some d → Dp K H v d) → DpAll K H vs ds
  | [], [], _, _ => .nil
  | v :: vs, d :: ds, h, g => .cons (g 0 v d rfl rfl) (dpAll_of (by simpa using h) fun i x y h1 h2 => g (i + 1) x y h1 h2)
  | [], _ :: _, h, _ => by simp at h
  | _ :: _, [], h, _ => by simp at h
end LG


namespace LP
open PySem L2 LT LG LQ LH LC LX
def topS (i : Nat) : Stmt := PySem.Challenge.pw_leftreturn_k10_times_of_many_places.main.body.getD i (.Pass ⟨0, 0, 0, 0⟩)
abbrev s_is_whole : Stmt := topS 11
abbrev s_is_listed : Stmt := topS 12
abbrev s_is_place : Stmt := topS 13
abbrev s_is_place_list : Stmt := topS 14
abbrev s_check_places : Stmt := topS 15
abbrev s_check_same_places : Stmt := topS 16
abbrev s_check_pair : Stmt := topS 17
abbrev s_is_pattern : Stmt := topS 18
abbrev s_check_pattern_for : Stmt := topS 19
abbrev s_numbers_by_place : Stmt := topS 21
abbrev s_fills_by : Stmt := topS 22
abbrev s_is_two : Stmt := topS 23
abbrev s_is_three : Stmt := topS 24
abbrev s_first_two : Stmt := topS 25
abbrev s_last_fill_between : Stmt := topS 26
abbrev s_first_three : Stmt := topS 27
abbrev s_obstruction : Stmt := topS 28
abbrev s_least_times : Stmt := topS 29
abbrev s_most_times : Stmt := topS 30
abbrev s_check_possible : Stmt := topS 31
abbrev s_time_bounds : Stmt := topS 32
abbrev s__law_bag : Stmt := topS 34
abbrev s__law_stir : Stmt := topS 35
abbrev s__law_draw : Stmt := topS 36
abbrev s__law_shuffled : Stmt := topS 37
abbrev s__law_either : Stmt := topS 38
abbrev s__law_pattern : Stmt := topS 39
abbrev s__law_places : Stmt := topS 40
abbrev s__law_filled : Stmt := topS 41
abbrev s__law_times : Stmt := topS 42
abbrev s__law_bounds : Stmt := topS 43
abbrev s__law_written : Stmt := topS 44
abbrev s__law_right : Stmt := topS 45
abbrev s_law : Stmt := topS 46
theorem sc_is_whole : FnScope ["value"] ["value"] (defScope s_is_whole) := ⟨rfl, rfl, rfl, by decide +kernel, rfl, by decide +kernel, by decide +kernel⟩
theorem sc_is_listed : FnScope ["value"] ["value"] (defScope s_is_listed) := ⟨rfl, rfl, rfl, by decide +kernel, rfl, by decide +kernel, by decide +kernel⟩
theorem sc_is_place : FnScope ["value"] ["value"] (defScope s_is_place) := ⟨rfl, rfl, rfl, by decide +kernel, rfl, by decide +kernel, by decide +kernel⟩
theorem sc_is_place_list : FnScope ["value", "item"] ["value"] (defScope s_is_place_list) := ⟨rfl, rfl, rfl, by decide +kernel, rfl, by decide +kernel, by decide +kernel⟩
theorem sc_check_places : FnScope ["value"] ["value"] (defScope s_check_places) := ⟨rfl, rfl, rfl, by decide +kernel, rfl, by decide +kernel, by decide +kernel⟩
theorem sc_check_same_places : FnScope ["first", "second"] ["first", "second"] (defScope s_check_same_places) := ⟨rfl, rfl, rfl, by decide +kernel, rfl, by decide +kernel, by decide +kernel⟩
theorem sc_check_pair : FnScope ["takes", "fills"] ["takes", "fills"] (defScope s_check_pair) := ⟨rfl, rfl, rfl, by decide +kernel, rfl, by decide +kernel, by decide +kernel⟩
theorem sc_is_pattern : FnScope ["value", "out", "letter"] ["value"] (defScope s_is_pattern) := ⟨rfl, rfl, rfl, by decide +kernel, rfl, by decide +kernel, by decide +kernel⟩
theorem sc_check_pattern_for : FnScope ["takes", "pattern"] ["takes", "pattern"] (defScope s_check_pattern_for) := ⟨rfl, rfl, rfl, by decide +kernel, rfl, by decide +kernel, by decide +kernel⟩
theorem sc_numbers_by_place : FnScope ["places", "number", "place"] ["places"] (defScope s_numbers_by_place) := ⟨rfl, rfl, rfl, by decide +kernel, rfl, by decide +kernel, by decide +kernel⟩
theorem sc_fills_by : FnScope ["takes", "pattern", "gaps", "fills", "taken", "letter"] ["takes", "pattern"] (defScope s_fills_by) := ⟨rfl, rfl, rfl, by decide +kernel, rfl, by decide +kernel, by decide +kernel⟩
theorem sc_is_two : FnScope ["taken", "filled", "a", "b"] ["taken", "filled", "a", "b"] (defScope s_is_two) := ⟨rfl, rfl, rfl, by decide +kernel, rfl, by decide +kernel, by decide +kernel⟩
theorem sc_is_three : FnScope ["taken", "filled", "a", "b", "c"] ["taken", "filled", "a", "b", "c"] (defScope s_is_three) := ⟨rfl, rfl, rfl, by decide +kernel, rfl, by decide +kernel, by decide +kernel⟩
theorem sc_first_two : FnScope ["taken", "filled", "a", "b"] ["taken", "filled"] (defScope s_first_two) := ⟨rfl, rfl, rfl, by decide +kernel, rfl, by decide +kernel, by decide +kernel⟩
theorem sc_last_fill_between : FnScope ["taken", "filled", "b", "fills", "c"] ["taken", "filled", "b"] (defScope s_last_fill_between) := ⟨rfl, rfl, rfl, by decide +kernel, rfl, by decide +kernel, by decide +kernel⟩
theorem sc_first_three : FnScope ["taken", "filled", "places", "last", "a", "b", "c"] ["taken", "filled"] (defScope s_first_three) := ⟨rfl, rfl, rfl, by decide +kernel, rfl, by decide +kernel, by decide +kernel⟩
theorem sc_obstruction : FnScope ["takes", "fills", "taken", "filled", "found"] ["takes", "fills"] (defScope s_obstruction) := ⟨rfl, rfl, rfl, by decide +kernel, rfl, by decide +kernel, by decide +kernel⟩
theorem sc_least_times : FnScope ["takes", "fills", "taken", "times", "least", "place"] ["takes", "fills"] (defScope s_least_times) := ⟨rfl, rfl, rfl, by decide +kernel, rfl, by decide +kernel, by decide +kernel⟩
theorem sc_most_times : FnScope ["takes", "fills", "taken", "times", "most", "later", "place", "other"] ["takes", "fills"] (defScope s_most_times) := ⟨rfl, rfl, rfl, by decide +kernel, rfl, by decide +kernel, by decide +kernel⟩
theorem sc_check_possible : FnScope ["takes", "fills", "reason"] ["takes", "fills"] (defScope s_check_possible) := ⟨rfl, rfl, rfl, by decide +kernel, rfl, by decide +kernel, by decide +kernel⟩
theorem sc_time_bounds : FnScope ["takes", "fills"] ["takes", "fills"] (defScope s_time_bounds) := ⟨rfl, rfl, rfl, by decide +kernel, rfl, by decide +kernel, by decide +kernel⟩
theorem sc__law_bag : FnScope ["script", "total", "cell"] ["script"] (defScope s__law_bag) := ⟨rfl, rfl, rfl, by decide +kernel, rfl, by decide +kernel, by decide +kernel⟩
theorem sc__law_stir : FnScope ["number", "place", "one", "two"] ["number", "place"] (defScope s__law_stir) := ⟨rfl, rfl, rfl, by decide +kernel, rfl, by decide +kernel, by decide +kernel⟩
theorem sc__law_draw : FnScope ["bag", "bound", "cell", "found"] ["bag", "bound"] (defScope s__law_draw) := ⟨rfl, rfl, rfl, by decide +kernel, rfl, by decide +kernel, by decide +kernel⟩
theorem sc__law_shuffled : FnScope ["bag", "items", "left", "step"] ["bag", "items"] (defScope s__law_shuffled) := ⟨rfl, rfl, rfl, by decide +kernel, rfl, by decide +kernel, by decide +kernel⟩
theorem sc__law_either : FnScope ["bag", "items"] ["bag", "items"] (defScope s__law_either) := ⟨rfl, rfl, rfl, by decide +kernel, rfl, by decide +kernel, by decide +kernel⟩
theorem sc__law_pattern : FnScope ["bag", "count", "found", "left", "out", "share", "step"] ["bag", "count"] (defScope s__law_pattern) := ⟨rfl, rfl, rfl, by decide +kernel, rfl, by decide +kernel, by decide +kernel⟩
theorem sc__law_places : FnScope ["bag", "count", "way", "order", "found", "k"] ["bag", "count"] (defScope s__law_places) := ⟨rfl, rfl, rfl, by decide +kernel, rfl, by decide +kernel, by decide +kernel⟩
theorem sc__law_filled : FnScope ["takes", "pattern", "gaps", "found", "at", "letter"] ["takes", "pattern"] (defScope s__law_filled) := ⟨rfl, rfl, rfl, by decide +kernel, rfl, by decide +kernel, by decide +kernel⟩
theorem sc__law_times : FnScope ["pattern", "found", "at", "letter"] ["pattern"] (defScope s__law_times) := ⟨rfl, rfl, rfl, by decide +kernel, rfl, by decide +kernel, by decide +kernel⟩
theorem sc__law_bounds : FnScope ["takes", "fills", "taken", "found", "raw", "at", "place", "less", "other", "low", "high"] ["takes", "fills"] (defScope s__law_bounds) := ⟨rfl, rfl, rfl, by decide +kernel, rfl, by decide +kernel, by decide +kernel⟩
theorem sc__law_written : FnScope ["times_here", "count", "found", "done", "time"] ["times_here", "count"] (defScope s__law_written) := ⟨rfl, rfl, rfl, by decide +kernel, rfl, by decide +kernel, by decide +kernel⟩
theorem sc__law_right : FnScope ["bag", "takes", "pattern", "fills", "count", "passed", "kept", "found", "one", "other", "times_here", "drawn", "low", "high", "row", "time"] ["bag", "takes", "pattern"] (defScope s__law_right) := ⟨rfl, rfl, rfl, by decide +kernel, rfl, by decide +kernel, by decide +kernel⟩
theorem sc_law : FnScope ["script", "bag", "turn", "count"] ["script"] (defScope s_law) := ⟨rfl, rfl, rfl, by decide +kernel, rfl, by decide +kernel, by decide +kernel⟩
structure Env (K : PySem.W.Frag) (mg : Str → Option Value) where
  n_len : mg "len" = none
  n_range : mg "range" = none
  n_list : mg "list" = none
  n_tuple : mg "tuple" = none
  n_int : mg "int" = none
  n_bool : mg "bool" = none
  n_str : mg "str" = none
  n_isinstance : mg "isinstance" = none
  n_min : mg "min" = none
  n_max : mg "max" = none
  n_sorted : mg "sorted" = none
  n_set : mg "set" = none
  n_all : mg "all" = none
  n_repr : mg "repr" = none
  n_enumerate : mg "enumerate" = none
  n_zip : mg "zip" = none
  n_dict : mg "dict" = none
  t_MOST_PLACES : Tok
  g_MOST_PLACES : mg "MOST_PLACES" = some (.int 200 t_MOST_PLACES)
  t_GREATEST_PLACE : Tok
  g_GREATEST_PLACE : mg "GREATEST_PLACE" = some (.int 1000000000000000000000000000000 t_GREATEST_PLACE)
  g_heappush : mg "heappush" = some (.builtin "_heapq.heappush")
  g_heappop : mg "heappop" = some (.builtin "_heapq.heappop")
  g_combinations : mg "combinations" = some (.type "itertools.combinations")
  a_is_whole : Addr
  d_is_whole : FuncData
  f_is_whole : Fun K "is_whole" "is_whole" s_is_whole a_is_whole d_is_whole
  b_is_whole : Binds K d_is_whole ["value"] []
  g_is_whole : mg "is_whole" = some (.ref a_is_whole)
  a_is_listed : Addr
  d_is_listed : FuncData
  f_is_listed : Fun K "is_listed" "is_listed" s_is_listed a_is_listed d_is_listed
  b_is_listed : Binds K d_is_listed ["value"] []
  g_is_listed : mg "is_listed" = some (.ref a_is_listed)
  a_is_place : Addr
  d_is_place : FuncData
  f_is_place : Fun K "is_place" "is_place" s_is_place a_is_place d_is_place
  b_is_place : Binds K d_is_place ["value"] []
  g_is_place : mg "is_place" = some (.ref a_is_place)
  a_is_place_list : Addr
  d_is_place_list : FuncData
  f_is_place_list : Fun K "is_place_list" "is_place_list" s_is_place_list a_is_place_list d_is_place_list
  b_is_place_list : Binds K d_is_place_list ["value"] []
  g_is_place_list : mg "is_place_list" = some (.ref a_is_place_list)
  a_check_places : Addr
  d_check_places : FuncData
  f_check_places : Fun K "check_places" "check_places" s_check_places a_check_places d_check_places
  b_check_places : Binds K d_check_places ["value"] []
  g_check_places : mg "check_places" = some (.ref a_check_places)
  a_check_same_places : Addr
  d_check_same_places : FuncData
  f_check_same_places : Fun K "check_same_places" "check_same_places" s_check_same_places a_check_same_places d_check_same_places
  b_check_same_places : Binds K d_check_same_places ["first", "second"] []
  g_check_same_places : mg "check_same_places" = some (.ref a_check_same_places)
  a_check_pair : Addr
  d_check_pair : FuncData
  f_check_pair : Fun K "check_pair" "check_pair" s_check_pair a_check_pair d_check_pair
  b_check_pair : Binds K d_check_pair ["takes", "fills"] []
  g_check_pair : mg "check_pair" = some (.ref a_check_pair)
  a_is_pattern : Addr
  d_is_pattern : FuncData
  f_is_pattern : Fun K "is_pattern" "is_pattern" s_is_pattern a_is_pattern d_is_pattern
  b_is_pattern : Binds K d_is_pattern ["value"] []
  g_is_pattern : mg "is_pattern" = some (.ref a_is_pattern)
  a_check_pattern_for : Addr
  d_check_pattern_for : FuncData
  f_check_pattern_for : Fun K "check_pattern_for" "check_pattern_for" s_check_pattern_for a_check_pattern_for d_check_pattern_for
  b_check_pattern_for : Binds K d_check_pattern_for ["takes", "pattern"] []
  g_check_pattern_for : mg "check_pattern_for" = some (.ref a_check_pattern_for)
  a_numbers_by_place : Addr
  d_numbers_by_place : FuncData
  f_numbers_by_place : Fun K "numbers_by_place" "numbers_by_place" s_numbers_by_place a_numbers_by_place d_numbers_by_place
  b_numbers_by_place : Binds K d_numbers_by_place ["places"] []
  g_numbers_by_place : mg "numbers_by_place" = some (.ref a_numbers_by_place)
  a_fills_by : Addr
  d_fills_by : FuncData
  f_fills_by : Fun K "fills_by" "fills_by" s_fills_by a_fills_by d_fills_by
  b_fills_by : Binds K d_fills_by ["takes", "pattern"] []
  g_fills_by : mg "fills_by" = some (.ref a_fills_by)
  a_is_two : Addr
  d_is_two : FuncData
  f_is_two : Fun K "is_two" "is_two" s_is_two a_is_two d_is_two
  b_is_two : Binds K d_is_two ["taken", "filled", "a", "b"] []
  g_is_two : mg "is_two" = some (.ref a_is_two)
  a_is_three : Addr
  d_is_three : FuncData
  f_is_three : Fun K "is_three" "is_three" s_is_three a_is_three d_is_three
  b_is_three : Binds K d_is_three ["taken", "filled", "a", "b", "c"] []
  g_is_three : mg "is_three" = some (.ref a_is_three)
  a_first_two : Addr
  d_first_two : FuncData
  f_first_two : Fun K "first_two" "first_two" s_first_two a_first_two d_first_two
  b_first_two : Binds K d_first_two ["taken", "filled"] []
  g_first_two : mg "first_two" = some (.ref a_first_two)
  a_last_fill_between : Addr
  d_last_fill_between : FuncData
  f_last_fill_between : Fun K "last_fill_between" "last_fill_between" s_last_fill_between a_last_fill_between d_last_fill_between
  b_last_fill_between : Binds K d_last_fill_between ["taken", "filled", "b"] []
  g_last_fill_between : mg "last_fill_between" = some (.ref a_last_fill_between)
  a_first_three : Addr
  d_first_three : FuncData
  f_first_three : Fun K "first_three" "first_three" s_first_three a_first_three d_first_three
  b_first_three : Binds K d_first_three ["taken", "filled"] []
  g_first_three : mg "first_three" = some (.ref a_first_three)
  a_obstruction : Addr
  d_obstruction : FuncData
  f_obstruction : Fun K "obstruction" "obstruction" s_obstruction a_obstruction d_obstruction
  b_obstruction : Binds K d_obstruction ["takes", "fills"] []
  g_obstruction : mg "obstruction" = some (.ref a_obstruction)
  a_least_times : Addr
  d_least_times : FuncData
  f_least_times : Fun K "least_times" "least_times" s_least_times a_least_times d_least_times
  b_least_times : Binds K d_least_times ["takes", "fills"] []
  g_least_times : mg "least_times" = some (.ref a_least_times)
  a_most_times : Addr
  d_most_times : FuncData
  f_most_times : Fun K "most_times" "most_times" s_most_times a_most_times d_most_times
  b_most_times : Binds K d_most_times ["takes", "fills"] []
  g_most_times : mg "most_times" = some (.ref a_most_times)
  a_check_possible : Addr
  d_check_possible : FuncData
  f_check_possible : Fun K "check_possible" "check_possible" s_check_possible a_check_possible d_check_possible
  b_check_possible : Binds K d_check_possible ["takes", "fills"] []
  g_check_possible : mg "check_possible" = some (.ref a_check_possible)
  a_time_bounds : Addr
  d_time_bounds : FuncData
  f_time_bounds : Fun K "time_bounds" "time_bounds" s_time_bounds a_time_bounds d_time_bounds
  b_time_bounds : Binds K d_time_bounds ["takes", "fills"] []
  g_time_bounds : mg "time_bounds" = some (.ref a_time_bounds)
  a__law_bag : Addr
  d__law_bag : FuncData
  f__law_bag : Fun K "_law_bag" "_law_bag" s__law_bag a__law_bag d__law_bag
  b__law_bag : Binds K d__law_bag ["script"] []
  g__law_bag : mg "_law_bag" = some (.ref a__law_bag)
  a__law_stir : Addr
  d__law_stir : FuncData
  f__law_stir : Fun K "_law_stir" "_law_stir" s__law_stir a__law_stir d__law_stir
  b__law_stir : Binds K d__law_stir ["number", "place"] []
  g__law_stir : mg "_law_stir" = some (.ref a__law_stir)
  a__law_draw : Addr
  d__law_draw : FuncData
  f__law_draw : Fun K "_law_draw" "_law_draw" s__law_draw a__law_draw d__law_draw
  b__law_draw : Binds K d__law_draw ["bag", "bound"] []
  g__law_draw : mg "_law_draw" = some (.ref a__law_draw)
  a__law_shuffled : Addr
  d__law_shuffled : FuncData
  f__law_shuffled : Fun K "_law_shuffled" "_law_shuffled" s__law_shuffled a__law_shuffled d__law_shuffled
  b__law_shuffled : Binds K d__law_shuffled ["bag", "items"] []
  g__law_shuffled : mg "_law_shuffled" = some (.ref a__law_shuffled)
  a__law_either : Addr
  d__law_either : FuncData
  f__law_either : Fun K "_law_either" "_law_either" s__law_either a__law_either d__law_either
  b__law_either : Binds K d__law_either ["bag", "items"] []
  g__law_either : mg "_law_either" = some (.ref a__law_either)
  a__law_pattern : Addr
  d__law_pattern : FuncData
  f__law_pattern : Fun K "_law_pattern" "_law_pattern" s__law_pattern a__law_pattern d__law_pattern
  b__law_pattern : Binds K d__law_pattern ["bag", "count"] []
  g__law_pattern : mg "_law_pattern" = some (.ref a__law_pattern)
  a__law_places : Addr
  d__law_places : FuncData
  f__law_places : Fun K "_law_places" "_law_places" s__law_places a__law_places d__law_places
  b__law_places : Binds K d__law_places ["bag", "count"] []
  g__law_places : mg "_law_places" = some (.ref a__law_places)
  a__law_filled : Addr
  d__law_filled : FuncData
  f__law_filled : Fun K "_law_filled" "_law_filled" s__law_filled a__law_filled d__law_filled
  b__law_filled : Binds K d__law_filled ["takes", "pattern"] []
  g__law_filled : mg "_law_filled" = some (.ref a__law_filled)
  a__law_times : Addr
  d__law_times : FuncData
  f__law_times : Fun K "_law_times" "_law_times" s__law_times a__law_times d__law_times
  b__law_times : Binds K d__law_times ["pattern"] []
  g__law_times : mg "_law_times" = some (.ref a__law_times)
  a__law_bounds : Addr
  d__law_bounds : FuncData
  f__law_bounds : Fun K "_law_bounds" "_law_bounds" s__law_bounds a__law_bounds d__law_bounds
  b__law_bounds : Binds K d__law_bounds ["takes", "fills"] []
  g__law_bounds : mg "_law_bounds" = some (.ref a__law_bounds)
  a__law_written : Addr
  d__law_written : FuncData
  f__law_written : Fun K "_law_written" "_law_written" s__law_written a__law_written d__law_written
  b__law_written : Binds K d__law_written ["times_here", "count"] []
  g__law_written : mg "_law_written" = some (.ref a__law_written)
  a__law_right : Addr
  d__law_right : FuncData
  f__law_right : Fun K "_law_right" "_law_right" s__law_right a__law_right d__law_right
  b__law_right : Binds K d__law_right ["bag", "takes", "pattern"] []
  g__law_right : mg "_law_right" = some (.ref a__law_right)
  a_law : Addr
  d_law : FuncData
  f_law : Fun K "law" "law" s_law a_law d_law
  b_law : Binds K d_law ["script"] []
  g_law : mg "law" = some (.ref a_law)
end LP
namespace LP
open PySem L2 LT LG LQ LH LC LX
def G30 : Int := 1000000000000000000000000000000
/-- a place list of these places -/
structure Pl (ns : List Int) : Prop where
  nd : ns.Nodup
  rg : ∀ x ∈ ns, 0 ≤ x ∧ x ≤ G30
  le : ns.length ≤ 200
theorem Pl.perm {ns ms : List Int} (p : Pl ns) (h : ms.Perm ns) : Pl ms := ⟨h.nodup_iff.mpr p.nd, fun x hx => p.rg x (h.subset hx), by rw [h.length_eq]; exact p.le⟩
section
variable (K : PySem.W.Frag)
abbrev Is (H : Hp) (a : Addr) (ns : List Int) : Prop := SqE K H a (ns.map V.int)
def sp_is_whole : Sp := fun vs H Q _ => ∃ n : Int, vs = [.int n] ∧ Q (.bl true) H
def sp_is_listed : Sp := fun vs H Q _ => ∃ (a : Addr) (xs : List V), vs = [.ref a] ∧ SqE K H a xs ∧ ∀ H', Same H H' → Q (.bl true) H'
def sp_is_place : Sp := fun vs H Q _ => ∃ n : Int, vs = [.int n] ∧ 0 ≤ n ∧ n ≤ G30 ∧ Q (.bl true) H
def sp_is_place_list : Sp := fun vs H Q _ => ∃ (a : Addr) (ns : List Int), vs = [.ref a] ∧ Is K H a ns ∧ Pl ns ∧ ∀ H', Same H H' → Q (.bl true) H'
def sp_check_places : Sp := fun vs H Q _ => ∃ (a : Addr) (ns : List Int), vs = [.ref a] ∧ Is K H a ns ∧ Pl ns ∧ ∀ H', Same H H' → Q .non H'
def sp_check_same_places : Sp := fun vs H Q _ => ∃ (a b : Addr) (ns ms : List Int), vs = [.ref a, .ref b] ∧ Is K H a ns ∧ Is K H b ms ∧ ns.Perm ms ∧ ∀ H', Same H H' → Q .non H'
def sp_is_pattern : Sp := fun vs H Q _ => ∃ l : Pat, vs = [.str (pstr l)] ∧ Good l ∧ tks l ≤ 200 ∧ Q (.bl true) H
def sp_check_pattern_for : Sp := fun vs H Q _ => ∃ (a : Addr) (ns : List Int) (l : Pat), vs = [.ref a, .str (pstr l)] ∧ Is K H a ns ∧ Good l ∧ tks l = ns.length ∧ ns.length ≤ 200 ∧ Q .non H
def sp_numbers_by_place : Sp := fun vs H Q _ => ∃ (a : Addr) (ns : List Int), vs = [.ref a] ∧ Is K H a ns ∧ Pl ns ∧ ∀ (H' : Hp) (d : Addr), Same H H' → H d = none → H' d = some (.dK (numK ns)) → Q (.ref d) H'
/-! the law's own -/
def sp__law_shuffled : Sp := fun vs H Q _ => ∃ (b l : Addr) (ns : List Int) (d : Nat) (p : Addr) (xs : List Int), vs = [.ref b, .ref p] ∧ Bag H b l ns d ∧ d < 900000 ∧ ns.length ≤ 63 ∧ SqL K H p (xs.map V.int) ∧ xs.length ≤ 400 ∧ p ≠ b ∧
  ∀ (H' : Hp) (q : Addr) (ys : List Int), Bag H' b l ns (d + xs.length) → Fr H H' b → H q = none → ys.Perm xs → H' q = some (.lst (ys.map V.int)) → Q (.ref q) H'
def sp__law_either : Sp := fun vs H Q _ => ∃ (b l : Addr) (ns : List Int) (d : Nat) (p : Addr) (xs : List Int), vs = [.ref b, .ref p] ∧ Bag H b l ns d ∧ d < 900000 ∧ ns.length ≤ 63 ∧ H p = some (.lst (xs.map V.int)) ∧ p ≠ b ∧
  ∀ (H' : Hp) (q : Addr), Bag H' b l ns (d + 1) → Fr H H' b → H q = none → (H' q = some (.lst (xs.map V.int)) ∨ H' q = some (.tup (xs.map V.int))) → Q (.ref q) H'
def sp__law_pattern : Sp := fun vs H Q _ => ∃ (b l : Addr) (ns : List Int) (d n : Nat), vs = [.ref b, .int n] ∧ Bag H b l ns d ∧ d < 900000 ∧ ns.length ≤ 63 ∧ n ≤ 200 ∧
  ∀ (H' : Hp) (t : Pat), Bag H' b l ns (d + 401) → Fr H H' b → Good t → tks t = n → Q (.str (pstr t)) H'
def sp__law_places : Sp := fun vs H Q _ => ∃ (b l : Addr) (ns : List Int) (d n : Nat), vs = [.ref b, .int n] ∧ Bag H b l ns d ∧ d < 890000 ∧ ns.length ≤ 63 ∧ n ≤ 200 ∧
  ∀ (H' : Hp) (q : Addr) (xs : List Int), Bag H' b l ns (d + 202) → Fr H H' b → H q = none → Pl xs → xs.length = n → H' q = some (.lst (xs.map V.int)) → Q (.ref q) H'
def sp_fills_by : Sp := fun vs H Q _ => ∃ (a : Addr) (ns : List Int) (l : Pat), vs = [.ref a, .str (pstr l)] ∧ Is K H a ns ∧ Pl ns ∧ Good l ∧ tks l = ns.length ∧ ∀ (H' : Hp) (p : Addr), Same H H' → H p = none → H' p = some (.lst ((fillsOf ns l).map V.int)) → Q (.ref p) H'
def sp__law_filled : Sp := fun vs H Q _ => ∃ (a : Addr) (ns : List Int) (l : Pat), vs = [.ref a, .str (pstr l)] ∧ SqL K H a (ns.map V.int) ∧ ns.length ≤ 200 ∧ Good l ∧ tks l = ns.length ∧ ∀ (H' : Hp) (p : Addr), Same H H' → H p = none → H' p = some (.lst ((fillsOf ns l).map V.int)) → Q (.ref p) H'
/-- a dict with the numbers of these places -/
abbrev Nm (H : Hp) (d : Addr) (ns : List Int) : Prop := H d = some (.dK (numK ns))
def sp_check_pair : Sp := fun vs H Q _ => ∃ (a b : Addr) (ns ms : List Int), vs = [.ref a, .ref b] ∧ Is K H a ns ∧ Is K H b ms ∧ Pl ns ∧ ms.Perm ns ∧ ∀ H', Same H H' → Q .non H'
def sp_is_two : Sp := fun vs H Q _ => ∃ (t f : Addr) (tk fs : List Int) (a b : Int), vs = [.ref t, .ref f, .int a, .int b] ∧ Nm H t tk ∧ Nm H f fs ∧ tk.Nodup ∧ fs.Nodup ∧ a ∈ tk ∧ b ∈ tk ∧ a ∈ fs ∧ b ∈ fs ∧
  Q (.bl (decide (a < b ∧ ix tk a < ix tk b ∧ ix fs b < ix fs a))) H
def sp_is_three : Sp := fun vs H Q _ => ∃ (t f : Addr) (tk fs : List Int) (a b c : Int), vs = [.ref t, .ref f, .int a, .int b, .int c] ∧ Nm H t tk ∧ Nm H f fs ∧ tk.Nodup ∧ fs.Nodup ∧ a ∈ tk ∧ b ∈ tk ∧ c ∈ tk ∧ a ∈ fs ∧ b ∈ fs ∧ c ∈ fs ∧
  Q (.bl (decide ((a < b ∧ b < c) ∧ (ix tk c < ix tk b ∧ ix tk b < ix tk a) ∧ ix fs a < ix fs c ∧ ix fs c < ix fs b))) H
/-- where there is no obstruction -/
def sp_first_two : Sp := fun vs H Q _ => ∃ (t f : Addr) (tk fs : List Int), vs = [.ref t, .ref f] ∧ Nm H t tk ∧ Nm H f fs ∧ tk.Nodup ∧ tk.length ≤ 200 ∧ fs.Perm tk ∧ NoObs tk fs ∧ ∀ H', Same H H' → Q .non H'
def sp_last_fill_between : Sp := fun vs H Q _ => ∃ (t f : Addr) (tk fs : List Int) (b : Int), vs = [.ref t, .ref f, .int b] ∧ Nm H t tk ∧ Nm H f fs ∧ t ≠ f ∧ tk.Nodup ∧ tk.length ≤ 200 ∧ fs.Perm tk ∧ b ∈ tk ∧
  ∀ (H' : Hp) (r : Int), Same H H' → (r = -1 ∨ ∃ c ∈ tk, c > b ∧ ix tk c < ix tk b ∧ ix fs c < ix fs b ∧ r = (ix fs c : Nat)) → Q (.int r) H'
def sp_first_three : Sp := fun vs H Q _ => ∃ (t f : Addr) (tk fs : List Int), vs = [.ref t, .ref f] ∧ Nm H t tk ∧ Nm H f fs ∧ t ≠ f ∧ tk.Nodup ∧ tk.length ≤ 200 ∧ fs.Perm tk ∧ NoObs tk fs ∧ ∀ H', Same H H' → Q .non H'
def sp_obstruction : Sp := fun vs H Q _ => ∃ (a b : Addr) (tk fs : List Int), vs = [.ref a, .ref b] ∧ Is K H a tk ∧ Is K H b fs ∧ Pl tk ∧ fs.Perm tk ∧ NoObs tk fs ∧ ∀ H', Same H H' → Q .non H'
def natV (ts : List Nat) : List V := ts.map fun t : Nat => V.int t
def los (tk fs : List Int) : List Nat := (List.range fs.length).map (lo tk fs)
def his (tk fs : List Int) : List Nat := (List.range fs.length).map (hi tk fs)
def sp_least_times : Sp := fun vs H Q _ => ∃ (a b : Addr) (tk fs : List Int), vs = [.ref a, .ref b] ∧ Is K H a tk ∧ Is K H b fs ∧ Pl tk ∧ fs.Perm tk ∧ ∀ (H' : Hp) (p : Addr), Same H H' → H p = none → H' p = some (.lst (natV (los tk fs))) → Q (.ref p) H'
def sp_most_times : Sp := fun vs H Q _ => ∃ (a b : Addr) (tk fs : List Int), vs = [.ref a, .ref b] ∧ Is K H a tk ∧ Is K H b fs ∧ Pl tk ∧ fs.Perm tk ∧ ∀ (H' : Hp) (p : Addr), Same H H' → H p = none → H' p = some (.lst (natV (his tk fs))) → Q (.ref p) H'
def sp_check_possible : Sp := fun vs H Q _ => ∃ (a b : Addr) (tk fs : List Int), vs = [.ref a, .ref b] ∧ Is K H a tk ∧ Is K H b fs ∧ Pl tk ∧ fs.Perm tk ∧ NoObs tk fs ∧ ∀ H', Same H H' → Q .non H'
/-- a list of pairs of numbers at p -/
structure Prs (H : Hp) (p : Addr) (ps : List (Nat × Nat)) (Ts : List Addr) : Prop where
  ls : H p = some (.lst (Ts.map V.ref))
  len : Ts.length = ps.length
  at_ : ∀ (i : Nat) T x, Ts[i]? = some T → ps[i]? = some x → H T = some (.tup [V.int x.1, V.int x.2])
def bnds (tk fs : List Int) : List (Nat × Nat) := (los tk fs).zip (his tk fs)
def sp_time_bounds : Sp := fun vs H Q _ => ∃ (a b : Addr) (tk fs : List Int), vs = [.ref a, .ref b] ∧ Is K H a tk ∧ Is K H b fs ∧ Pl tk ∧ fs.Perm tk ∧ NoObs tk fs ∧
  ∀ (H' : Hp) (p : Addr) (Ts : List Addr), Same H H' → H p = none → Prs H' p (bnds tk fs) Ts → Q (.ref p) H'
def sp__law_times : Sp := fun vs H Q _ => ∃ l : Pat, vs = [.str (pstr l)] ∧ fls l ≤ 200 ∧ ∀ (H' : Hp) (p : Addr), Same H H' → H p = none → H' p = some (.lst ((times l).map fun t : Nat => V.int t)) → Q (.ref p) H'
def sp__law_bounds : Sp := fun vs H Q _ => ∃ (a b : Addr) (tk fs : List Int), vs = [.ref a, .ref b] ∧ SqL K H a (tk.map V.int) ∧ SqL K H b (fs.map V.int) ∧ Pl tk ∧ fs.Perm tk ∧
  ∀ (H' : Hp) (p : Addr) (Ts : List Addr), Same H H' → H p = none → Prs H' p (bnds tk fs) Ts → Q (.ref p) H'
def sp__law_written : Sp := fun vs H Q _ => ∃ (a : Addr) (ts : List Nat), vs = [.ref a, .int ts.length] ∧ SqL K H a (natV ts) ∧ ts.length ≤ 200 ∧ ts.Pairwise (· ≤ ·) ∧ (∀ (j t : Nat), ts[j]? = some t → j < t ∧ t ≤ ts.length) ∧ ∀ H', Same H H' → Q (.str (pstr (wrote ts))) H'
def sp__law_right : Sp := fun vs H Q _ => ∃ (b l : Addr) (ns : List Int) (d : Nat) (p : Addr) (xs : List Int) (t : Pat), vs = [.ref b, .ref p, .str (pstr t)] ∧ Bag H b l ns d ∧ d < 800000 ∧ ns.length ≤ 63 ∧ H p = some (.lst (xs.map V.int)) ∧ p ≠ b ∧ Pl xs ∧ Good t ∧ tks t = xs.length ∧
  ∀ H' : Hp, Bag H' b l ns (d + 300) → Fr H H' b → Q (.bl true) H'
def sp_law : Sp := fun vs H Q _ => ∃ (a : Addr) (ns : List Int), vs = [.ref a] ∧ SqL K H a (ns.map V.int) ∧ ns.length ≤ 63 ∧ ∀ H', Q (.bl true) H'
end
end LP

namespace LP
open PySem L2 LT LG LQ LH LC LX
section
variable {P : Program} {w : World} {K : PySem.W.Frag} {mg : Str → Option Value} {base : Heap}
theorem ok_is_whole (e : Env K mg) : FnOk P w K mg base CX0 1 e.a_is_whole e.d_is_whole ["value"] (sp_is_whole) := by
  refine e.f_is_whole.ok sc_is_whole (fun vs H Q E h => ?_) (fun cdv A outer s H vs Q E hr h => ?_)
  · obtain ⟨n, rfl, _⟩ := h; rfl
  · obtain ⟨n, rfl, k⟩ := h
    refine ⟨_, (pss_one (ps_ret (pe_and (pe_callB call_isi (by rfl) e.n_isinstance (by decide +kernel) (pa_cons (pv 0) (pa_cons (pe_bltn (v := V.ty "int") (by rfl) e.n_int (by decide +kernel) rfl) pa_nil))) (pe_one (pe_not (pe_callB call_isi (by rfl) e.n_isinstance (by decide +kernel) (pa_cons (pv 0) (pa_cons (pe_bltn (v := V.ty "bool") (by rfl) e.n_bool (by decide +kernel) rfl) pa_nil)))))))), ?_⟩
    refine ⟨_, rfl, _, _, _, _, true, rfl, .ty "int", .base (.int n), kit_ty (by decide +kernel), _, rfl, iteT ?_⟩
    refine ⟨_, rfl, _, _, _, _, false, rfl, .ty "bool", .base (.int n), kit_ty (by decide +kernel), _, rfl, ?_⟩
    exact k
theorem ok_is_listed (e : Env K mg) : FnOk P w K mg base CX0 1 e.a_is_listed e.d_is_listed ["value"] (sp_is_listed K) := by
  refine e.f_is_listed.ok sc_is_listed (fun vs H Q E h => ?_) (fun cdv A outer s H vs Q E hr h => ?_)
  · obtain ⟨a, xs, rfl, _⟩ := h; rfl
  · obtain ⟨a, xs, rfl, hx, k⟩ := h
    refine ⟨_, (pss_one (ps_ret (pe_callB call_isiT (by rfl) e.n_isinstance (by decide +kernel) (pa_cons (pv 0) (pa_cons (pe_tup (pa_cons (pe_bltn (v := V.ty "list") (by rfl) e.n_list (by decide +kernel) rfl) (pa_cons (pe_bltn (v := V.ty "tuple") (by rfl) e.n_tuple (by decide +kernel) rfl) pa_nil))) pa_nil))))), ?_⟩
    refine ⟨_, rfl, (by show 2 ≤ sizeLine; decide), fun p hp => ?_⟩
    rcases ty_E (hx.same (same_upd hp)) with hx | hx
    · exact ⟨_, p, _, .type "list", [.type "list", .type "tuple"], true, rfl, upd_same, .cons (.ty _) (.cons (.ty _) .nil), hx, kit_lt, k _ (same_upd hp)⟩
    · exact ⟨_, p, _, .type "tuple", [.type "list", .type "tuple"], true, rfl, upd_same, .cons (.ty _) (.cons (.ty _) .nil), hx, kit_tt, k _ (same_upd hp)⟩
theorem ok_is_place (e : Env K mg) : FnOk P w K mg base CX0 2 e.a_is_place e.d_is_place ["value"] (sp_is_place) := by
  refine e.f_is_place.ok sc_is_place (fun vs H Q E h => ?_) (fun cdv A outer s H vs Q E hr h => ?_)
  · obtain ⟨n, rfl, _⟩ := h; rfl
  · obtain ⟨n, rfl, h1, h2, k⟩ := h
    refine ⟨_, (pss_one (ps_ret (pe_and (pe_call ((ok_is_whole e).mono (by decide)) hr rfl e.g_is_whole e.f_is_whole.kp e.b_is_whole .nil pass0 (pa_cons (pv 0) pa_nil)) (pe_one (pe_chain op_le op_le pe_int (pv 0) (pe_glob (v := V.int 1000000000000000000000000000000) rfl e.g_GREATEST_PLACE ⟨_, rfl⟩)))))), ?_⟩
    refine ⟨_, rfl, n, rfl, _, rfl, iteT ?_⟩
    refine ⟨_, rfl, _, _, rfl, rfl, _, rfl, iteD h1 ?_⟩
    refine ⟨_, _, rfl, rfl, ?_⟩
    show Q (V.bl (decide (n ≤ 1000000000000000000000000000000))) H
    rw [decide_eq_true (show n ≤ 1000000000000000000000000000000 from h2)]
    exact k
theorem all_bl {bs : List Bool} (h : ∀ b ∈ bs, b = true) : bs.all id = true := List.all_eq_true.mpr h
theorem ok_is_place_list (e : Env K mg) : FnOk P w K mg base CX0 3 e.a_is_place_list e.d_is_place_list ["value"] (sp_is_place_list K) := by
  refine e.f_is_place_list.ok sc_is_place_list (fun vs H Q E h => ?_) (fun cdv A outer s H vs Q E hr h => ?_)
  · obtain ⟨a, ns, rfl, _⟩ := h; rfl
  · obtain ⟨a, ns, rfl, hE, pl, k⟩ := h
    refine ⟨_, (pss_cons (ps_if (PW.pt (pw_or (pt_not (pt_val (pe_call ((ok_is_listed e).mono (by decide)) hr rfl e.g_is_listed e.f_is_listed.kp e.b_is_listed .nil pass0 (pa_cons (pv 0) pa_nil)))) (pw_or1 (pt_cmpR op_gt (pe_callB call_len_seq (by rfl) e.n_len PySem.boot_len (pa_cons (pv 0) pa_nil)) (pe_glob (v := V.int 200) rfl e.g_MOST_PLACES ⟨_, rfl⟩) (nomark _)))))
        (pss_one (ps_ret pe_bl))
        pss_nil)
      (pss_one (ps_ret (pe_and (pe_callB (cr_all rfl) (by rfl) e.n_all (by decide +kernel) (pa_cons (pe_lc (own := [("item", 1)]) rfl sc_is_place_list.nd (PI.or (pi_list (pv 0)) (pi_tup (pv 0))) (blkOk_by (N := ["value", "item"]) (sc := defScope s_is_place_list) (by decide +kernel)) (fun _ _ _ _ _ => (pg_name (i := 1) sc_is_place_list.nd rfl (by first | exact Or.inl rfl | exact Or.inr rfl))) (fun _ _ _ _ _ => pts_nil) (fun _ _ _ _ _ => (pe_call ((ok_is_place e).mono (by decide)) hr rfl e.g_is_place e.f_is_place.kp e.b_is_place .nil pass0 (pa_cons (pv 1) pa_nil)))) pa_nil)) (pe_one (pe_cmpR op_eq (pe_lenSetS (by rfl) e.n_len (by rfl) e.n_set (pv 0)) (pe_callB call_len_seq (by rfl) e.n_len PySem.boot_len (pa_cons (pv 0) pa_nil)) (nomark _))))))), ?_⟩
    refine ⟨_, rfl, a, _, rfl, hE, fun H1 s1 => ⟨true, rfl, iteNB rfl ?_⟩⟩
    have hE1 := hE.same s1
    have hle := pl.le
    refine ⟨_, rfl, a, _, rfl, hE1, _, _, rfl, rfl, _, rfl, iteX (by rw [List.length_map]; omega) ?_⟩
    refine or_E hE1 rfl fun J G wk hG D hD => ?_
    have sD : ∀ o, Same H1 (upd H1 D o) := fun o => same_upd hD
    refine lc_it wk (fun j H' => H' = upd H1 D (.lst (List.replicate j (V.bl true)))) rfl (fun j H' _ h => by subst h; exact hG _ (sD _)) ?_ ?_
    · rintro j x H2 H3 hj rfl ⟨rfl, hx⟩
      obtain ⟨n, hn, rfl⟩ := at_int hx
      obtain ⟨h0, h1⟩ := pl.rg n (List.mem_of_getElem? hn)
      rw [List.length_map] at hj
      refine ⟨rfl, _, rfl, n, rfl, h0, h1, _, upd_same, ?_, ?_⟩
      · rw [List.length_replicate]; exact small1000 (by omega)
      · rw [upd_upd, ← List.replicate_succ']
    · rintro H2 rfl
      have hb : List.replicate (List.map V.int ns).length (V.bl true) = (List.replicate ns.length true).map V.bl := by rw [List.length_map, List.map_replicate]
      refine ⟨D, List.replicate ns.length true, rfl, SqL.of (by rw [upd_same, hb]), true, ?_, iteT ?_⟩
      · rw [all_bl fun b hb => (List.mem_replicate.mp hb).2]
      have hE2 := hE1.same (sD (.lst (List.replicate (List.map V.int ns).length (V.bl true))))
      refine ⟨_, rfl, a, ns, rfl, hE2, pl.nd, by omega, ?_⟩
      refine ⟨_, rfl, a, _, rfl, hE2, rfl, ?_⟩
      rw [List.length_map, decide_eq_true rfl]
      have s2 : Same H (upd H1 D (.lst (List.replicate (List.map V.int ns).length (V.bl true)))) := s1.trans (sD _)
      rw [List.length_map] at s2
      exact k _ s2
theorem ok_check_places (e : Env K mg) : FnOk P w K mg base CX0 4 e.a_check_places e.d_check_places ["value"] (sp_check_places K) := by
  refine e.f_check_places.ok sc_check_places (fun vs H Q E h => ?_) (fun cdv A outer s H vs Q E hr h => ?_)
  · obtain ⟨a, ns, rfl, _⟩ := h; rfl
  · obtain ⟨a, ns, rfl, hE, pl, k⟩ := h
    refine ⟨_, (pss_one (ps_if (pt_not (pt_val (pe_call ((ok_is_place_list e).mono (by decide)) hr rfl e.g_is_place_list e.f_is_place_list.kp e.b_is_place_list .nil pass0 (pa_cons (pv 0) pa_nil))))
        (pss_one ps_never)
        pss_nil)), ?_⟩
    exact ⟨_, rfl, a, ns, rfl, hE, pl, fun H1 s1 => ⟨true, rfl, iteNB rfl (k _ s1)⟩⟩
theorem dp_ints {K : PySem.W.Frag} {H : Hp} : ∀ l : List Int, DpAll K H (l.map V.int) (l.map PyData.int)
  | [] => .nil
  | i :: r => .cons (.int i) (dp_ints r)
theorem canLay_ints : ∀ l : List Int, PyData.canLayAll0 (l.map PyData.int) = true
  | [] => rfl
  | i :: r => by simp [PyData.canLayAll0, PyData.canLay0, canLay_ints r]
theorem depth_ints : ∀ l : List Int, PyData.depthAll (l.map PyData.int) = 0
  | [] => rfl
  | i :: r => by simp [PyData.depthAll, PyData.depth, depth_ints r]
theorem shaped_ints (l : List Int) : SeqAt.shaped (.list (l.map PyData.int)) = true := by
  simp [SeqAt.shaped, PyData.canLay0, PyData.depth, canLay_ints, depth_ints]
theorem eqvAll_ints : ∀ l : List Int, PyData.eqvAll (l.map PyData.int) (l.map PyData.int) = true
  | [] => by simp [PyData.eqvAll]
  | a :: r => by
    simp only [List.map_cons, PyData.eqvAll, eqvAll_ints r]
    simp [PyData.eqv]
theorem sorted_eq {l m n : List Int} (h1 : l.Perm n) (h2 : m.Perm n) (h3 : l.Pairwise (· ≤ ·)) (h4 : m.Pairwise (· ≤ ·)) : l = m :=
  List.Perm.eq_of_pairwise (le := (· ≤ ·)) (fun a b _ _ h h' => Int.le_antisymm h h') h3 h4 (h1.trans h2.symm)
theorem ok_check_same_places (e : Env K mg) : FnOk P w K mg base CX0 1 e.a_check_same_places e.d_check_same_places ["first", "second"] (sp_check_same_places K) := by
  refine e.f_check_same_places.ok sc_check_same_places (fun vs H Q E h => ?_) (fun cdv A outer s H vs Q E hr h => ?_)
  · obtain ⟨a, b, ns, ms, rfl, _⟩ := h; rfl
  · obtain ⟨a, b, ns, ms, rfl, h1, h2, hp, k⟩ := h
    refine ⟨_, (pss_one (ps_if (pt_cmpR (op_neD hr.units) (pe_callB cr_sortedE (by rfl) e.n_sorted (by decide +kernel) (pa_cons (pv 0) pa_nil)) (pe_callB cr_sortedE (by rfl) e.n_sorted (by decide +kernel) (pa_cons (pv 1) pa_nil)) (nomark _))
        (pss_one ps_never)
        pss_nil)), ?_⟩
    refine ⟨_, rfl, a, ns, rfl, h1, fun ns' p p1 p2 hp1 => ?_⟩
    have s1 := same_upd (o := HO.lst (ns'.map V.int)) hp1
    refine ⟨_, rfl, b, ms, rfl, h2.same s1, fun ms' q q1 q2 hq1 => ?_⟩
    have s2 := same_upd (o := HO.lst (ms'.map V.int)) hq1
    have e : ns' = ms' := sorted_eq p1 (q1.trans hp.symm) p2 q2
    refine ⟨_, _, .lst (SqL.of (s2 _ _ upd_same)) (dp_ints ns'), .lst (SqL.of upd_same) (dp_ints ms'), shaped_ints _, shaped_ints _, _, rfl, ?_⟩
    subst e
    rw [show PyData.eqv (.list (ns'.map PyData.int)) (.list (ns'.map PyData.int)) = true by simp only [PyData.eqv]; exact eqvAll_ints ns']
    exact iteF (k _ (s1.trans s2))
end
end LP

namespace LP
open PySem L2 LT LG LQ LH LC LX
section
variable {P : Program} {w : World} {K : PySem.W.Frag} {mg : Str → Option Value} {base : Heap}
theorem pat_len (l : Pat) : (pstr l).cps.size = l.length := pstr_size l
theorem ok_is_pattern (e : Env K mg) : FnOk P w K mg base CX0 1 e.a_is_pattern e.d_is_pattern ["value"] (sp_is_pattern) := by
  refine e.f_is_pattern.ok sc_is_pattern (fun vs H Q E h => ?_) (fun cdv A outer s H vs Q E hr h => ?_)
  · obtain ⟨l, rfl, _⟩ := h; rfl
  · obtain ⟨l, rfl, g, hle, k⟩ := h
    refine ⟨_, (pss_cons (ps_if (PW.pt (pw_or (pt_not (pt_val (pe_callB call_isi (by rfl) e.n_isinstance (by decide +kernel) (pa_cons (pv 0) (pa_cons (pe_bltn (v := V.ty "str") (by rfl) e.n_str (by decide +kernel) rfl) pa_nil))))) (pw_or1 (pt_cmpR op_gt (pe_m1 PySem.F.slot_str_count PySem.F.type_str_count mt_count (pv 0) pe_str) (pe_glob (v := V.int 200) rfl e.g_MOST_PLACES ⟨_, rfl⟩) (nomark _)))))
        (pss_one (ps_ret pe_bl))
        pss_nil)
      (pss_cons (ps_set (i := 1) sc_is_pattern.nd rfl (by first | exact Or.inl rfl | exact Or.inr rfl) pe_int)
      (pss_cons (ps_for PassesOwn.never rfl (pi_str (pv 0)) (pg_name (i := 2) sc_is_pattern.nd rfl (by first | exact Or.inl rfl | exact Or.inr rfl))
      (pss_one (ps_if (pt_cmpR op_eq (pv 2) pe_str (nomark _))
        (pss_one (ps_aug (i := 1) sc_is_pattern.nd rfl (by first | exact Or.inl rfl | exact Or.inr rfl) pe_int ip_add))
        (pss_one (ps_if (PW.pt (pw_and (pt_cmpR op_eq (pv 2) pe_str (nomark _)) (pw_and1 (pt_cmpR op_gt (pv 1) pe_int (nomark _)))))
        (pss_one (ps_aug (i := 1) sc_is_pattern.nd rfl (by first | exact Or.inl rfl | exact Or.inr rfl) pe_int ip_sub))
        (pss_one (ps_ret pe_bl)))))))
      (pss_one (ps_ret (pe_cmpR op_eq (pv 1) pe_int (nomark _))))))), ?_⟩
    refine ⟨_, rfl, _, _, _, _, true, rfl, .ty "str", .base (.str _), kit_ty (by decide +kernel), _, rfl, iteNB rfl ?_⟩
    refine ⟨_, rfl, ⟨_, rfl⟩, _, _, rfl, rfl, _, _, rfl, rfl, _, rfl, iteX (by rw [count_T]; show ¬ ((tks l : Nat) : Int) > 200; omega) ?_⟩
    refine ⟨_, rfl, _, rfl, for_it walk_str (fun i σ H1 => H1 = H ∧ ∃ v2 : Option V, σ = [some (.str (pstr l)), some (.int ((tks (l.take i) : Nat) - (fls (l.take i) : Nat))), v2]) ⟨rfl, none, rfl⟩ (fun _ _ _ _ _ => trivial) ?_ ?_⟩
    · rintro i x σ H1 H2 hi ⟨rfl, v2, rfl⟩ ⟨rfl, c, hc, rfl⟩
      obtain ⟨b, hb, rfl⟩ := pstr_at hc
      have hp := g.1 (i + 1)
      rw [take_snoc hb] at hp
      cases b with
      | true =>
        refine ⟨_, rfl, rfl, _, rfl, iteD vsT ?_⟩
        have e : ((tks (l.take (i + 1)) : Nat) : Int) - (fls (l.take (i + 1)) : Nat) = (tks (l.take i) : Nat) - (fls (l.take i) : Nat) + 1 := by rw [take_snoc hb, tks_t, fls_t]; omega
        exact ⟨_, rfl, _, _, rfl, rfl, rfl, some (.str ⟨#[sgn true]⟩), by rw [e]; rfl⟩
      | false =>
        rw [tks_f, fls_f] at hp
        refine ⟨_, rfl, rfl, _, rfl, iteX vsR ?_⟩
        refine ⟨_, rfl, rfl, _, rfl, iteD vsRR ?_⟩
        refine ⟨_, rfl, _, _, rfl, rfl, _, rfl, iteD (by omega) ?_⟩
        have e : ((tks (l.take (i + 1)) : Nat) : Int) - (fls (l.take (i + 1)) : Nat) = (tks (l.take i) : Nat) - (fls (l.take i) : Nat) - 1 := by rw [take_snoc hb, tks_f, fls_f]; omega
        exact ⟨_, rfl, _, _, rfl, rfl, rfl, some (.str ⟨#[sgn false]⟩), by rw [e]; rfl⟩
    · rintro σ H1 ⟨rfl, v2, rfl⟩
      rw [pstr_size, List.take_length, g.2]
      refine ⟨_, rfl, rfl, ?_⟩
      have e : ((tks l : Nat) : Int) - (tks l : Nat) = 0 := by omega
      rw [e]
      exact k
theorem ok_check_pattern_for (e : Env K mg) : FnOk P w K mg base CX0 2 e.a_check_pattern_for e.d_check_pattern_for ["takes", "pattern"] (sp_check_pattern_for K) := by
  refine e.f_check_pattern_for.ok sc_check_pattern_for (fun vs H Q E h => ?_) (fun cdv A outer s H vs Q E hr h => ?_)
  · obtain ⟨a, ns, l, rfl, _⟩ := h; rfl
  · obtain ⟨a, ns, l, rfl, hE, g, hn, hle, k⟩ := h
    refine ⟨_, (pss_one (ps_if (PW.pt (pw_or (pt_not (pt_val (pe_call ((ok_is_pattern e).mono (by decide)) hr rfl e.g_is_pattern e.f_is_pattern.kp e.b_is_pattern .nil pass0 (pa_cons (pv 1) pa_nil)))) (pw_or1 (pt_cmpR op_ne (pe_m1 PySem.F.slot_str_count PySem.F.type_str_count mt_count (pv 1) pe_str) (pe_callB call_len_seq (by rfl) e.n_len PySem.boot_len (pa_cons (pv 0) pa_nil)) (nomark _)))))
        (pss_one ps_never)
        pss_nil)), ?_⟩
    refine ⟨_, rfl, l, rfl, g, by omega, true, rfl, iteNB rfl ?_⟩
    refine ⟨_, rfl, ⟨_, rfl⟩, _, _, rfl, rfl, _, rfl, a, _, rfl, hE, rfl, _, rfl, ?_⟩
    have e : V.int (Txt.count (pstr l) ("T" : Str)) = V.int ((ns.map V.int).length : Nat) := by
      rw [count_T, List.length_map]; exact congrArg V.int (by exact_mod_cast hn)
    rw [e, decide_eq_true rfl]
    exact iteF k
theorem ok_numbers_by_place (e : Env K mg) : FnOk P w K mg base CX0 1 e.a_numbers_by_place e.d_numbers_by_place ["places"] (sp_numbers_by_place K) := by
  refine e.f_numbers_by_place.ok sc_numbers_by_place (fun vs H Q E h => ?_) (fun cdv A outer s H vs Q E hr h => ?_)
  · obtain ⟨a, ns, rfl, _⟩ := h; rfl
  · obtain ⟨a, ns, rfl, hE, pl, k⟩ := h
    have hle := pl.le
    refine ⟨_, (pss_one (ps_ret (pe_dc (own := [("number", 1), ("place", 2)]) rfl sc_numbers_by_place.nd (PI.or (pi_enum (by rfl) e.n_enumerate (pa_cons (pv 0) pa_nil)) (pi_enumT (by rfl) e.n_enumerate (pa_cons (pv 0) pa_nil))) (blkOk_by (N := ["places", "number", "place"]) (sc := defScope s_numbers_by_place) (by decide +kernel)) (fun _ _ _ _ _ => (show PG _ _ (gTup K 2 _) from pg_tup (by rfl) (pgs_cons (pg_name (i := 1) sc_numbers_by_place.nd rfl (by first | exact Or.inl rfl | exact Or.inr rfl)) (pgs_cons (pg_name (i := 2) sc_numbers_by_place.nd rfl (by first | exact Or.inl rfl | exact Or.inr rfl)) pgs_nil)))) (fun _ _ _ _ _ => pts_nil) (fun _ _ _ _ _ => (pv 2)) (fun _ _ _ _ _ => (pv 1))))), ?_⟩
    refine or_enumE hE (fun Q q => ⟨_, rfl, q⟩) fun J G wk hG D hD => ?_
    refine dc_it wk (fun j H' => Same H H' ∧ H' D = some (.dK (numK (ns.take j)))) ⟨same_upd hD, upd_same⟩ (fun j H' _ h => hG _ h.1) ?_ ?_
    · rintro j x H2 H3 hj ⟨s2, hd⟩ ⟨T, x, y, rfl, hT, rfl, hx, hy⟩
      cases hx
      obtain ⟨n, hn, rfl⟩ := at_int hy
      rw [List.length_map] at hj
      have s3 := same_upd (o := HO.tup [.int (j : Nat), .int n]) hT
      refine ⟨_, _, rfl, SqT.of upd_same, rfl, _, _, rfl, _, _, rfl, rfl, rfl, _, rfl, _, rfl, numK (ns.take j), .inl n, rfl, s3 _ _ hd, ?_, ?_, ?_⟩
      · rw [numK_len, List.length_take]; exact small1000 (by omega)
      · intro b o hb
        rw [upd_ne (ne_of_none hb hD)]
        exact s3 _ _ (s2 _ _ hb)
      · have hnot : n ∉ ns.take j := fun q => by
          obtain ⟨i, hi, e⟩ := List.mem_take_iff_getElem.mp q
          obtain ⟨h1, h2⟩ := List.getElem?_eq_some_iff.mp hn
          have := (List.getElem_inj pl.nd).mp (e.trans h2.symm)
          omega
        rw [upd_same, take_snoc hn]
        have e := numK_put hnot
        rw [List.length_take, Nat.min_eq_left (by omega)] at e
        rw [e]
    · rintro H2 ⟨s2, hd⟩
      rw [List.length_map, List.take_length] at hd
      exact k _ D s2 hD hd
end
end LP

namespace LP
open PySem L2 LT LG LQ LH LC LX
section
variable {P : Program} {w : World} {K : PySem.W.Frag} {mg : Str → Option Value} {base : Heap}
theorem ok_fills_by (e : Env K mg) : FnOk P w K mg base CX0 5 e.a_fills_by e.d_fills_by ["takes", "pattern"] (sp_fills_by K) := by
  refine e.f_fills_by.ok sc_fills_by (fun vs H Q E h => ?_) (fun cdv A outer s H vs Q E hr h => ?_)
  · obtain ⟨a, ns, l, rfl, _⟩ := h; rfl
  · obtain ⟨a, ns, l, rfl, hE, pl, g, hn, k⟩ := h
    have hle := pl.le
    refine ⟨_, (pss_cons (ps_expr (pe_call ((ok_check_places e).mono (by decide)) hr rfl e.g_check_places e.f_check_places.kp e.b_check_places .nil pass0 (pa_cons (pv 0) pa_nil)))
      (pss_cons (ps_expr (pe_call ((ok_check_pattern_for e).mono (by decide)) hr rfl e.g_check_pattern_for e.f_check_pattern_for.kp e.b_check_pattern_for .nil pass0 (pa_cons (pv 0) (pa_cons (pv 1) pa_nil))))
      (pss_cons (ps_set (i := 2) sc_fills_by.nd rfl (by first | exact Or.inl rfl | exact Or.inr rfl) (pe_lst pa_nil))
      (pss_cons (ps_set (i := 3) sc_fills_by.nd rfl (by first | exact Or.inl rfl | exact Or.inr rfl) (pe_lst pa_nil))
      (pss_cons (ps_set (i := 4) sc_fills_by.nd rfl (by first | exact Or.inl rfl | exact Or.inr rfl) pe_int)
      (pss_cons (ps_for PassesOwn.never rfl (pi_str (pv 1)) (pg_name (i := 5) sc_fills_by.nd rfl (by first | exact Or.inl rfl | exact Or.inr rfl))
      (pss_one (ps_if (pt_cmpR op_eq (pv 5) pe_str (nomark _))
        (pss_cons (ps_expr (pe_callBfun LH.cr_push (by rfl) e.g_heappush (pa_cons (pv 2) (pa_cons (PE.or (pe_ix ix_list (pv 0) (pv 4) (fun _ _ => rfl)) (pe_ix ix_tup (pv 0) (pv 4) (fun _ _ => rfl))) pa_nil))))
      (pss_one (ps_aug (i := 4) sc_fills_by.nd rfl (by first | exact Or.inl rfl | exact Or.inr rfl) pe_int ip_add)))
        (pss_one (ps_expr (pe_bm PySem.F.plainAttrs_list PySem.F.slot_list_append PySem.F.type_list_append mt_append (pv 3) (pa_cons (pe_callBfun LH.cr_pop (by rfl) e.g_heappop (pa_cons (pv 2) pa_nil)) pa_nil)))))))
      (pss_one (ps_ret (pv 3))))))))), ?_⟩
    refine ⟨_, rfl, a, ns, rfl, hE, pl, fun H1 s1 => ?_⟩
    refine ⟨_, rfl, _, rfl, a, ns, l, rfl, hE.same s1, g, hn, hle, ?_⟩
    refine ⟨by decide, fun gp hg => ⟨by decide, fun fp hf => ?_⟩⟩
    have sg := same_upd (o := HO.lst []) hg
    have sf := same_upd (o := HO.lst []) hf
    have hg0 : H gp = none := s1.free hg
    have hf0 : H fp = none := s1.free (sg.free hf)
    have ngf : gp ≠ fp := ne_of_none upd_same hf
    refine ⟨_, rfl, _, rfl, for_it walk_str (fun i σ H2 => ∃ (hs : List Int) (v5 : Option V), IsH hs ∧ hs.Perm (run ns (l.take i)).gaps ∧ Same H H2 ∧ H2 gp = some (.lst (hs.map V.int)) ∧ H2 fp = some (.lst ((run ns (l.take i)).fills.map V.int)) ∧
        σ = [some (.ref a), some (.str (pstr l)), some (.ref gp), some (.ref fp), some (.int (tks (l.take i) : Nat)), v5])
      ⟨[], none, heap_nil, List.Perm.refl _, s1.trans (sg.trans sf), sf _ _ upd_same, upd_same, rfl⟩ (fun _ _ _ _ _ => trivial) ?_ ?_⟩
    · rintro i x σ H2 H3 hi ⟨hs, v5, ih, pm, s2, h2, f2, rfl⟩ ⟨rfl, c, hc, rfl⟩
      obtain ⟨bb, hb, rfl⟩ := pstr_at hc
      have hil : i < l.length := (List.getElem?_eq_some_iff.mp hb).1
      obtain ⟨r1, r2, r3⟩ := run_ok g.1 (Nat.le_of_eq hn) i (by omega)
      have htk := tks_take l (i + 1)
      have hfk := fls_take l (i + 1)
      have hgl := g.2
      have hpl := r3.length_eq
      rw [List.length_append, List.length_take, r2] at hpl
      have hsl := pm.length_eq
      have kg : ∀ {H4 : Hp} {o : HO}, Same H H4 → Same H (upd H4 gp o) := fun s b u hb => by rw [upd_ne (ne_of_none hb hg0)]; exact s b u hb
      have kf : ∀ {H4 : Hp} {o : HO}, Same H H4 → Same H (upd H4 fp o) := fun s b u hb => by rw [upd_ne (ne_of_none hb hf0)]; exact s b u hb
      cases bb with
      | true =>
        rw [take_snoc hb, tks_t] at htk
        have hx := List.getElem?_eq_getElem (l := ns) (i := tks (l.take i)) (by omega)
        generalize ns[tks (l.take i)]'(by omega) = y at hx
        have e1 : run ns (l.take (i + 1)) = ⟨(run ns (l.take i)).at_ + 1, (run ns (l.take i)).gaps ++ [y], (run ns (l.take i)).fills⟩ := by
          rw [take_snoc hb, run_snoc]
          show (⟨_, _ ++ (ns[(run ns (l.take i)).at_]?).toList, _⟩ : Sh) = _
          rw [r1, hx]; rfl
        refine ⟨_, rfl, rfl, _, rfl, iteD vsT ?_⟩
        have fin : ∀ H4 : Hp, H4 = H3 → rPush [.ref gp, .int y] H4 (fun _ H5 => ∃ x : V, [some (V.ref a), some (.str (pstr l)), some (.ref gp), some (.ref fp), some (.int (tks (l.take i) : Nat)), some (.str ⟨#[sgn true]⟩)][4]? = some (some x) ∧ ∃ i' j', x = .int i' ∧ V.int 1 = .int j' ∧
            ∃ (hs : List Int) (v5 : Option V), IsH hs ∧ hs.Perm (run ns (l.take (i + 1))).gaps ∧ Same H H5 ∧ H5 gp = some (.lst (hs.map V.int)) ∧ H5 fp = some (.lst ((run ns (l.take (i + 1))).fills.map V.int)) ∧ [some (V.ref a), some (.str (pstr l)), some (.ref gp), some (.ref fp), some (.int (tks (l.take i) : Nat)), some (.str ⟨#[sgn true]⟩)].set 4 (some (.int (i' + j'))) = [some (.ref a), some (.str (pstr l)), some (.ref gp), some (.ref fp), some (.int (tks (l.take (i + 1)) : Nat)), v5]) := by
          rintro H4 rfl
          refine ⟨gp, hs, y, rfl, h2, ih, by omega, fun ms q1 q2 => ?_⟩
          refine ⟨_, rfl, _, _, rfl, rfl, ms, some (.str ⟨#[sgn true]⟩), q2, ?_, kg s2, upd_same, ?_, ?_⟩
          · rw [e1]; exact q1.trans (pm.append_right _)
          · rw [upd_ne ngf.symm, e1]; exact f2
          · rw [take_snoc hb, tks_t]; rfl
        rcases hE.same s2 with hS | hS
        · exact ⟨_, rfl, .inl ⟨_, rfl, _, rfl, a, _, _, _, rfl, rfl, hS, at_of rfl (int_at hx), fin _ rfl⟩⟩
        · exact ⟨_, rfl, .inr ⟨_, rfl, _, rfl, a, _, _, _, rfl, rfl, hS, at_of rfl (int_at hx), fin _ rfl⟩⟩
      | false =>
        have hpr := g.1 (i + 1)
        rw [take_snoc hb, fls_f] at hfk
        rw [take_snoc hb, fls_f, tks_f] at hpr
        have htk2 := tks_take l i
        have e1 : run ns (l.take (i + 1)) = ⟨(run ns (l.take i)).at_, (run ns (l.take i)).gaps.erase (mn (run ns (l.take i)).gaps), (run ns (l.take i)).fills ++ [mn (run ns (l.take i)).gaps]⟩ := by
          rw [take_snoc hb, run_snoc]; rfl
        have hne : hs ≠ [] := fun e => by rw [e] at hsl; simp at hsl; omega
        refine ⟨_, rfl, rfl, _, rfl, iteX vsR ?_⟩
        refine ⟨_, rfl, .inl ⟨rfl, _, SqL.of f2⟩, _, rfl, gp, hs, rfl, h2, ih, hne, by omega, fun m ms q1 q2 q3 => ?_⟩
        have em : m = mn (run ns (l.take i)).gaps := mn_eq (pm.subset (q1.subset List.mem_cons_self)) fun x hx => q2 x (pm.symm.subset hx)
        refine ⟨fp, _, _, rfl, rfl, (by rw [upd_ne ngf.symm]; exact f2), by rw [List.length_map, r2]; exact small1000 (by omega), ms, some (.str ⟨#[sgn false]⟩), q3, ?_, kf (kg s2), ?_, ?_, ?_⟩
        · rw [e1, ← em]
          have h1 := q1.trans pm
          have h3 := h1.trans (List.perm_cons_erase (a := m) (by rw [em]; exact (mn_ok (fun e => by rw [e] at hsl; exact hne (List.length_eq_zero_iff.mp hsl))).1))
          exact h3.cons_inv
        · rw [upd_ne ngf, upd_same]
        · rw [upd_same, e1, em, List.map_append]; rfl
        · rw [take_snoc hb, tks_f]; rfl
    · rintro σ H2 ⟨hs, v5, ih, pm, s2, h2, f2, rfl⟩
      rw [pstr_size, List.take_length] at f2
      exact ⟨_, rfl, k H2 fp s2 hf0 f2⟩
end
end LP

namespace LP
open PySem L2 LT LG LQ LH LC LX
section
variable {P : Program} {w : World} {K : PySem.W.Frag} {mg : Str → Option Value} {base : Heap}
theorem stir_total {t c : Int} (h : 0 ≤ t) (h2 : t < M61) : 0 ≤ (t * 1000003 + c % M61 + 1) % M61 ∧ (t * 1000003 + c % M61 + 1) % M61 < M61 := ⟨Int.emod_nonneg _ (by decide), Int.emod_lt_of_pos _ (by decide)⟩
theorem ok__law_bag (e : Env K mg) : FnOk P w K mg base CX0 1 e.a__law_bag e.d__law_bag ["script"] (sp__law_bag K) := by
  refine e.f__law_bag.ok sc__law_bag (fun vs H Q E h => ?_) (fun cdv A outer s H vs Q E hr h => ?_)
  · obtain ⟨a, ns, rfl, _⟩ := h; rfl
  · obtain ⟨a, ns, rfl, hS, hl, k⟩ := h
    refine ⟨_, (pss_cons (ps_set (i := 1) sc__law_bag.nd rfl (by first | exact Or.inl rfl | exact Or.inr rfl) pe_int)
      (pss_cons (ps_for PassesOwn.never rfl (pi_list (pv 0)) (pg_name (i := 2) sc__law_bag.nd rfl (by first | exact Or.inl rfl | exact Or.inr rfl))
      (pss_one (ps_set (i := 1) sc__law_bag.nd rfl (by first | exact Or.inl rfl | exact Or.inr rfl) (pe_op op_mod (pe_op op_add (pe_op op_add (pe_op op_mul (pv 1) pe_int) (pe_op op_mod (pv 2) pe_int)) pe_int) pe_int))))
      (pss_one (ps_ret (pe_lst (pa_cons (pe_callTy call_list_of (by rfl) e.n_list (by decide +kernel) (pa_cons (pv 0) pa_nil)) (pa_cons pe_int (pa_cons pe_int (pa_cons pe_int (pa_cons (pv 1) pa_nil)))))))))), ?_⟩
    refine ⟨_, rfl, a, rfl, ⟨_, hS⟩, for_it walk_list (fun i σ H1 => ∃ (t : Int) (v : Option V), 0 ≤ t ∧ t < M61 ∧ H1 = H ∧ σ = [some (.ref a), some (.int t), v])
      ⟨1, none, by decide, by decide, rfl, rfl⟩ (fun i σ H1 _ ⟨_, _, _, _, e1, _⟩ => by rw [e1]; exact hS) ?_ ?_⟩
    · rintro i x σ H1 H2 hi ⟨t, v, h0, h1, rfl, rfl⟩ ⟨rfl, hx⟩
      rw [List.getElem?_map] at hx
      cases q : ns[i]? with
      | none => rw [q] at hx; cases hx
      | some c =>
        rw [q] at hx; cases hx
        refine ⟨_, rfl, _, _, rfl, rfl, .inr ⟨by decide, by decide⟩, ?_⟩
        refine ⟨_, rfl, _, _, rfl, rfl, (by show (0 : Int) < M61; decide), _, _, rfl, rfl, _, _, rfl, rfl, _, _, rfl, rfl, (by show (0 : Int) < M61; decide), ?_⟩
        have z := stir_total (c := c) h0 h1
        exact ⟨_, _, z.1, z.2, rfl, rfl⟩
    · rintro σ H1 ⟨t, v, h0, h1, rfl, rfl⟩
      refine ⟨_, rfl, a, _, rfl, .inl hS, fun l hl' => ?_⟩
      refine ⟨_, rfl, (by show 5 ≤ sizeLine; decide), fun b hb => ?_⟩
      have hb0 := (same_upd hl').free hb
      have n1 : l ≠ b := ne_of_none upd_same hb
      refine k _ b l ((same_upd hl').trans (same_upd hb)) hb0 hl' ⟨⟨0, 0, 0, t, upd_same, by decide, by omega, by decide, by decide, h0, h1⟩, ?_, n1⟩
      rw [upd_ne n1, upd_same]
theorem ok__law_stir (e : Env K mg) : FnOk P w K mg base CX0 1 e.a__law_stir e.d__law_stir ["number", "place"] (sp__law_stir) := by
  refine e.f__law_stir.ok sc__law_stir (fun vs H Q E h => ?_) (fun cdv A outer s H vs Q E hr h => ?_)
  · obtain ⟨x, y, rfl, _⟩ := h; rfl
  · obtain ⟨x, y, rfl, h1, h2, h3, h4, k⟩ := h
    refine ⟨_, (pss_cons (ps_set (i := 2) sc__law_stir.nd rfl (by first | exact Or.inl rfl | exact Or.inr rfl) (pe_op op_mod (pe_op op_add (pe_op op_add (pe_op op_mul (pv 0) pe_int) (pe_op op_mul (pv 1) pe_int)) pe_int) pe_int))
      (pss_cons (ps_set (i := 3) sc__law_stir.nd rfl (by first | exact Or.inl rfl | exact Or.inr rfl) (pe_op op_mod (pe_op op_mul (pv 2) (pv 2)) pe_int))
      (pss_one (ps_ret (pe_op op_fdivW (pe_op op_mod (pe_op op_add (pe_op op_add (pe_op op_mul (pv 3) pe_int) (pe_op op_mul (pe_op op_mul (pv 1) (pv 1)) pe_int)) (pe_op op_fdivW (pv 2) pe_int)) pe_int) pe_int))))), ?_⟩
    refine ⟨_, rfl, _, _, rfl, rfl, .inr ⟨by decide, by decide⟩, _, rfl, _, _, rfl, rfl, .inr ⟨by decide, by decide⟩, _, _, rfl, rfl, _, _, rfl, rfl, _, _, rfl, rfl, (by show (0 : Int) < M61; decide), ?_⟩
    have o1 : 0 ≤ (x * 998244353 + y * 1000000007 + 5) % M61 := Int.emod_nonneg _ (by decide)
    have o2 : (x * 998244353 + y * 1000000007 + 5) % M61 < M61 := Int.emod_lt_of_pos _ (by decide)
    have m64 : M61 < 2 ^ 64 := by decide
    have m0 : -(2 ^ 64) < (0 : Int) := by decide
    refine ⟨_, rfl, _, rfl, _, _, rfl, rfl, .inl ⟨Int.lt_of_lt_of_le m0 o1, Int.lt_trans o2 m64⟩, _, _, rfl, rfl, (by show (0 : Int) < M61; decide), ?_⟩
    have y1 : -(2 ^ 64) < y := by omega
    have y2 : y < 2 ^ 64 := by omega
    refine ⟨_, rfl, _, _, rfl, rfl, .inr ⟨by decide, by decide⟩, _, rfl, _, rfl, _, _, rfl, rfl, .inl ⟨y1, y2⟩, _, _, rfl, rfl, .inr ⟨by decide, by decide⟩, _, _, rfl, rfl, _, rfl, _, _, rfl, rfl, ⟨by decide, by decide⟩, _, _, rfl, rfl, _, _, rfl, rfl, (by show (0 : Int) < 2305843009213693921; decide), _, _, rfl, rfl, ⟨by decide, by decide⟩, ?_⟩
    exact k _
theorem bag_get {K : PySem.W.Frag} {H : Hp} {b : Addr} {vs : List V} {j : Nat} {v : V} (h : H b = some (.lst vs)) (e : vs[j]? = some v) : ∃ (p : Addr) (xs : List V) (i : Int) (w : V), V.ref b = .ref p ∧ V.int j = .int i ∧ SqL K H p xs ∧ atI xs i = some w ∧ w = v := ⟨b, vs, j, v, rfl, rfl, SqL.of h, atI_nat e, rfl⟩
theorem ok__law_draw (e : Env K mg) : FnOk P w K mg base CX0 2 e.a__law_draw e.d__law_draw ["bag", "bound"] (sp__law_draw) := by
  refine e.f__law_draw.ok sc__law_draw (fun vs H Q E h => ?_) (fun cdv A outer s H vs Q E hr h => ?_)
  · obtain ⟨b, l, ns, d, n, rfl, _⟩ := h; rfl
  · obtain ⟨b, l, ns, d, n, rfl, G, hn, hn2, hd, hl, k⟩ := h
    refine ⟨_, (pss_cons (ps_if (pt_cmpR op_eq (pv 1) pe_int (nomark _))
        (pss_one (ps_ret pe_int))
        pss_nil)
      (pss_cons (ps_asg (pe_op op_add (pe_ix ix_list (pv 0) pe_int (fun _ _ => rfl)) pe_int) (pg_sub (pv 0) pe_int set_list))
      (pss_cons (ps_if (PW.pt (pw_and (pt_cmpR op_lt (pe_ix ix_list (pv 0) pe_int (fun _ _ => rfl)) pe_int (nomark _)) (pw_and1 (pt_cmpR op_eq (pe_ix ix_list (pv 0) pe_int (fun _ _ => rfl)) (pe_callB call_len_seq (by rfl) e.n_len PySem.boot_len (pa_cons (pe_ix ix_list (pv 0) pe_int (fun _ _ => rfl)) pa_nil)) (nomark _)))))
        (pss_one (ps_ret (pe_op op_mod (pe_call ((ok__law_stir e).mono (by decide)) hr rfl e.g__law_stir e.f__law_stir.kp e.b__law_stir .nil pass0 (pa_cons (pe_ix ix_list (pv 0) pe_int (fun _ _ => rfl)) (pa_cons (pe_ix ix_list (pv 0) pe_int (fun _ _ => rfl)) pa_nil))) (pv 1))))
        pss_nil)
      (pss_cons (ps_if (pt_cmpR op_lt (pe_ix ix_list (pv 0) pe_int (fun _ _ => rfl)) pe_int (nomark _))
        (pss_cons (ps_set (i := 2) sc__law_draw.nd rfl (by first | exact Or.inl rfl | exact Or.inr rfl) (pe_ix ix_list (pe_ix ix_list (pv 0) pe_int (fun _ _ => rfl)) (pe_ix ix_list (pv 0) pe_int (fun _ _ => rfl)) (fun _ _ => rfl)))
      (pss_cons (ps_asg (pe_op op_add (pe_ix ix_list (pv 0) pe_int (fun _ _ => rfl)) pe_int) (pg_sub (pv 0) pe_int set_list))
      (pss_cons (ps_if (pt_cmpR op_lt (pv 2) (pe_op op_pow pe_int pe_int) (nomark _))
        (pss_one (ps_ret (pe_op op_mod (pe_call ((ok__law_stir e).mono (by decide)) hr rfl e.g__law_stir e.f__law_stir.kp e.b__law_stir .nil pass0 (pa_cons (pe_op op_mod (pv 2) pe_int) (pa_cons (pe_ix ix_list (pv 0) pe_int (fun _ _ => rfl)) pa_nil))) (pv 1))))
        pss_nil)
      (pss_one (ps_asg (pe_op op_sub (pv 2) (pe_op op_pow pe_int pe_int)) (pg_sub (pv 0) pe_int set_list))))))
        pss_nil)
      (pss_cons (ps_set (i := 3) sc__law_draw.nd rfl (by first | exact Or.inl rfl | exact Or.inr rfl) (pe_op op_mod (pe_ix ix_list (pv 0) pe_int (fun _ _ => rfl)) (pv 1)))
      (pss_cons (ps_asg (pe_op op_fdivW (pe_ix ix_list (pv 0) pe_int (fun _ _ => rfl)) (pv 1)) (pg_sub (pv 0) pe_int set_list))
      (pss_one (ps_ret (pv 3))))))))), ?_⟩
    refine ⟨_, rfl, rfl, _, rfl, ite2d (fun h1 => ?_) fun h1 => ?_⟩
    · have e1 : n = 1 := V.int.inj h1
      exact k _ 0 (by decide) (by omega) (G.mono (by omega)) (Fr.refl _ _)
    · obtain ⟨⟨i, c, kk, t, hb, hi0, hi1, hk0, hk1, ht0, ht1⟩, hls, hne⟩ := id G
      refine ⟨_, rfl, b, _, _, _, rfl, rfl, SqL.of hb, rfl, _, _, rfl, rfl, _, rfl, b, _, _, 3, rfl, rfl, hb, rfl, ?_⟩
      have F : ∀ o, Fr H (upd H b o) b := fun o a x hx ha => by rw [upd_ne ha]; exact hx
      have hbb : ∀ o, upd H b o b = some o := fun o => upd_same
      have hll : ∀ o, upd H b o l = some (.lst (ns.map V.int)) := fun o => by rw [upd_ne hne]; exact hls
      have cl : ∀ c' : Int, Bag (upd H b (.lst [.ref l, .int i, .int c', .int (kk + 1), .int t])) b l ns (d + 1) := fun c' => ⟨⟨i, c', kk + 1, t, upd_same, hi0, hi1, by omega, by omega, ht0, ht1⟩, hll _, hne⟩
      have cl2 : ∀ (j c' : Int), 0 ≤ j → j ≤ ns.length → Bag (upd H b (.lst [.ref l, .int j, .int c', .int (kk + 1), .int t])) b l ns (d + 1) := fun j c' h0 h1 => ⟨⟨j, c', kk + 1, t, upd_same, h0, h1, by omega, by omega, ht0, ht1⟩, hll _, hne⟩
      have r0 : ∀ r : Int, 0 ≤ r % n := fun r => Int.emod_nonneg _ (by omega)
      have r1 : ∀ r : Int, r % n < n := fun r => Int.emod_lt_of_pos _ hn
      refine ⟨_, rfl, b, _, _, _, rfl, rfl, SqL.of upd_same, rfl, _, _, rfl, rfl, _, rfl, ite2d (fun hc => ?_) fun hc => ?_⟩
      · refine ⟨_, rfl, b, _, _, _, rfl, rfl, SqL.of upd_same, rfl, _, rfl, b, _, _, _, rfl, rfl, SqL.of upd_same, rfl, l, _, rfl, .inl (SqL.of (hll _)), rfl, _, rfl, ite2d (fun hi => ?_) fun hi => ?_⟩
        · refine ⟨_, rfl, b, _, _, _, rfl, rfl, SqL.of upd_same, rfl, _, rfl, b, _, _, _, rfl, rfl, SqL.of upd_same, rfl, t, kk + 1, rfl, ht0, ht1, by omega, by omega, fun r => ⟨_, rfl, _, _, rfl, rfl, hn, ?_⟩⟩
          exact k _ (r % n) (r0 r) (r1 r) (cl c) (F _)
        · refine ⟨_, rfl, b, _, _, _, rfl, rfl, SqL.of upd_same, rfl, _, _, rfl, rfl, _, rfl, iteD hc ?_⟩
          have hi2 : i ≠ ns.length := fun q => hi (by rw [q, List.length_map])
          have hi3 : i.toNat < ns.length := by omega
          refine ⟨_, rfl, b, _, _, _, rfl, rfl, SqL.of upd_same, rfl, _, rfl, b, _, _, _, rfl, rfl, SqL.of upd_same, rfl, _, _, _, _, rfl, rfl, SqL.of (hll _), at_of (j := i.toNat) (v := V.int ns[i.toNat]) (by omega) (by rw [List.getElem?_map, List.getElem?_eq_getElem hi3]; rfl), ?_⟩
          refine ⟨_, rfl, b, _, _, _, rfl, rfl, SqL.of upd_same, rfl, _, _, rfl, rfl, _, rfl, b, _, _, 1, rfl, rfl, upd_same, rfl, ?_⟩
          rw [upd_upd]
          generalize ns[i.toNat] = cell
          refine ⟨_, rfl, _, _, rfl, rfl, ⟨by decide, by decide, by decide⟩, _, _, rfl, rfl, _, rfl, ite2d (fun hq => ?_) fun hq => ?_⟩
          · refine ⟨_, rfl, _, _, rfl, rfl, (by show (0 : Int) < M61; decide), _, rfl, b, _, _, _, rfl, rfl, SqL.of upd_same, rfl, cell % M61, kk + 1, rfl, Int.emod_nonneg _ (by decide), Int.emod_lt_of_pos _ (by decide), by omega, by omega, fun r => ⟨_, rfl, _, _, rfl, rfl, hn, ?_⟩⟩
            exact k _ (r % n) (r0 r) (r1 r) (cl2 (i + 1) c (by omega) (by omega)) (F _)
          · refine ⟨_, rfl, _, _, rfl, rfl, ⟨by decide, by decide, by decide⟩, _, _, rfl, rfl, _, rfl, b, _, _, 2, rfl, rfl, upd_same, rfl, ?_⟩
            rw [upd_upd]
            refine ⟨_, rfl, b, _, _, _, rfl, rfl, SqL.of upd_same, rfl, _, rfl, _, _, rfl, rfl, hn, _, rfl, b, _, _, _, rfl, rfl, SqL.of upd_same, rfl, _, rfl, _, _, rfl, rfl, ⟨hn, hn2⟩, _, rfl, b, _, _, 2, rfl, rfl, upd_same, rfl, ?_⟩
            rw [upd_upd]
            exact ⟨_, rfl, k _ _ (r0 _) (r1 _) (cl2 (i + 1) _ (by omega) (by omega)) (F _)⟩
      · refine iteF ?_
        refine ⟨_, rfl, b, _, _, _, rfl, rfl, SqL.of upd_same, rfl, _, _, rfl, rfl, _, rfl, iteX hc ?_⟩
        refine ⟨_, rfl, b, _, _, _, rfl, rfl, SqL.of upd_same, rfl, _, rfl, _, _, rfl, rfl, hn, _, rfl, b, _, _, _, rfl, rfl, SqL.of upd_same, rfl, _, rfl, _, _, rfl, rfl, ⟨hn, hn2⟩, _, rfl, b, _, _, 2, rfl, rfl, upd_same, rfl, ?_⟩
        rw [upd_upd]
        exact ⟨_, rfl, k _ _ (r0 _) (r1 _) (cl _) (F _)⟩
end
end LP

namespace LP
open PySem L2 LT LG LQ LH LC LX
section
variable {P : Program} {w : World} {K : PySem.W.Frag} {mg : Str → Option Value} {base : Heap}
theorem get_erase {α : Type} : ∀ {l : List α} {i : Nat} {x : α}, l[i]? = some x → (x :: l.eraseIdx i).Perm l
  | [], i, x, h => by simp at h
  | a :: r, 0, x, h => by
    have e : a = x := Option.some.inj h
    subst e; exact List.Perm.refl _
  | a :: r, i + 1, x, h => by
    have ih := get_erase (l := r) (i := i) (x := x) h
    exact (List.Perm.swap a x (r.eraseIdx i)).trans (ih.cons a)
theorem pop_perm {lf dn xs : List Int} {i : Nat} {x : Int} (h : (lf ++ dn).Perm xs) (hx : lf[i]? = some x) : (lf.eraseIdx i ++ (dn ++ [x])).Perm xs := by
  refine List.Perm.trans ?_ h
  have p : (x :: lf.eraseIdx i).Perm lf := get_erase hx
  have q : (lf.eraseIdx i ++ (dn ++ [x])).Perm (x :: (lf.eraseIdx i ++ dn)) := by
    rw [← List.append_assoc]
    exact List.perm_append_singleton _ _
  exact q.trans ((List.perm_append_right_iff dn).mpr p)
theorem ok__law_shuffled (e : Env K mg) : FnOk P w K mg base CX0 3 e.a__law_shuffled e.d__law_shuffled ["bag", "items"] (sp__law_shuffled K) := by
  refine e.f__law_shuffled.ok sc__law_shuffled (fun vs H Q E h => ?_) (fun cdv A outer s H vs Q E hr h => ?_)
  · obtain ⟨b, l, ns, d, p, xs, rfl, _⟩ := h; rfl
  · obtain ⟨b, l, ns, d, p, xs, rfl, G, hd, hl, hS, hx, hpb, k⟩ := h
    refine ⟨_, (pss_cons (ps_set (i := 2) sc__law_shuffled.nd rfl (by first | exact Or.inl rfl | exact Or.inr rfl) (pe_callTy call_list_of (by rfl) e.n_list (by decide +kernel) (pa_cons (pv 1) pa_nil)))
      (pss_one (ps_ret (pe_lc (own := [("step", 3)]) rfl sc__law_shuffled.nd (pi_range1 (by rfl) e.n_range (pa_cons (pe_callB call_len_seq (by rfl) e.n_len PySem.boot_len (pa_cons (pv 1) pa_nil)) pa_nil)) (blkOk_by (N := ["bag", "items", "left", "step"]) (sc := defScope s__law_shuffled) (by decide +kernel)) (fun _ _ _ _ _ => (pg_name (i := 3) sc__law_shuffled.nd rfl (by first | exact Or.inl rfl | exact Or.inr rfl))) (fun _ _ _ _ _ => pts_nil) (fun _ _ _ _ _ => (show PE _ _ (tBM K "list" _ _ _) from pe_bm PySem.F.plainAttrs_list PySem.F.slot_list_pop PySem.F.type_list_pop mt_popAt (pv 2) (pa_cons (pe_call ((ok__law_draw e).mono (by decide)) hr rfl e.g__law_draw e.f__law_draw.kp e.b__law_draw .nil pass0 (pa_cons (pv 0) (pa_cons (pe_callB (show CallR _ _ (rLenS K) from call_len_seq) (by rfl) e.n_len PySem.boot_len (pa_cons (pv 2) pa_nil)) pa_nil))) pa_nil))))))), ?_⟩
    refine ⟨_, rfl, p, _, rfl, .inl hS, fun L hL => ?_⟩
    have sL := same_upd (o := HO.lst (xs.map V.int)) hL
    have nLb : L ≠ b := G.ne_new hL
    refine ⟨_, rfl, p, _, rfl, .inl (sL.seq hS), _, rfl, by rw [List.length_map]; omega, by rw [List.length_map]; omega, fun D hD => ?_⟩
    have sD := same_upd (o := HO.lst []) hD
    have nDb : D ≠ b := (G.same sL).ne_new hD
    have nLD : L ≠ D := ne_of_none upd_same hD
    refine lc_it walk_range (fun j H' => ∃ lf dn : List Int, (lf ++ dn).Perm xs ∧ dn.length = j ∧ Bag H' b l ns (d + j) ∧ Fr H H' b ∧ H' L = some (.lst (lf.map V.int)) ∧ H' D = some (.lst (dn.map V.int)))
      ⟨xs, [], by rw [List.append_nil], rfl, (G.same sL).same sD, Fr.of (sL.trans sD), sD _ _ upd_same, upd_same⟩ (fun _ _ _ _ => trivial) ?_ ?_
    · rintro j x H2 H3 hj ⟨lf, dn, pm, dl, G2, F2, hL2, hD2⟩ ⟨rfl, rfl⟩
      replace hj : j < (xs.map V.int).length := hj
      rw [List.length_map] at hj
      have hlen := pm.length_eq
      rw [List.length_append] at hlen
      refine ⟨rfl, _, rfl, .inl ⟨rfl, _, SqL.of hL2⟩, _, rfl, _, rfl, L, _, rfl, .inl (SqL.of hL2), b, l, ns, _, _, rfl, G2, by rw [List.length_map]; omega, by rw [List.length_map]; exact log_small (by omega), by omega, hl, fun H4 r r0 r1 G4 F4 => ?_⟩
      rw [List.length_map] at r1
      have hr : r.toNat < lf.length := by omega
      have hg := List.getElem?_eq_getElem hr
      have hL4 := F4 _ _ hL2 nLb
      have hD4 := F4 _ _ hD2 nDb
      refine ⟨L, _, r, r.toNat, .int lf[r.toNat], rfl, rfl, hL4, by omega, by omega, by rw [List.length_map]; exact seq_int r0 hr, int_at hg, _, (by rw [upd_ne nLD.symm]; exact hD4), by rw [List.length_map]; exact small1000 (by omega), ?_⟩
      have hLn : ∀ o, Fr H4 (upd H4 L o) L := fun o a x ha hne => by rw [upd_ne hne]; exact ha
      refine ⟨lf.eraseIdx r.toNat, dn ++ [lf[r.toNat]], pop_perm pm hg, by rw [List.length_append, dl]; rfl, ?_, ?_, ?_, ?_⟩
      · obtain ⟨⟨i, c, k, t, h1, h2⟩, ls, ne⟩ := G4
        have e1 : l ≠ L := fun q => by
          have := sL.free (show upd H L (.lst (xs.map V.int)) D = none from hD)
          rw [q] at ls
          have z := G.ls
          rw [q, hL] at z; cases z
        have e2 : l ≠ D := fun q => by
          have z := (G.same sL).ls
          rw [q, hD] at z; cases z
        exact ⟨⟨i, c, k, t, by rw [upd_ne nDb.symm, upd_ne nLb.symm]; exact h1, h2.1, h2.2.1, h2.2.2.1, by have := h2.2.2.2.1; omega, h2.2.2.2.2⟩, by rw [upd_ne e2, upd_ne e1]; exact ls, ne⟩
      · intro a o ha hne
        rw [upd_ne (ne_of_none (sL _ _ ha) hD), upd_ne (ne_of_none ha hL)]
        exact F4 _ _ (F2 _ _ ha hne) hne
      · rw [upd_ne nLD, upd_same, erase_map]
      · rw [upd_same, List.map_append]; rfl
    · rintro H2 ⟨lf, dn, pm, dl, G2, F2, hL2, hD2⟩
      replace dl : dn.length = (xs.map V.int).length := dl
      rw [List.length_map] at dl
      have hlen := pm.length_eq
      rw [List.length_append] at hlen
      have e : lf = [] := List.length_eq_zero_iff.mp (by omega)
      subst e
      exact k H2 D dn (by rw [← dl]; exact (by have z := G2; rw [show ((xs.map V.int).length : Int).toNat = dn.length by rw [List.length_map]; omega] at z; exact z)) F2 (sL.free hD) pm hD2
end
end LP

namespace LP
open PySem L2 LT LG LQ LH LC LX
section
variable {P : Program} {w : World} {K : PySem.W.Frag} {mg : Str → Option Value} {base : Heap}
theorem ok__law_either (e : Env K mg) : FnOk P w K mg base CX0 3 e.a__law_either e.d__law_either ["bag", "items"] (sp__law_either) := by
  refine e.f__law_either.ok sc__law_either (fun vs H Q E h => ?_) (fun cdv A outer s H vs Q E hr h => ?_)
  · obtain ⟨b, l, ns, d, p, xs, rfl, _⟩ := h; rfl
  · obtain ⟨b, l, ns, d, p, xs, rfl, G, hd, hl, hS, hpb, k⟩ := h
    refine ⟨_, (pss_one (ps_ret (pe_ix ix_list (pe_lst (pa_cons (pe_callTy call_list_of (by rfl) e.n_list (by decide +kernel) (pa_cons (pv 1) pa_nil)) (pa_cons (pe_tupleOf (by rfl) e.n_tuple (pv 1)) pa_nil))) (pe_call ((ok__law_draw e).mono (by decide)) hr rfl e.g__law_draw e.f__law_draw.kp e.b__law_draw .nil pass0 (pa_cons (pv 0) (pa_cons pe_int pa_nil))) (fun _ _ => rfl)))), ?_⟩
    refine ⟨_, rfl, p, _, rfl, .inl (SqL.of hS), fun L hL => ?_⟩
    have sL := same_upd (o := HO.lst (xs.map V.int)) hL
    refine ⟨_, rfl, .inl ⟨p, _, rfl, SqL.of (sL _ _ hS), fun q hq => ?_⟩⟩
    have sq := same_upd (o := HO.tup (xs.map V.int)) hq
    refine ⟨(by show 2 ≤ sizeLine; decide), fun m hm => ?_⟩
    have sm := same_upd (o := HO.lst [.ref L, .ref q]) hm
    have G1 := ((G.same sL).same sq).same sm
    refine ⟨_, rfl, b, l, ns, d, 2, rfl, G1, by decide, by decide +kernel, by omega, hl, fun H4 r r0 r1 G4 F4 => ?_⟩
    have F : Fr H H4 b := (Fr.of ((sL.trans sq).trans sm)).trans F4
    have hm4 : H4 m = some (.lst [.ref L, .ref q]) := F4 _ _ upd_same (((G.same sL).same sq).ne_new hm)
    have hL4 := F4 _ _ (sm _ _ (sq _ _ upd_same)) (G.ne_new hL)
    have hq4 := F4 _ _ (sm _ _ upd_same) ((G.same sL).ne_new hq)
    obtain rfl | rfl : r = 0 ∨ r = 1 := by omega
    · exact rd_ix (j := 0) (SqL.of hm4) rfl rfl (k H4 L G4 F hL (.inl hL4))
    · exact rd_ix (j := 1) (SqL.of hm4) rfl rfl (k H4 q G4 F (sL.free hq) (.inr hq4))
theorem ok__law_pattern (e : Env K mg) : FnOk P w K mg base CX0 3 e.a__law_pattern e.d__law_pattern ["bag", "count"] (sp__law_pattern) := by
  refine e.f__law_pattern.ok sc__law_pattern (fun vs H Q E h => ?_) (fun cdv A outer s H vs Q E hr h => ?_)
  · obtain ⟨b, l, ns, d, n, rfl, _⟩ := h; rfl
  · obtain ⟨b, l, ns, d, n, rfl, G, hd, hl, hn, k⟩ := h
    refine ⟨_, (pss_cons (ps_asg (pe_tup (pa_cons pe_str (pa_cons (pv 1) (pa_cons pe_int (pa_cons (pe_op op_add pe_int (pe_call ((ok__law_draw e).mono (by decide)) hr rfl e.g__law_draw e.f__law_draw.kp e.b__law_draw .nil pass0 (pa_cons (pv 0) (pa_cons pe_int pa_nil)))) pa_nil))))) (pg_tup (by rfl) (pgs_cons (pg_name (i := 2) sc__law_pattern.nd rfl (by first | exact Or.inl rfl | exact Or.inr rfl)) (pgs_cons (pg_name (i := 3) sc__law_pattern.nd rfl (by first | exact Or.inl rfl | exact Or.inr rfl)) (pgs_cons (pg_name (i := 4) sc__law_pattern.nd rfl (by first | exact Or.inl rfl | exact Or.inr rfl)) (pgs_cons (pg_name (i := 5) sc__law_pattern.nd rfl (by first | exact Or.inl rfl | exact Or.inr rfl)) pgs_nil))))))
      (pss_cons (ps_for PassesOwn.never rfl (pi_range1 (by rfl) e.n_range (pa_cons (pe_op op_mul pe_int (pv 1)) pa_nil)) (pg_name (i := 6) sc__law_pattern.nd rfl (by first | exact Or.inl rfl | exact Or.inr rfl))
      (pss_one (ps_if (PW.pt (pw_and (pt_cmpR op_gt (pv 3) pe_int (nomark _)) (pw_and1 (PW.pt (pw_or (pt_cmpR op_eq (pv 4) pe_int (nomark _)) (pw_or1 (pt_cmpR op_lt (pe_call ((ok__law_draw e).mono (by decide)) hr rfl e.g__law_draw e.f__law_draw.kp e.b__law_draw .nil pass0 (pa_cons (pv 0) (pa_cons pe_int pa_nil))) (pv 5) (nomark _))))))))
        (pss_one (ps_par3 (i := 2) (j := 3) (l := 4) (by rfl) sc__law_pattern.nd rfl rfl rfl (by decide) (by decide) (by decide) rfl rfl rfl (pa_cons (pe_op op_add_str (pv 2) pe_str) (pa_cons (pe_op op_sub (pv 3) pe_int) (pa_cons (pe_op op_add (pv 4) pe_int) pa_nil))) (by rfl)))
        (pss_one (ps_par (i := 2) (j := 4) (by rfl) sc__law_pattern.nd rfl rfl (by decide) rfl rfl (pa_cons (pe_op op_add_str (pv 2) pe_str) (pa_cons (pe_op op_sub (pv 4) pe_int) pa_nil)) (by rfl))))))
      (pss_one (ps_ret (pv 2))))), ?_⟩
    refine ⟨_, rfl, _, rfl, b, l, ns, d, 5, rfl, G, by decide, by decide +kernel, by omega, hl, fun H1 r1 a1 b1 G1 F1 => ?_⟩
    refine ⟨_, _, rfl, rfl, (by show 4 ≤ sizeLine; decide), fun tp htp => ?_⟩
    have st := same_upd (o := HO.tup [.str "", .int n, .int 0, .int (1 + r1)]) htp
    refine ⟨_, _, rfl, SqT.of upd_same, rfl, _, _, rfl, _, _, rfl, _, _, rfl, _, _, rfl, rfl, ?_⟩
    refine ⟨_, rfl, _, _, rfl, rfl, .inl ⟨by decide, by decide⟩, _, rfl, by omega, by omega, for_it walk_range (fun i σ H2 => ∃ (t : Pat) (v6 : Option V), t.length = i ∧ Pre t ∧ tks t ≤ n ∧
        σ = [some (.ref b), some (.int n), some (.str (pstr t)), some (.int ((n : Int) - (tks t : Nat))), some (.int (((tks t : Nat) : Int) - (fls t : Nat))), some (.int (1 + r1)), v6] ∧ Bag H2 b l ns (d + 1 + i) ∧ Fr H H2 b)
      ⟨[], none, rfl, Pre.nil, Nat.zero_le _, by rw [pstr_nil]; show _ = [_, _, _, some (V.int ((n : Int) - 0)), _, _, _]; rw [Int.sub_zero]; rfl, (G1.same st).mono (by omega), F1.trans (Fr.of st)⟩ (fun _ _ _ _ _ => trivial) ?_ ?_⟩
    · rintro i x σ Hq H2 hi ⟨t, v6, tl, pt, tn, rfl, G2, F2⟩ ⟨rfl, rfl⟩
      replace hi : i < (2 * (n : Int)).toNat := hi
      have hlp := len_pat t
      have hpa := pt.all
      have sz : (pstr t).length + (1 : Nat) ≤ sizeLine := by
        show (pstr t).cps.size + 1 ≤ sizeLine
        rw [pstr_size]; exact Nat.le_of_lt (small1000 (by omega))
      have finT : ∀ H3, Bag H3 b l ns (d + 1 + (i + 1)) → Fr H H3 b → (n : Int) - (tks t : Nat) > 0 → ∃ (t2 : Pat) (v6 : Option V), t2.length = i + 1 ∧ Pre t2 ∧ tks t2 ≤ n ∧
          [some (V.ref b), some (.int n), some (.str (pstr t ++ ("T" : Str))), some (.int ((n : Int) - (tks t : Nat) - 1)), some (.int (((tks t : Nat) : Int) - (fls t : Nat) + 1)), some (.int (1 + r1)), some (.int (0 + (i : Nat)))] = [some (.ref b), some (.int n), some (.str (pstr t2)), some (.int ((n : Int) - (tks t2 : Nat))), some (.int (((tks t2 : Nat) : Int) - (fls t2 : Nat))), some (.int (1 + r1)), v6] ∧ Bag H3 b l ns (d + 1 + (i + 1)) ∧ Fr H H3 b := fun H3 G3 F3 h => by
        refine ⟨t ++ [true], some (.int (0 + (i : Nat))), by rw [List.length_append, tl]; rfl, pt.snoc (by rw [tks_t, fls_t]; omega), by rw [tks_t]; omega, ?_, G3, F3⟩
        have e1 : (n : Int) - ((tks t + 1 : Nat) : Int) = (n : Int) - (tks t : Nat) - 1 := by omega
        have e2 : ((tks t + 1 : Nat) : Int) - (fls t : Nat) = ((tks t : Nat) : Int) - (fls t : Nat) + 1 := by omega
        rw [pstr_T, tks_t, fls_t, e1, e2]
      have finR : ∀ H3, Bag H3 b l ns (d + 1 + (i + 1)) → Fr H H3 b → fls t < tks t → ∃ (t2 : Pat) (v6 : Option V), t2.length = i + 1 ∧ Pre t2 ∧ tks t2 ≤ n ∧
          [some (V.ref b), some (.int n), some (.str (pstr t ++ ("R" : Str))), some (.int ((n : Int) - (tks t : Nat))), some (.int (((tks t : Nat) : Int) - (fls t : Nat) - 1)), some (.int (1 + r1)), some (.int (0 + (i : Nat)))] = [some (.ref b), some (.int n), some (.str (pstr t2)), some (.int ((n : Int) - (tks t2 : Nat))), some (.int (((tks t2 : Nat) : Int) - (fls t2 : Nat))), some (.int (1 + r1)), v6] ∧ Bag H3 b l ns (d + 1 + (i + 1)) ∧ Fr H H3 b := fun H3 G3 F3 h => by
        refine ⟨t ++ [false], some (.int (0 + (i : Nat))), by rw [List.length_append, tl]; rfl, pt.snoc (by rw [tks_f, fls_f]; omega), by rw [tks_f]; omega, ?_, G3, F3⟩
        have e2 : ((tks t : Nat) : Int) - ((fls t + 1 : Nat) : Int) = ((tks t : Nat) : Int) - (fls t : Nat) - 1 := by omega
        rw [pstr_R, tks_f, fls_f, e2]
      refine ⟨_, rfl, _, _, rfl, rfl, _, rfl, ite2d (fun h1 => ?_) fun h1 => ?_⟩
      · refine ⟨_, rfl, rfl, _, rfl, ite2d (fun h2 => ?_) fun h2 => ?_⟩
        · refine iteT ?_
          exact ⟨_, rfl, _, _, rfl, rfl, sz, _, rfl, _, _, rfl, rfl, _, rfl, _, _, rfl, rfl, _, _, _, rfl, finT _ (G2.mono (by omega)) F2 h1⟩
        · refine ⟨_, rfl, b, l, ns, _, 6, rfl, G2, by decide, by decide +kernel, by omega, hl, fun H3 r r0 r2 G3 F3 => ?_⟩
          refine ⟨_, rfl, _, _, rfl, rfl, _, rfl, ite2d (fun h3 => ?_) fun h3 => ?_⟩
          · exact ⟨_, rfl, _, _, rfl, rfl, sz, _, rfl, _, _, rfl, rfl, _, rfl, _, _, rfl, rfl, _, _, _, rfl, finT _ G3 (F2.trans F3) h1⟩
          · have hlt : fls t < tks t := by
              rcases Nat.lt_or_ge (fls t) (tks t) with q | q
              · exact q
              · exact absurd (congrArg V.int (show ((tks t : Nat) : Int) - (fls t : Nat) = 0 by omega)) h2
            exact ⟨_, rfl, _, _, rfl, rfl, sz, _, rfl, _, _, rfl, rfl, _, _, rfl, finR _ G3 (F2.trans F3) hlt⟩
      · refine iteF ?_
        exact ⟨_, rfl, _, _, rfl, rfl, sz, _, rfl, _, _, rfl, rfl, _, _, rfl, finR _ (G2.mono (by omega)) F2 (by omega)⟩
    · rintro σ H2 ⟨t, v6, tl, pt, tn, rfl, G2, F2⟩
      have hlp := len_pat t
      have hpa := pt.all
      refine ⟨_, rfl, k H2 t (G2.mono (by omega)) F2 ⟨pt, by omega⟩ (by omega)⟩
end
end LP

namespace LP
open PySem L2 LT LG LQ LH LC LX
section
variable {P : Program} {w : World} {K : PySem.W.Frag} {mg : Str → Option Value} {base : Heap}
def pl4 (w : Int) (j : Nat) : Int := if w = 0 then 0 + (j : Nat) else if w = 1 then 7 * (0 + (j : Nat)) + 3 else if w = 2 then 10 ^ 30 - (0 + (j : Nat)) else (0 + (j : Nat)) * 10 ^ 27 + (0 + (j : Nat))
theorem pl4_pl (w : Int) {n : Nat} (hn : n ≤ 200) : Pl ((List.range n).map (pl4 w)) := by
  have g : ∀ j, j < n → 0 ≤ pl4 w j ∧ pl4 w j ≤ G30 := fun j hj => by
    unfold pl4 G30
    split
    · omega
    · split
      · omega
      · split <;> omega
  refine ⟨?_, fun x hx => ?_, by simp [hn]⟩
  · unfold List.Nodup
    rw [List.pairwise_map]
    refine List.Pairwise.imp_of_mem (R := (· < ·)) (fun {a b} ha hb hab => ?_) List.pairwise_lt_range
    unfold pl4
    split
    · omega
    · split
      · omega
      · split <;> omega
  · obtain ⟨j, hj, rfl⟩ := List.mem_map.mp hx
    exact g j (List.mem_range.mp hj)
theorem pl4_snoc (w : Int) (j : Nat) : (List.range (j + 1)).map (pl4 w) = (List.range j).map (pl4 w) ++ [pl4 w j] := by
  rw [List.range_succ, List.map_append]; rfl
theorem ok__law_places (e : Env K mg) : FnOk P w K mg base CX0 4 e.a__law_places e.d__law_places ["bag", "count"] (sp__law_places) := by
  refine e.f__law_places.ok sc__law_places (fun vs H Q E h => ?_) (fun cdv A outer s H vs Q E hr h => ?_)
  · obtain ⟨b, l, ns, d, n, rfl, _⟩ := h; rfl
  · obtain ⟨b, l, ns, d, n, rfl, G, hd, hl, hn, k⟩ := h
    refine ⟨_, (pss_cons (ps_asg (pe_tup (pa_cons (pe_call ((ok__law_draw e).mono (by decide)) hr rfl e.g__law_draw e.f__law_draw.kp e.b__law_draw .nil pass0 (pa_cons (pv 0) (pa_cons pe_int pa_nil))) (pa_cons (pe_call ((ok__law_draw e).mono (by decide)) hr rfl e.g__law_draw e.f__law_draw.kp e.b__law_draw .nil pass0 (pa_cons (pv 0) (pa_cons pe_int pa_nil))) pa_nil))) (pg_tup (by rfl) (pgs_cons (pg_name (i := 2) sc__law_places.nd rfl (by first | exact Or.inl rfl | exact Or.inr rfl)) (pgs_cons (pg_name (i := 3) sc__law_places.nd rfl (by first | exact Or.inl rfl | exact Or.inr rfl)) pgs_nil))))
      (pss_cons (ps_setLc (i := 4) (own := [("k", 5)]) rfl sc__law_places.nd rfl rfl (sw_true rfl rfl rfl (by decide +kernel)) (pi_range1 (by rfl) e.n_range (pa_cons (pv 1) pa_nil)) (blkOk_by (N := ["bag", "count", "way", "order", "found", "k"]) (sc := defScope s__law_places) (by decide +kernel)) (fun _ _ _ _ _ => (pg_name (i := 5) sc__law_places.nd rfl (by first | exact Or.inl rfl | exact Or.inr rfl))) (fun _ _ _ _ _ => pts_nil) (fun _ _ _ _ _ => (pe_ix (show IxR _ (rIxL K) from ix_list) (pe_lst (pa_cons (pv 5) (pa_cons (pe_op op_add (pe_op op_mul pe_int (pv 5)) pe_int) (pa_cons (pe_op op_sub (pe_op op_pow pe_int pe_int) (pv 5)) (pa_cons (pe_op op_add (pe_op op_mul (pv 5) (pe_op op_pow pe_int pe_int)) (pv 5)) pa_nil))))) (pv 2) (fun _ _ => rfl))))
      (pss_cons (ps_if (pt_cmpR op_eq (pv 3) pe_int (nomark _))
        (pss_one (ps_ret (pe_callB cr_sortedE (by rfl) e.n_sorted (by decide +kernel) (pa_cons (pv 4) pa_nil))))
        pss_nil)
      (pss_one (ps_ret (pe_ifExp (pt_cmpR op_eq (pv 3) pe_int (nomark _)) (pe_revL (pe_callB cr_sortedE (by rfl) e.n_sorted (by decide +kernel) (pa_cons (pv 4) pa_nil))) (pe_call ((ok__law_shuffled e).mono (by decide)) hr rfl e.g__law_shuffled e.f__law_shuffled.kp e.b__law_shuffled .nil pass0 (pa_cons (pv 0) (pa_cons (pv 4) pa_nil))))))))), ?_⟩
    refine ⟨_, rfl, b, l, ns, d, 4, rfl, G, by decide, by decide +kernel, by omega, hl, fun H1 wy w0 w1 G1 F1 => ?_⟩
    refine ⟨_, rfl, b, l, ns, _, 4, rfl, G1, by decide, by decide +kernel, by omega, hl, fun H2 od o0 o1 G2 F2 => ?_⟩
    refine ⟨(by show 2 ≤ sizeLine; decide), fun tp htp => ?_⟩
    have st := same_upd (o := HO.tup [.int wy, .int od]) htp
    refine ⟨_, _, rfl, SqT.of upd_same, rfl, _, _, rfl, _, _, rfl, rfl, ?_⟩
    have G3 := G2.same st
    have F03 : Fr H _ b := (F1.trans F2).trans (Fr.of st)
    refine ⟨_, rfl, _, rfl, by omega, by omega, fun D hD => ?_⟩
    have nDb : D ≠ b := G3.ne_new hD
    have hD0 : H D = none := (F1.trans F2).free G.nb (st.free hD) G2.nb
    have pl := pl4_pl wy hn
    refine lc_it walk_range (fun j H' => Bag H' b l ns (d + 2) ∧ Fr H H' b ∧ H' D = some (.lst (((List.range j).map (pl4 wy)).map V.int))) ⟨G3.same (same_upd hD), F03.trans (Fr.of (same_upd hD)), upd_same⟩ (fun _ _ _ _ => trivial) ?_ ?_
    · rintro j x Hq H4 hj ⟨G4, F4, hD4⟩ ⟨rfl, rfl⟩
      replace hj : j < (n : Int).toNat := hj
      refine ⟨rfl, _, rfl, _, rfl, _, _, rfl, rfl, .inl ⟨by decide, by decide⟩, _, _, rfl, rfl, _, _, rfl, rfl, ⟨by decide, by decide, by decide⟩, _, rfl, _, _, rfl, rfl, _, rfl, _, _, rfl, rfl, ⟨by decide, by decide, by decide⟩, _, _, rfl, rfl, .inl ⟨by omega, by omega⟩, _, rfl, _, _, rfl, rfl, (by show 4 ≤ sizeLine; decide), fun q hq => ⟨_, rfl, ?_⟩⟩
      have sq := fun o => same_upd (o := o) hq
      have nqD : q ≠ D := (ne_of_none hD4 hq).symm
      have fin : ∀ v : Int, v = pl4 wy j → ∃ acc, (upd H4 q (.lst [V.int (0 + (j : Nat)), V.int (7 * (0 + (j : Nat)) + 3), V.int (10 ^ (30 : Int).toNat - (0 + (j : Nat))), V.int ((0 + (j : Nat)) * 10 ^ (27 : Int).toNat + (0 + (j : Nat)))])) D = some (.lst acc) ∧ acc.length < sizeLine ∧
          Bag (upd (upd H4 q (.lst [V.int (0 + (j : Nat)), V.int (7 * (0 + (j : Nat)) + 3), V.int (10 ^ (30 : Int).toNat - (0 + (j : Nat))), V.int ((0 + (j : Nat)) * 10 ^ (27 : Int).toNat + (0 + (j : Nat)))])) D (.lst (acc ++ [V.int v]))) b l ns (d + 2) ∧
          Fr H (upd (upd H4 q (.lst [V.int (0 + (j : Nat)), V.int (7 * (0 + (j : Nat)) + 3), V.int (10 ^ (30 : Int).toNat - (0 + (j : Nat))), V.int ((0 + (j : Nat)) * 10 ^ (27 : Int).toNat + (0 + (j : Nat)))])) D (.lst (acc ++ [V.int v]))) b ∧
          (upd (upd H4 q (.lst [V.int (0 + (j : Nat)), V.int (7 * (0 + (j : Nat)) + 3), V.int (10 ^ (30 : Int).toNat - (0 + (j : Nat))), V.int ((0 + (j : Nat)) * 10 ^ (27 : Int).toNat + (0 + (j : Nat)))])) D (.lst (acc ++ [V.int v]))) D = some (.lst (((List.range (j + 1)).map (pl4 wy)).map V.int)) := by
        intro v hv
        have G5 := G4.same (sq (.lst [V.int (0 + (j : Nat)), V.int (7 * (0 + (j : Nat)) + 3), V.int (10 ^ (30 : Int).toNat - (0 + (j : Nat))), V.int ((0 + (j : Nat)) * 10 ^ (27 : Int).toNat + (0 + (j : Nat)))]))
        refine ⟨_, (by rw [upd_ne nqD.symm]; exact hD4), by simp only [List.length_map, List.length_range]; exact small1000 (by omega), ?_, ?_, ?_⟩
        · obtain ⟨⟨i, c, kk, t, h1, h2⟩, ls, ne⟩ := G5
          have e2 : l ≠ D := fun z => by
            have y := G3.ls
            rw [z, hD] at y; cases y
          exact ⟨⟨i, c, kk, t, by rw [upd_ne nDb.symm]; exact h1, h2⟩, by rw [upd_ne e2]; exact ls, ne⟩
        · intro a o ha hne
          rw [upd_ne (ne_of_none ha hD0)]
          exact sq _ _ _ (F4 _ _ ha hne)
        · rw [upd_same, pl4_snoc, List.map_append, hv]; rfl
      obtain rfl | rfl | rfl | rfl : wy = 0 ∨ wy = 1 ∨ wy = 2 ∨ wy = 3 := by omega
      · exact rd_ix (j := 0) (SqL.of upd_same) rfl rfl (fin _ rfl)
      · exact rd_ix (j := 1) (SqL.of upd_same) rfl rfl (fin _ rfl)
      · exact rd_ix (j := 2) (SqL.of upd_same) rfl rfl (fin _ rfl)
      · exact rd_ix (j := 3) (SqL.of upd_same) rfl rfl (fin _ rfl)
    · rintro H4 ⟨G4, F4, hD4⟩
      have e : ((n : Int)).toNat = n := by omega
      rw [e] at hD4
      have hl2 : ((List.range n).map (pl4 wy)).length = n := by simp
      generalize (List.range n).map (pl4 wy) = xs at pl hD4 hl2
      refine ⟨_, rfl, rfl, _, rfl, ite2d (fun h1 => ?_) fun h1 => ?_⟩
      · refine ⟨_, rfl, D, xs, rfl, .inl (SqL.of hD4), fun ns' p p1 p2 np => ?_⟩
        have np0 : H p = none := F4.free G.nb np G4.nb
        exact k _ p ns' ((G4.same (same_upd np)).mono (by omega)) (F4.trans (Fr.of (same_upd np))) np0 (pl.perm p1) (by rw [p1.length_eq, hl2]) upd_same
      · refine ⟨_, rfl, rfl, _, rfl, ite2d (fun h2 => ?_) fun h2 => ?_⟩
        · refine ⟨_, rfl, D, xs, rfl, .inl (SqL.of hD4), fun ns' p p1 p2 np => ⟨p, _, rfl, SqL.of upd_same, fun q hq => ?_⟩⟩
          have sp := same_upd (o := HO.lst (ns'.map V.int)) np
          have nq0 : H q = none := F4.free G.nb (sp.free hq) G4.nb
          refine k _ q ns'.reverse (((G4.same sp).same (same_upd hq)).mono (by omega)) ((F4.trans (Fr.of sp)).trans (Fr.of (same_upd hq))) nq0 (pl.perm ((List.reverse_perm _).trans p1)) (by rw [List.length_reverse, p1.length_eq, hl2]) (by rw [upd_same, List.map_reverse])
        · refine ⟨_, rfl, _, rfl, b, l, ns, _, D, xs, rfl, G4, by omega, hl, SqL.of hD4, by omega, nDb, fun H5 q ys G5 F5 nq py hq => ?_⟩
          exact k _ q ys (G5.mono (by omega)) (F4.trans F5) (F4.free G.nb nq G4.nb) (pl.perm py) (by rw [py.length_eq, hl2]) hq
end
end LP

namespace LP
open PySem L2 LT LG LQ LH LC LX
section
variable {P : Program} {w : World} {K : PySem.W.Frag} {mg : Str → Option Value} {base : Heap}
theorem ok__law_filled (e : Env K mg) : FnOk P w K mg base CX0 1 e.a__law_filled e.d__law_filled ["takes", "pattern"] (sp__law_filled K) := by
  refine e.f__law_filled.ok sc__law_filled (fun vs H Q E h => ?_) (fun cdv A outer s H vs Q E hr h => ?_)
  · obtain ⟨a, ns, l, rfl, _⟩ := h; rfl
  · obtain ⟨a, ns, l, rfl, hS, hle, g, hn, k⟩ := h
    refine ⟨_, (pss_cons (ps_par3 (i := 2) (j := 3) (l := 4) (by rfl) sc__law_filled.nd rfl rfl rfl (by decide) (by decide) (by decide) rfl rfl rfl (pa_cons (pe_lst pa_nil) (pa_cons (pe_lst pa_nil) (pa_cons pe_int pa_nil))) (by rfl))
      (pss_cons (ps_for PassesOwn.never rfl (pi_str (pv 1)) (pg_name (i := 5) sc__law_filled.nd rfl (by first | exact Or.inl rfl | exact Or.inr rfl))
      (pss_one (ps_if (pt_cmpR op_eq (pv 5) pe_str (nomark _))
        (pss_cons (ps_expr (pe_bm PySem.F.plainAttrs_list PySem.F.slot_list_append PySem.F.type_list_append mt_append (pv 2) (pa_cons (pe_ix ix_list (pv 0) (pv 4) (fun _ _ => rfl)) pa_nil)))
      (pss_one (ps_set (i := 4) sc__law_filled.nd rfl (by first | exact Or.inl rfl | exact Or.inr rfl) (pe_op op_add (pv 4) pe_int))))
        (pss_cons (ps_expr (pe_bm PySem.F.plainAttrs_list PySem.F.slot_list_append PySem.F.type_list_append mt_append (pv 3) (pa_cons (pe_callB (cr_min rfl) (by rfl) e.n_min (by decide +kernel) (pa_cons (pv 2) pa_nil)) pa_nil)))
      (pss_one (ps_expr (pe_bm PySem.F.plainAttrs_list PySem.F.slot_list_remove PySem.F.type_list_remove mt_remove (pv 2) (pa_cons (pe_callB (cr_min rfl) (by rfl) e.n_min (by decide +kernel) (pa_cons (pv 2) pa_nil)) pa_nil))))))))
      (pss_one (ps_ret (pv 3))))), ?_⟩
    refine ⟨by decide, fun gp hg => ⟨by decide, fun fp hf => ⟨_, _, _, rfl, ?_⟩⟩⟩
    have sg := same_upd (o := HO.lst []) hg
    have sf := same_upd (o := HO.lst []) hf
    have hf0 : H fp = none := sg.free hf
    have ngf : gp ≠ fp := ne_of_none upd_same hf
    refine ⟨_, rfl, _, rfl, for_it walk_str (fun i σ H2 => ∃ v5 : Option V, Same H H2 ∧ H2 gp = some (.lst ((run ns (l.take i)).gaps.map V.int)) ∧ H2 fp = some (.lst ((run ns (l.take i)).fills.map V.int)) ∧
        σ = [some (.ref a), some (.str (pstr l)), some (.ref gp), some (.ref fp), some (.int (tks (l.take i) : Nat)), v5])
      ⟨none, sg.trans sf, sf _ _ upd_same, upd_same, rfl⟩ (fun _ _ _ _ _ => trivial) ?_ ?_⟩
    · rintro i x σ H2 H3 hi ⟨v5, s2, h2, f2, rfl⟩ ⟨rfl, c, hc, rfl⟩
      obtain ⟨bb, hb, rfl⟩ := pstr_at hc
      have hil : i < l.length := (List.getElem?_eq_some_iff.mp hb).1
      obtain ⟨r1, r2, r3⟩ := run_ok g.1 (Nat.le_of_eq hn) i (by omega)
      have htk := tks_take l (i + 1)
      have hfk := fls_take l (i + 1)
      have hgl := g.2
      have hpl := r3.length_eq
      rw [List.length_append, List.length_take, r2] at hpl
      have kg : ∀ {H4 : Hp} {o : HO}, Same H H4 → Same H (upd H4 gp o) := fun s b u hb => by rw [upd_ne (ne_of_none hb hg)]; exact s b u hb
      have kf : ∀ {H4 : Hp} {o : HO}, Same H H4 → Same H (upd H4 fp o) := fun s b u hb => by rw [upd_ne (ne_of_none hb hf0)]; exact s b u hb
      cases bb with
      | true =>
        rw [take_snoc hb, tks_t] at htk
        have hx := List.getElem?_eq_getElem (l := ns) (i := tks (l.take i)) (by omega)
        generalize ns[tks (l.take i)]'(by omega) = y at hx
        have e1 : run ns (l.take (i + 1)) = ⟨(run ns (l.take i)).at_ + 1, (run ns (l.take i)).gaps ++ [y], (run ns (l.take i)).fills⟩ := by
          rw [take_snoc hb, run_snoc]
          show (⟨_, _ ++ (ns[(run ns (l.take i)).at_]?).toList, _⟩ : Sh) = _
          rw [r1, hx]; rfl
        refine ⟨_, rfl, rfl, _, rfl, iteD vsT ?_⟩
        refine ⟨_, rfl, .inl ⟨rfl, _, SqL.of h2⟩, _, rfl, _, rfl, rd_ix (s2.seq hS) (int_at hx) rfl ⟨gp, _, _, rfl, rfl, h2, by rw [List.length_map]; exact small1000 (by omega), ?_⟩⟩
        refine ⟨_, rfl, _, _, rfl, rfl, some (.str ⟨#[sgn true]⟩), kg s2, ?_, ?_, ?_⟩
        · rw [upd_same, e1, List.map_append]; rfl
        · rw [upd_ne ngf.symm, e1]; exact f2
        · rw [take_snoc hb, tks_t]; rfl
      | false =>
        have hpr := g.1 (i + 1)
        rw [take_snoc hb, fls_f] at hfk
        rw [take_snoc hb, fls_f, tks_f] at hpr
        have htk2 := tks_take l i
        have e1 : run ns (l.take (i + 1)) = ⟨(run ns (l.take i)).at_, (run ns (l.take i)).gaps.erase (mn (run ns (l.take i)).gaps), (run ns (l.take i)).fills ++ [mn (run ns (l.take i)).gaps]⟩ := by
          rw [take_snoc hb, run_snoc]; rfl
        have hpos : 0 < (run ns (l.take i)).gaps.length := by omega
        generalize hG : (run ns (l.take i)).gaps = gs at *
        have hne : gs ≠ [] := fun e => by rw [e] at hpos; simp at hpos
        have hmem := (mn_ok hne).1
        refine ⟨_, rfl, rfl, _, rfl, iteX vsR ?_⟩
        refine ⟨_, rfl, .inl ⟨rfl, _, SqL.of f2⟩, _, rfl, gp, gs, rfl, SqL.of h2, by first | exact hpos | exact hne, fun m q1 q2 => ?_⟩
        have em : m = mn gs := mn_eq q1 q2
        subst em
        refine ⟨fp, _, _, rfl, rfl, f2, by rw [List.length_map, r2]; exact small1000 (by omega), ?_⟩
        have h3 : (upd H3 fp (.lst ((run ns (l.take i)).fills.map V.int ++ [V.int (mn gs)]))) gp = some (.lst (gs.map V.int)) := by rw [upd_ne ngf]; exact h2
        refine ⟨_, rfl, .inl ⟨rfl, _, SqL.of h3⟩, _, rfl, gp, gs, rfl, SqL.of h3, by first | exact hpos | exact hne, fun m q3 q4 => ?_⟩
        have em : m = mn gs := mn_eq q3 q4
        subst em
        refine ⟨gp, gs, _, gs.idxOf (mn gs), rfl, rfl, h3, idx_get hmem, fun j hj => idx_before hj, some (.str ⟨#[sgn false]⟩), kg (kf s2), ?_, ?_, ?_⟩
        · rw [upd_same, e1, List.erase_eq_eraseIdx_of_idxOf rfl]
        · rw [upd_ne ngf.symm, upd_same, e1, List.map_append]; rfl
        · rw [take_snoc hb, tks_f]; rfl
    · rintro σ H2 ⟨v5, s2, h2, f2, rfl⟩
      rw [pstr_size, List.take_length] at f2
      exact ⟨_, rfl, k H2 fp s2 hf0 f2⟩
end
end LP

namespace LP
open PySem L2 LT LG LQ LH LC LX
section
variable {P : Program} {w : World} {K : PySem.W.Frag} {mg : Str → Option Value} {base : Heap}
theorem nm_get {H : Hp} {d : Addr} {ns : List Int} {x : Int} (h : Rd H d (.dK (numK ns))) (nd : ns.Nodup) (hx : x ∈ ns) : DGet H d (.int x) (some (.int (ix ns x : Nat))) :=
  .inl ⟨numK ns, .inl x, h, rfl, (numK_val nd (at_ix hx)).symm⟩
theorem nat_lt (a b : Nat) : decide (((a : Nat) : Int) < (b : Nat)) = decide (a < b) := decide_eq_decide.mpr (by omega)
theorem ok_check_pair (e : Env K mg) : FnOk P w K mg base CX0 5 e.a_check_pair e.d_check_pair ["takes", "fills"] (sp_check_pair K) := by
  refine e.f_check_pair.ok sc_check_pair (fun vs H Q E h => ?_) (fun cdv A outer s H vs Q E hr h => ?_)
  · obtain ⟨a, b, ns, ms, rfl, _⟩ := h; rfl
  · obtain ⟨a, b, ns, ms, rfl, hE, hF, pl, p, k⟩ := h
    refine ⟨_, (pss_cons (ps_expr (pe_call ((ok_check_places e).mono (by decide)) hr rfl e.g_check_places e.f_check_places.kp e.b_check_places .nil pass0 (pa_cons (pv 0) pa_nil)))
      (pss_cons (ps_expr (pe_call ((ok_check_places e).mono (by decide)) hr rfl e.g_check_places e.f_check_places.kp e.b_check_places .nil pass0 (pa_cons (pv 1) pa_nil)))
      (pss_one (ps_expr (pe_call ((ok_check_same_places e).mono (by decide)) hr rfl e.g_check_same_places e.f_check_same_places.kp e.b_check_same_places .nil pass0 (pa_cons (pv 0) (pa_cons (pv 1) pa_nil))))))), ?_⟩
    refine ⟨_, rfl, a, ns, rfl, hE, pl, fun H1 s1 => ?_⟩
    refine ⟨_, rfl, b, ms, rfl, hF.same s1, pl.perm p, fun H2 s2 => ?_⟩
    exact ⟨_, rfl, _, rfl, a, b, ns, ms, rfl, hE.same (s1.trans s2), hF.same (s1.trans s2), p.symm, fun H3 s3 => k _ ((s1.trans s2).trans s3)⟩
theorem ok_is_two (e : Env K mg) : FnOk P w K mg base CX0 1 e.a_is_two e.d_is_two ["taken", "filled", "a", "b"] (sp_is_two) := by
  refine e.f_is_two.ok sc_is_two (fun vs H Q E h => ?_) (fun cdv A outer s H vs Q E hr h => ?_)
  · obtain ⟨t, f, tk, fs, a, b, rfl, _⟩ := h; rfl
  · obtain ⟨t, f, tk, fs, a, b, rfl, ht, hf, nd, nf, ha, hb, ga, gb, k⟩ := h
    refine ⟨_, (pss_one (ps_ret (pe_and (pe_cmpR op_lt (pv 2) (pv 3) (nomark _)) (pe_and (pe_cmpR op_lt (pe_dget (u1 hr) (pv 0) (pv 2) (fun _ _ => rfl)) (pe_dget (u1 hr) (pv 0) (pv 3) (fun _ _ => rfl)) (nomark _)) (pe_one (pe_cmpR op_lt (pe_dget (u1 hr) (pv 1) (pv 3) (fun _ _ => rfl)) (pe_dget (u1 hr) (pv 1) (pv 2) (fun _ _ => rfl)) (nomark _))))))), ?_⟩
    refine ⟨_, rfl, _, rfl, _, _, rfl, rfl, _, rfl, ?_⟩
    by_cases c1 : a < b
    · refine iteD c1 ?_
      refine ⟨_, rfl, _, rfl, t, _, rfl, nm_get (.inl ht) nd ha, _, rfl, _, rfl, t, _, rfl, nm_get (.inl ht) nd hb, _, _, rfl, rfl, _, rfl, ?_⟩
      by_cases c2 : ix tk a < ix tk b
      · refine iteD (by omega) ?_
        refine ⟨_, rfl, _, rfl, f, _, rfl, nm_get (.inl hf) nf gb, _, rfl, _, rfl, f, _, rfl, nm_get (.inl hf) nf ga, _, _, rfl, rfl, ?_⟩
        show Q (V.bl (decide (((ix fs b : Nat) : Int) < (ix fs a : Nat)))) H
        rw [nat_lt]
        have e : decide (a < b ∧ ix tk a < ix tk b ∧ ix fs b < ix fs a) = decide (ix fs b < ix fs a) := decide_eq_decide.mpr ⟨fun z => z.2.2, fun z => ⟨c1, c2, z⟩⟩
        rw [← e]; exact k
      · refine iteX (by omega) ?_
        rw [decide_eq_false fun z => c2 z.2.1] at k
        exact k
    · refine iteX c1 ?_
      rw [decide_eq_false fun z => c1 z.1] at k
      exact k
/-- a < b < c of three ints -/
theorem chain_lt {σ : L2.St} {H : Hp} {Q : VK} {ta tb tc : TE} {a b c : Int} (ha : ∀ R : VK, R (.int a) H → ta σ H R) (hb : ∀ R : VK, R (.int b) H → tb σ H R) (hc : ∀ R : VK, R (.int c) H → tc σ H R) (k : Q (.bl (decide (a < b ∧ b < c))) H) :
    tChain (rI0 fun i j => V.bl (decide (i < j))) (rI0 fun i j => V.bl (decide (i < j))) ta tb tc σ H Q := by
  refine ha _ (hb _ ⟨_, _, rfl, rfl, _, rfl, ?_⟩)
  by_cases c1 : a < b
  · refine iteD c1 (hc _ ⟨_, _, rfl, rfl, ?_⟩)
    have e : decide (a < b ∧ b < c) = decide (b < c) := decide_eq_decide.mpr ⟨fun z => z.2, fun z => ⟨c1, z⟩⟩
    rw [e] at k; exact k
  · refine iteX c1 ?_
    rw [decide_eq_false fun z => c1 z.1] at k
    exact k
theorem ok_is_three (e : Env K mg) : FnOk P w K mg base CX0 1 e.a_is_three e.d_is_three ["taken", "filled", "a", "b", "c"] (sp_is_three) := by
  refine e.f_is_three.ok sc_is_three (fun vs H Q E h => ?_) (fun cdv A outer s H vs Q E hr h => ?_)
  · obtain ⟨t, f, tk, fs, a, b, c, rfl, _⟩ := h; rfl
  · obtain ⟨t, f, tk, fs, a, b, c, rfl, ht, hf, nd, nf, ha, hb, hc, ga, gb, gc, k⟩ := h
    refine ⟨_, (pss_one (ps_ret (pe_and (pe_chain op_lt op_lt (pv 2) (pv 3) (pv 4)) (pe_and (pe_chain op_lt op_lt (pe_dget (u1 hr) (pv 0) (pv 4) (fun _ _ => rfl)) (pe_dget (u1 hr) (pv 0) (pv 3) (fun _ _ => rfl)) (pe_dget (u1 hr) (pv 0) (pv 2) (fun _ _ => rfl))) (pe_one (pe_chain op_lt op_lt (pe_dget (u1 hr) (pv 1) (pv 2) (fun _ _ => rfl)) (pe_dget (u1 hr) (pv 1) (pv 4) (fun _ _ => rfl)) (pe_dget (u1 hr) (pv 1) (pv 3) (fun _ _ => rfl)))))))), ?_⟩
    have dv : ∀ {d : Addr} {ns : List Int} {x : Int} {i j : Nat}, Nm H d ns → ns.Nodup → x ∈ ns → (start ["taken", "filled", "a", "b", "c"] [V.ref t, V.ref f, V.int a, V.int b, V.int c])[i]? = some (some (V.ref d)) → (start ["taken", "filled", "a", "b", "c"] [V.ref t, V.ref f, V.int a, V.int b, V.int c])[j]? = some (some (V.int x)) →
        ∀ R : VK, R (.int (ix ns x : Nat)) H → tDGet (tVar i) (tVar j) (start ["taken", "filled", "a", "b", "c"] [V.ref t, V.ref f, V.int a, V.int b, V.int c]) H R := fun h1 h2 h3 e1 e2 R r => ⟨_, e1, _, e2, _, _, rfl, nm_get (.inl h1) h2 h3, r⟩
    refine chain_lt (a := a) (b := b) (c := c) (fun R r => ⟨_, rfl, r⟩) (fun R r => ⟨_, rfl, r⟩) (fun R r => ⟨_, rfl, r⟩) ⟨_, rfl, ?_⟩
    by_cases C1 : a < b ∧ b < c
    · refine iteD C1 ?_
      refine chain_lt (a := (ix tk c : Nat)) (b := (ix tk b : Nat)) (c := (ix tk a : Nat)) (dv ht nd hc rfl rfl) (dv ht nd hb rfl rfl) (dv ht nd ha rfl rfl) ⟨_, rfl, ?_⟩
      by_cases C2 : ix tk c < ix tk b ∧ ix tk b < ix tk a
      · refine iteD (by omega) ?_
        refine chain_lt (a := (ix fs a : Nat)) (b := (ix fs c : Nat)) (c := (ix fs b : Nat)) (dv hf nf ga rfl rfl) (dv hf nf gc rfl rfl) (dv hf nf gb rfl rfl) ?_
        have e : decide ((a < b ∧ b < c) ∧ (ix tk c < ix tk b ∧ ix tk b < ix tk a) ∧ ix fs a < ix fs c ∧ ix fs c < ix fs b) = decide (((ix fs a : Nat) : Int) < (ix fs c : Nat) ∧ ((ix fs c : Nat) : Int) < (ix fs b : Nat)) := decide_eq_decide.mpr ⟨fun z => by omega, fun z => ⟨C1, C2, by omega⟩⟩
        rw [e] at k; exact k
      · refine iteX (by omega) ?_
        rw [decide_eq_false fun z => C2 z.2.1] at k
        exact k
    · refine iteX C1 ?_
      rw [decide_eq_false fun z => C1 z.1] at k
      exact k
/-- two places in order -/
theorem pair_of {xs : List V} {ns : List Int} (e : xs = ns.map V.int) {q : Nat × Nat} {x y : V} (h1 : xs[q.1]? = some x) (h2 : xs[q.2]? = some y) : ∃ a b, ns[q.1]? = some a ∧ ns[q.2]? = some b ∧ x = .int a ∧ y = .int b := by
  subst e
  obtain ⟨a, ha, rfl⟩ := at_int h1
  obtain ⟨b, hb, rfl⟩ := at_int h2
  exact ⟨a, b, ha, hb, rfl, rfl⟩
theorem keys_nm (ns : List Int) : (numK ns).map (·.1) = ns.map Sum.inl := by
  unfold numK
  rw [List.map_map]
  conv => rhs; rw [← List.zipIdx_map_fst 0 ns, List.map_map]
  rfl
theorem ok_first_two (e : Env K mg) : FnOk P w K mg base CX0 2 e.a_first_two e.d_first_two ["taken", "filled"] (sp_first_two) := by
  refine e.f_first_two.ok sc_first_two (fun vs H Q E h => ?_) (fun cdv A outer s H vs Q E hr h => ?_)
  · obtain ⟨t, f, tk, fs, rfl, _⟩ := h; rfl
  · obtain ⟨t, f, tk, fs, rfl, ht, hf, nd, le, p, no, k⟩ := h
    have nf : fs.Nodup := p.nodup_iff.mpr nd
    refine ⟨_, (pss_cons (ps_for PassesOwn.never rfl (LC.pi_co (by rfl) e.g_combinations (pa_cons (pe_callB (cr_sortedK rfl) (by rfl) e.n_sorted (by decide +kernel) (pa_cons (pv 0) pa_nil)) (pa_cons pe_int pa_nil))) (pg_tup (by rfl) (pgs_cons (pg_name (i := 2) sc_first_two.nd rfl (by first | exact Or.inl rfl | exact Or.inr rfl)) (pgs_cons (pg_name (i := 3) sc_first_two.nd rfl (by first | exact Or.inl rfl | exact Or.inr rfl)) pgs_nil)))
      (pss_one (ps_if (pt_val (pe_call ((ok_is_two e).mono (by decide)) hr rfl e.g_is_two e.f_is_two.kp e.b_is_two .nil pass0 (pa_cons (pv 0) (pa_cons (pv 1) (pa_cons (pv 2) (pa_cons (pv 3) pa_nil))))))
        (pss_one (ps_ret (pe_tup (pa_cons pe_str (pa_cons (pv 2) (pa_cons (pv 3) pa_nil))))))
        pss_nil)))
      (pss_one (ps_ret pe_non))), ?_⟩
    refine ⟨_, rfl, t, numK tk, tk, rfl, .inl ht, keys_nm tk, by omega, fun ys L p1 p2 hL => ⟨L, _, rfl, SqL.of upd_same, by rw [List.length_map, p1.length_eq]; omega, ?_⟩⟩
    have sL := same_upd (o := HO.lst (ys.map V.int)) hL
    refine for_it walk_co (fun i σ H1 => Same H H1 ∧ ∃ v2 v3 : Option V, σ = [some (.ref t), some (.ref f), v2, v3]) ⟨sL, none, none, rfl⟩ (fun _ _ _ _ _ => trivial) ?_ ?_
    · rintro i x σ H1 H2 hi ⟨s1, v2, v3, rfl⟩ ⟨T, q, x, y, rfl, hT, rfl, hq, hx, hy⟩
      obtain ⟨a, b, ha, hb, rfl, rfl⟩ := pair_of rfl hx hy
      have sT := same_upd (o := HO.tup [.int a, .int b]) hT
      have s2 := s1.trans sT
      have ma := p1.subset (List.mem_of_getElem? ha)
      have mb := p1.subset (List.mem_of_getElem? hb)
      refine ⟨_, _, rfl, SqT.of upd_same, rfl, _, _, rfl, _, _, rfl, rfl, ?_⟩
      refine ⟨_, rfl, _, rfl, _, rfl, _, rfl, t, f, tk, fs, a, b, rfl, s2 _ _ ht, s2 _ _ hf, nd, nf, ma, mb, p.symm.subset ma, p.symm.subset mb, _, rfl, ?_⟩
      refine iteX (fun z => no.two a b ma mb z.1 z.2.1 z.2.2) ?_
      exact ⟨s2, _, _, rfl⟩
    · rintro σ H1 ⟨s1, v2, v3, rfl⟩
      exact k _ s1
end
end LP

namespace LP
open PySem L2 LT LG LQ LH LC LX
section
variable {P : Program} {w : World} {K : PySem.W.Frag} {mg : Str → Option Value} {base : Heap}
def goodC (tk fs : List Int) (b c : Int) : Bool := decide (c > b ∧ ix tk c < ix tk b ∧ ix fs c < ix fs b)
def fillC (tk fs : List Int) (b : Int) (l : List Int) : List Int := (l.filter (goodC tk fs b)).map fun c => ((ix fs c : Nat) : Int)
theorem fillC_snoc (tk fs : List Int) (b : Int) {l : List Int} {j : Nat} {c : Int} (h : l[j]? = some c) : fillC tk fs b (l.take (j + 1)) = fillC tk fs b (l.take j) ++ if goodC tk fs b c = true then [((ix fs c : Nat) : Int)] else [] := by
  unfold fillC
  rw [take_snoc h, List.filter_append, List.map_append]
  congr 1
  by_cases q : goodC tk fs b c = true
  · rw [if_pos q, List.filter_cons, if_pos q]; rfl
  · rw [if_neg q, List.filter_cons, if_neg q]; rfl
theorem fillC_len (tk fs : List Int) (b : Int) (l : List Int) : (fillC tk fs b l).length ≤ l.length := by
  unfold fillC; rw [List.length_map]; exact List.length_filter_le _ _
theorem numK_at {ns : List Int} {i : Nat} {k : Key} {v : V} (h : (numK ns)[i]? = some (k, v)) : ∃ x, ns[i]? = some x ∧ k = .inl x := by
  unfold numK at h
  rw [List.getElem?_map, List.getElem?_zipIdx] at h
  cases q : ns[i]? with
  | none => rw [q] at h; cases h
  | some x => rw [q] at h; cases h; exact ⟨x, rfl, rfl⟩
theorem ok_last_fill_between (e : Env K mg) : FnOk P w K mg base CX0 1 e.a_last_fill_between e.d_last_fill_between ["taken", "filled", "b"] (sp_last_fill_between) := by
  refine e.f_last_fill_between.ok sc_last_fill_between (fun vs H Q E h => ?_) (fun cdv A outer s H vs Q E hr h => ?_)
  · obtain ⟨t, f, tk, fs, b, rfl, _⟩ := h; rfl
  · obtain ⟨t, f, tk, fs, b, rfl, ht, hf, ntf, nd, le, p, hb, k⟩ := h
    have nf : fs.Nodup := p.nodup_iff.mpr nd
    have hbf := p.symm.subset hb
    refine ⟨_, (pss_cons (ps_lock (ps_setLc (i := 3) (own := [("c", 4)]) rfl sc_last_fill_between.nd rfl rfl (sw_true rfl rfl rfl (by decide +kernel)) (pi_keys (pv 0)) (blkOk_by (N := ["taken", "filled", "b", "fills", "c"]) (sc := defScope s_last_fill_between) (by decide +kernel)) (fun _ _ _ _ _ => (pg_name (i := 4) sc_last_fill_between.nd rfl (by first | exact Or.inl rfl | exact Or.inr rfl))) (fun _ _ _ _ _ => pts_one (PW.pt (pw_and (pt_cmpR op_gt (pv 4) (pv 2) (nomark _)) (pw_and (pt_cmpR op_lt (pe_dget (u1 hr) (pv 0) (pv 4) (fun _ _ => rfl)) (pe_dget (u1 hr) (pv 0) (pv 2) (fun _ _ => rfl)) (nomark _)) (pw_and1 (pt_cmpR op_lt (pe_dget (u1 hr) (pv 1) (pv 4) (fun _ _ => rfl)) (pe_dget (u1 hr) (pv 1) (pv 2) (fun _ _ => rfl)) (nomark _))))))) (fun _ _ _ _ _ => (pe_dget (u1 hr) (pv 1) (pv 4) (fun _ _ => rfl)))))
      (pss_one (ps_ret (pe_callBK (LX.cr_maxDef rfl) (by rfl) e.n_max (by decide +kernel) (pa_cons (pv 3) pa_nil) (pk_cons (pe_un un_neg pe_int) pk_nil))))), ?_⟩
    refine ⟨t, _, ht, trivial, fun od => ?_⟩
    have ht0 : (upd H t (.frz od (.dK (numK tk)))) t = some (.frz od (.dK (numK tk))) := upd_same
    have hf0 : (upd H t (.frz od (.dK (numK tk)))) f = some (.dK (numK fs)) := by rw [upd_ne ntf.symm]; exact hf
    refine ⟨_, rfl, t, od, rfl, .inl ⟨_, ht0, fun D hD => ?_⟩⟩
    have sD := fun o => same_upd (o := o) hD
    refine lc_it walk_keys (fun j H' => H' = upd (upd H t (.frz od (.dK (numK tk)))) D (.lst ((fillC tk fs b (tk.take j)).map V.int))) rfl (fun j H' _ h => by subst h; exact sD _ _ _ ht0) ?_ ?_
    · rintro j x H2 H3 hj rfl ⟨rfl, kk, v, hkv, rfl⟩
      rw [numK_len] at hj
      obtain ⟨c, hc, rfl⟩ := numK_at hkv
      have mc := List.mem_of_getElem? hc
      have mcf := p.symm.subset mc
      have htD := sD (.lst ((fillC tk fs b (tk.take j)).map V.int)) _ _ ht0
      have hfD := sD (.lst ((fillC tk fs b (tk.take j)).map V.int)) _ _ hf0
      have fl := fillC_len tk fs b (tk.take j)
      rw [List.length_take] at fl
      have skip : ¬ goodC tk fs b c = true → upd (upd H t (.frz od (.dK (numK tk)))) D (.lst ((fillC tk fs b (tk.take j)).map V.int)) = upd (upd H t (.frz od (.dK (numK tk)))) D (.lst ((fillC tk fs b (tk.take (j + 1))).map V.int)) := fun q => by
        rw [fillC_snoc tk fs b hc, if_neg q, List.append_nil]
      refine ⟨rfl, _, rfl, _, rfl, _, _, rfl, rfl, _, rfl, ?_⟩
      by_cases c1 : c > b
      · refine iteD c1 ?_
        refine ⟨_, rfl, _, rfl, t, _, rfl, nm_get (.inr ⟨_, htD⟩) nd mc, _, rfl, _, rfl, t, _, rfl, nm_get (.inr ⟨_, htD⟩) nd hb, _, _, rfl, rfl, _, rfl, ?_⟩
        by_cases c2 : ix tk c < ix tk b
        · refine iteD (by omega) ?_
          refine ⟨_, rfl, _, rfl, f, _, rfl, nm_get (.inl hfD) nf mcf, _, rfl, _, rfl, f, _, rfl, nm_get (.inl hfD) nf hbf, _, _, rfl, rfl, _, rfl, ?_⟩
          by_cases c3 : ix fs c < ix fs b
          · refine iteD (by omega) ?_
            have q : goodC tk fs b c = true := decide_eq_true ⟨c1, c2, c3⟩
            refine ⟨_, rfl, _, rfl, f, _, rfl, nm_get (.inl hfD) nf mcf, _, upd_same, ?_, ?_⟩
            · rw [List.length_map]; exact small1000 (by omega)
            · rw [upd_upd, fillC_snoc tk fs b hc, if_pos q, List.map_append]; rfl
          · refine iteX (by omega) ?_
            exact skip fun z => c3 (of_decide_eq_true z).2.2
        · refine iteX (by omega) ?_
          exact skip fun z => c2 (of_decide_eq_true z).2.1
      · refine iteX c1 ?_
        exact skip fun z => c1 (of_decide_eq_true z).1
    · rintro H2 rfl
      rw [numK_len, List.take_length]
      refine ⟨?_, ?_⟩
      · exact sD _ _ _ ht0
      have htH : ∀ o : HO, (upd (upd H t (.frz od (.dK (numK tk)))) D o) = upd (upd H D o) t (.frz od (.dK (numK tk))) := fun o => by
        have ntD : t ≠ D := ne_of_none ht0 hD
        funext x
        unfold upd
        by_cases h1 : x = D
        · subst h1
          rw [if_pos rfl, if_neg (fun z => ntD z.symm), if_pos rfl]
        · rw [if_neg h1]
          by_cases h2 : x = t
          · rw [if_pos h2, if_pos h2]
          · rw [if_neg h2, if_neg h2, if_neg h1]
      have hD0 : H D = none := by
        have ntD : t ≠ D := ne_of_none ht0 hD
        rw [upd_ne ntD.symm] at hD; exact hD
      have ntD : t ≠ D := ne_of_none ht0 hD
      rw [htH, upd_upd]
      have hback : upd (upd H D (.lst ((fillC tk fs b tk).map V.int))) t (.dK (numK tk)) = upd H D (.lst ((fillC tk fs b tk).map V.int)) := by
        funext x
        by_cases h2 : x = t
        · subst h2; rw [upd_same, upd_ne ntD]; exact ht.symm
        · rw [upd_ne h2]
      rw [hback]
      have sF := same_upd (o := HO.lst ((fillC tk fs b tk).map V.int)) hD0
      refine ⟨_, rfl, _, rfl, D, fillC tk fs b tk, _, rfl, rfl, SqL.of upd_same, fun e => ?_, fun e m hm hmax => ?_⟩
      · exact k _ (-1) sF (.inl rfl)
      · obtain ⟨c, hc, rfl⟩ := List.mem_map.mp hm
        obtain ⟨mc, gc⟩ := List.mem_filter.mp hc
        obtain ⟨g1, g2, g3⟩ := of_decide_eq_true gc
        exact k _ _ sF (.inr ⟨c, mc, g1, g2, g3, rfl⟩)
/-- a dict with these values at these keys -/
def zipK (ys rs : List Int) : List (Key × V) := (ys.zip rs).map fun p => (.inl p.1, .int p.2)
theorem zipK_len {ys rs : List Int} (h : rs.length ≤ ys.length) : (zipK ys rs).length = rs.length := by
  unfold zipK; rw [List.length_map, List.length_zip]; omega
theorem zipK_put {ys rs : List Int} {x r : Int} (hl : ys.length = rs.length) (h : x ∉ ys) : putK (zipK ys rs) (.inl x) (.int r) = zipK (ys ++ [x]) (rs ++ [r]) := by
  rw [putK_new]
  · unfold zipK
    rw [List.zip_append hl, List.map_append]; rfl
  · intro q hq e
    obtain ⟨⟨a, b⟩, hp, rfl⟩ := List.mem_map.mp hq
    cases e
    exact h (List.of_mem_zip hp).1
theorem zipK_val : ∀ {ys rs : List Int}, ys.Nodup → ∀ {i : Nat} {x r : Int}, ys[i]? = some x → rs[i]? = some r → valV (zipK ys rs) (.inl x) = some (.int r)
  | [], _, _, i, x, r, h, _ => by simp at h
  | _ :: _, [], _, i, x, r, _, h => by simp at h
  | y :: ys, q :: rs, nd, 0, x, r, h1, h2 => by
    cases h1; cases h2
    unfold valV zipK
    rw [List.zip_cons_cons, List.map_cons, List.find?_cons]
    simp
  | y :: ys, q :: rs, nd, i + 1, x, r, h1, h2 => by
    have ih := zipK_val (List.nodup_cons.mp nd).2 (i := i) (x := x) (r := r) h1 h2
    unfold valV at ih ⊢
    have ne : ¬ ((Sum.inl y : Key) = .inl x) := fun e => by
      cases e
      exact (List.nodup_cons.mp nd).1 (List.mem_of_getElem? h1)
    show ((zipK (y :: ys) (q :: rs)).find? _).map _ = _
    have e : zipK (y :: ys) (q :: rs) = (.inl y, .int q) :: zipK ys rs := rfl
    rw [e, List.find?_cons, decide_eq_false ne]
    exact ih
theorem ok_first_three (e : Env K mg) : FnOk P w K mg base CX0 2 e.a_first_three e.d_first_three ["taken", "filled"] (sp_first_three) := by
  refine e.f_first_three.ok sc_first_three (fun vs H Q E h => ?_) (fun cdv A outer s H vs Q E hr h => ?_)
  · obtain ⟨t, f, tk, fs, rfl, _⟩ := h; rfl
  · obtain ⟨t, f, tk, fs, rfl, ht, hf, ntf, nd, le, p, no, k⟩ := h
    have nf : fs.Nodup := p.nodup_iff.mpr nd
    refine ⟨_, (pss_cons (ps_set (i := 2) sc_first_three.nd rfl (by first | exact Or.inl rfl | exact Or.inr rfl) (pe_callB (cr_sortedK rfl) (by rfl) e.n_sorted (by decide +kernel) (pa_cons (pv 0) pa_nil)))
      (pss_cons (LX.ps_setDc (i := 3) (own := [("b", 5)]) rfl sc_first_three.nd rfl rfl (LX.sw_trueD rfl rfl rfl (by decide +kernel)) (pi_list (pv 2)) (blkOk_by (N := ["taken", "filled", "places", "last", "a", "b", "c"]) (sc := defScope s_first_three) (by decide +kernel)) (fun _ _ _ _ _ => (pg_name (i := 5) sc_first_three.nd rfl (by first | exact Or.inl rfl | exact Or.inr rfl))) (fun _ _ _ _ _ => pts_nil) (fun _ _ _ _ _ => (pv 5)) (fun _ _ _ _ _ => (pe_call ((ok_last_fill_between e).mono (by decide)) hr rfl e.g_last_fill_between e.f_last_fill_between.kp e.b_last_fill_between .nil pass0 (pa_cons (pv 0) (pa_cons (pv 1) (pa_cons (pv 5) pa_nil))))))
      (pss_cons (ps_for PassesOwn.never rfl (LC.pi_co (by rfl) e.g_combinations (pa_cons (pv 2) (pa_cons pe_int pa_nil))) (pg_tup (by rfl) (pgs_cons (pg_name (i := 4) sc_first_three.nd rfl (by first | exact Or.inl rfl | exact Or.inr rfl)) (pgs_cons (pg_name (i := 5) sc_first_three.nd rfl (by first | exact Or.inl rfl | exact Or.inr rfl)) pgs_nil)))
      (pss_one (ps_if (PW.pt (pw_and (pt_cmpR op_lt (pe_dget (u1 hr) (pv 0) (pv 5) (fun _ _ => rfl)) (pe_dget (u1 hr) (pv 0) (pv 4) (fun _ _ => rfl)) (nomark _)) (pw_and1 (pt_cmpR op_lt (pe_dget (u1 hr) (pv 1) (pv 4) (fun _ _ => rfl)) (pe_dget (u1 hr) (pv 3) (pv 5) (fun _ _ => rfl)) (nomark _)))))
        (pss_one (ps_ret (pe_tup (pa_cons pe_str (pa_cons (pv 4) (pa_cons (pv 5) (pa_cons (pe_callB (cr_min rfl) (by rfl) e.n_min (by decide +kernel) (pa_cons (pe_lc (own := [("c", 6)]) rfl sc_first_three.nd (pi_list (pv 2)) (blkOk_by (N := ["taken", "filled", "places", "last", "a", "b", "c"]) (sc := defScope s_first_three) (by decide +kernel)) (fun _ _ _ _ _ => (pg_name (i := 6) sc_first_three.nd rfl (by first | exact Or.inl rfl | exact Or.inr rfl))) (fun _ _ _ _ _ => pts_one (pt_val (pe_call ((ok_is_three e).mono (by decide)) hr rfl e.g_is_three e.f_is_three.kp e.b_is_three .nil pass0 (pa_cons (pv 0) (pa_cons (pv 1) (pa_cons (pv 4) (pa_cons (pv 5) (pa_cons (pv 6) pa_nil)))))))) (fun _ _ _ _ _ => (pv 6))) pa_nil)) pa_nil)))))))
        pss_nil)))
      (pss_one (ps_ret pe_non))))), ?_⟩
    refine ⟨_, rfl, t, numK tk, tk, rfl, .inl ht, keys_nm tk, by omega, fun ys L p1 p2 hL => ?_⟩
    have sL := same_upd (o := HO.lst (ys.map V.int)) hL
    have yl := p1.length_eq
    have yd : ys.Nodup := p1.nodup_iff.mpr nd
    have hL1 : (upd H L (.lst (ys.map V.int))) L = some (.lst (ys.map V.int)) := upd_same
    generalize upd H L (.lst (ys.map V.int)) = H1 at sL hL1
    refine ⟨_, rfl, L, rfl, ⟨_, SqL.of hL1⟩, fun D hD => ?_⟩
    have sD := fun o => same_upd (o := o) hD
    refine dc_it walk_list (fun j H' => ∃ rs : List Int, rs.length = j ∧ Same H1 H' ∧ H' D = some (.dK (zipK (ys.take j) rs)) ∧ ∀ (i : Nat) (y r : Int), ys[i]? = some y → rs[i]? = some r → (r = -1 ∨ ∃ c ∈ tk, c > y ∧ ix tk c < ix tk y ∧ ix fs c < ix fs y ∧ r = (ix fs c : Nat))) ⟨[], rfl, sD _, by rw [upd_same]; rfl, fun i y r _ h => by simp at h⟩ (fun j H' _ ⟨_, _, s, _⟩ => s.seq (SqL.of hL1)) ?_ ?_
    · rintro j x H2 H3 hj ⟨rs, rl, s2, hd, hr⟩ ⟨rfl, hx⟩
      rw [List.length_map] at hj
      obtain ⟨y, hy, rfl⟩ := at_int hx
      have my := p1.subset (List.mem_of_getElem? hy)
      refine ⟨rfl, _, rfl, _, rfl, _, rfl, _, rfl, t, f, tk, fs, y, rfl, s2 _ _ (sL _ _ ht), s2 _ _ (sL _ _ hf), ntf, nd, le, p, my, fun H4 r s4 hr4 => ?_⟩
      refine ⟨zipK (ys.take j) rs, .inl y, rfl, s4 _ _ hd, by rw [zipK_len (by rw [List.length_take]; omega)]; exact small1000 (by omega), rs ++ [r], by rw [List.length_append, rl]; rfl, ?_, ?_, ?_⟩
      · intro b o hb; rw [upd_ne (ne_of_none hb hD)]; exact s4 _ _ (s2 _ _ hb)
      · rw [upd_same, zipK_put (by rw [List.length_take]; omega) (not_take yd hy (Nat.le_refl _)), take_snoc hy]
      · intro i a q h1 h2
        by_cases c : i < rs.length
        · rw [List.getElem?_append_left c] at h2; exact hr i a q h1 h2
        · rw [List.getElem?_append_right (by omega)] at h2
          cases z : i - rs.length with
          | zero =>
            rw [z] at h2; cases h2
            have : i = j := by omega
            subst this
            rw [hy] at h1; cases h1
            exact hr4
          | succ m => rw [z] at h2; simp at h2
    · rintro H2 ⟨rs, rl, s2, hd, hr⟩
      replace rl : rs.length = (ys.map V.int).length := rl
      rw [List.length_map] at rl
      rw [List.length_map, List.take_length] at hd
      have hL2 := s2 _ _ hL1
      refine ⟨_, rfl, L, _, rfl, SqL.of hL2, by rw [List.length_map]; omega, ?_⟩
      refine for_it walk_co (fun i σ H' => Same H2 H' ∧ ∃ v2 v3 v6 : Option V, σ = [some (.ref t), some (.ref f), some (.ref L), some (.ref D), v2, v3, v6]) ⟨Same.refl _, none, none, none, rfl⟩ (fun _ _ _ _ _ => trivial) ?_ ?_
      · rintro i x σ H3 H4 hi ⟨s3, v2, v3, v6, rfl⟩ ⟨T, q, x, y, rfl, hT, rfl, hq, hx, hy⟩
        obtain ⟨a, b, ha, hb, rfl, rfl⟩ := pair_of rfl hx hy
        have sT := same_upd (o := HO.tup [.int a, .int b]) hT
        have s4 := s3.trans sT
        have ma := p1.subset (List.mem_of_getElem? ha)
        have mb := p1.subset (List.mem_of_getElem? hb)
        have hab : a < b := by
          have hq2 := (prs_step hq).1
          have h1 := List.getElem?_eq_some_iff.mp ha
          have h2 := List.getElem?_eq_some_iff.mp hb
          obtain ⟨l1, e1⟩ := h1
          obtain ⟨l2, e2⟩ := h2
          have le2 := List.pairwise_iff_getElem.mp p2 _ _ l1 l2 hq2
          rw [e1, e2] at le2
          have ne : a ≠ b := fun z => by
            have := (List.getElem_inj yd).mp (e1.trans (z.trans e2.symm))
            omega
          omega
        have ht4 := s4 _ _ (s2 _ _ (sL _ _ ht))
        have hf4 := s4 _ _ (s2 _ _ (sL _ _ hf))
        have hd4 := s4 _ _ hd
        refine ⟨_, _, rfl, SqT.of upd_same, rfl, _, _, rfl, _, _, rfl, rfl, ?_⟩
        refine ⟨_, rfl, _, rfl, t, _, rfl, nm_get (.inl ht4) nd mb, _, rfl, _, rfl, t, _, rfl, nm_get (.inl ht4) nd ma, _, _, rfl, rfl, _, rfl, ?_⟩
        by_cases c1 : ix tk b < ix tk a
        · refine iteD (by omega) ?_
          have hrb : rs[q.2]? = some (rs[q.2]'(by have := (List.getElem?_eq_some_iff.mp hb).1; omega)) := List.getElem?_eq_getElem _
          generalize rs[q.2]'(by have := (List.getElem?_eq_some_iff.mp hb).1; omega) = r at hrb
          have hv := zipK_val yd hb hrb
          have hg : DGet (upd H3 T (.tup [.int a, .int b])) D (.int b) (some (.int r)) := .inl ⟨zipK ys rs, .inl b, .inl hd4, rfl, hv.symm⟩
          refine ⟨_, rfl, _, rfl, f, _, rfl, nm_get (.inl hf4) nf (p.symm.subset ma), _, rfl, _, rfl, D, _, rfl, hg, _, _, rfl, rfl, _, rfl, ?_⟩
          refine iteX (fun z => ?_) ⟨s4, _, _, _, rfl⟩
          rcases hr _ _ _ hb hrb with rfl | ⟨c, mc, g1, g2, g3, rfl⟩
          · omega
          · exact no.three a b c ma mb mc hab g1 g2 c1 (by omega) g3
        · refine iteX (by omega) ?_
          exact iteF ⟨s4, _, _, _, rfl⟩
      · rintro σ H3 ⟨s3, v2, v3, v6, rfl⟩
        exact k _ ((sL.trans s2).trans s3)
theorem ok_obstruction (e : Env K mg) : FnOk P w K mg base CX0 6 e.a_obstruction e.d_obstruction ["takes", "fills"] (sp_obstruction K) := by
  refine e.f_obstruction.ok sc_obstruction (fun vs H Q E h => ?_) (fun cdv A outer s H vs Q E hr h => ?_)
  · obtain ⟨a, b, tk, fs, rfl, _⟩ := h; rfl
  · obtain ⟨a, b, tk, fs, rfl, hE, hF, pl, p, no, k⟩ := h
    have nd := pl.nd
    refine ⟨_, (pss_cons (ps_expr (pe_call ((ok_check_pair e).mono (by decide)) hr rfl e.g_check_pair e.f_check_pair.kp e.b_check_pair .nil pass0 (pa_cons (pv 0) (pa_cons (pv 1) pa_nil))))
      (pss_cons (ps_set (i := 2) sc_obstruction.nd rfl (by first | exact Or.inl rfl | exact Or.inr rfl) (pe_call ((ok_numbers_by_place e).mono (by decide)) hr rfl e.g_numbers_by_place e.f_numbers_by_place.kp e.b_numbers_by_place .nil pass0 (pa_cons (pv 0) pa_nil)))
      (pss_cons (ps_set (i := 3) sc_obstruction.nd rfl (by first | exact Or.inl rfl | exact Or.inr rfl) (pe_call ((ok_numbers_by_place e).mono (by decide)) hr rfl e.g_numbers_by_place e.f_numbers_by_place.kp e.b_numbers_by_place .nil pass0 (pa_cons (pv 1) pa_nil)))
      (pss_cons (ps_set (i := 4) sc_obstruction.nd rfl (by first | exact Or.inl rfl | exact Or.inr rfl) (pe_call ((ok_first_two e).mono (by decide)) hr rfl e.g_first_two e.f_first_two.kp e.b_first_two .nil pass0 (pa_cons (pv 2) (pa_cons (pv 3) pa_nil))))
      (pss_cons (ps_if (pt_cmpR op_isN (pv 4) pe_non (nomark _))
        (pss_one (ps_set (i := 4) sc_obstruction.nd rfl (by first | exact Or.inl rfl | exact Or.inr rfl) (pe_call ((ok_first_three e).mono (by decide)) hr rfl e.g_first_three e.f_first_three.kp e.b_first_three .nil pass0 (pa_cons (pv 2) (pa_cons (pv 3) pa_nil)))))
        pss_nil)
      (pss_one (ps_ret (pv 4)))))))), ?_⟩
    refine ⟨_, rfl, _, rfl, a, b, tk, fs, rfl, hE, hF, pl, p, fun H1 s1 => ?_⟩
    refine ⟨_, rfl, a, tk, rfl, hE.same s1, pl, fun H2 d s2 nd2 hd => ?_⟩
    have t2 := s1.trans s2
    refine ⟨_, rfl, b, fs, rfl, hF.same t2, pl.perm p, fun H3 e s3 ne he => ?_⟩
    have t3 := t2.trans s3
    have hd3 := s3 _ _ hd
    have nde : d ≠ e := ne_of_none hd ne
    refine ⟨_, rfl, _, rfl, d, e, tk, fs, rfl, hd3, he, nd, pl.le, p, no, fun H4 s4 => ?_⟩
    refine ⟨_, rfl, rfl, _, rfl, iteD rfl ?_⟩
    refine ⟨_, rfl, _, rfl, d, e, tk, fs, rfl, s4 _ _ hd3, s4 _ _ he, nde, nd, pl.le, p, no, fun H5 s5 => ?_⟩
    exact ⟨_, rfl, k _ ((t3.trans s4).trans s5)⟩
end
end LP

namespace LP
open PySem L2 LT LG LQ LH LC LX
section
variable {P : Program} {w : World} {K : PySem.W.Frag} {mg : Str → Option Value} {base : Heap}
theorem natV_snoc (l : List Nat) (a : Nat) : natV (l ++ [a]) = natV l ++ [V.int (a : Nat)] := by unfold natV; rw [List.map_append]; rfl
theorem natV_len (l : List Nat) : (natV l).length = l.length := by unfold natV; rw [List.length_map]
theorem los_snoc (tk fs : List Int) (i : Nat) : (List.range (i + 1)).map (lo tk fs) = (List.range i).map (lo tk fs) ++ [lo tk fs i] := by rw [List.range_succ, List.map_append]; rfl
theorem or_E2 {K : PySem.W.Frag} {H0 H : Hp} {a : Addr} {xs : List V} {σ : L2.St} {i : Nat} {R : It → Hp → Prop} (hE : SqE K H0 a xs) (s0 : Same H0 H) (hv : σ[i]? = some (some (.ref a))) (k : ∀ (J : It) (G : Hp → Prop), Walk J xs.length G (YAt xs) → (∀ H', Same H0 H' → G H') → R J H) :
    iList K (tVar i) σ H R ∨ iTup K (tVar i) σ H R := by
  rcases hE with h | h
  · exact .inl ⟨_, hv, a, rfl, ⟨_, s0.seq h⟩, k _ _ walk_list fun H' s => s.seq h⟩
  · exact .inr ⟨_, hv, a, rfl, ⟨_, same_tup s0 h⟩, k _ _ walk_tup fun H' s => same_tup s h⟩
theorem int_max (a b : Nat) : (if ((b : Nat) : Int) > (a : Nat) then V.int (b : Nat) else V.int (a : Nat)) = V.int ((max a b : Nat) : Int) := by
  by_cases c : a < b
  · rw [if_pos (by omega), Nat.max_eq_right (by omega)]
  · rw [if_neg (by omega), Nat.max_eq_left (by omega)]
theorem ok_least_times (e : Env K mg) : FnOk P w K mg base CX0 2 e.a_least_times e.d_least_times ["takes", "fills"] (sp_least_times K) := by
  refine e.f_least_times.ok sc_least_times (fun vs H Q E h => ?_) (fun cdv A outer s H vs Q E hr h => ?_)
  · obtain ⟨a, b, tk, fs, rfl, _⟩ := h; rfl
  · obtain ⟨a, b, tk, fs, rfl, hE, hF, pl, p, k⟩ := h
    have nd := pl.nd
    have le := pl.le
    have fl := p.length_eq
    refine ⟨_, (pss_cons (ps_set (i := 2) sc_least_times.nd rfl (by first | exact Or.inl rfl | exact Or.inr rfl) (pe_call ((ok_numbers_by_place e).mono (by decide)) hr rfl e.g_numbers_by_place e.f_numbers_by_place.kp e.b_numbers_by_place .nil pass0 (pa_cons (pv 0) pa_nil)))
      (pss_cons (ps_set (i := 3) sc_least_times.nd rfl (by first | exact Or.inl rfl | exact Or.inr rfl) (pe_lst pa_nil))
      (pss_cons (ps_set (i := 4) sc_least_times.nd rfl (by first | exact Or.inl rfl | exact Or.inr rfl) pe_int)
      (pss_cons (ps_for PassesOwn.never rfl (PI.or (pi_list (pv 1)) (pi_tup (pv 1))) (pg_name (i := 5) sc_least_times.nd rfl (by first | exact Or.inl rfl | exact Or.inr rfl))
      (pss_cons (ps_set (i := 4) sc_least_times.nd rfl (by first | exact Or.inl rfl | exact Or.inr rfl) (pe_callB (call_max2 rfl) (by rfl) e.n_max (by decide +kernel) (pa_cons (pv 4) (pa_cons (pe_op op_add (pe_dget (u1 hr) (pv 2) (pv 5) (fun _ _ => rfl)) pe_int) pa_nil))))
      (pss_one (ps_expr (pe_bm PySem.F.plainAttrs_list PySem.F.slot_list_append PySem.F.type_list_append mt_append (pv 3) (pa_cons (pv 4) pa_nil))))))
      (pss_one (ps_ret (pv 3))))))), ?_⟩
    refine ⟨_, rfl, a, tk, rfl, hE, pl, fun H1 d s1 nd1 hd => ?_⟩
    refine ⟨by decide, fun tp htp => ?_⟩
    have st := same_upd (o := HO.lst []) htp
    have t0 : H tp = none := s1.free htp
    refine or_E2 (hF.same s1) st rfl fun J G wk hG => ?_
    refine for_it wk (fun i σ H2 => ∃ v5 : Option V, Same H1 H2 ∧ H2 tp = some (.lst (natV ((List.range i).map (lo tk fs)))) ∧ σ = [some (.ref a), some (.ref b), some (.ref d), some (.ref tp), some (.int (loL tk (fs.take i) : Nat)), v5])
      ⟨none, st, upd_same, rfl⟩ (fun i σ H2 _ ⟨_, s, _⟩ => hG _ s) ?_ ?_
    · rintro i x σ H2 H3 hi ⟨v5, s2, h2, rfl⟩ ⟨rfl, hx⟩
      rw [List.length_map] at hi
      obtain ⟨n, hn, rfl⟩ := at_int hx
      have mn := p.subset (List.mem_of_getElem? hn)
      have e : lo tk fs i = max (loL tk (fs.take i)) (ix tk n + 1) := by unfold lo; rw [take_snoc hn, loL_snoc]
      refine ⟨_, rfl, _, rfl, _, rfl, d, _, rfl, nm_get (.inl (s2 _ _ hd)) nd mn, _, _, rfl, rfl, _, _, rfl, ?_⟩
      have e2 := int_max (loL tk (fs.take i)) (ix tk n + 1)
      rw [← e] at e2
      rw [show (((ix tk n : Nat) : Int) + 1) = ((ix tk n + 1 : Nat) : Int) by omega, show V.int (if ((ix tk n + 1 : Nat) : Int) > (loL tk (fs.take i) : Nat) then ((ix tk n + 1 : Nat) : Int) else (loL tk (fs.take i) : Nat)) = V.int (lo tk fs i : Nat) by rw [← e2]; split <;> rfl]
      refine ⟨_, rfl, .inl ⟨rfl, _, SqL.of h2⟩, _, rfl, tp, _, _, rfl, rfl, h2, by rw [natV_len, List.length_map, List.length_range]; exact small1000 (by omega), some (.int n), ?_, ?_, ?_⟩
      · intro c o hc; rw [upd_ne (ne_of_none hc htp)]; exact s2 _ _ hc
      · rw [upd_same, los_snoc, natV_snoc]
      · rfl
    · rintro σ H2 ⟨v5, s2, h2, rfl⟩
      rw [List.length_map] at h2
      exact ⟨_, rfl, k _ tp (s1.trans s2) t0 h2⟩

/-- the smaller places of a list, by their takes -/
def lessC (tk : List Int) (p : Int) (l : List Int) : List Int := (l.filter fun q => decide (q < p)).map fun c => ((ix tk c : Nat) : Int)
theorem lessC_snoc (tk : List Int) (p : Int) {l : List Int} {j : Nat} {c : Int} (h : l[j]? = some c) : lessC tk p (l.take (j + 1)) = lessC tk p (l.take j) ++ if c < p then [((ix tk c : Nat) : Int)] else [] := by
  unfold lessC
  rw [take_snoc h, List.filter_append, List.map_append]
  congr 1
  by_cases q : c < p
  · rw [if_pos q, List.filter_cons, if_pos (decide_eq_true q)]; rfl
  · rw [if_neg q, List.filter_cons, if_neg (by rw [decide_eq_false q]; exact Bool.false_ne_true)]; rfl
theorem lessC_len (tk : List Int) (p : Int) (l : List Int) : (lessC tk p l).length ≤ l.length := by
  unfold lessC; rw [List.length_map]; exact List.length_filter_le _ _
/-- the least of the bound behind and the smaller places' takes -/
theorem hiL_least {tk r l : List Int} {p m : Int} (hl : ∀ x, x ∈ l ↔ x ∈ r) (hm : m ∈ [((hiL tk r : Nat) : Int)] ++ lessC tk p l) (hmin : ∀ y ∈ [((hiL tk r : Nat) : Int)] ++ lessC tk p l, m ≤ y) : m = ((hiL tk (p :: r) : Nat) : Int) := by
  have e : hiL tk (p :: r) = min (hi1 tk p r) (hiL tk r) := rfl
  obtain ⟨h1, h2, h3⟩ := hi1_ok tk p r
  have h4 := (hiL_ok tk r).2.1
  have m1 := hmin _ (List.mem_append_left _ (List.mem_singleton.mpr rfl))
  have mem : ∀ q ∈ r, q < p → m ≤ (ix tk q : Nat) := fun q hq hp => hmin _ (List.mem_append_right _ (List.mem_map.mpr ⟨q, List.mem_filter.mpr ⟨(hl q).mpr hq, decide_eq_true hp⟩, rfl⟩))
  have m2 : m ≤ (hi1 tk p r : Nat) := by
    rcases h1 with q | ⟨q, hq, hp, q2⟩
    · rw [q]; omega
    · rw [q2]; exact mem q hq hp
  rw [e]
  rcases List.mem_append.mp hm with q | q
  · rw [List.mem_singleton] at q; subst q
    have : hiL tk r ≤ hi1 tk p r := by omega
    rw [Nat.min_eq_right this]
  · obtain ⟨c, hc, rfl⟩ := List.mem_map.mp q
    obtain ⟨c1, c2⟩ := List.mem_filter.mp hc
    have := h3 c ((hl c).mp c1) (of_decide_eq_true c2)
    have m3 : ((ix tk c : Nat) : Int) ≤ (hi1 tk p r : Nat) := m2
    have m4 : ((ix tk c : Nat) : Int) ≤ (hiL tk r : Nat) := m1
    have e1 : ix tk c = hi1 tk p r := by omega
    have e2 : hi1 tk p r ≤ hiL tk r := by omega
    rw [Nat.min_eq_left e2, e1]
theorem his_rev (tk fs : List Int) : ((List.range fs.length).map fun m => hi tk fs (fs.length - 1 - m)).reverse = his tk fs := by
  have e := PySem.W.krv_range fs.length
  have e2 : ((List.range fs.length).map fun m => hi tk fs (fs.length - 1 - m)) = ((List.range fs.length).map fun k => fs.length - 1 - k).map (hi tk fs) := by rw [List.map_map]; rfl
  rw [e2, e, ← List.map_reverse, List.reverse_reverse]; rfl
/-- for x in xs[::-1], xs a list or a tuple -/
theorem or_rev {K : PySem.W.Frag} {H : Hp} {a : Addr} {xs : List V} {σ : L2.St} {i : Nat} {R : It → Hp → Prop} (hE : SqE K H a xs) (hv : σ[i]? = some (some (.ref a)))
    (k : ∀ (rp : Addr) (o : HO) (J : It) (G : Hp → Prop), H rp = none → Walk J xs.reverse.length G (YAt xs.reverse) → (∀ H', H' rp = some o → G H') → R J (upd H rp o)) :
    iList K (fun σ H Q => tRevL K (tVar i) σ H Q ∨ tRevT K (tVar i) σ H Q) σ H R ∨ iTup K (fun σ H Q => tRevL K (tVar i) σ H Q ∨ tRevT K (tVar i) σ H Q) σ H R := by
  rcases hE with h | h
  · exact .inl (.inl ⟨_, hv, a, xs, rfl, h, fun rp hrp => ⟨rp, rfl, ⟨_, SqL.of upd_same⟩, k rp _ _ _ hrp walk_list fun H' e => SqL.of e⟩⟩)
  · exact .inr (.inr ⟨_, hv, a, xs, rfl, h, fun rp hrp => ⟨rp, rfl, ⟨_, SqT.of upd_same⟩, k rp _ _ _ hrp walk_tup fun H' e => SqT.of e⟩⟩)
theorem ok_most_times (e : Env K mg) : FnOk P w K mg base CX0 2 e.a_most_times e.d_most_times ["takes", "fills"] (sp_most_times K) := by
  refine e.f_most_times.ok sc_most_times (fun vs H Q E h => ?_) (fun cdv A outer s H vs Q E hr h => ?_)
  · obtain ⟨a, b, tk, fs, rfl, _⟩ := h; rfl
  · obtain ⟨a, b, tk, fs, rfl, hE, hF, pl, p, k⟩ := h
    have nd := pl.nd
    have le := pl.le
    have fl := p.length_eq
    refine ⟨_, (pss_cons (ps_set (i := 2) sc_most_times.nd rfl (by first | exact Or.inl rfl | exact Or.inr rfl) (pe_call ((ok_numbers_by_place e).mono (by decide)) hr rfl e.g_numbers_by_place e.f_numbers_by_place.kp e.b_numbers_by_place .nil pass0 (pa_cons (pv 0) pa_nil)))
      (pss_cons (ps_set (i := 3) sc_most_times.nd rfl (by first | exact Or.inl rfl | exact Or.inr rfl) (pe_lst pa_nil))
      (pss_cons (ps_set (i := 4) sc_most_times.nd rfl (by first | exact Or.inl rfl | exact Or.inr rfl) (pe_callB call_len_seq (by rfl) e.n_len PySem.boot_len (pa_cons (pv 0) pa_nil)))
      (pss_cons (ps_set (i := 5) sc_most_times.nd rfl (by first | exact Or.inl rfl | exact Or.inr rfl) (pe_lst pa_nil))
      (pss_cons (ps_for PassesOwn.never rfl (PI.or (pi_list (PE.or (pe_revL (pv 1)) (LX.pe_revT (pv 1)))) (pi_tup (PE.or (pe_revL (pv 1)) (LX.pe_revT (pv 1))))) (pg_name (i := 6) sc_most_times.nd rfl (by first | exact Or.inl rfl | exact Or.inr rfl))
      (pss_cons (ps_set (i := 4) sc_most_times.nd rfl (by first | exact Or.inl rfl | exact Or.inr rfl) (pe_callB (cr_min rfl) (by rfl) e.n_min (by decide +kernel) (pa_cons (pe_op op_cat (pe_lst (pa_cons (pv 4) pa_nil)) (pe_lc (own := [("other", 7)]) rfl sc_most_times.nd (pi_list (pv 5)) (blkOk_by (N := ["takes", "fills", "taken", "times", "most", "later", "place", "other"]) (sc := defScope s_most_times) (by decide +kernel)) (fun _ _ _ _ _ => (pg_name (i := 7) sc_most_times.nd rfl (by first | exact Or.inl rfl | exact Or.inr rfl))) (fun _ _ _ _ _ => pts_one (pt_cmpR op_lt (pv 7) (pv 6) (nomark _))) (fun _ _ _ _ _ => (pe_dget (u1 hr) (pv 2) (pv 7) (fun _ _ => rfl))))) pa_nil)))
      (pss_cons (ps_expr (pe_bm PySem.F.plainAttrs_list PySem.F.slot_list_append PySem.F.type_list_append mt_append (pv 3) (pa_cons (pv 4) pa_nil)))
      (pss_one (ps_expr (pe_bm PySem.F.plainAttrs_list PySem.F.slot_list_append PySem.F.type_list_append mt_append (pv 5) (pa_cons (pv 6) pa_nil)))))))
      (pss_cons (ps_expr (pe_bm0 PySem.F.plainAttrs_list PySem.F.slot_list_reverse PySem.F.type_list_reverse mt_reverse (pv 3)))
      (pss_one (ps_ret (pv 3))))))))), ?_⟩
    refine ⟨_, rfl, a, tk, rfl, hE, pl, fun H1 d s1 nd1 hd => ?_⟩
    refine ⟨by decide, fun tp htp => ?_⟩
    have st := same_upd (o := HO.lst []) htp
    have t0 : H tp = none := s1.free htp
    have hE2 := hE.same (s1.trans st)
    refine ⟨_, rfl, a, _, rfl, hE2, ?_⟩
    rw [List.length_map]
    refine ⟨by decide, fun lp hlp => ?_⟩
    have sl := same_upd (o := HO.lst []) hlp
    have l0 : H1 lp = none := st.free hlp
    have nlt : lp ≠ tp := (ne_of_none upd_same hlp).symm
    have s2 := st.trans sl
    have h2t : (upd (upd H1 tp (.lst [])) lp (.lst [])) tp = some (.lst []) := sl _ _ upd_same
    have h2l : (upd (upd H1 tp (.lst [])) lp (.lst [])) lp = some (.lst []) := upd_same
    generalize upd (upd H1 tp (.lst [])) lp (.lst []) = H2 at s2 h2t h2l
    have l1 : H lp = none := s1.free l0
    have hF2 := hF.same (s1.trans s2)
    have hd2 := s2 _ _ hd
    refine or_rev hF2 rfl fun rp o J G hrp wk hG => ?_
    rw [← List.map_reverse] at wk
    have sr := same_upd (o := o) hrp
    have nrt : rp ≠ tp := (ne_of_none h2t hrp).symm
    have nrl : rp ≠ lp := (ne_of_none h2l hrp).symm
    have hr3 : (upd H2 rp o) rp = some o := upd_same
    have h3t := sr _ _ h2t
    have h3l := sr _ _ h2l
    have hd3 := sr _ _ hd2
    have s3 := s2.trans sr
    generalize upd H2 rp o = H3 at sr hr3 h3t h3l hd3 s3
    refine for_it wk (fun i σ H4 => ∃ v6 v7 : Option V, (∀ c u, H1 c = some u → H4 c = some u) ∧ H4 rp = some o ∧ H4 tp = some (.lst (natV ((List.range i).map fun m => hi tk fs (fs.length - 1 - m)))) ∧ H4 lp = some (.lst ((fs.reverse.take i).map V.int)) ∧
        σ = [some (.ref a), some (.ref b), some (.ref d), some (.ref tp), some (.int (hiL tk (fs.drop (fs.length - i)) : Nat)), some (.ref lp), v6, v7])
      ⟨none, none, s3, hr3, h3t, h3l, by rw [Nat.sub_zero, List.drop_length]; rfl⟩ (fun i σ H4 _ ⟨_, _, _, h, _⟩ => hG _ h) ?_ ?_
    · rintro i x σ Hq H4 hil ⟨v6, v7, s4, h4r, h4t, h4l, rfl⟩ ⟨rfl, hx⟩
      rw [List.length_map, List.length_reverse] at hil
      obtain ⟨n, hn, rfl⟩ := at_int hx
      have mn := p.subset (List.mem_reverse.mp (List.mem_of_getElem? hn))
      have hdr : fs.drop (fs.length - (i + 1)) = n :: fs.drop (fs.length - i) := by
        have e : fs[fs.length - 1 - i]? = some n := by
          rw [List.getElem?_reverse hil] at hn; exact hn
        rw [show fs.length - 1 - i = fs.length - (i + 1) by omega] at e
        obtain ⟨g1, g2⟩ := List.getElem?_eq_some_iff.mp e
        have e2 := List.drop_eq_getElem_cons (l := fs) (i := fs.length - (i + 1)) (by omega)
        rw [show fs.length - (i + 1) + 1 = fs.length - i by omega] at e2
        rw [e2, g2]
      have hl : ∀ x, x ∈ fs.reverse.take i ↔ x ∈ fs.drop (fs.length - i) := fun x => by
        rw [List.take_reverse, List.mem_reverse]
      have ll : (fs.reverse.take i).length = i := by rw [List.length_take, List.length_reverse]; omega
      have hd4 := s4 _ _ hd
      refine ⟨_, rfl, (by show 1 ≤ sizeLine; decide), fun q1 hq1 => ?_⟩
      have sq1 := same_upd (o := HO.lst [V.int (hiL tk (fs.drop (fs.length - i)) : Nat)]) hq1
      refine ⟨_, rfl, lp, rfl, ⟨_, SqL.of (sq1 _ _ h4l)⟩, fun D hD => ?_⟩
      have sD := fun o => same_upd (o := o) hD
      refine lc_it walk_list (fun j H' => H' = upd (upd H4 q1 (.lst [V.int (hiL tk (fs.drop (fs.length - i)) : Nat)])) D (.lst ((lessC tk n ((fs.reverse.take i).take j)).map V.int))) rfl (fun j H' _ e => by subst e; exact SqL.of (sD _ _ _ (sq1 _ _ h4l))) ?_ ?_
      · rintro j x H6 H7 hj rfl ⟨rfl, hx⟩
        rw [List.length_map, ll] at hj
        obtain ⟨c, hc, rfl⟩ := at_int hx
        have mc := p.subset (List.mem_reverse.mp (List.mem_of_mem_take (List.mem_of_getElem? hc)))
        refine ⟨rfl, _, rfl, _, rfl, _, _, rfl, rfl, _, rfl, ite2d (fun q => ?_) fun q => ?_⟩
        · refine ⟨_, rfl, _, rfl, d, _, rfl, nm_get (.inl (sD _ _ _ (sq1 _ _ hd4))) nd mc, _, upd_same, ?_, ?_⟩
          · rw [List.length_map]
            have := lessC_len tk n ((fs.reverse.take i).take j)
            rw [List.length_take, ll] at this
            exact small1000 (by omega)
          · rw [upd_upd, lessC_snoc tk n hc, if_pos q, List.map_append]; rfl
        · rw [lessC_snoc tk n hc, if_neg q, List.append_nil]
      · rintro H6 rfl
        rw [List.length_map, List.take_length]
        have cl := lessC_len tk n (fs.reverse.take i)
        refine ⟨q1, D, _, _, rfl, rfl, sD _ _ _ upd_same, upd_same, by
          show [V.int (hiL tk (fs.drop (fs.length - i)) : Nat)].length + _ ≤ _
          rw [List.length_map]; exact Nat.le_of_lt (small1000 (by show 1 + _ ≤ 1000; omega)), fun z hz => ?_⟩
        have sz := same_upd (o := HO.lst ([V.int (hiL tk (fs.drop (fs.length - i)) : Nat)] ++ (lessC tk n (fs.reverse.take i)).map V.int)) hz
        refine ⟨z, [((hiL tk (fs.drop (fs.length - i)) : Nat) : Int)] ++ lessC tk n (fs.reverse.take i), rfl, SqL.of (by rw [upd_same, List.map_append]; rfl), by simp, fun m hm hmin => ?_⟩
        have em := hiL_least hl hm hmin
        rw [← hdr] at em
        subst em
        have hall : ∀ c u, H4 c = some u → (upd (upd (upd H4 q1 (.lst [V.int (hiL tk (fs.drop (fs.length - i)) : Nat)])) D (.lst ((lessC tk n (fs.reverse.take i)).map V.int))) z (.lst ([V.int (hiL tk (fs.drop (fs.length - i)) : Nat)] ++ (lessC tk n (fs.reverse.take i)).map V.int))) c = some u := fun c u e => sz _ _ (sD _ _ _ (sq1 _ _ e))
        generalize upd (upd (upd H4 q1 (.lst [V.int (hiL tk (fs.drop (fs.length - i)) : Nat)])) D (.lst ((lessC tk n (fs.reverse.take i)).map V.int))) z (.lst ([V.int (hiL tk (fs.drop (fs.length - i)) : Nat)] ++ (lessC tk n (fs.reverse.take i)).map V.int)) = H8 at hall
        refine ⟨_, rfl, .inl ⟨rfl, _, SqL.of (hall _ _ h4t)⟩, _, rfl, tp, _, _, rfl, rfl, hall _ _ h4t, by rw [natV_len, List.length_map, List.length_range]; exact small1000 (by omega), ?_⟩
        have h8l : (upd H8 tp (.lst (natV ((List.range i).map fun m => hi tk fs (fs.length - 1 - m)) ++ [V.int (hiL tk (fs.drop (fs.length - (i + 1))) : Nat)]))) lp = some (.lst ((fs.reverse.take i).map V.int)) := by rw [upd_ne nlt]; exact hall _ _ h4l
        refine ⟨_, rfl, .inl ⟨rfl, _, SqL.of h8l⟩, _, rfl, lp, _, _, rfl, rfl, h8l, by rw [List.length_map, ll]; exact small1000 (by omega), some (.int n), v7, ?_, ?_, ?_, ?_, rfl⟩
        · intro c u e
          rw [upd_ne (ne_of_none e l0), upd_ne (ne_of_none e htp)]
          exact hall _ _ (s4 _ _ e)
        · rw [upd_ne nrl, upd_ne nrt]; exact hall _ _ h4r
        · rw [upd_ne nlt.symm, upd_same, List.range_succ, List.map_append, List.map_singleton, natV_snoc]
          show _ = some (HO.lst (_ ++ [V.int (hi tk fs (fs.length - 1 - i) : Nat)]))
          have e : hi tk fs (fs.length - 1 - i) = hiL tk (fs.drop (fs.length - (i + 1))) := by
            unfold hi; rw [show fs.length - 1 - i = fs.length - (i + 1) by omega]
          rw [e]
        · rw [upd_same, take_snoc hn, List.map_append]; rfl
    · rintro σ H4 ⟨v6, v7, s4, h4r, h4t, h4l, rfl⟩
      rw [List.length_map, List.length_reverse] at h4t
      refine ⟨_, rfl, .inl ⟨rfl, _, SqL.of h4t⟩, tp, _, rfl, rfl, h4t, ?_⟩
      refine ⟨_, rfl, k _ tp ?_ t0 ?_⟩
      · intro c u e
        have e1 := s1 _ _ e
        rw [upd_ne (ne_of_none e t0)]
        exact s4 _ _ e1
      · rw [upd_same]
        have e : (natV ((List.range fs.length).map fun m => hi tk fs (fs.length - 1 - m))).reverse = natV (his tk fs) := by
          unfold natV
          rw [← List.map_reverse, his_rev]
        rw [e]
theorem ok_check_possible (e : Env K mg) : FnOk P w K mg base CX0 7 e.a_check_possible e.d_check_possible ["takes", "fills"] (sp_check_possible K) := by
  refine e.f_check_possible.ok sc_check_possible (fun vs H Q E h => ?_) (fun cdv A outer s H vs Q E hr h => ?_)
  · obtain ⟨a, b, tk, fs, rfl, _⟩ := h; rfl
  · obtain ⟨a, b, tk, fs, rfl, hE, hF, pl, p, no, k⟩ := h
    refine ⟨_, (pss_cons (ps_set (i := 2) sc_check_possible.nd rfl (by first | exact Or.inl rfl | exact Or.inr rfl) (pe_call ((ok_obstruction e).mono (by decide)) hr rfl e.g_obstruction e.f_obstruction.kp e.b_obstruction .nil pass0 (pa_cons (pv 0) (pa_cons (pv 1) pa_nil))))
      (pss_one (ps_if (pt_cmpR op_notN (pv 2) pe_non (nomark _))
        (pss_one ps_never)
        pss_nil))), ?_⟩
    refine ⟨_, rfl, _, rfl, a, b, tk, fs, rfl, hE, hF, pl, p, no, fun H1 s1 => ?_⟩
    exact ⟨_, rfl, rfl, _, rfl, iteNS rfl (k _ s1)⟩
theorem los_len (tk fs : List Int) : (los tk fs).length = fs.length := by unfold los; rw [List.length_map, List.length_range]
theorem his_len (tk fs : List Int) : (his tk fs).length = fs.length := by unfold his; rw [List.length_map, List.length_range]
theorem bnds_len (tk fs : List Int) : (bnds tk fs).length = fs.length := by unfold bnds; rw [List.length_zip, los_len, his_len, Nat.min_self]
theorem natV_at {l : List Nat} {i : Nat} {x : Nat} (h : l[i]? = some x) : (natV l)[i]? = some (V.int (x : Nat)) := by unfold natV; rw [List.getElem?_map, h]; rfl
theorem prs_zd {H1 H2 : Hp} {p : Addr} {tk fs : List Int} {Us : List Addr} (h : H2 p = some (.lst (Us.map V.ref))) (hl : Us.length = (natV (los tk fs)).length) (z : Zd H1 H2 (natV (los tk fs)) (natV (his tk fs)) Us) : Prs H2 p (bnds tk fs) Us := by
  refine ⟨h, by rw [hl, natV_len, los_len, bnds_len], fun i T x hT hx => ?_⟩
  obtain ⟨h1, h2⟩ := List.getElem?_zip_eq_some.mp hx
  exact (z i T _ _ hT (natV_at h1) (natV_at h2)).2
theorem ok_time_bounds (e : Env K mg) : FnOk P w K mg base CX0 8 e.a_time_bounds e.d_time_bounds ["takes", "fills"] (sp_time_bounds K) := by
  refine e.f_time_bounds.ok sc_time_bounds (fun vs H Q E h => ?_) (fun cdv A outer s H vs Q E hr h => ?_)
  · obtain ⟨a, b, tk, fs, rfl, _⟩ := h; rfl
  · obtain ⟨a, b, tk, fs, rfl, hE, hF, pl, p, no, k⟩ := h
    have le := pl.le
    have fl := p.length_eq
    refine ⟨_, (pss_cons (ps_expr (pe_call ((ok_check_possible e).mono (by decide)) hr rfl e.g_check_possible e.f_check_possible.kp e.b_check_possible .nil pass0 (pa_cons (pv 0) (pa_cons (pv 1) pa_nil))))
      (pss_one (ps_ret (LX.pe_listZip rfl (by rfl) e.n_list (by rfl) e.n_zip (pa_cons (pe_call ((ok_least_times e).mono (by decide)) hr rfl e.g_least_times e.f_least_times.kp e.b_least_times .nil pass0 (pa_cons (pv 0) (pa_cons (pv 1) pa_nil))) (pa_cons (pe_call ((ok_most_times e).mono (by decide)) hr rfl e.g_most_times e.f_most_times.kp e.b_most_times .nil pass0 (pa_cons (pv 0) (pa_cons (pv 1) pa_nil))) pa_nil)))))), ?_⟩
    refine ⟨_, rfl, _, rfl, a, b, tk, fs, rfl, hE, hF, pl, p, no, fun H1 s1 => ?_⟩
    refine ⟨_, rfl, _, rfl, a, b, tk, fs, rfl, hE.same s1, hF.same s1, pl, p, fun H2 x s2 nx hx => ?_⟩
    have t2 := s1.trans s2
    refine ⟨_, rfl, _, rfl, a, b, tk, fs, rfl, hE.same t2, hF.same t2, pl, p, fun H3 y s3 ny hy => ?_⟩
    have t3 := t2.trans s3
    refine ⟨x, y, _, _, rfl, SqL.of (s3 _ _ hx), SqL.of hy, by rw [natV_len, natV_len, los_len, his_len], by rw [natV_len, los_len]; omega, fun H4 q Us s4 nq hq hl zd => ?_⟩
    exact k H4 q Us (t3.trans s4) (t3.free nq) (prs_zd hq hl zd)
end
end LP

namespace LP
open PySem L2 LT LG LQ LH LC LX
section
variable {P : Program} {w : World} {K : PySem.W.Frag} {mg : Str → Option Value} {base : Heap}
theorem ok__law_times (e : Env K mg) : FnOk P w K mg base CX0 1 e.a__law_times e.d__law_times ["pattern"] (sp__law_times) := by
  refine e.f__law_times.ok sc__law_times (fun vs H Q E h => ?_) (fun cdv A outer s H vs Q E hr h => ?_)
  · obtain ⟨l, rfl, _⟩ := h; rfl
  · obtain ⟨l, rfl, hle, k⟩ := h
    refine ⟨_, (pss_cons (ps_par (i := 1) (j := 2) (by rfl) sc__law_times.nd rfl rfl (by decide) rfl rfl (pa_cons (pe_lst pa_nil) (pa_cons pe_int pa_nil)) (by rfl))
      (pss_cons (ps_for PassesOwn.never rfl (pi_str (pv 0)) (pg_name (i := 3) sc__law_times.nd rfl (by first | exact Or.inl rfl | exact Or.inr rfl))
      (pss_one (ps_if (pt_cmpR op_eq (pv 3) pe_str (nomark _))
        (pss_one (ps_set (i := 2) sc__law_times.nd rfl (by first | exact Or.inl rfl | exact Or.inr rfl) (pe_op op_add (pv 2) pe_int)))
        (pss_one (ps_expr (pe_bm PySem.F.plainAttrs_list PySem.F.slot_list_append PySem.F.type_list_append mt_append (pv 1) (pa_cons (pv 2) pa_nil)))))))
      (pss_one (ps_ret (pv 1))))), ?_⟩
    refine ⟨by decide, fun p hp => ⟨_, _, rfl, ?_⟩⟩
    refine ⟨_, rfl, _, rfl, for_it walk_str (fun i σ H1 => Same H H1 ∧ H1 p = some (.lst ((times (l.take i)).map fun t : Nat => V.int t)) ∧ ∃ v3 : Option V, σ = [some (.str (pstr l)), some (.ref p), some (.int (tks (l.take i) : Nat)), v3]) ⟨same_upd hp, upd_same, none, rfl⟩ (fun _ _ _ _ _ => trivial) ?_ ?_⟩
    · rintro i x σ H1 H2 hi ⟨s1, h1, v3, rfl⟩ ⟨rfl, c, hc, rfl⟩
      obtain ⟨b, hb, rfl⟩ := pstr_at hc
      cases b with
      | true =>
        refine ⟨_, rfl, rfl, _, rfl, iteD vsT ?_⟩
        refine ⟨_, rfl, _, _, rfl, rfl, s1, ?_, some (.str ⟨#[sgn true]⟩), ?_⟩
        · rw [take_snoc hb, times_t]; exact h1
        · rw [take_snoc hb, tks_t]; rfl
      | false =>
        refine ⟨_, rfl, rfl, _, rfl, iteX vsR ?_⟩
        have hl : (times (l.take i)).length ≤ 200 := by rw [times_len]; have := fls_take l i; omega
        refine ⟨_, rfl, .inl ⟨rfl, _, SqL.of h1⟩, _, rfl, p, _, _, rfl, rfl, h1, by rw [List.length_map]; exact small1000 (by omega), ?_, ?_, some (.str ⟨#[sgn false]⟩), ?_⟩
        · intro b o hb; rw [upd_ne (ne_of_none hb hp)]; exact s1 _ _ hb
        · rw [upd_same, take_snoc hb, times_f, List.map_append]; rfl
        · rw [take_snoc hb, tks_f]; rfl
    · rintro σ H1 ⟨s1, h1, v3, rfl⟩
      rw [pstr_size, List.take_length] at h1
      exact ⟨_, rfl, k _ p s1 hp h1⟩

theorem cut_to (xs : List V) (i : Nat) : cutV xs none (some (i : Int)) = xs.take i := by
  unfold cutV
  rw [HT.sIx_none, HT.sIx_nat, List.drop_zero, Nat.sub_zero]
  by_cases h : i ≤ xs.length
  · rw [Nat.min_eq_left h]
  · rw [Nat.min_eq_right (by omega), List.take_length, List.take_of_length_le (by omega)]
theorem cut_from (xs : List V) (i : Nat) : cutV xs (some (i : Int)) none = xs.drop i := by
  unfold cutV
  rw [HT.sIx_none, HT.sIx_nat]
  by_cases h : i ≤ xs.length
  · rw [Nat.min_eq_left h, List.take_of_length_le (by rw [List.length_drop]; omega)]
  · rw [Nat.min_eq_right (by omega), Nat.sub_self, List.take_zero, List.drop_of_length_le (by omega)]
theorem merge_num {ns : List Int} (nd : ns.Nodup) : mergeK [] (numK ns) = numK ns := by
  have key : ∀ i, i ≤ ns.length → mergeK [] (numK (ns.take i)) = numK (ns.take i) := by
    intro i
    induction i with
    | zero => intro _; rfl
    | succ i ih =>
      intro hi
      have hx := List.getElem?_eq_getElem (l := ns) (i := i) (by omega)
      have hn := not_take nd hx (Nat.le_refl i)
      rw [take_snoc hx]
      have e := numK_put hn
      have l : (ns.take i).length = i := by rw [List.length_take]; omega
      conv => lhs; rw [numK_snoc]
      unfold mergeK
      rw [List.foldl_append]
      have z := ih (by omega)
      unfold mergeK at z
      rw [z]
      exact e
  have := key ns.length (Nat.le_refl _)
  rwa [List.take_length] at this
/-- the raw bounds of each fill -/
def rawL (tk fs : List Int) : List (Nat × Nat) := (List.range fs.length).map fun i => (ix tk (fs.getD i 0) + 1, hi1 tk (fs.getD i 0) (fs.drop (i + 1)))
theorem raw_snoc (tk fs : List Int) {i : Nat} {n : Int} (h : fs[i]? = some n) : (List.range (i + 1)).map (fun i => (ix tk (fs.getD i 0) + 1, hi1 tk (fs.getD i 0) (fs.drop (i + 1)))) = (List.range i).map (fun i => (ix tk (fs.getD i 0) + 1, hi1 tk (fs.getD i 0) (fs.drop (i + 1)))) ++ [(ix tk n + 1, hi1 tk n (fs.drop (i + 1)))] := by
  rw [List.range_succ, List.map_append, List.map_singleton, List.getD_eq_getElem?_getD, h]; rfl
theorem raw_at {tk fs : List Int} {i : Nat} {x : Nat × Nat} (h : (rawL tk fs)[i]? = some x) : ∃ n, fs[i]? = some n ∧ x = (ix tk n + 1, hi1 tk n (fs.drop (i + 1))) := by
  unfold rawL at h
  rw [List.getElem?_map] at h
  cases q : (List.range fs.length)[i]? with
  | none => rw [q] at h; cases h
  | some j =>
    rw [q] at h
    obtain ⟨h1, h2⟩ := List.getElem?_eq_some_iff.mp q
    rw [List.getElem_range] at h2
    subst h2
    rw [List.length_range] at h1
    have e := List.getElem?_eq_getElem (l := fs) h1
    refine ⟨_, e, ?_⟩
    cases h
    show ((ix tk (fs.getD i 0) + 1, hi1 tk (fs.getD i 0) (fs.drop (i + 1))) : Nat × Nat) = _
    rw [List.getD_eq_getElem?_getD, e]; rfl
theorem hi1_least {tk l : List Int} {p m : Int} (hm : m ∈ lessC tk p l ++ [((tk.length : Nat) : Int)]) (hmin : ∀ y ∈ lessC tk p l ++ [((tk.length : Nat) : Int)], m ≤ y) : m = ((hi1 tk p l : Nat) : Int) := by
  obtain ⟨h1, h2, h3⟩ := hi1_ok tk p l
  have m1 := hmin _ (List.mem_append_right _ (List.mem_singleton.mpr rfl))
  have mem : ∀ q ∈ l, q < p → m ≤ (ix tk q : Nat) := fun q hq hp => hmin _ (List.mem_append_left _ (List.mem_map.mpr ⟨q, List.mem_filter.mpr ⟨hq, decide_eq_true hp⟩, rfl⟩))
  have m2 : m ≤ (hi1 tk p l : Nat) := by
    rcases h1 with q | ⟨q, hq, hp, q2⟩
    · rw [q]; exact m1
    · rw [q2]; exact mem q hq hp
  refine Int.le_antisymm m2 ?_
  rcases List.mem_append.mp hm with q | q
  · obtain ⟨c, hc, rfl⟩ := List.mem_map.mp q
    obtain ⟨c1, c2⟩ := List.mem_filter.mp hc
    have := h3 c c1 (of_decide_eq_true c2)
    exact Int.ofNat_le.mpr this
  · rw [List.mem_singleton] at q; subst q
    exact Int.ofNat_le.mpr h2
def lowsI (ps : List (Nat × Nat)) : List Int := ps.map fun x => ((x.1 : Nat) : Int)
def highsI (ps : List (Nat × Nat)) : List Int := ps.map fun x => ((x.2 : Nat) : Int)
theorem lo_most {tk fs : List Int} {i : Nat} {m : Int} (hm : m ∈ lowsI ((rawL tk fs).take (i + 1))) (hmax : ∀ y ∈ lowsI ((rawL tk fs).take (i + 1)), y ≤ m) : m = ((lo tk fs i : Nat) : Int) := by
  obtain ⟨x, hx, rfl⟩ := List.mem_map.mp hm
  obtain ⟨j, hj, e⟩ := List.mem_take_iff_getElem.mp hx
  obtain ⟨n, hn, rfl⟩ := raw_at (show (rawL tk fs)[j]? = some x by rw [List.getElem?_eq_getElem (by omega), e])
  congr 1
  show ix tk n + 1 = loL tk (fs.take (i + 1))
  obtain ⟨j2, en⟩ := List.getElem?_eq_some_iff.mp hn
  refine loL_eq ⟨n, List.mem_take_iff_getElem.mpr ⟨j, by omega, en⟩, rfl⟩ fun p hp => ?_
  obtain ⟨k, hk, ek⟩ := List.mem_take_iff_getElem.mp hp
  have h1 : (rawL tk fs)[k]? = some (ix tk p + 1, hi1 tk p (fs.drop (k + 1))) := by
    unfold rawL
    rw [List.getElem?_map, List.getElem?_range (by omega)]
    show some ((ix tk (fs.getD k 0) + 1, hi1 tk (fs.getD k 0) (fs.drop (k + 1))) : Nat × Nat) = _
    rw [List.getD_eq_getElem?_getD, List.getElem?_eq_getElem (by omega), ek]; rfl
  obtain ⟨k2, e2⟩ := List.getElem?_eq_some_iff.mp h1
  have := hmax _ (List.mem_map.mpr ⟨_, List.mem_take_iff_getElem.mpr ⟨k, by omega, e2⟩, rfl⟩)
  have z : (((ix tk p + 1 : Nat) : Int)) ≤ ((ix tk n + 1 : Nat) : Int) := this
  omega
theorem hi_least {tk fs : List Int} {i : Nat} {m : Int} (hm : m ∈ highsI ((rawL tk fs).drop i)) (hmin : ∀ y ∈ highsI ((rawL tk fs).drop i), m ≤ y) : m = ((hi tk fs i : Nat) : Int) := by
  obtain ⟨h1, h2, h3⟩ := hiL_ok tk (fs.drop i)
  obtain ⟨x, hx, rfl⟩ := List.mem_map.mp hm
  obtain ⟨j, e⟩ := List.mem_iff_getElem?.mp hx
  rw [List.getElem?_drop] at e
  obtain ⟨n, hn, rfl⟩ := raw_at e
  have e2 : (fs.drop i)[j]? = some n := by rw [List.getElem?_drop]; exact hn
  have u := h3 j n e2
  rw [List.drop_drop, show i + (j + 1) = i + j + 1 by omega] at u
  have l : hi1 tk n (fs.drop (i + j + 1)) ≤ hiL tk (fs.drop i) := by
    rcases h1 with q | ⟨k, p, q1, q2⟩
    · rw [q]; exact (hi1_ok tk _ _).2.1
    · rw [q2]
      rw [List.getElem?_drop] at q1
      obtain ⟨g1, g2⟩ := List.getElem?_eq_some_iff.mp q1
      have h4 : (rawL tk fs)[i + k]? = some (ix tk p + 1, hi1 tk p (fs.drop (i + k + 1))) := by
        unfold rawL
        rw [List.getElem?_map, List.getElem?_range g1]
        show some ((ix tk (fs.getD (i + k) 0) + 1, hi1 tk (fs.getD (i + k) 0) (fs.drop (i + k + 1))) : Nat × Nat) = _
        rw [List.getD_eq_getElem?_getD, q1]; rfl
      have h5 : ((rawL tk fs).drop i)[k]? = some (ix tk p + 1, hi1 tk p (fs.drop (i + k + 1))) := by rw [List.getElem?_drop]; exact h4
      have := hmin _ (List.mem_map.mpr ⟨_, List.mem_of_getElem? h5, rfl⟩)
      rw [List.drop_drop, show i + (k + 1) = i + k + 1 by omega]
      have z : ((hi1 tk n (fs.drop (i + j + 1)) : Nat) : Int) ≤ ((hi1 tk p (fs.drop (i + k + 1)) : Nat) : Int) := this
      omega
  show ((hi1 tk n (fs.drop (i + j + 1)) : Nat) : Int) = (hiL tk (fs.drop i) : Nat)
  omega
theorem raw_len (tk fs : List Int) : (rawL tk fs).length = fs.length := by unfold rawL; rw [List.length_map, List.length_range]
end
end LP

namespace LP
open PySem L2 LT LG LQ LH LC LX
section
variable {P : Program} {w : World} {K : PySem.W.Frag} {mg : Str → Option Value} {base : Heap}
theorem at_ref {as : List Addr} {j : Nat} {v : V} (h : (as.map V.ref)[j]? = some v) : ∃ a, as[j]? = some a ∧ v = .ref a := by
  rw [List.getElem?_map] at h
  cases q : as[j]? with
  | none => rw [q] at h; cases h
  | some x => rw [q] at h; cases h; exact ⟨x, rfl, rfl⟩
/-- pairs that stand at these places -/
def PAt (H : Hp) (Ts : List Addr) (ps : List (Nat × Nat)) : Prop := Ts.length = ps.length ∧ ∀ (i : Nat) T x, Ts[i]? = some T → ps[i]? = some x → H T = some (.tup [V.int x.1, V.int x.2])
theorem PAt.keep {H H' : Hp} {Ts : List Addr} {ps : List (Nat × Nat)} (h : PAt H Ts ps) (s : ∀ T x, H T = some (.tup x) → H' T = some (.tup x)) : PAt H' Ts ps := ⟨h.1, fun i T x a b => s _ _ (h.2 i T x a b)⟩
theorem PAt.snoc {H : Hp} {Ts : List Addr} {ps : List (Nat × Nat)} {T : Addr} {x : Nat × Nat} (h : PAt H Ts ps) (h2 : H T = some (.tup [V.int x.1, V.int x.2])) : PAt H (Ts ++ [T]) (ps ++ [x]) := by
  have hl := h.1
  refine ⟨by rw [List.length_append, List.length_append, hl]; rfl, fun i U y e1 e2 => ?_⟩
  by_cases c : i < Ts.length
  · rw [List.getElem?_append_left c] at e1
    rw [List.getElem?_append_left (by omega)] at e2
    exact h.2 i U y e1 e2
  · rw [List.getElem?_append_right (by omega)] at e1
    rw [List.getElem?_append_right (by omega), ← hl] at e2
    cases z : i - Ts.length with
    | zero => rw [z] at e1 e2; cases e1; cases e2; exact h2
    | succ m => rw [z] at e1; simp at e1
theorem PAt.take {H : Hp} {Ts : List Addr} {ps : List (Nat × Nat)} (h : PAt H Ts ps) (i : Nat) : PAt H (Ts.take i) (ps.take i) := by
  refine ⟨by rw [List.length_take, List.length_take, h.1], fun j T x a b => ?_⟩
  rw [List.getElem?_take] at a b
  by_cases c : j < i
  · rw [if_pos c] at a b; exact h.2 j T x a b
  · rw [if_neg c] at a; cases a
theorem PAt.drop {H : Hp} {Ts : List Addr} {ps : List (Nat × Nat)} (h : PAt H Ts ps) (i : Nat) : PAt H (Ts.drop i) (ps.drop i) := by
  refine ⟨by rw [List.length_drop, List.length_drop, h.1], fun j T x a b => ?_⟩
  rw [List.getElem?_drop] at a b
  exact h.2 _ T x a b
theorem paired_of {α β : Type} {F : α → β → Prop} : ∀ {l : List α} {m : List β}, l.length = m.length → (∀ (i : Nat) a b, l[i]? = some a → m[i]? = some b → F a b) → Paired F l m
  | [], [], _, _ => .nil
  | a :: r, b :: s, h, g => .cons (g 0 a b rfl rfl) (paired_of (by simpa using h) fun i x y h1 h2 => g (i + 1) x y h1 h2)
  | [], _ :: _, h, _ => by simp at h
  | _ :: _, [], h, _ => by simp at h
theorem cut_map {α : Type} (f : α → V) (l : List α) (i : Nat) : cutV (l.map f) (some (i : Int)) none = (l.drop i).map f := by rw [cut_from, List.map_drop]
theorem ok__law_bounds (e : Env K mg) : FnOk P w K mg base CX0 1 e.a__law_bounds e.d__law_bounds ["takes", "fills"] (sp__law_bounds K) := by
  refine e.f__law_bounds.ok sc__law_bounds (fun vs H Q E h => ?_) (fun cdv A outer s H vs Q E hr h => ?_)
  · obtain ⟨a, b, tk, fs, rfl, _⟩ := h; rfl
  · obtain ⟨a, b, tk, fs, rfl, hS, hF, pl, p, k⟩ := h
    have nd := pl.nd
    have le := pl.le
    have fl := p.length_eq
    refine ⟨_, (pss_cons (ps_asg (pe_tup (pa_cons (pe_callTy (call_dictP rfl) (by rfl) e.n_dict (by decide +kernel) (pa_cons (pe_lc (own := [("at", 5), ("place", 6)]) rfl sc__law_bounds.nd (pi_enum (by rfl) e.n_enumerate (pa_cons (pv 0) pa_nil)) (blkOk_by (N := ["takes", "fills", "taken", "found", "raw", "at", "place", "less", "other", "low", "high"]) (sc := defScope s__law_bounds) (by decide +kernel)) (fun _ _ _ _ _ => (show PG _ _ (gTup K 2 _) from pg_tup (by rfl) (pgs_cons (pg_name (i := 5) sc__law_bounds.nd rfl (by first | exact Or.inl rfl | exact Or.inr rfl)) (pgs_cons (pg_name (i := 6) sc__law_bounds.nd rfl (by first | exact Or.inl rfl | exact Or.inr rfl)) pgs_nil)))) (fun _ _ _ _ _ => pts_nil) (fun _ _ _ _ _ => (pe_tup (pa_cons (pv 6) (pa_cons (pv 5) pa_nil))))) pa_nil)) (pa_cons (pe_lst pa_nil) pa_nil))) (pg_tup (by rfl) (pgs_cons (pg_name (i := 2) sc__law_bounds.nd rfl (by first | exact Or.inl rfl | exact Or.inr rfl)) (pgs_cons (pg_name (i := 3) sc__law_bounds.nd rfl (by first | exact Or.inl rfl | exact Or.inr rfl)) pgs_nil))))
      (pss_cons (ps_set (i := 4) sc__law_bounds.nd rfl (by first | exact Or.inl rfl | exact Or.inr rfl) (pe_lst pa_nil))
      (pss_cons (ps_for PassesOwn.never rfl (pi_enum (by rfl) e.n_enumerate (pa_cons (pv 1) pa_nil)) (pg_tup (by rfl) (pgs_cons (pg_name (i := 5) sc__law_bounds.nd rfl (by first | exact Or.inl rfl | exact Or.inr rfl)) (pgs_cons (pg_name (i := 6) sc__law_bounds.nd rfl (by first | exact Or.inl rfl | exact Or.inr rfl)) pgs_nil)))
      (pss_cons (ps_setLc (i := 7) (own := [("other", 8)]) rfl sc__law_bounds.nd rfl rfl (sw_true rfl rfl rfl (by decide +kernel)) (pi_list (pe_slice sl_list (pv 1) (po_some (pe_op op_add (pv 5) pe_int)) po_none)) (blkOk_by (N := ["takes", "fills", "taken", "found", "raw", "at", "place", "less", "other", "low", "high"]) (sc := defScope s__law_bounds) (by decide +kernel)) (fun _ _ _ _ _ => (pg_name (i := 8) sc__law_bounds.nd rfl (by first | exact Or.inl rfl | exact Or.inr rfl))) (fun _ _ _ _ _ => pts_one (pt_cmpR op_lt (pv 8) (pv 6) (nomark _))) (fun _ _ _ _ _ => (pe_dget (u1 hr) (pv 2) (pv 8) (fun _ _ => rfl))))
      (pss_one (ps_expr (pe_bm PySem.F.plainAttrs_list PySem.F.slot_list_append PySem.F.type_list_append mt_append (pv 4) (pa_cons (pe_tup (pa_cons (pe_op op_add (pe_dget (u1 hr) (pv 2) (pv 6) (fun _ _ => rfl)) pe_int) (pa_cons (pe_callB (cr_min rfl) (by rfl) e.n_min (by decide +kernel) (pa_cons (pe_op op_cat (pv 7) (pe_lst (pa_cons (pe_callB call_len_seq (by rfl) e.n_len PySem.boot_len (pa_cons (pv 0) pa_nil)) pa_nil))) pa_nil)) pa_nil))) pa_nil))))))
      (pss_cons (ps_for PassesOwn.never rfl (pi_range1 (by rfl) e.n_range (pa_cons (pe_callB call_len_seq (by rfl) e.n_len PySem.boot_len (pa_cons (pv 1) pa_nil)) pa_nil)) (pg_name (i := 5) sc__law_bounds.nd rfl (by first | exact Or.inl rfl | exact Or.inr rfl))
      (pss_one (ps_expr (pe_bm PySem.F.plainAttrs_list PySem.F.slot_list_append PySem.F.type_list_append mt_append (pv 3) (pa_cons (pe_tup (pa_cons (pe_callB (cr_max rfl) (by rfl) e.n_max (by decide +kernel) (pa_cons (pe_lc (own := [("low", 9), ("high", 10)]) rfl sc__law_bounds.nd (pi_list (pe_slice sl_list (pv 4) po_none (po_some (pe_op op_add (pv 5) pe_int)))) (blkOk_by (N := ["takes", "fills", "taken", "found", "raw", "at", "place", "less", "other", "low", "high"]) (sc := defScope s__law_bounds) (by decide +kernel)) (fun _ _ _ _ _ => (show PG _ _ (gTup K 2 _) from pg_tup (by rfl) (pgs_cons (pg_name (i := 9) sc__law_bounds.nd rfl (by first | exact Or.inl rfl | exact Or.inr rfl)) (pgs_cons (pg_name (i := 10) sc__law_bounds.nd rfl (by first | exact Or.inl rfl | exact Or.inr rfl)) pgs_nil)))) (fun _ _ _ _ _ => pts_nil) (fun _ _ _ _ _ => (pv 9))) pa_nil)) (pa_cons (pe_callB (cr_min rfl) (by rfl) e.n_min (by decide +kernel) (pa_cons (pe_lc (own := [("low", 9), ("high", 10)]) rfl sc__law_bounds.nd (pi_list (pe_slice sl_list (pv 4) (po_some (pv 5)) po_none)) (blkOk_by (N := ["takes", "fills", "taken", "found", "raw", "at", "place", "less", "other", "low", "high"]) (sc := defScope s__law_bounds) (by decide +kernel)) (fun _ _ _ _ _ => (show PG _ _ (gTup K 2 _) from pg_tup (by rfl) (pgs_cons (pg_name (i := 9) sc__law_bounds.nd rfl (by first | exact Or.inl rfl | exact Or.inr rfl)) (pgs_cons (pg_name (i := 10) sc__law_bounds.nd rfl (by first | exact Or.inl rfl | exact Or.inr rfl)) pgs_nil)))) (fun _ _ _ _ _ => pts_nil) (fun _ _ _ _ _ => (pv 10))) pa_nil)) pa_nil))) pa_nil)))))
      (pss_one (ps_ret (pv 3))))))), ?_⟩
    refine ⟨_, rfl, a, _, rfl, hS, fun D hD => ?_⟩
    have sD := fun o => same_upd (o := o) hD
    refine lc_it walk_enum (fun j H' => ∃ ps : List Addr, ps.length = j ∧ Same H H' ∧ H' D = some (.lst (ps.map V.ref)) ∧ ∀ (i : Nat) q x, ps[i]? = some q → tk[i]? = some x → q ≠ D ∧ H' q = some (.tup [V.int x, V.int (i : Nat)]))
      ⟨[], rfl, sD _, upd_same, fun i q x e => by simp at e⟩ (fun j H' _ ⟨_, _, s, _⟩ => s.seq hS) ?_ ?_
    · rintro j x H2 H3 hj ⟨ps, pl2, s2, hd, hp⟩ ⟨T, x, y, rfl, hT, rfl, hx, hy⟩
      rw [List.length_map] at hj
      cases hx
      obtain ⟨n, hn, rfl⟩ := at_int hy
      have sT := same_upd (o := HO.tup [.int (j : Nat), .int n]) hT
      refine ⟨_, _, rfl, SqT.of upd_same, rfl, _, _, rfl, _, _, rfl, rfl, rfl, _, rfl, _, rfl, (by show 2 ≤ sizeLine; decide), fun q hq => ?_⟩
      have sq := same_upd (o := HO.tup [.int n, .int (j : Nat)]) hq
      have hd4 := sq _ _ (sT _ _ hd)
      have nqD : q ≠ D := fun e => by subst e; rw [sT _ _ hd] at hq; cases hq
      refine ⟨_, hd4, by rw [List.length_map]; exact small1000 (by omega), ps ++ [q], by rw [List.length_append, pl2]; rfl, ?_, by rw [upd_same, List.map_append]; rfl, ?_⟩
      · intro c o hc; rw [upd_ne (ne_of_none hc hD)]; exact sq _ _ (sT _ _ (s2 _ _ hc))
      · intro i u x e1 e2
        by_cases c : i < ps.length
        · rw [List.getElem?_append_left c] at e1
          obtain ⟨h1, h2⟩ := hp i u x e1 e2
          exact ⟨h1, by rw [upd_ne h1]; exact sq _ _ (sT _ _ h2)⟩
        · rw [List.getElem?_append_right (by omega)] at e1
          cases z : i - ps.length with
          | zero =>
            rw [z] at e1; cases e1
            have : i = j := by omega
            subst this
            rw [hn] at e2; cases e2
            exact ⟨nqD, by rw [upd_ne nqD, upd_same]⟩
          | succ m => rw [z] at e1; simp at e1
    · rintro H2 ⟨ps, pl2, s2, hd, hp⟩
      replace pl2 : ps.length = (tk.map V.int).length := pl2
      rw [List.length_map] at pl2
      refine ⟨D, ps, numK tk, rfl, SqL.of hd, ?_, fun dd hdd => ?_⟩
      · refine paired_of (by rw [numK_len, pl2]) fun i q kv e1 e2 => ?_
        obtain ⟨kk, v⟩ := kv
        unfold numK at e2
        rw [List.getElem?_map, List.getElem?_zipIdx] at e2
        cases z : tk[i]? with
        | none => rw [z] at e2; cases e2
        | some x =>
          rw [z] at e2
          cases e2
          have := (hp i q x e1 z).2
          rw [Nat.zero_add]
          exact SqT.of this
      rw [merge_num nd]
      have sdd := same_upd (o := HO.dK (numK tk)) hdd
      have hdd1 : (upd H2 dd (.dK (numK tk))) dd = some (.dK (numK tk)) := upd_same
      have s3 := s2.trans sdd
      generalize upd H2 dd (.dK (numK tk)) = H3 at sdd hdd1 s3
      refine ⟨by decide, fun fp hfp => ⟨(by show 2 ≤ sizeLine; decide), fun tp htp => ?_⟩⟩
      have sf := same_upd (o := HO.lst []) hfp
      have st := same_upd (o := HO.tup [.ref dd, .ref fp]) htp
      refine ⟨_, _, rfl, SqT.of upd_same, rfl, _, _, rfl, _, _, rfl, rfl, ?_⟩
      refine ⟨by decide, fun rp hrp => ?_⟩
      have sr := same_upd (o := HO.lst []) hrp
      have s4 := ((s3.trans sf).trans st).trans sr
      have hdd4 := sr _ _ (st _ _ (sf _ _ hdd1))
      have hf4 := sr _ _ (st _ _ (show (upd H3 fp (.lst [])) fp = some (.lst []) from upd_same))
      have hr4 : (upd (upd (upd H3 fp (.lst [])) tp (.tup [.ref dd, .ref fp])) rp (.lst [])) rp = some (.lst []) := upd_same
      have fp0 : H fp = none := s3.free hfp
      have rp0 : H rp = none := ((s3.trans sf).trans st).free hrp
      have nfr : fp ≠ rp := ne_of_none (st _ _ (show (upd H3 fp (.lst [])) fp = some (.lst []) from upd_same)) hrp
      generalize upd (upd (upd H3 fp (.lst [])) tp (.tup [.ref dd, .ref fp])) rp (.lst []) = H4 at s4 hdd4 hf4 hr4
      refine ⟨_, rfl, b, _, rfl, s4.seq hF, ?_⟩
      refine for_it walk_enum (fun i σ H5 => ∃ (Ts : List Addr) (v5 v6 v7 v8 : Option V), Same H H5 ∧ H5 dd = some (.dK (numK tk)) ∧ H5 fp = some (.lst []) ∧ H5 rp = some (.lst (Ts.map V.ref)) ∧ PAt H5 Ts ((List.range i).map fun i => (ix tk (fs.getD i 0) + 1, hi1 tk (fs.getD i 0) (fs.drop (i + 1)))) ∧
          σ = [some (.ref a), some (.ref b), some (.ref dd), some (.ref fp), some (.ref rp), v5, v6, v7, v8, none, none])
        ⟨[], none, none, none, none, s4, hdd4, hf4, hr4, ⟨rfl, fun i T x e => by simp at e⟩, rfl⟩ (fun i σ H5 _ ⟨_, _, _, _, _, s, _⟩ => s.seq hF) ?_ ?_
      · rintro i x σ H5 H6 hi ⟨Ts, v5, v6, v7, v8, s5, h5d, h5f, h5r, hT5, rfl⟩ ⟨T, x, y, rfl, hT, rfl, hx, hy⟩
        rw [List.length_map] at hi
        cases hx
        obtain ⟨n, hn, rfl⟩ := at_int hy
        have mn := p.subset (List.mem_of_getElem? hn)
        have sT := same_upd (o := HO.tup [.int (i : Nat), .int n]) hT
        refine ⟨_, _, rfl, SqT.of upd_same, rfl, _, _, rfl, _, _, rfl, rfl, ?_⟩
        have s6 := s5.trans sT
        have h6d := sT _ _ h5d
        have h6f := sT _ _ h5f
        have h6r := sT _ _ h5r
        have hT6 := hT5.keep fun U x e => sT _ _ e
        generalize upd H5 T (.tup [.int (i : Nat), .int n]) = H6 at s6 h6d h6f h6r hT6
        have ecut : cutV (fs.map V.int) (some (((i : Nat) : Int) + 1)) none = (fs.drop (i + 1)).map V.int := by
          rw [show (((i : Nat) : Int) + 1) = ((i + 1 : Nat) : Int) by omega, cut_map]
        refine ⟨_, rfl, _, rfl, _, _, rfl, rfl, _, rfl, _, _, rfl, s6.seq hF, fun sl hsl => ?_⟩
        rw [ecut]
        have ssl := same_upd (o := HO.lst ((fs.drop (i + 1)).map V.int)) hsl
        refine ⟨sl, rfl, ⟨_, SqL.of upd_same⟩, fun E hE => ?_⟩
        have sE := fun o => same_upd (o := o) hE
        have hsl1 : (upd H6 sl (.lst ((fs.drop (i + 1)).map V.int))) sl = some (.lst ((fs.drop (i + 1)).map V.int)) := upd_same
        have h7d := ssl _ _ h6d
        have s7 := s6.trans ssl
        have h7f := ssl _ _ h6f
        have h7r := ssl _ _ h6r
        have hT7 := hT6.keep fun U x e => ssl _ _ e
        generalize upd H6 sl (.lst ((fs.drop (i + 1)).map V.int)) = H7 at ssl hsl1 h7d s7 h7f h7r hT7 hE sE
        have dl : (fs.drop (i + 1)).length ≤ 200 := by rw [List.length_drop]; omega
        refine lc_it walk_list (fun j H' => H' = upd H7 E (.lst ((lessC tk n ((fs.drop (i + 1)).take j)).map V.int))) rfl (fun j H' _ e => by subst e; exact SqL.of (sE _ _ _ hsl1)) ?_ ?_
        · rintro j x H8 H9 hj rfl ⟨rfl, hx⟩
          rw [List.length_map] at hj
          obtain ⟨c, hc, rfl⟩ := at_int hx
          have mc := p.subset (List.mem_of_mem_drop (List.mem_of_getElem? hc))
          refine ⟨rfl, _, rfl, _, rfl, _, _, rfl, rfl, _, rfl, ite2d (fun q => ?_) fun q => ?_⟩
          · refine ⟨_, rfl, _, rfl, dd, _, rfl, nm_get (.inl (sE _ _ _ h7d)) nd mc, _, upd_same, ?_, ?_⟩
            · rw [List.length_map]
              have := lessC_len tk n ((fs.drop (i + 1)).take j)
              rw [List.length_take] at this
              exact small1000 (by omega)
            · rw [upd_upd, lessC_snoc tk n hc, if_pos q, List.map_append]; rfl
          · rw [lessC_snoc tk n hc, if_neg q, List.append_nil]
        · rintro H8 rfl
          rw [List.length_map, List.take_length]
          have cl := lessC_len tk n (fs.drop (i + 1))
          have h8E : (upd H7 E (.lst ((lessC tk n (fs.drop (i + 1))).map V.int))) E = some (.lst ((lessC tk n (fs.drop (i + 1))).map V.int)) := upd_same
          have sE' := sE (.lst ((lessC tk n (fs.drop (i + 1))).map V.int))
          have s8 := s7.trans sE'
          have h8d := sE' _ _ h7d
          have h8f := sE' _ _ h7f
          have h8r := sE' _ _ h7r
          have hT8 := hT7.keep fun U x e => sE' _ _ e
          generalize upd H7 E (.lst ((lessC tk n (fs.drop (i + 1))).map V.int)) = H8 at h8E sE' s8 h8d h8f h8r hT8
          refine ⟨_, rfl, .inl ⟨rfl, _, SqL.of h8r⟩, ?_⟩
          refine ⟨_, rfl, _, rfl, dd, _, rfl, nm_get (.inl h8d) nd mn, _, _, rfl, rfl, ?_⟩
          refine ⟨_, rfl, _, rfl, a, _, rfl, .inl (s8.seq hS), (by show 1 ≤ sizeLine; decide), fun q1 hq1 => ?_⟩
          rw [List.length_map]
          have sq1 := same_upd (o := HO.lst [V.int (tk.length : Nat)]) hq1
          refine ⟨E, q1, _, _, rfl, rfl, sq1 _ _ h8E, upd_same, by
            rw [List.length_map]
            show _ + 1 ≤ _
            exact Nat.le_of_lt (small1000 (by omega)), fun z hz => ?_⟩
          have sz := same_upd (o := HO.lst ((lessC tk n (fs.drop (i + 1))).map V.int ++ [V.int (tk.length : Nat)])) hz
          refine ⟨z, lessC tk n (fs.drop (i + 1)) ++ [((tk.length : Nat) : Int)], rfl, SqL.of (by rw [upd_same, List.map_append]; rfl), by simp, fun m hm hmin => ?_⟩
          have em := hi1_least hm hmin
          subst em
          refine ⟨(by show 2 ≤ sizeLine; decide), fun t2 ht2 => ?_⟩
          have hall : Same H8 (upd (upd (upd H8 q1 (.lst [V.int (tk.length : Nat)])) z (.lst ((lessC tk n (fs.drop (i + 1))).map V.int ++ [V.int (tk.length : Nat)]))) t2 (.tup [V.int (((ix tk n : Nat) : Int) + 1), V.int (hi1 tk n (fs.drop (i + 1)) : Nat)])) := (sq1.trans sz).trans (same_upd ht2)
          have ht2b : (upd (upd (upd H8 q1 (.lst [V.int (tk.length : Nat)])) z (.lst ((lessC tk n (fs.drop (i + 1))).map V.int ++ [V.int (tk.length : Nat)]))) t2 (.tup [V.int (((ix tk n : Nat) : Int) + 1), V.int (hi1 tk n (fs.drop (i + 1)) : Nat)])) t2 = some (.tup [V.int (((ix tk n : Nat) : Int) + 1), V.int (hi1 tk n (fs.drop (i + 1)) : Nat)]) := upd_same
          generalize upd (upd (upd H8 q1 (.lst [V.int (tk.length : Nat)])) z (.lst ((lessC tk n (fs.drop (i + 1))).map V.int ++ [V.int (tk.length : Nat)]))) t2 (.tup [V.int (((ix tk n : Nat) : Int) + 1), V.int (hi1 tk n (fs.drop (i + 1)) : Nat)]) = H9 at hall ht2b
          have tl := hT8.1
          rw [List.length_map, List.length_range] at tl
          refine ⟨rp, _, _, rfl, rfl, hall _ _ h8r, by rw [List.length_map]; exact small1000 (by omega), Ts ++ [t2], _, _, _, _, ?_, ?_, ?_, ?_, ?_, rfl⟩
          · intro c o hc; rw [upd_ne (ne_of_none hc rp0)]; exact hall _ _ (s8 _ _ hc)
          · rw [upd_ne (fun e => by subst e; rw [h8d] at h8r; cases h8r)]; exact hall _ _ h8d
          · rw [upd_ne nfr]; exact hall _ _ h8f
          · rw [upd_same, List.map_append]; rfl
          · rw [raw_snoc tk fs hn]
            refine ((hT8.keep fun U x e => hall _ _ e).snoc ?_).keep fun U x e => ?_
            · exact ht2b
            · rw [upd_ne (fun q => by subst q; rw [hall _ _ h8r] at e; cases e)]; exact e
      · rintro σ H5 ⟨Ts, v5, v6, v7, v8, s5, h5d, h5f, h5r, hT5, rfl⟩
        rw [List.length_map] at hT5
        replace hT5 : PAt H5 Ts (rawL tk fs) := hT5
        have fl5 : (fs.map V.int).length = fs.length := List.length_map _
        refine ⟨_, rfl, b, _, rfl, .inl (s5.seq hF), _, rfl, by rw [fl5]; omega, by rw [fl5]; omega, ?_⟩
        refine for_it walk_range (fun i σ H6 => ∃ (Us : List Addr) (v5 v6 v7 v8 v9 v10 : Option V), Same H H6 ∧ H6 rp = some (.lst (Ts.map V.ref)) ∧ PAt H6 Ts (rawL tk fs) ∧ H6 fp = some (.lst (Us.map V.ref)) ∧ PAt H6 Us ((List.range i).map fun i => (lo tk fs i, hi tk fs i)) ∧
          σ = [some (.ref a), some (.ref b), some (.ref dd), some (.ref fp), some (.ref rp), v5, v6, v7, v8, v9, v10])
          ⟨[], v5, v6, v7, v8, none, none, s5, h5r, hT5, h5f, ⟨rfl, fun i T x e => by simp at e⟩, rfl⟩ (fun _ _ _ _ _ => trivial) ?_ ?_
        · rintro i x σ Hq H6 hi ⟨Us, v5, v6, v7, v8, v9, v10, s6, h6r, hT6, h6f, hU6, rfl⟩ ⟨rfl, rfl⟩
          have hil : i < fs.length := by
            have z : i < ((fs.map V.int).length : Int).toNat := hi
            rw [fl5] at z
            omega
          clear hi
          have rl := raw_len tk fs
          have ecut : cutV (Ts.map V.ref) none (some ((0 + (i : Nat) : Int) + 1)) = (Ts.take (i + 1)).map V.ref := by
            rw [show ((0 + (i : Nat) : Int) + 1) = ((i + 1 : Nat) : Int) by omega, cut_to, List.map_take]
          have ecut2 : cutV (Ts.map V.ref) (some (0 + (i : Nat) : Int)) none = (Ts.drop i).map V.ref := by
            rw [show (0 + (i : Nat) : Int) = ((i : Nat) : Int) by omega, cut_map]
          refine ⟨_, rfl, .inl ⟨rfl, _, SqL.of h6f⟩, ?_⟩
          refine ⟨_, rfl, _, rfl, _, _, rfl, rfl, _, rfl, _, _, rfl, SqL.of h6r, fun sl hsl => ?_⟩
          rw [ecut]
          have ssl := same_upd (o := HO.lst ((Ts.take (i + 1)).map V.ref)) hsl
          refine ⟨sl, rfl, ⟨_, SqL.of upd_same⟩, fun E hE => ?_⟩
          have sE := fun o => same_upd (o := o) hE
          have hsl1 : (upd H6 sl (.lst ((Ts.take (i + 1)).map V.ref))) sl = some (.lst ((Ts.take (i + 1)).map V.ref)) := upd_same
          have s7 := s6.trans ssl
          have h7r := ssl _ _ h6r
          have h7f := ssl _ _ h6f
          have hT7 := hT6.keep fun U x e => ssl _ _ e
          have hU7 := hU6.keep fun U x e => ssl _ _ e
          generalize upd H6 sl (.lst ((Ts.take (i + 1)).map V.ref)) = H7 at ssl hsl1 s7 h7f h7r hT7 hU7 hE sE
          have hT71 := hT7.take (i + 1)
          have tl := hT7.1
          refine lc_it walk_list (fun j H' => H' = upd H7 E (.lst ((lowsI (((rawL tk fs).take (i + 1)).take j)).map V.int))) rfl (fun j H' _ e => by subst e; exact SqL.of (sE _ _ _ hsl1)) ?_ ?_
          · rintro j x H8 H9 hj rfl ⟨rfl, hx⟩
            rw [List.length_map, List.length_take] at hj
            obtain ⟨U, hU, rfl⟩ := at_ref hx
            have hy := List.getElem?_eq_getElem (l := (rawL tk fs).take (i + 1)) (i := j) (by rw [List.length_take]; omega)
            generalize ((rawL tk fs).take (i + 1))[j]'(by rw [List.length_take]; omega) = y at hy
            have hUt := sE (.lst ((lowsI (((rawL tk fs).take (i + 1)).take j)).map V.int)) _ _ (hT71.2 _ _ _ hU hy)
            refine ⟨_, _, rfl, SqT.of hUt, rfl, _, _, rfl, _, _, rfl, rfl, rfl, _, rfl, _, upd_same, ?_, ?_⟩
            · rw [List.length_map]; unfold lowsI; rw [List.length_map, List.length_take, List.length_take]; exact small1000 (by omega)
            · rw [upd_upd]
              have e : lowsI (((rawL tk fs).take (i + 1)).take (j + 1)) = lowsI (((rawL tk fs).take (i + 1)).take j) ++ [((y.1 : Nat) : Int)] := by
                unfold lowsI; rw [take_snoc hy, List.map_append]; rfl
              rw [e, List.map_append]; rfl
          · rintro H8 rfl
            have el : ((Ts.take (i + 1)).map V.ref).length = ((rawL tk fs).take (i + 1)).length := by rw [List.length_map, hT71.1]
            rw [el, List.take_length]
            have pos : 0 < (lowsI ((rawL tk fs).take (i + 1))).length := by unfold lowsI; rw [List.length_map, List.length_take]; omega
            refine ⟨E, lowsI ((rawL tk fs).take (i + 1)), rfl, SqL.of upd_same, pos, fun m hm hmax => ?_⟩
            have em := lo_most hm hmax
            subst em
            have sE' := sE (.lst ((lowsI ((rawL tk fs).take (i + 1))).map V.int))
            have s8 := s7.trans sE'
            have h8r := sE' _ _ h7r
            have h8f := sE' _ _ h7f
            have hT8 := hT7.keep fun U x e => sE' _ _ e
            have hU8 := hU7.keep fun U x e => sE' _ _ e
            generalize upd H7 E (.lst ((lowsI ((rawL tk fs).take (i + 1))).map V.int)) = H8 at s8 h8r h8f hT8 hU8
            clear hsl1 hsl ssl sE sE' hE
            refine ⟨_, rfl, _, rfl, _, rfl, _, _, rfl, SqL.of h8r, fun sl hsl => ?_⟩
            rw [ecut2]
            have ssl := same_upd (o := HO.lst ((Ts.drop i).map V.ref)) hsl
            refine ⟨sl, rfl, ⟨_, SqL.of upd_same⟩, fun E hE => ?_⟩
            have sE := fun o => same_upd (o := o) hE
            have hsl1 : (upd H8 sl (.lst ((Ts.drop i).map V.ref))) sl = some (.lst ((Ts.drop i).map V.ref)) := upd_same
            have s9 := s8.trans ssl
            have h9r := ssl _ _ h8r
            have h9f := ssl _ _ h8f
            have hT9 := hT8.keep fun U x e => ssl _ _ e
            have hU9 := hU8.keep fun U x e => ssl _ _ e
            generalize upd H8 sl (.lst ((Ts.drop i).map V.ref)) = H9 at ssl hsl1 s9 h9f h9r hT9 hU9 hE sE
            have hT91 := hT9.drop i
            refine lc_it walk_list (fun j H' => H' = upd H9 E (.lst ((highsI (((rawL tk fs).drop i).take j)).map V.int))) rfl (fun j H' _ e => by subst e; exact SqL.of (sE _ _ _ hsl1)) ?_ ?_
            · rintro j x Ha Hb hj rfl ⟨rfl, hx⟩
              rw [List.length_map, List.length_drop] at hj
              obtain ⟨U, hU, rfl⟩ := at_ref hx
              have hy := List.getElem?_eq_getElem (l := (rawL tk fs).drop i) (i := j) (by rw [List.length_drop]; omega)
              generalize ((rawL tk fs).drop i)[j]'(by rw [List.length_drop]; omega) = y at hy
              have hUt := sE (.lst ((highsI (((rawL tk fs).drop i).take j)).map V.int)) _ _ (hT91.2 _ _ _ hU hy)
              refine ⟨_, _, rfl, SqT.of hUt, rfl, _, _, rfl, _, _, rfl, rfl, rfl, _, rfl, _, upd_same, ?_, ?_⟩
              · rw [List.length_map]; unfold highsI; rw [List.length_map, List.length_take, List.length_drop]; exact small1000 (by omega)
              · rw [upd_upd]
                have e : highsI (((rawL tk fs).drop i).take (j + 1)) = highsI (((rawL tk fs).drop i).take j) ++ [((y.2 : Nat) : Int)] := by
                  unfold highsI; rw [take_snoc hy, List.map_append]; rfl
                rw [e, List.map_append]; rfl
            · rintro Ha rfl
              have el : ((Ts.drop i).map V.ref).length = ((rawL tk fs).drop i).length := by rw [List.length_map, hT91.1]
              rw [el, List.take_length]
              have pos : 0 < (highsI ((rawL tk fs).drop i)).length := by unfold highsI; rw [List.length_map, List.length_drop]; omega
              refine ⟨E, highsI ((rawL tk fs).drop i), rfl, SqL.of upd_same, pos, fun m hm hmin => ?_⟩
              have em := hi_least hm hmin
              subst em
              have sE' := sE (.lst ((highsI ((rawL tk fs).drop i)).map V.int))
              have sa := s9.trans sE'
              have har := sE' _ _ h9r
              have haf := sE' _ _ h9f
              have hTa := hT9.keep fun U x e => sE' _ _ e
              have hUa := hU9.keep fun U x e => sE' _ _ e
              generalize upd H9 E (.lst ((highsI ((rawL tk fs).drop i)).map V.int)) = Ha at sa har haf hTa hUa
              refine ⟨(by show 2 ≤ sizeLine; decide), fun t2 ht2 => ?_⟩
              have st2 := same_upd (o := HO.tup [V.int (lo tk fs i : Nat), V.int (hi tk fs i : Nat)]) ht2
              have ul := hUa.1
              rw [List.length_map, List.length_range] at ul
              have ul2 : Us.length ≤ 200 := by omega
              refine ⟨fp, _, _, rfl, rfl, st2 _ _ haf, by rw [List.length_map]; exact small1000 (by omega), Us ++ [t2], _, v6, v7, v8, v9, v10, ?_, ?_, ?_, ?_, ?_, rfl⟩
              · intro c o hc; rw [upd_ne (ne_of_none hc fp0)]; exact st2 _ _ (sa _ _ hc)
              · rw [upd_ne nfr.symm]; exact st2 _ _ har
              · exact (hTa.keep fun U x e => st2 _ _ e).keep fun U x e => by rw [upd_ne (fun q => by subst q; rw [st2 _ _ haf] at e; cases e)]; exact e
              · rw [upd_same, List.map_append]; rfl
              · rw [List.range_succ, List.map_append, List.map_singleton]
                refine ((hUa.keep fun U x e => st2 _ _ e).snoc (x := (lo tk fs i, hi tk fs i)) upd_same).keep fun U x e => ?_
                rw [upd_ne (fun q => by subst q; rw [st2 _ _ haf] at e; cases e)]; exact e
        · rintro σ H6 ⟨Us, v5, v6, v7, v8, v9, v10, s6, h6r, hT6, h6f, hU6, rfl⟩
          replace hU6 : PAt H6 Us ((List.range ((fs.map V.int).length : Int).toNat).map fun i => (lo tk fs i, hi tk fs i)) := hU6
          rw [fl5, Int.toNat_natCast] at hU6
          have e : (List.range fs.length).map (fun i => (lo tk fs i, hi tk fs i)) = bnds tk fs := by
            unfold bnds los his
            rw [List.zip_map']
          rw [e] at hU6
          exact ⟨_, rfl, k H6 fp Us s6 fp0 ⟨h6f, hU6.1, hU6.2⟩⟩
end
end LP

namespace LP
open PySem L2 LT LG LQ LH LC LX
section
variable {P : Program} {w : World} {K : PySem.W.Frag} {mg : Str → Option Value} {base : Heap}
theorem pstr_rep (l : List Bool) (n : Int) : pstr l ++ repS (sgn true) n = pstr (l ++ List.replicate n.toNat true) := by
  show (⟨(l.map sgn).toArray ++ Array.replicate n.toNat (sgn true)⟩ : Str) = _
  unfold pstr
  rw [List.map_append, List.map_replicate]
  congr 1
  apply Array.toList_inj.mp
  simp
theorem pat_long {l : List Bool} (h : l.length ≤ 1000) {n : Nat} (hn : n ≤ 1000) : (pstr l).length + n ≤ sizeLine := by
  show (pstr l).cps.size + n ≤ sizeLine
  rw [pstr_size]
  exact Nat.le_trans (show _ ≤ 2000 by omega) (by decide +kernel)
theorem natV_get {ts : List Nat} {i : Nat} {x : V} (h : (natV ts)[i]? = some x) : ∃ t, ts[i]? = some t ∧ x = .int (t : Nat) := by
  unfold natV at h
  rw [List.getElem?_map] at h
  cases q : ts[i]? with
  | none => rw [q] at h; cases h
  | some t => rw [q] at h; cases h; exact ⟨t, rfl, rfl⟩
theorem wr_len {ts : List Nat} (m : ts.Pairwise (· ≤ ·)) (hj : ∀ (j t : Nat), ts[j]? = some t → j < t ∧ t ≤ ts.length) (hl : ts.length ≤ 200) {i : Nat} (hi : i ≤ ts.length) : (wr ts i).1.length ≤ 400 ∧ (wr ts i).2 ≤ ts.length := by
  obtain ⟨a, b, c, d, e, f⟩ := wr_ok m (fun j t h => (hj j t h).1) i hi
  have h1 := len_pat (wr ts i).1
  have h2 : (wr ts i).2 ≤ ts.length := by
    by_cases q : i = 0
    · subst q; exact Nat.zero_le _
    · exact (hj _ _ (f (by omega))).2
  omega
theorem ok__law_written (e : Env K mg) : FnOk P w K mg base CX0 1 e.a__law_written e.d__law_written ["times_here", "count"] (sp__law_written K) := by
  refine e.f__law_written.ok sc__law_written (fun vs H Q E h => ?_) (fun cdv A outer s H vs Q E hr h => ?_)
  · obtain ⟨a, ts, rfl, _⟩ := h; rfl
  · obtain ⟨a, ts, rfl, hS, hl, m, hj, k⟩ := h
    refine ⟨_, (pss_cons (ps_asg (pe_tup (pa_cons pe_str (pa_cons pe_int pa_nil))) (pg_tup (by rfl) (pgs_cons (pg_name (i := 2) sc__law_written.nd rfl (by first | exact Or.inl rfl | exact Or.inr rfl)) (pgs_cons (pg_name (i := 3) sc__law_written.nd rfl (by first | exact Or.inl rfl | exact Or.inr rfl)) pgs_nil))))
      (pss_cons (ps_for PassesOwn.never rfl (pi_list (pv 0)) (pg_name (i := 4) sc__law_written.nd rfl (by first | exact Or.inl rfl | exact Or.inr rfl))
      (pss_cons (ps_set (i := 2) sc__law_written.nd rfl (by first | exact Or.inl rfl | exact Or.inr rfl) (pe_op op_add_str (pe_op op_add_str (pv 2) (pe_op LX.op_mulS pe_str (pe_op op_sub (pv 4) (pv 3)))) pe_str))
      (pss_one (ps_set (i := 3) sc__law_written.nd rfl (by first | exact Or.inl rfl | exact Or.inr rfl) (pv 4)))))
      (pss_one (ps_ret (pe_op op_add_str (pv 2) (pe_op LX.op_mulS pe_str (pe_op op_sub (pv 1) (pv 3)))))))), ?_⟩
    refine ⟨(by show 2 ≤ sizeLine; decide), fun tp htp => ?_⟩
    have st := same_upd (o := HO.tup [.str "", .int 0]) htp
    refine ⟨_, _, rfl, SqT.of upd_same, rfl, _, _, rfl, _, _, rfl, rfl, ?_⟩
    refine ⟨_, rfl, a, rfl, ⟨_, st.seq hS⟩, for_it walk_list (fun i σ H1 => ∃ v4 : Option V, Same H H1 ∧ σ = [some (.ref a), some (.int ts.length), some (.str (pstr (wr ts i).1)), some (.int ((wr ts i).2 : Nat)), v4]) ⟨none, st, by rw [show (wr ts 0).1 = [] from rfl, pstr_nil]; rfl⟩ (fun i σ H1 _ ⟨_, s, _⟩ => s.seq hS) ?_ ?_⟩
    · rintro i x σ Hq H2 hi ⟨v4, s2, rfl⟩ ⟨rfl, hx⟩
      rw [natV_len] at hi
      obtain ⟨t, ht, rfl⟩ := natV_get hx
      obtain ⟨w1, w2⟩ := wr_len m hj hl (Nat.le_of_lt hi)
      obtain ⟨a1, b1, c1, d1, e1, f1⟩ := wr_ok m (fun j t h => (hj j t h).1) i (Nat.le_of_lt hi)
      have ht2 := hj _ _ ht
      have le := e1 i t ht (Nat.le_refl _)
      refine ⟨_, rfl, _, rfl, _, rfl, _, _, rfl, rfl, _, _, vsT.symm, rfl, by omega, by omega, ?_⟩
      have en : (((t : Nat) : Int) - ((wr ts i).2 : Nat)).toNat = t - (wr ts i).2 := by omega
      have ls : (repS (sgn true) (((t : Nat) : Int) - ((wr ts i).2 : Nat))).length ≤ 1000 := by
        show (Array.replicate _ _).size ≤ 1000
        rw [Array.size_replicate, en]; omega
      refine ⟨_, _, rfl, rfl, pat_long (by omega) ls, ?_⟩
      rw [pstr_rep, en]
      refine ⟨_, _, rfl, rfl, pat_long (by rw [List.length_append, List.length_replicate]; omega) (by decide), ?_⟩
      rw [pstr_R]
      refine ⟨_, rfl, some (.int (t : Nat)), s2, ?_⟩
      have eD : ts.getD i 0 = t := by rw [List.getD_eq_getElem?_getD, ht]; rfl
      rw [wr, eD]
      rfl
    · rintro σ H2 ⟨v4, s2, rfl⟩
      rw [natV_len]
      obtain ⟨g1, g2, g3, g4⟩ := wrote_ok m hj
      obtain ⟨w1, w2⟩ := wr_len m hj hl (Nat.le_refl _)
      refine ⟨_, rfl, _, rfl, _, rfl, _, _, rfl, rfl, _, _, vsT.symm, rfl, by omega, by omega, ?_⟩
      have en : (((ts.length : Nat) : Int) - ((wr ts ts.length).2 : Nat)).toNat = 0 := by omega
      have ls : (repS (sgn true) (((ts.length : Nat) : Int) - ((wr ts ts.length).2 : Nat))).length ≤ 1000 := by
        show (Array.replicate _ _).size ≤ 1000
        rw [Array.size_replicate, en]; omega
      refine ⟨_, _, rfl, rfl, pat_long (by omega) ls, ?_⟩
      rw [pstr_rep, en, List.replicate_zero, List.append_nil]
      exact k _ s2
end
end LP

namespace LP
open PySem L2 LT LG LQ LH LC LX
section
variable {P : Program} {w : World} {K : PySem.W.Frag} {mg : Str → Option Value} {base : Heap}
theorem Bag.wr {H : Hp} {b l x : Addr} {ns : List Int} {d : Nat} {o : HO} (g : Bag H b l ns d) (hb : x ≠ b) (hl : x ≠ l) : Bag (upd H x o) b l ns d := by
  obtain ⟨⟨i, c, kk, t, h1, h2⟩, ls, ne⟩ := g
  exact ⟨⟨i, c, kk, t, by rw [upd_ne hb.symm]; exact h1, h2⟩, by rw [upd_ne hl.symm]; exact ls, ne⟩
theorem eqv_self (l : List Int) : PyData.eqv (.list (l.map PyData.int)) (.list (l.map PyData.int)) = true := by simp only [PyData.eqv]; exact eqvAll_ints l
/-! the data of repr -/
def dat (t : Bool) (xs : List Int) : PyData := if t = true then .tuple (xs.map PyData.int) else .list (xs.map PyData.int)
def sqo (t : Bool) (xs : List Int) : HO := if t = true then .tup (xs.map V.int) else .lst (xs.map V.int)
theorem dp_dat {K : PySem.W.Frag} {H : Hp} {a : Addr} {xs : List Int} (t : Bool) (h : H a = some (sqo t xs)) : Dp K H (.ref a) (dat t xs) := by
  cases t with
  | true => exact .tup (SqT.of h) (dp_ints xs)
  | false => exact .lst (SqL.of h) (dp_ints xs)
theorem is_sqo {K : PySem.W.Frag} {H : Hp} {a : Addr} {xs : List Int} {t : Bool} (h : H a = some (sqo t xs)) : Is K H a xs := by
  cases t with
  | true => exact SqE.t h
  | false => exact SqE.l h
theorem sm_places {xs : List Int} (h : ∀ x ∈ xs, 0 ≤ x ∧ x ≤ G30) : ∀ d ∈ xs.map PyData.int, Sm d 0 121 := fun d hd => by
  obtain ⟨x, hx, rfl⟩ := List.mem_map.mp hd
  obtain ⟨h0, h1⟩ := h x hx
  refine Sm.int ?_
  unfold G30 at h1
  have e : (10 : Nat) ^ 31 = 10000000000000000000000000000000 := by decide
  omega
theorem sm_dat {t : Bool} {xs : List Int} (h : Pl xs) : Sm (dat t xs) 1 24400 := by
  have hl := h.le
  cases t with
  | true => exact (Sm.tup (sm_places h.rg)).mono (Nat.le_refl _) (by rw [List.length_map]; omega)
  | false => exact (Sm.list (sm_places h.rg)).mono (Nat.le_refl _) (by rw [List.length_map]; omega)
def pdat (x : Nat × Nat) : PyData := .tuple [.int (x.1 : Nat), .int (x.2 : Nat)]
def bdat (ps : List (Nat × Nat)) : PyData := .list (ps.map pdat)
theorem sm_bdat {ps : List (Nat × Nat)} (h : ∀ x ∈ ps, x.1 ≤ 1000 ∧ x.2 ≤ 1000) (hl : ps.length ≤ 200) : Sm (bdat ps) 2 49200 := by
  have g : ∀ d ∈ ps.map pdat, Sm d 1 244 := fun d hd => by
    obtain ⟨x, hx, rfl⟩ := List.mem_map.mp hd
    obtain ⟨h0, h1⟩ := h x hx
    have e : (10 : Nat) ^ 31 = 10000000000000000000000000000000 := by decide
    refine (Sm.tup (k := 0) (w := 121) fun d hd => ?_).mono (Nat.le_refl _) (Nat.le_refl _)
    rcases List.mem_cons.mp hd with rfl | hd
    · exact Sm.int (by rw [Int.natAbs_natCast]; omega)
    · rw [List.mem_singleton] at hd; subst hd
      exact Sm.int (by rw [Int.natAbs_natCast]; omega)
  exact (Sm.list g).mono (Nat.le_refl _) (by rw [List.length_map]; omega)
theorem dp_bdat {K : PySem.W.Frag} {H : Hp} {p : Addr} {ps : List (Nat × Nat)} {Ts : List Addr} (h : Prs H p ps Ts) : Dp K H (.ref p) (bdat ps) := by
  refine .lst (SqL.of h.ls) (dpAll_of (by rw [List.length_map, List.length_map, h.len]) fun i v d e1 e2 => ?_)
  obtain ⟨T, hT, rfl⟩ := at_ref e1
  rw [List.getElem?_map] at e2
  cases q : ps[i]? with
  | none => rw [q] at e2; cases e2
  | some x =>
    rw [q] at e2; cases e2
    exact .tup (SqT.of (h.at_ i T x hT q)) (.cons (.int _) (.cons (.int _) .nil))
theorem Prs.same {H H' : Hp} {p : Addr} {ps : List (Nat × Nat)} {Ts : List Addr} (h : Prs H p ps Ts) (s : Same H H') : Prs H' p ps Ts := ⟨s _ _ h.ls, h.len, fun i T x a b => s _ _ (h.at_ i T x a b)⟩
theorem bnds_at {tk fs : List Int} {i : Nat} {x : Nat × Nat} (h : (bnds tk fs)[i]? = some x) : i < fs.length ∧ x = (lo tk fs i, hi tk fs i) := by
  unfold bnds at h
  obtain ⟨h1, h2⟩ := List.getElem?_zip_eq_some.mp h
  unfold los at h1
  unfold his at h2
  rw [List.getElem?_map] at h1 h2
  cases q : (List.range fs.length)[i]? with
  | none => rw [q] at h1; cases h1
  | some j =>
    obtain ⟨z1, z2⟩ := List.getElem?_eq_some_iff.mp q
    rw [List.length_range] at z1
    rw [List.getElem_range] at z2
    subst z2
    rw [q] at h1 h2
    exact ⟨z1, Prod.ext (Option.some.inj h1).symm (Option.some.inj h2).symm⟩
theorem bnds_get {tk fs : List Int} {i : Nat} (h : i < fs.length) : (bnds tk fs)[i]? = some (lo tk fs i, hi tk fs i) := by
  have e := List.getElem?_eq_getElem (l := bnds tk fs) (i := i) (by rw [bnds_len]; exact h)
  rw [e]
  have := (bnds_at e).2
  rw [this]
theorem loL_le {tk l : List Int} (h : ∀ x ∈ l, x ∈ tk) : loL tk l ≤ tk.length := by
  rcases (loL_ok tk l).1 with q | ⟨p, hp, q⟩
  · rw [q]; exact Nat.zero_le _
  · rw [q]; exact List.idxOf_lt_length_iff.mpr (h p hp)
theorem sm_bnds {tk fs : List Int} (pl : Pl tk) (p : fs.Perm tk) : Sm (bdat (bnds tk fs)) 2 49200 := by
  have le := pl.le
  have fl := p.length_eq
  refine sm_bdat (fun x hx => ?_) (by rw [bnds_len]; omega)
  obtain ⟨i, e⟩ := List.mem_iff_getElem?.mp hx
  obtain ⟨h1, rfl⟩ := bnds_at e
  have a := hi_le tk fs i
  have b := loL_le (tk := tk) (l := fs.take (i + 1)) fun y hy => p.subset (List.mem_of_mem_take hy)
  exact ⟨by show loL tk (fs.take (i + 1)) ≤ 1000; omega, by show hi tk fs i ≤ 1000; omega⟩
theorem rd_ixT {K : PySem.W.Frag} {H : Hp} {a : Addr} {Q : VK} {xs : List V} {j : Nat} {v : V} {z : Int} (h : SqT K H a xs) (e : xs[j]? = some v) (hz : z = (j : Int)) (q : Q v H) : rIxT K (.ref a) (.int z) H Q :=
  ⟨a, xs, z, v, rfl, rfl, h, at_of hz e, q⟩
/-- a ≤ b ≤ c of three ints -/
theorem chain_le {σ : L2.St} {H : Hp} {Q : VK} {ta tb tc : TE} {a b c : Int} (ha : ∀ R : VK, R (.int a) H → ta σ H R) (hb : ∀ R : VK, R (.int b) H → tb σ H R) (hc : ∀ R : VK, R (.int c) H → tc σ H R) (k : Q (.bl (decide (a ≤ b ∧ b ≤ c))) H) :
    tChain (rI0 fun i j => V.bl (decide (i ≤ j))) (rI0 fun i j => V.bl (decide (i ≤ j))) ta tb tc σ H Q := by
  refine ha _ (hb _ ⟨_, _, rfl, rfl, _, rfl, ?_⟩)
  by_cases c1 : a ≤ b
  · refine iteD c1 (hc _ ⟨_, _, rfl, rfl, ?_⟩)
    have e : decide (a ≤ b ∧ b ≤ c) = decide (b ≤ c) := decide_eq_decide.mpr ⟨fun z => z.2, fun z => ⟨c1, z⟩⟩
    rw [e] at k; exact k
  · refine iteX c1 ?_
    rw [decide_eq_false fun z => c1 z.1] at k
    exact k
theorem cut_last (ts : List Nat) : cutV (natV ts) (some (-1)) none = natV (ts.drop (ts.length - 1)) := by
  unfold cutV
  rw [HT.sIx_none]
  have e : HT.sIx (natV ts).length 0 (some (-1)) = ts.length - 1 := by
    show (if (-1 : Int) < 0 then ((-1 : Int) + ((natV ts).length : Int)).toNat else min (-1 : Int).toNat (natV ts).length) = _
    rw [if_pos (by decide), natV_len]; omega
  rw [e, List.take_of_length_le (by rw [List.length_drop]; omega)]
  unfold natV
  rw [List.map_drop]
/-- the drawn times so far -/
structure Dr (tk fs : List Int) (ds : List Nat) (i : Nat) : Prop where
  len : ds.length = i
  mono : ds.Pairwise (· ≤ ·)
  bd : ∀ (j t : Nat), ds[j]? = some t → lo tk fs j ≤ t ∧ t ≤ hi tk fs j
theorem Dr.snoc {tk fs : List Int} {ds : List Nat} {i t : Nat} (h : Dr tk fs ds i) (h1 : ∀ u ∈ ds.drop (ds.length - 1), u ≤ t) (h2 : lo tk fs i ≤ t ∧ t ≤ hi tk fs i) : Dr tk fs (ds ++ [t]) (i + 1) := by
  have hl := h.len
  have top : ∀ u ∈ ds, u ≤ t := fun u hu => by
    obtain ⟨j, e⟩ := List.mem_iff_getElem?.mp hu
    have hj := (List.getElem?_eq_some_iff.mp e).1
    have e2 := List.getElem?_eq_getElem (l := ds) (i := ds.length - 1) (by omega)
    have m := mono_at h.mono (show j ≤ ds.length - 1 by omega) e e2
    have := h1 _ (List.mem_of_getElem? (i := 0) (by rw [List.getElem?_drop]; exact e2))
    omega
  refine ⟨by rw [List.length_append, hl]; rfl, ?_, fun j u e => ?_⟩
  · rw [List.pairwise_append]
    exact ⟨h.mono, by simp, fun a ha c hc => by rw [List.mem_singleton] at hc; subst hc; exact top a ha⟩
  · by_cases c : j < ds.length
    · rw [List.getElem?_append_left c] at e
      exact h.bd j u e
    · rw [List.getElem?_append_right (by omega)] at e
      cases z : j - ds.length with
      | zero =>
        rw [z] at e; cases e
        have : j = i := by omega
        subst this; exact h2
      | succ m => rw [z] at e; simp at e
theorem ok__law_right (e : Env K mg) : LG.FnG P w K mg base CX0 9 e.a__law_right e.d__law_right ["bag", "takes", "pattern"] (sp__law_right) := by
  refine LG.okG e.f__law_right sc__law_right (fun vs H Q E h => ?_) (fun cdv A outer s H vs Q E hgd hr h => ?_)
  · obtain ⟨b, l, ns, d, p, xs, t, rfl, _⟩ := h; rfl
  · obtain ⟨b, l, ns, d, p, tk, t, rfl, G, hd, hl, hp, hpb, pl, g, ht, k⟩ := h
    have le := pl.le
    have nd := pl.nd
    obtain ⟨pf, no, wi⟩ := pair_ok nd g ht
    have plf := pl.perm pf
    have fl := pf.length_eq
    refine ⟨_, (pss_cons (ps_par (i := 3) (j := 4) (by rfl) sc__law_right.nd rfl rfl (by decide) rfl rfl (pa_cons (pe_call ((ok__law_filled e).mono (by decide)) hr rfl e.g__law_filled e.f__law_filled.kp e.b__law_filled .nil pass0 (pa_cons (pv 1) (pa_cons (pv 2) pa_nil))) (pa_cons (pe_callB call_len_seq (by rfl) e.n_len PySem.boot_len (pa_cons (pv 1) pa_nil)) pa_nil)) (by rfl))
      (pss_cons (ps_set (i := 5) sc__law_right.nd rfl (by first | exact Or.inl rfl | exact Or.inr rfl) (pe_lst (pa_cons (pe_call ((ok__law_either e).mono (by decide)) hr rfl e.g__law_either e.f__law_either.kp e.b__law_either .nil pass0 (pa_cons (pv 0) (pa_cons (pv 1) pa_nil))) (pa_cons (pe_call ((ok__law_either e).mono (by decide)) hr rfl e.g__law_either e.f__law_either.kp e.b__law_either .nil pass0 (pa_cons (pv 0) (pa_cons (pv 3) pa_nil))) pa_nil))))
      (pss_cons (ps_par (i := 6) (j := 7) (by rfl) sc__law_right.nd rfl rfl (by decide) rfl rfl (pa_cons (pe_callB (call_reprA hgd (u66 hr)) (by rfl) e.n_repr (by decide +kernel) (pa_cons (pv 5) pa_nil)) (pa_cons (pe_call ((ok_time_bounds e).mono (by decide)) hr rfl e.g_time_bounds e.f_time_bounds.kp e.b_time_bounds .nil pass0 (pa_cons (pe_ix ix_list (pv 5) pe_int (fun _ _ => rfl)) (pa_cons (pe_ix ix_list (pv 5) pe_int (fun _ _ => rfl)) pa_nil))) pa_nil)) (by rfl))
      (pss_cons (ps_if (PW.pt (pw_or (pt_cmpR op_ne (pe_callB (call_reprA hgd (u66 hr)) (by rfl) e.n_repr (by decide +kernel) (pa_cons (pv 7) pa_nil)) (pe_callB (call_reprA hgd (u66 hr)) (by rfl) e.n_repr (by decide +kernel) (pa_cons (pe_call ((ok__law_bounds e).mono (by decide)) hr rfl e.g__law_bounds e.f__law_bounds.kp e.b__law_bounds .nil pass0 (pa_cons (pv 1) (pa_cons (pv 3) pa_nil))) pa_nil)) (nomark _)) (pw_or1 (pt_cmpR op_ne (pe_callB (call_reprA hgd (u66 hr)) (by rfl) e.n_repr (by decide +kernel) (pa_cons (pv 5) pa_nil)) (pv 6) (nomark _)))))
        (pss_one (ps_ret pe_bl))
        pss_nil)
      (pss_cons (ps_for PassesOwn.never rfl (pi_zip (by rfl) e.n_zip (pa_cons (pv 7) (pa_cons (pe_slice sl_list (pv 7) (po_some pe_int) po_none) pa_nil))) (pg_tup (by rfl) (pgs_cons (pg_name (i := 8) sc__law_right.nd rfl (by first | exact Or.inl rfl | exact Or.inr rfl)) (pgs_cons (pg_name (i := 9) sc__law_right.nd rfl (by first | exact Or.inl rfl | exact Or.inr rfl)) pgs_nil)))
      (pss_one (ps_if (PW.pt (pw_or (pt_cmpR op_gt (pe_ix ix_tup (pv 8) pe_int (fun _ _ => rfl)) (pe_ix ix_tup (pv 9) pe_int (fun _ _ => rfl)) (nomark _)) (pw_or1 (pt_cmpR op_gt (pe_ix ix_tup (pv 8) pe_int (fun _ _ => rfl)) (pe_ix ix_tup (pv 9) pe_int (fun _ _ => rfl)) (nomark _)))))
        (pss_one (ps_ret pe_bl))
        pss_nil)))
      (pss_cons (ps_set (i := 10) sc__law_right.nd rfl (by first | exact Or.inl rfl | exact Or.inr rfl) (pe_call ((ok__law_times e).mono (by decide)) hr rfl e.g__law_times e.f__law_times.kp e.b__law_times .nil pass0 (pa_cons (pv 2) pa_nil)))
      (pss_cons (ps_if (pt_cmpR (op_neD hr.units) (pe_lc (own := [("time", 15), ("low", 12), ("high", 13)]) rfl sc__law_right.nd (pi_zip (by rfl) e.n_zip (pa_cons (pv 10) (pa_cons (pv 7) pa_nil))) (blkOk_by (N := ["bag", "takes", "pattern", "fills", "count", "passed", "kept", "found", "one", "other", "times_here", "drawn", "low", "high", "row", "time"]) (sc := defScope s__law_right) (by decide +kernel)) (fun _ _ _ _ _ => (show PG _ _ (gTup K 2 _) from pg_tup (by rfl) (pgs_cons (pg_name (i := 15) sc__law_right.nd rfl (by first | exact Or.inl rfl | exact Or.inr rfl)) (pgs_cons (show PG _ _ (gTup K 2 _) from pg_tup (by rfl) (pgs_cons (pg_name (i := 12) sc__law_right.nd rfl (by first | exact Or.inl rfl | exact Or.inr rfl)) (pgs_cons (pg_name (i := 13) sc__law_right.nd rfl (by first | exact Or.inl rfl | exact Or.inr rfl)) pgs_nil))) pgs_nil)))) (fun _ _ _ _ _ => pts_one (pt_not (pt_chain op_le op_le (pv 12) (pv 15) (pv 13)))) (fun _ _ _ _ _ => pe_int)) (pe_lst pa_nil) (nomark _))
        (pss_one (ps_ret pe_bl))
        pss_nil)
      (pss_cons (ps_set (i := 11) sc__law_right.nd rfl (by first | exact Or.inl rfl | exact Or.inr rfl) (pe_lst pa_nil))
      (pss_cons (ps_for PassesOwn.never rfl (pi_list (pv 7)) (pg_tup (by rfl) (pgs_cons (pg_name (i := 12) sc__law_right.nd rfl (by first | exact Or.inl rfl | exact Or.inr rfl)) (pgs_cons (pg_name (i := 13) sc__law_right.nd rfl (by first | exact Or.inl rfl | exact Or.inr rfl)) pgs_nil)))
      (pss_cons (ps_set (i := 12) sc__law_right.nd rfl (by first | exact Or.inl rfl | exact Or.inr rfl) (pe_callB (cr_max rfl) (by rfl) e.n_max (by decide +kernel) (pa_cons (pe_op op_cat (pe_lst (pa_cons (pv 12) pa_nil)) (pe_slice sl_list (pv 11) (po_some (pe_un un_neg pe_int)) po_none)) pa_nil)))
      (pss_one (ps_expr (pe_bm PySem.F.plainAttrs_list PySem.F.slot_list_append PySem.F.type_list_append mt_append (pv 11) (pa_cons (pe_op op_add (pv 12) (pe_call ((ok__law_draw e).mono (by decide)) hr rfl e.g__law_draw e.f__law_draw.kp e.b__law_draw .nil pass0 (pa_cons (pv 0) (pa_cons (pe_op op_add (pe_op op_sub (pv 13) (pv 12)) pe_int) pa_nil)))) pa_nil))))))
      (pss_cons (ps_for PassesOwn.never rfl (pi_list (pe_lst (pa_cons (pe_lc (own := [("low", 12), ("high", 13)]) rfl sc__law_right.nd (pi_list (pv 7)) (blkOk_by (N := ["bag", "takes", "pattern", "fills", "count", "passed", "kept", "found", "one", "other", "times_here", "drawn", "low", "high", "row", "time"]) (sc := defScope s__law_right) (by decide +kernel)) (fun _ _ _ _ _ => (show PG _ _ (gTup K 2 _) from pg_tup (by rfl) (pgs_cons (pg_name (i := 12) sc__law_right.nd rfl (by first | exact Or.inl rfl | exact Or.inr rfl)) (pgs_cons (pg_name (i := 13) sc__law_right.nd rfl (by first | exact Or.inl rfl | exact Or.inr rfl)) pgs_nil)))) (fun _ _ _ _ _ => pts_nil) (fun _ _ _ _ _ => (pv 12))) (pa_cons (pe_lc (own := [("low", 12), ("high", 13)]) rfl sc__law_right.nd (pi_list (pv 7)) (blkOk_by (N := ["bag", "takes", "pattern", "fills", "count", "passed", "kept", "found", "one", "other", "times_here", "drawn", "low", "high", "row", "time"]) (sc := defScope s__law_right) (by decide +kernel)) (fun _ _ _ _ _ => (show PG _ _ (gTup K 2 _) from pg_tup (by rfl) (pgs_cons (pg_name (i := 12) sc__law_right.nd rfl (by first | exact Or.inl rfl | exact Or.inr rfl)) (pgs_cons (pg_name (i := 13) sc__law_right.nd rfl (by first | exact Or.inl rfl | exact Or.inr rfl)) pgs_nil)))) (fun _ _ _ _ _ => pts_nil) (fun _ _ _ _ _ => (pv 13))) (pa_cons (pv 11) pa_nil))))) (pg_name (i := 14) sc__law_right.nd rfl (by first | exact Or.inl rfl | exact Or.inr rfl))
      (pss_one (ps_if (pt_cmpR (op_neD hr.units) (pe_call ((ok_fills_by e).mono (by decide)) hr rfl e.g_fills_by e.f_fills_by.kp e.b_fills_by .nil pass0 (pa_cons (pv 1) (pa_cons (pe_call ((ok__law_written e).mono (by decide)) hr rfl e.g__law_written e.f__law_written.kp e.b__law_written .nil pass0 (pa_cons (pv 14) (pa_cons (pv 4) pa_nil))) pa_nil))) (pv 3) (nomark _))
        (pss_one (ps_ret pe_bl))
        pss_nil)))
      (pss_one (ps_ret pe_bl)))))))))))), ?_⟩
    refine ⟨_, rfl, _, rfl, p, tk, t, rfl, SqL.of hp, le, g, ht, fun H1 fp s1 nf hf => ?_⟩
    have hp1 := s1 _ _ hp
    refine ⟨_, rfl, p, _, rfl, .inl (SqL.of hp1), _, _, rfl, ?_⟩
    rw [List.length_map]
    generalize hfs : fillsOf tk t = fs at *
    have G1 := G.same s1
    have nfb : fp ≠ b := G.ne_new nf
    refine ⟨_, rfl, _, rfl, b, l, ns, d, p, tk, rfl, G1, by omega, hl, hp1, hpb, fun H2 q1 G2 F2 n1 h1 => ?_⟩
    obtain ⟨t1, h1⟩ : ∃ t1 : Bool, H2 q1 = some (sqo t1 tk) := by
      rcases h1 with h1 | h1
      · exact ⟨false, h1⟩
      · exact ⟨true, h1⟩
    have hf2 := F2 _ _ hf nfb
    have hp2 := F2 _ _ hp1 hpb
    have n1b : q1 ≠ b := G1.ne_new n1
    refine ⟨_, rfl, _, rfl, b, l, ns, _, fp, fs, rfl, G2, by omega, hl, hf2, nfb, fun H3 q2 G3 F3 n2 h2 => ?_⟩
    obtain ⟨t2, h2⟩ : ∃ t2 : Bool, H3 q2 = some (sqo t2 fs) := by
      rcases h2 with h2 | h2
      · exact ⟨false, h2⟩
      · exact ⟨true, h2⟩
    have hf3 := F3 _ _ hf2 nfb
    have hp3 := F3 _ _ hp2 hpb
    have h13 := F3 _ _ h1 n1b
    have F03 : Fr H H3 b := (Fr.of s1).trans (F2.trans F3)
    refine ⟨(by show 2 ≤ sizeLine; decide), fun pa hpa => ?_⟩
    have spa := same_upd (o := HO.lst [.ref q1, .ref q2]) hpa
    have hpa4 : (upd H3 pa (.lst [.ref q1, .ref q2])) pa = some (.lst [.ref q1, .ref q2]) := upd_same
    have hf4 := spa _ _ hf3
    have hp4 := spa _ _ hp3
    have h14 := spa _ _ h13
    have h24 := spa _ _ h2
    have G4 := G3.same spa
    have F04 : Fr H (upd H3 pa (.lst [.ref q1, .ref q2])) b := F03.trans (Fr.of spa)
    generalize upd H3 pa (.lst [.ref q1, .ref q2]) = H4 at hpa4 hf4 hp4 h14 h24 G4 F04
    have dpass : ∀ H', Same H4 H' → Dp K H' (.ref pa) (.list [dat t1 tk, dat t2 fs]) := fun H' s => .lst (SqL.of (s _ _ hpa4)) (.cons (dp_dat t1 (s _ _ h14)) (.cons (dp_dat t2 (s _ _ h24)) .nil))
    obtain ⟨w1, w2, w3⟩ := (Sm.list (l := [dat t1 tk, dat t2 fs]) (k := 1) (w := 24400) fun d hd => by
      rcases List.mem_cons.mp hd with rfl | hd
      · exact sm_dat pl
      · rw [List.mem_singleton] at hd; subst hd; exact sm_dat plf).ok (by decide) (by show (24400 + 1) * 2 ≤ 200000; decide)
    refine ⟨_, rfl, .inr (.inr ⟨pa, _, rfl, dpass _ (Same.refl _), w1, w2, w3, ?_⟩)⟩
    refine ⟨_, rfl, pa, _, _, _, rfl, rfl, SqL.of hpa4, rfl, _, rfl, pa, _, _, _, rfl, rfl, SqL.of hpa4, rfl, q1, q2, tk, fs, rfl, is_sqo h14, is_sqo h24, pl, pf, no, fun H5 fo Ts s5 nfo prs => ⟨_, _, rfl, ?_⟩⟩
    have nfo0 : ∀ H', Fr H4 H' b → True := fun _ _ => trivial
    obtain ⟨v1, v2, v3⟩ := (sm_bnds pl pf).ok (by decide) (by decide)
    have hp5 := s5 _ _ hp4
    have hf5 := s5 _ _ hf4
    have G5 := G4.same s5
    refine ⟨_, rfl, .inr (.inr ⟨fo, _, rfl, dp_bdat prs, v1, v2, v3, _, rfl, _, rfl, p, fp, tk, fs, rfl, SqL.of hp5, SqL.of hf5, pl, pf, fun H6 fq Us s6 nfq prs6 => .inr (.inr ⟨fq, _, rfl, dp_bdat prs6, v1, v2, v3, rfl, _, rfl, iteNS rfl ?_⟩)⟩)⟩
    refine ⟨_, rfl, .inr (.inr ⟨pa, _, rfl, dpass _ (s5.trans s6), w1, w2, w3, _, rfl, rfl, _, rfl, iteNS rfl ?_⟩)⟩
    have hp6 := s6 _ _ hp5
    have hf6 := s6 _ _ hf5
    have G6 := G5.same s6
    have pr6 := prs.same s6
    clear prs prs6
    have tl := pr6.len
    rw [bnds_len] at tl
    have mono : ∀ i, i + 1 < fs.length → lo tk fs i ≤ lo tk fs (i + 1) ∧ hi tk fs i ≤ hi tk fs (i + 1) := fun i _ => ⟨lo_mono tk fs (by omega), hi_mono tk fs (by omega)⟩
    have ecut : cutV (Ts.map V.ref) (some 1) none = (Ts.drop 1).map V.ref := cut_map V.ref Ts 1
    refine ⟨_, rfl, _, rfl, _, rfl, _, _, rfl, SqL.of pr6.ls, fun sl hsl => ⟨fo, sl, _, _, rfl, SqL.of (same_upd hsl _ _ pr6.ls), SqL.of upd_same, ?_⟩⟩
    rw [ecut]
    have ssl := same_upd (o := HO.lst ((Ts.drop 1).map V.ref)) hsl
    have hsl7 : (upd H6 sl (.lst ((Ts.drop 1).map V.ref))) sl = some (.lst ((Ts.drop 1).map V.ref)) := upd_same
    have pr7 := pr6.same ssl
    have hp7 := ssl _ _ hp6
    have hf7 := ssl _ _ hf6
    have G7 := G6.same ssl
    have s47 := (s5.trans s6).trans ssl
    generalize upd H6 sl (.lst ((Ts.drop 1).map V.ref)) = H7 at ssl hsl7 pr7 hp7 hf7 G7 s47
    have F07 : Fr H H7 b := F04.trans (Fr.of s47)
    clear hsl
    refine for_it (walk_zip (n := fs.length - 1) (by rw [List.length_map, List.length_map, List.length_drop]; omega)) (fun i σ H' => ∃ v8 v9 : Option V, Same H7 H' ∧ σ = [some (.ref b), some (.ref p), some (.str (pstr t)), some (.ref fp), some (.int tk.length), some (.ref pa), some (.str (PyData.list [dat t1 tk, dat t2 fs]).shown), some (.ref fo), v8, v9, none, none, none, none, none, none])
      ⟨none, none, Same.refl _, rfl⟩ (fun i σ H' _ ⟨_, _, s, _⟩ => ⟨SqL.of (s _ _ pr7.ls), SqL.of (s _ _ hsl7)⟩) ?_ ?_
    · rintro i x σ Hq H8 hi ⟨v8, v9, s8, rfl⟩ ⟨T, x1, y1, rfl, hT, rfl, hx, hy⟩
      obtain ⟨A1, hA, rfl⟩ := at_ref hx
      obtain ⟨A2, hB, rfl⟩ := at_ref hy
      rw [List.getElem?_drop, Nat.add_comm] at hB
      have sT := same_upd (o := HO.tup [V.ref A1, V.ref A2]) hT
      have g1 := sT _ _ (s8 _ _ (pr7.at_ i A1 _ hA (bnds_get (by omega))))
      have g2 := sT _ _ (s8 _ _ (pr7.at_ (i + 1) A2 _ hB (bnds_get (by omega))))
      have m0 := mono i (by omega)
      refine ⟨_, _, rfl, SqT.of upd_same, rfl, _, _, rfl, _, _, rfl, rfl, ?_⟩
      refine ⟨_, rfl, A1, _, _, _, rfl, rfl, SqT.of g1, rfl, _, rfl, A2, _, _, _, rfl, rfl, SqT.of g2, rfl, _, _, rfl, rfl, _, rfl, iteX (by omega) ?_⟩
      refine ⟨_, rfl, A1, _, _, _, rfl, rfl, SqT.of g1, rfl, _, rfl, A2, _, _, _, rfl, rfl, SqT.of g2, rfl, _, _, rfl, rfl, _, rfl, iteX (by omega) ?_⟩
      exact ⟨_, _, s8.trans sT, rfl⟩
    · rintro σ H8 ⟨v8, v9, s8, rfl⟩
      have ftl : fls t ≤ 200 := by rw [g.2, ht]; exact le
      refine ⟨_, rfl, t, rfl, ftl, fun H9 th s9 nth hth => ?_⟩
      have pr9 := (pr7.same s8).same s9
      have tln : (times t).length = fs.length := by rw [times_len, g.2, ht, fl]
      refine ⟨_, rfl, _, rfl, th, fo, _, _, rfl, SqL.of hth, SqL.of pr9.ls, fun D hD => ?_⟩
      refine lc_it (walk_zip (n := fs.length) (by rw [List.length_map, List.length_map, tln]; omega)) (fun j H' => Same H9 H' ∧ H' D = some (.lst [])) ⟨same_upd hD, upd_same⟩ (fun j H' _ e => ⟨SqL.of (e.1 _ _ hth), SqL.of (e.1 _ _ pr9.ls)⟩) ?_ ?_
      · rintro j x Ha Hb hj ⟨sa, haD⟩ ⟨T, x1, y1, rfl, hT, rfl, hx, hy⟩
        obtain ⟨u, hu, rfl⟩ := natV_get (show (natV (times t))[j]? = some x1 from hx)
        obtain ⟨A1, hA, rfl⟩ := at_ref hy
        have sT := same_upd (o := HO.tup [V.int (u : Nat), V.ref A1]) hT
        have g1 := sT _ _ (sa _ _ (pr9.at_ j A1 _ hA (bnds_get hj)))
        obtain ⟨b1, b2⟩ := wi j u hu
        refine ⟨_, _, rfl, SqT.of upd_same, rfl, _, _, rfl, _, _, rfl, ⟨_, _, rfl, SqT.of g1, rfl, _, _, rfl, _, _, rfl, rfl, rfl, rfl, ?_⟩⟩
        refine chain_le (a := (lo tk fs j : Nat)) (b := (u : Nat)) (c := (hi tk fs j : Nat)) (fun R r => ⟨_, rfl, r⟩) (fun R r => ⟨_, rfl, r⟩) (fun R r => ⟨_, rfl, r⟩) ⟨_, rfl, iteNS ⟨by omega, by omega⟩ ?_⟩
        exact ⟨sa.trans sT, sT _ _ haD⟩
      · rintro Ha ⟨sa, haD⟩
        refine ⟨by decide, fun e1 he1 => ?_⟩
        have se := same_upd (o := HO.lst []) he1
        refine ⟨_, _, .lst (SqL.of (se _ _ haD)) .nil, .lst (SqL.of upd_same) .nil, by decide, by decide, _, rfl, ?_⟩
        rw [show PyData.eqv (.list []) (.list []) = true from eqv_self []]
        refine iteF ?_
        have s79 := ((s8.trans s9).trans sa).trans se
        have hp10 := s79 _ _ hp7
        have hf10 := s79 _ _ hf7
        have pr10 := (pr9.same sa).same se
        have G10 := G7.same s79
        have F010 : Fr H (upd Ha e1 (.lst [])) b := F07.trans (Fr.of s79)
        generalize upd Ha e1 (.lst []) = Hc at se s79 hp10 hf10 pr10 G10 F010
        clear hD he1 pr9 pr7 sa se s9 s8
        refine ⟨by decide, fun dp hdp => ?_⟩
        have sd := same_upd (o := HO.lst []) hdp
        have ndb : dp ≠ b := G10.ne_new hdp
        have ndl : dp ≠ l := (G10.l_ne hdp).symm
        refine ⟨_, rfl, fo, rfl, ⟨_, SqL.of (sd _ _ pr10.ls)⟩, ?_⟩
        have nfb2 : fo ≠ b := G4.ne_new nfo
        refine for_it (walk_list (xs := Ts.map V.ref)) (fun i σ H' => ∃ (ds : List Nat) (v12 v13 : Option V), Dr tk fs ds i ∧ Bag H' b l ns (d + 2 + i) ∧ (∀ c o, Hc c = some o → c ≠ b → H' c = some o) ∧ H' dp = some (.lst (natV ds)) ∧
            σ = [some (.ref b), some (.ref p), some (.str (pstr t)), some (.ref fp), some (.int tk.length), some (.ref pa), some (.str (PyData.list [dat t1 tk, dat t2 fs]).shown), some (.ref fo), v8, v9, some (.ref th), some (.ref dp), v12, v13, none, none])
          ⟨[], none, none, ⟨rfl, List.Pairwise.nil, fun j t e => by simp at e⟩, (G10.same sd).mono (by omega), fun c o h _ => sd _ _ h, upd_same, rfl⟩ (fun i σ H' _ ⟨_, _, _, _, _, s, _⟩ => SqL.of (s _ _ pr10.ls nfb2)) ?_ ?_
        · rintro i x σ Hq Hd hil ⟨ds, v12, v13, dr, Gd, sd2, hdd, rfl⟩ ⟨rfl, hx⟩
          obtain ⟨A1, hA, rfl⟩ := at_ref hx
          rw [List.length_map, tl] at hil
          have nAb : A1 ≠ b := fun e => by
            have z := pr10.at_ i A1 _ hA (bnds_get hil)
            obtain ⟨o, ho⟩ := G10.nb
            obtain ⟨⟨_, _, _, _, hbb, _⟩, _, _⟩ := G10
            rw [e, hbb] at z; cases z
          have g1 := sd2 _ _ (pr10.at_ i A1 _ hA (bnds_get hil)) nAb
          have dl := dr.len
          have hti := List.getElem?_eq_getElem (l := times t) (i := i) (by omega)
          obtain ⟨b1, b2⟩ := wi i _ hti
          have hin := hi_le tk fs i
          refine ⟨_, _, rfl, SqT.of g1, rfl, _, _, rfl, _, _, rfl, rfl, ?_⟩
          refine ⟨_, rfl, (by show 1 ≤ sizeLine; decide), fun q1 hq1 => ?_⟩
          have sq1 := same_upd (o := HO.lst [V.int (lo tk fs i : Nat)]) hq1
          refine ⟨_, rfl, _, rfl, _, rfl, _, _, rfl, SqL.of (sq1 _ _ hdd), fun sl hsl => ?_⟩
          rw [cut_last]
          have ssl := same_upd (o := HO.lst (natV (ds.drop (ds.length - 1)))) hsl
          refine ⟨q1, sl, _, _, rfl, rfl, ssl _ _ upd_same, upd_same, by
            rw [natV_len, List.length_drop]
            show 1 + _ ≤ _
            exact Nat.le_of_lt (small1000 (by omega)), fun z hz => ?_⟩
          have sz := same_upd (o := HO.lst ([V.int (lo tk fs i : Nat)] ++ natV (ds.drop (ds.length - 1)))) hz
          have nI : ([V.int (lo tk fs i : Nat)] ++ natV (ds.drop (ds.length - 1))) = ([((lo tk fs i : Nat) : Int)] ++ (ds.drop (ds.length - 1)).map fun t : Nat => (t : Int)).map V.int := by
            rw [List.map_append, List.map_map]; rfl
          refine ⟨z, [((lo tk fs i : Nat) : Int)] ++ (ds.drop (ds.length - 1)).map fun t : Nat => (t : Int), rfl, SqL.of (by rw [upd_same, nI]), by simp, fun m hm hmax => ?_⟩
          obtain ⟨kk, rfl, k1, k2, k3⟩ : ∃ kk : Nat, m = (kk : Int) ∧ lo tk fs i ≤ kk ∧ (∀ u ∈ ds.drop (ds.length - 1), u ≤ kk) ∧ kk ≤ hi tk fs i := by
            have m1 := hmax _ (List.mem_append_left _ (List.mem_singleton.mpr rfl))
            have m2 : ∀ u ∈ ds.drop (ds.length - 1), ((u : Nat) : Int) ≤ m := fun u hu => hmax _ (List.mem_append_right _ (List.mem_map.mpr ⟨u, hu, rfl⟩))
            rcases List.mem_append.mp hm with q | q
            · rw [List.mem_singleton] at q; subst q
              exact ⟨_, rfl, Nat.le_refl _, fun u hu => Int.ofNat_le.mp (m2 u hu), by omega⟩
            · obtain ⟨u, hu, rfl⟩ := List.mem_map.mp q
              refine ⟨u, rfl, Int.ofNat_le.mp m1, fun w hw => Int.ofNat_le.mp (m2 w hw), ?_⟩
              obtain ⟨j, e⟩ := List.mem_iff_getElem?.mp hu
              rw [List.getElem?_drop] at e
              have hj := (List.getElem?_eq_some_iff.mp e).1
              have := (dr.bd _ _ e).2
              have := hi_mono tk fs (show ds.length - 1 + j ≤ i by omega)
              omega
          have nI2 : ∀ H', Same Hd H' → True := fun _ _ => trivial
          have hall : Same Hd (upd (upd (upd Hd q1 (.lst [V.int (lo tk fs i : Nat)])) sl (.lst (natV (ds.drop (ds.length - 1))))) z (.lst ([V.int (lo tk fs i : Nat)] ++ natV (ds.drop (ds.length - 1))))) := (sq1.trans ssl).trans sz
          generalize upd (upd (upd Hd q1 (.lst [V.int (lo tk fs i : Nat)])) sl (.lst (natV (ds.drop (ds.length - 1))))) z (.lst ([V.int (lo tk fs i : Nat)] ++ natV (ds.drop (ds.length - 1)))) = He at hall
          refine ⟨_, rfl, .inl ⟨rfl, _, SqL.of (hall _ _ hdd)⟩, ?_⟩
          have epos : (0 : Int) < ((hi tk fs i : Nat) : Int) - (kk : Nat) + 1 := by omega
          have elog : (((hi tk fs i : Nat) : Int) - (kk : Nat) + 1).natAbs.log2 < 9000 := by
            have e : ((hi tk fs i : Nat) : Int) - (kk : Nat) + 1 = ((hi tk fs i - kk + 1 : Nat) : Int) := by omega
            rw [e]
            exact log_small (by omega)
          refine ⟨_, rfl, _, rfl, _, rfl, _, rfl, _, _, rfl, rfl, _, _, rfl, rfl, b, l, ns, _, _, rfl, Gd.same hall, epos, elog, by omega, hl, fun Hf r r0 r1 Gf Ff => ?_⟩
          have hdf := Ff _ _ (hall _ _ hdd) ndb
          refine ⟨_, _, rfl, rfl, dp, _, _, rfl, rfl, hdf, by rw [natV_len]; exact small1000 (by omega), ds ++ [kk + r.toNat], _, _, dr.snoc (fun u hu => by have := k2 u hu; omega) ⟨by omega, by omega⟩, (Gf.wr ndb ndl).mono (by omega), ?_, ?_, rfl⟩
          · intro c o hc hcb
            rw [upd_ne (ne_of_none hc hdp)]
            exact Ff _ _ (hall _ _ (sd2 _ _ hc hcb)) hcb
          · rw [upd_same, natV_snoc, show (((kk + r.toNat : Nat) : Int)) = (kk : Int) + r by omega]
        · rintro σ Hd ⟨ds, v12, v13, dr, Gd, sd2, hdd, rfl⟩
          rw [List.length_map, tl] at dr Gd
          have dlen := dr.len
          have fo2 := sd2 _ _ pr10.ls nfb2
          have prd : Prs Hd fo (bnds tk fs) Ts := ⟨fo2, pr10.len, fun i T x h1 h2 => sd2 _ _ (pr10.at_ i T x h1 h2) (fun e => by
            have z := pr10.at_ i T x h1 h2
            obtain ⟨⟨_, _, _, _, hbb, _⟩, _, _⟩ := G10
            rw [e, hbb] at z; cases z)⟩
          have hpd := sd2 _ _ hp10 hpb
          have hfd := sd2 _ _ hf10 nfb
          have Fd : Fr H Hd b := fun c o hc hcb => sd2 _ _ (F010 _ _ hc hcb) hcb
          have ll := los_len tk fs
          have hl2 := his_len tk fs
          have lo_at : ∀ {i : Nat}, i < fs.length → (los tk fs)[i]? = some (lo tk fs i) := fun {i} h => (List.getElem?_zip_eq_some.mp (bnds_get h)).1
          have hi_at : ∀ {i : Nat}, i < fs.length → (his tk fs)[i]? = some (hi tk fs i) := fun {i} h => (List.getElem?_zip_eq_some.mp (bnds_get h)).2
          have lohi : ∀ i, i < fs.length → lo tk fs i ≤ hi tk fs i := fun i h => by
            have hti := List.getElem?_eq_getElem (l := times t) (i := i) (by omega)
            obtain ⟨b1, b2⟩ := wi i _ hti
            omega
          have drL : Dr tk fs (los tk fs) fs.length := ⟨ll, by
            unfold los
            rw [List.pairwise_map]
            exact List.Pairwise.imp (fun h => lo_mono tk fs (Nat.le_of_lt h)) List.pairwise_lt_range, fun j u e => by
            have hj := (List.getElem?_eq_some_iff.mp e).1
            rw [lo_at (by omega)] at e
            cases e
            exact ⟨Nat.le_refl _, lohi j (by omega)⟩⟩
          have drH : Dr tk fs (his tk fs) fs.length := ⟨hl2, by
            unfold his
            rw [List.pairwise_map]
            exact List.Pairwise.imp (fun h => hi_mono tk fs (Nat.le_of_lt h)) List.pairwise_lt_range, fun j u e => by
            have hj := (List.getElem?_eq_some_iff.mp e).1
            rw [hi_at (by omega)] at e
            cases e
            exact ⟨lohi j (by omega), Nat.le_refl _⟩⟩
          refine ⟨_, rfl, fo, rfl, ⟨_, SqL.of prd.ls⟩, fun D1 hD1 => ?_⟩
          have sD1 := fun o => same_upd (o := o) hD1
          refine lc_it (walk_list (xs := Ts.map V.ref)) (fun j H' => H' = upd Hd D1 (.lst (natV ((los tk fs).take j)))) rfl (fun j H' _ e => by subst e; exact SqL.of (sD1 _ _ _ prd.ls)) ?_ ?_
          · rintro j x Ha Hb hj rfl ⟨rfl, hx⟩
            obtain ⟨A1, hA, rfl⟩ := at_ref hx
            rw [List.length_map, tl] at hj
            have g1 := sD1 (.lst (natV ((los tk fs).take j))) _ _ (prd.at_ j A1 _ hA (bnds_get hj))
            refine ⟨_, _, rfl, SqT.of g1, rfl, _, _, rfl, _, _, rfl, rfl, rfl, _, rfl, _, upd_same, by rw [natV_len, List.length_take]; exact small1000 (by omega), ?_⟩
            rw [upd_upd, take_snoc (lo_at hj), natV_snoc]
          rintro Ha rfl
          rw [List.length_map, tl, ← ll, List.take_length]
          have hD1b : (upd Hd D1 (.lst (natV (los tk fs)))) D1 = some (.lst (natV (los tk fs))) := upd_same
          have sE1 := sD1 (.lst (natV (los tk fs)))
          generalize upd Hd D1 (.lst (natV (los tk fs))) = He at hD1b sE1
          have pre := prd.same sE1
          refine ⟨_, rfl, fo, rfl, ⟨_, SqL.of pre.ls⟩, fun D2 hD2 => ?_⟩
          have sD2 := fun o => same_upd (o := o) hD2
          refine lc_it (walk_list (xs := Ts.map V.ref)) (fun j H' => H' = upd He D2 (.lst (natV ((his tk fs).take j)))) rfl (fun j H' _ e => by subst e; exact SqL.of (sD2 _ _ _ pre.ls)) ?_ ?_
          · rintro j x Ha Hb hj rfl ⟨rfl, hx⟩
            obtain ⟨A1, hA, rfl⟩ := at_ref hx
            rw [List.length_map, tl] at hj
            have g1 := sD2 (.lst (natV ((his tk fs).take j))) _ _ (pre.at_ j A1 _ hA (bnds_get hj))
            refine ⟨_, _, rfl, SqT.of g1, rfl, _, _, rfl, _, _, rfl, rfl, rfl, _, rfl, _, upd_same, by rw [natV_len, List.length_take]; exact small1000 (by omega), ?_⟩
            rw [upd_upd, take_snoc (hi_at hj), natV_snoc]
          rintro Ha rfl
          rw [List.length_map, tl, ← hl2, List.take_length]
          have hD2b : (upd He D2 (.lst (natV (his tk fs)))) D2 = some (.lst (natV (his tk fs))) := upd_same
          have sE2 := sD2 (.lst (natV (his tk fs)))
          generalize upd He D2 (.lst (natV (his tk fs))) = Hf at hD2b sE2
          have sdf := sE1.trans sE2
          refine ⟨_, rfl, (by show 3 ≤ sizeLine; decide), fun rp hrp => ⟨rp, rfl, ⟨_, SqL.of upd_same⟩, ?_⟩⟩
          have srp := same_upd (o := HO.lst [.ref D1, .ref D2, .ref dp]) hrp
          have hrp2 : (upd Hf rp (.lst [.ref D1, .ref D2, .ref dp])) rp = some (.lst [.ref D1, .ref D2, .ref dp]) := upd_same
          have sdg := sdf.trans srp
          have rows : ∀ (i : Nat) v, [V.ref D1, V.ref D2, V.ref dp][i]? = some v → ∃ (r : Addr) (ts : List Nat), v = .ref r ∧ (upd Hf rp (.lst [.ref D1, .ref D2, .ref dp])) r = some (.lst (natV ts)) ∧ Dr tk fs ts fs.length := by
            intro i v e
            match i, e with
            | 0, e => cases e; exact ⟨D1, _, rfl, srp _ _ (sE2 _ _ hD1b), drL⟩
            | 1, e => cases e; exact ⟨D2, _, rfl, srp _ _ hD2b, drH⟩
            | 2, e => cases e; exact ⟨dp, _, rfl, sdg _ _ hdd, dr⟩
            | n + 3, e => simp at e
          generalize upd Hf rp (.lst [.ref D1, .ref D2, .ref dp]) = Hg at srp hrp2 sdg rows
          have hpg := sdg _ _ hpd
          have hfg := sdg _ _ hfd
          refine for_it (walk_list (xs := [V.ref D1, V.ref D2, V.ref dp])) (fun i σ H' => ∃ v14 : Option V, Same Hg H' ∧ σ = [some (.ref b), some (.ref p), some (.str (pstr t)), some (.ref fp), some (.int tk.length), some (.ref pa), some (.str (PyData.list [dat t1 tk, dat t2 fs]).shown), some (.ref fo), v8, v9, some (.ref th), some (.ref dp), v12, v13, v14, none])
            ⟨none, Same.refl _, rfl⟩ (fun i σ H' _ ⟨_, s, _⟩ => SqL.of (s _ _ hrp2)) ?_ ?_
          · rintro i x σ Hq Hh hil ⟨v14, sh, rfl⟩ ⟨rfl, hx⟩
            obtain ⟨r, ts, rfl, hr, drr⟩ := rows i x hx
            have lts := drr.len
            obtain ⟨w1', w2', w3', w4', w5'⟩ := wrote_leads nd pf drr.mono (by omega) fun j u e => drr.bd j u e
            have hj : ∀ (j u : Nat), ts[j]? = some u → j < u ∧ u ≤ ts.length := fun j u e => by
              obtain ⟨c1, c2⟩ := drr.bd j u e
              have jl := (List.getElem?_eq_some_iff.mp e).1
              have := lo_ge nd pf (show j < fs.length by omega)
              have := hi_le tk fs j
              omega
            have elen : V.int (tk.length : Nat) = V.int (ts.length : Nat) := by rw [lts, fl]
            refine ⟨_, rfl, _, rfl, _, rfl, r, ts, by rw [elen]; rfl, SqL.of (sh _ _ hr), by omega, drr.mono, hj, fun Hi si => ?_⟩
            have shi := sh.trans si
            refine ⟨p, tk, wrote ts, rfl, SqE.l (shi _ _ hpg), pl, w1', w2', fun Hj x sj nx hx => ?_⟩
            rw [w3'] at hx
            refine ⟨_, rfl, _, _, .lst (SqL.of hx) (dp_ints _), .lst (SqL.of ((shi.trans sj) _ _ hfg)) (dp_ints _), shaped_ints _, shaped_ints _, _, rfl, ?_⟩
            rw [eqv_self]
            refine iteF ?_
            exact ⟨_, shi.trans sj, rfl⟩
          · rintro σ Hh ⟨v14, sh, rfl⟩
            refine k Hh (((Gd.same sdg).same sh).mono (by omega)) ?_
            exact Fd.trans (Fr.of (sdg.trans sh))
end
end LP

namespace LP
open PySem L2 LT LG LQ LH LC LX
section
variable {P : Program} {w : World} {K : PySem.W.Frag} {mg : Str → Option Value} {base : Heap}
theorem ok_law (e : Env K mg) : LG.FnG P w K mg base CX0 10 e.a_law e.d_law ["script"] (sp_law K) := by
  refine LG.okG e.f_law sc_law (fun vs H Q E h => ?_) (fun cdv A outer s H vs Q E hgd hr h => ?_)
  · obtain ⟨a, ns, rfl, _⟩ := h; rfl
  · obtain ⟨a, ns, rfl, hS, hl, k⟩ := h
    refine ⟨_, (pss_cons (ps_set (i := 1) sc_law.nd rfl (by first | exact Or.inl rfl | exact Or.inr rfl) (pe_call ((ok__law_bag e).mono (by decide)) hr rfl e.g__law_bag e.f__law_bag.kp e.b__law_bag .nil pass0 (pa_cons (pv 0) pa_nil)))
      (pss_cons (ps_for PassesOwn.never rfl (pi_range1 (by rfl) e.n_range (pa_cons (pe_op op_add pe_int (pe_callB (call_min2 rfl) (by rfl) e.n_min (by decide +kernel) (pa_cons pe_int (pa_cons (pe_callB call_len_seq (by rfl) e.n_len PySem.boot_len (pa_cons (pv 0) pa_nil)) pa_nil)))) pa_nil)) (pg_name (i := 2) sc_law.nd rfl (by first | exact Or.inl rfl | exact Or.inr rfl))
      (pss_cons (ps_set (i := 3) sc_law.nd rfl (by first | exact Or.inl rfl | exact Or.inr rfl) (pe_ix ix_list (pe_lst (pa_cons pe_int (pa_cons (pe_call ((ok__law_draw e).mono (by decide)) hr rfl e.g__law_draw e.f__law_draw.kp e.b__law_draw .nil pass0 (pa_cons (pv 1) (pa_cons pe_int pa_nil))) (pa_cons (pe_call ((ok__law_draw e).mono (by decide)) hr rfl e.g__law_draw e.f__law_draw.kp e.b__law_draw .nil pass0 (pa_cons (pv 1) (pa_cons pe_int pa_nil))) pa_nil)))) (pe_callB (call_min2 rfl) (by rfl) e.n_min (by decide +kernel) (pa_cons (pv 2) (pa_cons pe_int pa_nil))) (fun _ _ => rfl)))
      (pss_one (ps_if (pt_not (pt_val (pe_callG ((ok__law_right e).up (by decide)) hgd hr rfl e.g__law_right e.f__law_right.kp e.b__law_right .nil pass0 (pa_cons (pv 1) (pa_cons (pe_call ((ok__law_places e).mono (by decide)) hr rfl e.g__law_places e.f__law_places.kp e.b__law_places .nil pass0 (pa_cons (pv 1) (pa_cons (pv 3) pa_nil))) (pa_cons (pe_call ((ok__law_pattern e).mono (by decide)) hr rfl e.g__law_pattern e.f__law_pattern.kp e.b__law_pattern .nil pass0 (pa_cons (pv 1) (pa_cons (pv 3) pa_nil))) pa_nil))))))
        (pss_one (ps_ret pe_bl))
        pss_nil))))
      (pss_one (ps_ret pe_bl)))), ?_⟩
    refine ⟨_, rfl, a, ns, rfl, hS, hl, fun H1 b l s1 nb nl G1 => ?_⟩
    refine ⟨_, rfl, a, _, rfl, .inl (s1.seq hS), _, _, rfl, _, _, rfl, rfl, _, rfl, ?_⟩
    obtain ⟨c, ec, hc⟩ : ∃ c : Nat, (if ((ns.map V.int).length : Int) < 5 then ((ns.map V.int).length : Int) else 5) = (c : Int) ∧ c ≤ 5 := by
      by_cases h : ((ns.map V.int).length : Int) < 5
      · exact ⟨(ns.map V.int).length, if_pos h, by omega⟩
      · exact ⟨5, if_neg h, by omega⟩
    rw [ec]
    refine ⟨by omega, by omega, for_it walk_range (fun i σ H2 => ∃ v2 v3 : Option V, σ = [some (.ref a), some (.ref b), v2, v3] ∧ Bag H2 b l ns (2000 * i))
      ⟨none, none, rfl, G1⟩ (fun _ _ _ _ _ => trivial) ?_ ?_⟩
    · rintro i x σ Hq H2 hi ⟨v2, v3, rfl, G2⟩ ⟨rfl, rfl⟩
      have hi10 : i < 10 := by omega
      refine ⟨_, rfl, b, l, ns, _, 201, rfl, G2, by decide, by decide +kernel, by omega, hl, fun H3 r r0 r1 G3 F3 => ?_⟩
      refine ⟨_, rfl, b, l, ns, _, 30, rfl, G3, by decide, by decide +kernel, by omega, hl, fun H4 u u0 u1 G4 F4 => ?_⟩
      refine ⟨(by show 3 ≤ sizeLine; decide), fun m hm => ?_⟩
      refine ⟨_, rfl, _, _, rfl, ?_⟩
      obtain ⟨z, hz, hat⟩ : ∃ z : Nat, z ≤ 200 ∧ atI [V.int 200, V.int r, V.int u] (if 2 < 0 + (i : Int) then 2 else 0 + (i : Int)) = some (V.int z) := by
        obtain rfl | rfl | h2 : i = 0 ∨ i = 1 ∨ 2 ≤ i := by omega
        · exact ⟨200, by omega, at_of (j := 0) rfl rfl⟩
        · exact ⟨r.toNat, by omega, at_of (j := 1) rfl (congrArg some (congrArg V.int (show r = ((r.toNat : Nat) : Int) by omega)))⟩
        · refine ⟨u.toNat, by omega, at_of (j := 2) ?_ (congrArg some (congrArg V.int (show u = ((u.toNat : Nat) : Int) by omega)))⟩
          split <;> omega
      refine ⟨m, _, _, _, rfl, rfl, SqL.of upd_same, hat, ?_⟩
      have G5 := G4.same (same_upd (o := HO.lst [V.int 200, V.int r, V.int u]) hm)
      generalize upd H4 m (.lst [V.int 200, V.int r, V.int u]) = H5 at G5
      refine ⟨_, rfl, _, rfl, _, rfl, b, l, ns, _, z, rfl, G5, by omega, hl, hz, fun H6 q xs G6 F6 nq pl hxl hq => ?_⟩
      have nqb : q ≠ b := G5.ne_new nq
      refine ⟨_, rfl, _, rfl, b, l, ns, _, z, rfl, G6, by omega, hl, hz, fun H7 t G7 F7 g ht => ?_⟩
      have hq7 := F7 _ _ hq nqb
      refine ⟨b, l, ns, _, q, xs, t, rfl, G7, by omega, hl, hq7, nqb, pl, g, by omega, fun H8 G8 F8 => ⟨true, rfl, iteNB rfl ?_⟩⟩
      exact ⟨_, _, rfl, G8.mono (by omega)⟩
    · rintro σ H2 ⟨v2, v3, rfl, G2⟩
      exact k _
end
end LP

namespace LP
open PySem L2 LT LG LQ LH LC LX
set_option maxHeartbeats 4000000 in
theorem all_mk {l : PySem.W.OpenLaw} {w : World} {K : PySem.W.Frag} {h : Heap} {mg : Str → Option Value} {fa : Addr} (X : K.In h) (G : h.Ns mainGlobals mg) (hfa : mg "law" = some (.ref fa))
    {t_MOST_PLACES : Tok}
    {t_GREATEST_PLACE : Tok}
    {a_is_whole : Addr} {od_is_whole an_is_whole : Option Addr} {sl_is_whole : Array (Option Value)} {oc_is_whole kV_is_whole dc_is_whole pm_is_whole cd_is_whole ct_is_whole : Value}
    {a_is_listed : Addr} {od_is_listed an_is_listed : Option Addr} {sl_is_listed : Array (Option Value)} {oc_is_listed kV_is_listed dc_is_listed pm_is_listed cd_is_listed ct_is_listed : Value}
    {a_is_place : Addr} {od_is_place an_is_place : Option Addr} {sl_is_place : Array (Option Value)} {oc_is_place kV_is_place dc_is_place pm_is_place cd_is_place ct_is_place : Value}
    {a_is_place_list : Addr} {od_is_place_list an_is_place_list : Option Addr} {sl_is_place_list : Array (Option Value)} {oc_is_place_list kV_is_place_list dc_is_place_list pm_is_place_list cd_is_place_list ct_is_place_list : Value}
    {a_check_places : Addr} {od_check_places an_check_places : Option Addr} {sl_check_places : Array (Option Value)} {oc_check_places kV_check_places dc_check_places pm_check_places cd_check_places ct_check_places : Value}
    {a_check_same_places : Addr} {od_check_same_places an_check_same_places : Option Addr} {sl_check_same_places : Array (Option Value)} {oc_check_same_places kV_check_same_places dc_check_same_places pm_check_same_places cd_check_same_places ct_check_same_places : Value}
    {a_check_pair : Addr} {od_check_pair an_check_pair : Option Addr} {sl_check_pair : Array (Option Value)} {oc_check_pair kV_check_pair dc_check_pair pm_check_pair cd_check_pair ct_check_pair : Value}
    {a_is_pattern : Addr} {od_is_pattern an_is_pattern : Option Addr} {sl_is_pattern : Array (Option Value)} {oc_is_pattern kV_is_pattern dc_is_pattern pm_is_pattern cd_is_pattern ct_is_pattern : Value}
    {a_check_pattern_for : Addr} {od_check_pattern_for an_check_pattern_for : Option Addr} {sl_check_pattern_for : Array (Option Value)} {oc_check_pattern_for kV_check_pattern_for dc_check_pattern_for pm_check_pattern_for cd_check_pattern_for ct_check_pattern_for : Value}
    {a_numbers_by_place : Addr} {od_numbers_by_place an_numbers_by_place : Option Addr} {sl_numbers_by_place : Array (Option Value)} {oc_numbers_by_place kV_numbers_by_place dc_numbers_by_place pm_numbers_by_place cd_numbers_by_place ct_numbers_by_place : Value}
    {a_fills_by : Addr} {od_fills_by an_fills_by : Option Addr} {sl_fills_by : Array (Option Value)} {oc_fills_by kV_fills_by dc_fills_by pm_fills_by cd_fills_by ct_fills_by : Value}
    {a_is_two : Addr} {od_is_two an_is_two : Option Addr} {sl_is_two : Array (Option Value)} {oc_is_two kV_is_two dc_is_two pm_is_two cd_is_two ct_is_two : Value}
    {a_is_three : Addr} {od_is_three an_is_three : Option Addr} {sl_is_three : Array (Option Value)} {oc_is_three kV_is_three dc_is_three pm_is_three cd_is_three ct_is_three : Value}
    {a_first_two : Addr} {od_first_two an_first_two : Option Addr} {sl_first_two : Array (Option Value)} {oc_first_two kV_first_two dc_first_two pm_first_two cd_first_two ct_first_two : Value}
    {a_last_fill_between : Addr} {od_last_fill_between an_last_fill_between : Option Addr} {sl_last_fill_between : Array (Option Value)} {oc_last_fill_between kV_last_fill_between dc_last_fill_between pm_last_fill_between cd_last_fill_between ct_last_fill_between : Value}
    {a_first_three : Addr} {od_first_three an_first_three : Option Addr} {sl_first_three : Array (Option Value)} {oc_first_three kV_first_three dc_first_three pm_first_three cd_first_three ct_first_three : Value}
    {a_obstruction : Addr} {od_obstruction an_obstruction : Option Addr} {sl_obstruction : Array (Option Value)} {oc_obstruction kV_obstruction dc_obstruction pm_obstruction cd_obstruction ct_obstruction : Value}
    {a_least_times : Addr} {od_least_times an_least_times : Option Addr} {sl_least_times : Array (Option Value)} {oc_least_times kV_least_times dc_least_times pm_least_times cd_least_times ct_least_times : Value}
    {a_most_times : Addr} {od_most_times an_most_times : Option Addr} {sl_most_times : Array (Option Value)} {oc_most_times kV_most_times dc_most_times pm_most_times cd_most_times ct_most_times : Value}
    {a_check_possible : Addr} {od_check_possible an_check_possible : Option Addr} {sl_check_possible : Array (Option Value)} {oc_check_possible kV_check_possible dc_check_possible pm_check_possible cd_check_possible ct_check_possible : Value}
    {a_time_bounds : Addr} {od_time_bounds an_time_bounds : Option Addr} {sl_time_bounds : Array (Option Value)} {oc_time_bounds kV_time_bounds dc_time_bounds pm_time_bounds cd_time_bounds ct_time_bounds : Value}
    {a__law_bag : Addr} {od__law_bag an__law_bag : Option Addr} {sl__law_bag : Array (Option Value)} {oc__law_bag kV__law_bag dc__law_bag pm__law_bag cd__law_bag ct__law_bag : Value}
    {a__law_stir : Addr} {od__law_stir an__law_stir : Option Addr} {sl__law_stir : Array (Option Value)} {oc__law_stir kV__law_stir dc__law_stir pm__law_stir cd__law_stir ct__law_stir : Value}
    {a__law_draw : Addr} {od__law_draw an__law_draw : Option Addr} {sl__law_draw : Array (Option Value)} {oc__law_draw kV__law_draw dc__law_draw pm__law_draw cd__law_draw ct__law_draw : Value}
    {a__law_shuffled : Addr} {od__law_shuffled an__law_shuffled : Option Addr} {sl__law_shuffled : Array (Option Value)} {oc__law_shuffled kV__law_shuffled dc__law_shuffled pm__law_shuffled cd__law_shuffled ct__law_shuffled : Value}
    {a__law_either : Addr} {od__law_either an__law_either : Option Addr} {sl__law_either : Array (Option Value)} {oc__law_either kV__law_either dc__law_either pm__law_either cd__law_either ct__law_either : Value}
    {a__law_pattern : Addr} {od__law_pattern an__law_pattern : Option Addr} {sl__law_pattern : Array (Option Value)} {oc__law_pattern kV__law_pattern dc__law_pattern pm__law_pattern cd__law_pattern ct__law_pattern : Value}
    {a__law_places : Addr} {od__law_places an__law_places : Option Addr} {sl__law_places : Array (Option Value)} {oc__law_places kV__law_places dc__law_places pm__law_places cd__law_places ct__law_places : Value}
    {a__law_filled : Addr} {od__law_filled an__law_filled : Option Addr} {sl__law_filled : Array (Option Value)} {oc__law_filled kV__law_filled dc__law_filled pm__law_filled cd__law_filled ct__law_filled : Value}
    {a__law_times : Addr} {od__law_times an__law_times : Option Addr} {sl__law_times : Array (Option Value)} {oc__law_times kV__law_times dc__law_times pm__law_times cd__law_times ct__law_times : Value}
    {a__law_bounds : Addr} {od__law_bounds an__law_bounds : Option Addr} {sl__law_bounds : Array (Option Value)} {oc__law_bounds kV__law_bounds dc__law_bounds pm__law_bounds cd__law_bounds ct__law_bounds : Value}
    {a__law_written : Addr} {od__law_written an__law_written : Option Addr} {sl__law_written : Array (Option Value)} {oc__law_written kV__law_written dc__law_written pm__law_written cd__law_written ct__law_written : Value}
    {a__law_right : Addr} {od__law_right an__law_right : Option Addr} {sl__law_right : Array (Option Value)} {oc__law_right kV__law_right dc__law_right pm__law_right cd__law_right ct__law_right : Value}
    {a_law : Addr} {od_law an_law : Option Addr} {sl_law : Array (Option Value)} {oc_law kV_law dc_law pm_law cd_law ct_law : Value}
    (z_len : PySem.W.nsIn K mainGlobals "len" = some none)
    (z_range : PySem.W.nsIn K mainGlobals "range" = some none)
    (z_list : PySem.W.nsIn K mainGlobals "list" = some none)
    (z_tuple : PySem.W.nsIn K mainGlobals "tuple" = some none)
    (z_int : PySem.W.nsIn K mainGlobals "int" = some none)
    (z_bool : PySem.W.nsIn K mainGlobals "bool" = some none)
    (z_str : PySem.W.nsIn K mainGlobals "str" = some none)
    (z_isinstance : PySem.W.nsIn K mainGlobals "isinstance" = some none)
    (z_min : PySem.W.nsIn K mainGlobals "min" = some none)
    (z_max : PySem.W.nsIn K mainGlobals "max" = some none)
    (z_sorted : PySem.W.nsIn K mainGlobals "sorted" = some none)
    (z_set : PySem.W.nsIn K mainGlobals "set" = some none)
    (z_all : PySem.W.nsIn K mainGlobals "all" = some none)
    (z_repr : PySem.W.nsIn K mainGlobals "repr" = some none)
    (z_enumerate : PySem.W.nsIn K mainGlobals "enumerate" = some none)
    (z_zip : PySem.W.nsIn K mainGlobals "zip" = some none)
    (z_dict : PySem.W.nsIn K mainGlobals "dict" = some none)
    (z_MOST_PLACES : PySem.W.nsIn K mainGlobals "MOST_PLACES" = some (some (.int 200 t_MOST_PLACES)))
    (z_GREATEST_PLACE : PySem.W.nsIn K mainGlobals "GREATEST_PLACE" = some (some (.int 1000000000000000000000000000000 t_GREATEST_PLACE)))
    (z_heappush : PySem.W.nsIn K mainGlobals "heappush" = some (some (.builtin "_heapq.heappush")))
    (z_heappop : PySem.W.nsIn K mainGlobals "heappop" = some (some (.builtin "_heapq.heappop")))
    (z_combinations : PySem.W.nsIn K mainGlobals "combinations" = some (some (.type "itertools.combinations")))
    (z_is_whole : PySem.W.nsIn K mainGlobals "is_whole" = some (some (.ref a_is_whole)))
    (l_is_whole : K.lookup a_is_whole = some ⟨oc_is_whole, od_is_whole, .func (PySem.W.fnOf "is_whole" "is_whole" (defArgs s_is_whole) (defBody s_is_whole) (defScope s_is_whole) .none kV_is_whole dc_is_whole pm_is_whole an_is_whole cd_is_whole ct_is_whole), sl_is_whole⟩)
    (c_is_whole : PySem.W.codeIn K cd_is_whole "is_whole" = true)
    (k_is_whole : PySem.W.keepIn K (.ref a_is_whole) = true)
    (z_is_listed : PySem.W.nsIn K mainGlobals "is_listed" = some (some (.ref a_is_listed)))
    (l_is_listed : K.lookup a_is_listed = some ⟨oc_is_listed, od_is_listed, .func (PySem.W.fnOf "is_listed" "is_listed" (defArgs s_is_listed) (defBody s_is_listed) (defScope s_is_listed) .none kV_is_listed dc_is_listed pm_is_listed an_is_listed cd_is_listed ct_is_listed), sl_is_listed⟩)
    (c_is_listed : PySem.W.codeIn K cd_is_listed "is_listed" = true)
    (k_is_listed : PySem.W.keepIn K (.ref a_is_listed) = true)
    (z_is_place : PySem.W.nsIn K mainGlobals "is_place" = some (some (.ref a_is_place)))
    (l_is_place : K.lookup a_is_place = some ⟨oc_is_place, od_is_place, .func (PySem.W.fnOf "is_place" "is_place" (defArgs s_is_place) (defBody s_is_place) (defScope s_is_place) .none kV_is_place dc_is_place pm_is_place an_is_place cd_is_place ct_is_place), sl_is_place⟩)
    (c_is_place : PySem.W.codeIn K cd_is_place "is_place" = true)
    (k_is_place : PySem.W.keepIn K (.ref a_is_place) = true)
    (z_is_place_list : PySem.W.nsIn K mainGlobals "is_place_list" = some (some (.ref a_is_place_list)))
    (l_is_place_list : K.lookup a_is_place_list = some ⟨oc_is_place_list, od_is_place_list, .func (PySem.W.fnOf "is_place_list" "is_place_list" (defArgs s_is_place_list) (defBody s_is_place_list) (defScope s_is_place_list) .none kV_is_place_list dc_is_place_list pm_is_place_list an_is_place_list cd_is_place_list ct_is_place_list), sl_is_place_list⟩)
    (c_is_place_list : PySem.W.codeIn K cd_is_place_list "is_place_list" = true)
    (k_is_place_list : PySem.W.keepIn K (.ref a_is_place_list) = true)
    (z_check_places : PySem.W.nsIn K mainGlobals "check_places" = some (some (.ref a_check_places)))
    (l_check_places : K.lookup a_check_places = some ⟨oc_check_places, od_check_places, .func (PySem.W.fnOf "check_places" "check_places" (defArgs s_check_places) (defBody s_check_places) (defScope s_check_places) .none kV_check_places dc_check_places pm_check_places an_check_places cd_check_places ct_check_places), sl_check_places⟩)
    (c_check_places : PySem.W.codeIn K cd_check_places "check_places" = true)
    (k_check_places : PySem.W.keepIn K (.ref a_check_places) = true)
    (z_check_same_places : PySem.W.nsIn K mainGlobals "check_same_places" = some (some (.ref a_check_same_places)))
    (l_check_same_places : K.lookup a_check_same_places = some ⟨oc_check_same_places, od_check_same_places, .func (PySem.W.fnOf "check_same_places" "check_same_places" (defArgs s_check_same_places) (defBody s_check_same_places) (defScope s_check_same_places) .none kV_check_same_places dc_check_same_places pm_check_same_places an_check_same_places cd_check_same_places ct_check_same_places), sl_check_same_places⟩)
    (c_check_same_places : PySem.W.codeIn K cd_check_same_places "check_same_places" = true)
    (k_check_same_places : PySem.W.keepIn K (.ref a_check_same_places) = true)
    (z_check_pair : PySem.W.nsIn K mainGlobals "check_pair" = some (some (.ref a_check_pair)))
    (l_check_pair : K.lookup a_check_pair = some ⟨oc_check_pair, od_check_pair, .func (PySem.W.fnOf "check_pair" "check_pair" (defArgs s_check_pair) (defBody s_check_pair) (defScope s_check_pair) .none kV_check_pair dc_check_pair pm_check_pair an_check_pair cd_check_pair ct_check_pair), sl_check_pair⟩)
    (c_check_pair : PySem.W.codeIn K cd_check_pair "check_pair" = true)
    (k_check_pair : PySem.W.keepIn K (.ref a_check_pair) = true)
    (z_is_pattern : PySem.W.nsIn K mainGlobals "is_pattern" = some (some (.ref a_is_pattern)))
    (l_is_pattern : K.lookup a_is_pattern = some ⟨oc_is_pattern, od_is_pattern, .func (PySem.W.fnOf "is_pattern" "is_pattern" (defArgs s_is_pattern) (defBody s_is_pattern) (defScope s_is_pattern) .none kV_is_pattern dc_is_pattern pm_is_pattern an_is_pattern cd_is_pattern ct_is_pattern), sl_is_pattern⟩)
    (c_is_pattern : PySem.W.codeIn K cd_is_pattern "is_pattern" = true)
    (k_is_pattern : PySem.W.keepIn K (.ref a_is_pattern) = true)
    (z_check_pattern_for : PySem.W.nsIn K mainGlobals "check_pattern_for" = some (some (.ref a_check_pattern_for)))
    (l_check_pattern_for : K.lookup a_check_pattern_for = some ⟨oc_check_pattern_for, od_check_pattern_for, .func (PySem.W.fnOf "check_pattern_for" "check_pattern_for" (defArgs s_check_pattern_for) (defBody s_check_pattern_for) (defScope s_check_pattern_for) .none kV_check_pattern_for dc_check_pattern_for pm_check_pattern_for an_check_pattern_for cd_check_pattern_for ct_check_pattern_for), sl_check_pattern_for⟩)
    (c_check_pattern_for : PySem.W.codeIn K cd_check_pattern_for "check_pattern_for" = true)
    (k_check_pattern_for : PySem.W.keepIn K (.ref a_check_pattern_for) = true)
    (z_numbers_by_place : PySem.W.nsIn K mainGlobals "numbers_by_place" = some (some (.ref a_numbers_by_place)))
    (l_numbers_by_place : K.lookup a_numbers_by_place = some ⟨oc_numbers_by_place, od_numbers_by_place, .func (PySem.W.fnOf "numbers_by_place" "numbers_by_place" (defArgs s_numbers_by_place) (defBody s_numbers_by_place) (defScope s_numbers_by_place) .none kV_numbers_by_place dc_numbers_by_place pm_numbers_by_place an_numbers_by_place cd_numbers_by_place ct_numbers_by_place), sl_numbers_by_place⟩)
    (c_numbers_by_place : PySem.W.codeIn K cd_numbers_by_place "numbers_by_place" = true)
    (k_numbers_by_place : PySem.W.keepIn K (.ref a_numbers_by_place) = true)
    (z_fills_by : PySem.W.nsIn K mainGlobals "fills_by" = some (some (.ref a_fills_by)))
    (l_fills_by : K.lookup a_fills_by = some ⟨oc_fills_by, od_fills_by, .func (PySem.W.fnOf "fills_by" "fills_by" (defArgs s_fills_by) (defBody s_fills_by) (defScope s_fills_by) .none kV_fills_by dc_fills_by pm_fills_by an_fills_by cd_fills_by ct_fills_by), sl_fills_by⟩)
    (c_fills_by : PySem.W.codeIn K cd_fills_by "fills_by" = true)
    (k_fills_by : PySem.W.keepIn K (.ref a_fills_by) = true)
    (z_is_two : PySem.W.nsIn K mainGlobals "is_two" = some (some (.ref a_is_two)))
    (l_is_two : K.lookup a_is_two = some ⟨oc_is_two, od_is_two, .func (PySem.W.fnOf "is_two" "is_two" (defArgs s_is_two) (defBody s_is_two) (defScope s_is_two) .none kV_is_two dc_is_two pm_is_two an_is_two cd_is_two ct_is_two), sl_is_two⟩)
    (c_is_two : PySem.W.codeIn K cd_is_two "is_two" = true)
    (k_is_two : PySem.W.keepIn K (.ref a_is_two) = true)
    (z_is_three : PySem.W.nsIn K mainGlobals "is_three" = some (some (.ref a_is_three)))
    (l_is_three : K.lookup a_is_three = some ⟨oc_is_three, od_is_three, .func (PySem.W.fnOf "is_three" "is_three" (defArgs s_is_three) (defBody s_is_three) (defScope s_is_three) .none kV_is_three dc_is_three pm_is_three an_is_three cd_is_three ct_is_three), sl_is_three⟩)
    (c_is_three : PySem.W.codeIn K cd_is_three "is_three" = true)
    (k_is_three : PySem.W.keepIn K (.ref a_is_three) = true)
    (z_first_two : PySem.W.nsIn K mainGlobals "first_two" = some (some (.ref a_first_two)))
    (l_first_two : K.lookup a_first_two = some ⟨oc_first_two, od_first_two, .func (PySem.W.fnOf "first_two" "first_two" (defArgs s_first_two) (defBody s_first_two) (defScope s_first_two) .none kV_first_two dc_first_two pm_first_two an_first_two cd_first_two ct_first_two), sl_first_two⟩)
    (c_first_two : PySem.W.codeIn K cd_first_two "first_two" = true)
    (k_first_two : PySem.W.keepIn K (.ref a_first_two) = true)
    (z_last_fill_between : PySem.W.nsIn K mainGlobals "last_fill_between" = some (some (.ref a_last_fill_between)))
    (l_last_fill_between : K.lookup a_last_fill_between = some ⟨oc_last_fill_between, od_last_fill_between, .func (PySem.W.fnOf "last_fill_between" "last_fill_between" (defArgs s_last_fill_between) (defBody s_last_fill_between) (defScope s_last_fill_between) .none kV_last_fill_between dc_last_fill_between pm_last_fill_between an_last_fill_between cd_last_fill_between ct_last_fill_between), sl_last_fill_between⟩)
    (c_last_fill_between : PySem.W.codeIn K cd_last_fill_between "last_fill_between" = true)
    (k_last_fill_between : PySem.W.keepIn K (.ref a_last_fill_between) = true)
    (z_first_three : PySem.W.nsIn K mainGlobals "first_three" = some (some (.ref a_first_three)))
    (l_first_three : K.lookup a_first_three = some ⟨oc_first_three, od_first_three, .func (PySem.W.fnOf "first_three" "first_three" (defArgs s_first_three) (defBody s_first_three) (defScope s_first_three) .none kV_first_three dc_first_three pm_first_three an_first_three cd_first_three ct_first_three), sl_first_three⟩)
    (c_first_three : PySem.W.codeIn K cd_first_three "first_three" = true)
    (k_first_three : PySem.W.keepIn K (.ref a_first_three) = true)
    (z_obstruction : PySem.W.nsIn K mainGlobals "obstruction" = some (some (.ref a_obstruction)))
    (l_obstruction : K.lookup a_obstruction = some ⟨oc_obstruction, od_obstruction, .func (PySem.W.fnOf "obstruction" "obstruction" (defArgs s_obstruction) (defBody s_obstruction) (defScope s_obstruction) .none kV_obstruction dc_obstruction pm_obstruction an_obstruction cd_obstruction ct_obstruction), sl_obstruction⟩)
    (c_obstruction : PySem.W.codeIn K cd_obstruction "obstruction" = true)
    (k_obstruction : PySem.W.keepIn K (.ref a_obstruction) = true)
    (z_least_times : PySem.W.nsIn K mainGlobals "least_times" = some (some (.ref a_least_times)))
    (l_least_times : K.lookup a_least_times = some ⟨oc_least_times, od_least_times, .func (PySem.W.fnOf "least_times" "least_times" (defArgs s_least_times) (defBody s_least_times) (defScope s_least_times) .none kV_least_times dc_least_times pm_least_times an_least_times cd_least_times ct_least_times), sl_least_times⟩)
    (c_least_times : PySem.W.codeIn K cd_least_times "least_times" = true)
    (k_least_times : PySem.W.keepIn K (.ref a_least_times) = true)
    (z_most_times : PySem.W.nsIn K mainGlobals "most_times" = some (some (.ref a_most_times)))
    (l_most_times : K.lookup a_most_times = some ⟨oc_most_times, od_most_times, .func (PySem.W.fnOf "most_times" "most_times" (defArgs s_most_times) (defBody s_most_times) (defScope s_most_times) .none kV_most_times dc_most_times pm_most_times an_most_times cd_most_times ct_most_times), sl_most_times⟩)
    (c_most_times : PySem.W.codeIn K cd_most_times "most_times" = true)
    (k_most_times : PySem.W.keepIn K (.ref a_most_times) = true)
    (z_check_possible : PySem.W.nsIn K mainGlobals "check_possible" = some (some (.ref a_check_possible)))
    (l_check_possible : K.lookup a_check_possible = some ⟨oc_check_possible, od_check_possible, .func (PySem.W.fnOf "check_possible" "check_possible" (defArgs s_check_possible) (defBody s_check_possible) (defScope s_check_possible) .none kV_check_possible dc_check_possible pm_check_possible an_check_possible cd_check_possible ct_check_possible), sl_check_possible⟩)
    (c_check_possible : PySem.W.codeIn K cd_check_possible "check_possible" = true)
    (k_check_possible : PySem.W.keepIn K (.ref a_check_possible) = true)
    (z_time_bounds : PySem.W.nsIn K mainGlobals "time_bounds" = some (some (.ref a_time_bounds)))
    (l_time_bounds : K.lookup a_time_bounds = some ⟨oc_time_bounds, od_time_bounds, .func (PySem.W.fnOf "time_bounds" "time_bounds" (defArgs s_time_bounds) (defBody s_time_bounds) (defScope s_time_bounds) .none kV_time_bounds dc_time_bounds pm_time_bounds an_time_bounds cd_time_bounds ct_time_bounds), sl_time_bounds⟩)
    (c_time_bounds : PySem.W.codeIn K cd_time_bounds "time_bounds" = true)
    (k_time_bounds : PySem.W.keepIn K (.ref a_time_bounds) = true)
    (z__law_bag : PySem.W.nsIn K mainGlobals "_law_bag" = some (some (.ref a__law_bag)))
    (l__law_bag : K.lookup a__law_bag = some ⟨oc__law_bag, od__law_bag, .func (PySem.W.fnOf "_law_bag" "_law_bag" (defArgs s__law_bag) (defBody s__law_bag) (defScope s__law_bag) .none kV__law_bag dc__law_bag pm__law_bag an__law_bag cd__law_bag ct__law_bag), sl__law_bag⟩)
    (c__law_bag : PySem.W.codeIn K cd__law_bag "_law_bag" = true)
    (k__law_bag : PySem.W.keepIn K (.ref a__law_bag) = true)
    (z__law_stir : PySem.W.nsIn K mainGlobals "_law_stir" = some (some (.ref a__law_stir)))
    (l__law_stir : K.lookup a__law_stir = some ⟨oc__law_stir, od__law_stir, .func (PySem.W.fnOf "_law_stir" "_law_stir" (defArgs s__law_stir) (defBody s__law_stir) (defScope s__law_stir) .none kV__law_stir dc__law_stir pm__law_stir an__law_stir cd__law_stir ct__law_stir), sl__law_stir⟩)
    (c__law_stir : PySem.W.codeIn K cd__law_stir "_law_stir" = true)
    (k__law_stir : PySem.W.keepIn K (.ref a__law_stir) = true)
    (z__law_draw : PySem.W.nsIn K mainGlobals "_law_draw" = some (some (.ref a__law_draw)))
    (l__law_draw : K.lookup a__law_draw = some ⟨oc__law_draw, od__law_draw, .func (PySem.W.fnOf "_law_draw" "_law_draw" (defArgs s__law_draw) (defBody s__law_draw) (defScope s__law_draw) .none kV__law_draw dc__law_draw pm__law_draw an__law_draw cd__law_draw ct__law_draw), sl__law_draw⟩)
    (c__law_draw : PySem.W.codeIn K cd__law_draw "_law_draw" = true)
    (k__law_draw : PySem.W.keepIn K (.ref a__law_draw) = true)
    (z__law_shuffled : PySem.W.nsIn K mainGlobals "_law_shuffled" = some (some (.ref a__law_shuffled)))
    (l__law_shuffled : K.lookup a__law_shuffled = some ⟨oc__law_shuffled, od__law_shuffled, .func (PySem.W.fnOf "_law_shuffled" "_law_shuffled" (defArgs s__law_shuffled) (defBody s__law_shuffled) (defScope s__law_shuffled) .none kV__law_shuffled dc__law_shuffled pm__law_shuffled an__law_shuffled cd__law_shuffled ct__law_shuffled), sl__law_shuffled⟩)
    (c__law_shuffled : PySem.W.codeIn K cd__law_shuffled "_law_shuffled" = true)
    (k__law_shuffled : PySem.W.keepIn K (.ref a__law_shuffled) = true)
    (z__law_either : PySem.W.nsIn K mainGlobals "_law_either" = some (some (.ref a__law_either)))
    (l__law_either : K.lookup a__law_either = some ⟨oc__law_either, od__law_either, .func (PySem.W.fnOf "_law_either" "_law_either" (defArgs s__law_either) (defBody s__law_either) (defScope s__law_either) .none kV__law_either dc__law_either pm__law_either an__law_either cd__law_either ct__law_either), sl__law_either⟩)
    (c__law_either : PySem.W.codeIn K cd__law_either "_law_either" = true)
    (k__law_either : PySem.W.keepIn K (.ref a__law_either) = true)
    (z__law_pattern : PySem.W.nsIn K mainGlobals "_law_pattern" = some (some (.ref a__law_pattern)))
    (l__law_pattern : K.lookup a__law_pattern = some ⟨oc__law_pattern, od__law_pattern, .func (PySem.W.fnOf "_law_pattern" "_law_pattern" (defArgs s__law_pattern) (defBody s__law_pattern) (defScope s__law_pattern) .none kV__law_pattern dc__law_pattern pm__law_pattern an__law_pattern cd__law_pattern ct__law_pattern), sl__law_pattern⟩)
    (c__law_pattern : PySem.W.codeIn K cd__law_pattern "_law_pattern" = true)
    (k__law_pattern : PySem.W.keepIn K (.ref a__law_pattern) = true)
    (z__law_places : PySem.W.nsIn K mainGlobals "_law_places" = some (some (.ref a__law_places)))
    (l__law_places : K.lookup a__law_places = some ⟨oc__law_places, od__law_places, .func (PySem.W.fnOf "_law_places" "_law_places" (defArgs s__law_places) (defBody s__law_places) (defScope s__law_places) .none kV__law_places dc__law_places pm__law_places an__law_places cd__law_places ct__law_places), sl__law_places⟩)
    (c__law_places : PySem.W.codeIn K cd__law_places "_law_places" = true)
    (k__law_places : PySem.W.keepIn K (.ref a__law_places) = true)
    (z__law_filled : PySem.W.nsIn K mainGlobals "_law_filled" = some (some (.ref a__law_filled)))
    (l__law_filled : K.lookup a__law_filled = some ⟨oc__law_filled, od__law_filled, .func (PySem.W.fnOf "_law_filled" "_law_filled" (defArgs s__law_filled) (defBody s__law_filled) (defScope s__law_filled) .none kV__law_filled dc__law_filled pm__law_filled an__law_filled cd__law_filled ct__law_filled), sl__law_filled⟩)
    (c__law_filled : PySem.W.codeIn K cd__law_filled "_law_filled" = true)
    (k__law_filled : PySem.W.keepIn K (.ref a__law_filled) = true)
    (z__law_times : PySem.W.nsIn K mainGlobals "_law_times" = some (some (.ref a__law_times)))
    (l__law_times : K.lookup a__law_times = some ⟨oc__law_times, od__law_times, .func (PySem.W.fnOf "_law_times" "_law_times" (defArgs s__law_times) (defBody s__law_times) (defScope s__law_times) .none kV__law_times dc__law_times pm__law_times an__law_times cd__law_times ct__law_times), sl__law_times⟩)
    (c__law_times : PySem.W.codeIn K cd__law_times "_law_times" = true)
    (k__law_times : PySem.W.keepIn K (.ref a__law_times) = true)
    (z__law_bounds : PySem.W.nsIn K mainGlobals "_law_bounds" = some (some (.ref a__law_bounds)))
    (l__law_bounds : K.lookup a__law_bounds = some ⟨oc__law_bounds, od__law_bounds, .func (PySem.W.fnOf "_law_bounds" "_law_bounds" (defArgs s__law_bounds) (defBody s__law_bounds) (defScope s__law_bounds) .none kV__law_bounds dc__law_bounds pm__law_bounds an__law_bounds cd__law_bounds ct__law_bounds), sl__law_bounds⟩)
    (c__law_bounds : PySem.W.codeIn K cd__law_bounds "_law_bounds" = true)
    (k__law_bounds : PySem.W.keepIn K (.ref a__law_bounds) = true)
    (z__law_written : PySem.W.nsIn K mainGlobals "_law_written" = some (some (.ref a__law_written)))
    (l__law_written : K.lookup a__law_written = some ⟨oc__law_written, od__law_written, .func (PySem.W.fnOf "_law_written" "_law_written" (defArgs s__law_written) (defBody s__law_written) (defScope s__law_written) .none kV__law_written dc__law_written pm__law_written an__law_written cd__law_written ct__law_written), sl__law_written⟩)
    (c__law_written : PySem.W.codeIn K cd__law_written "_law_written" = true)
    (k__law_written : PySem.W.keepIn K (.ref a__law_written) = true)
    (z__law_right : PySem.W.nsIn K mainGlobals "_law_right" = some (some (.ref a__law_right)))
    (l__law_right : K.lookup a__law_right = some ⟨oc__law_right, od__law_right, .func (PySem.W.fnOf "_law_right" "_law_right" (defArgs s__law_right) (defBody s__law_right) (defScope s__law_right) .none kV__law_right dc__law_right pm__law_right an__law_right cd__law_right ct__law_right), sl__law_right⟩)
    (c__law_right : PySem.W.codeIn K cd__law_right "_law_right" = true)
    (k__law_right : PySem.W.keepIn K (.ref a__law_right) = true)
    (z_law : PySem.W.nsIn K mainGlobals "law" = some (some (.ref a_law)))
    (l_law : K.lookup a_law = some ⟨oc_law, od_law, .func (PySem.W.fnOf "law" "law" (defArgs s_law) (defBody s_law) (defScope s_law) .none kV_law dc_law pm_law an_law cd_law ct_law), sl_law⟩)
    (c_law : PySem.W.codeIn K cd_law "law" = true)
    (k_law : PySem.W.keepIn K (.ref a_law) = true) :
    ∃ fd : FuncData, (∀ (s : Shared) (v : Value), BindsTo s fd ⟨[v], []⟩ [("script", v)]) ∧ ∀ base : Heap, K.In base → base.Ns mainGlobals mg → LG.FnG l.prog w K mg base CX0 10 fa fd ["script"] (sp_law K) := by
  have e0 := hfa.symm.trans (PySem.W.mg_of X G z_law)
  cases e0
  have F_is_whole := fun_mk (st := s_is_whole) l_is_whole c_is_whole k_is_whole
  have B_is_whole := F_is_whole.binds (ps := ["value"]) fun _ _ _ _ _ _ us hl => match us, hl with | [_], _ => rfl
  have F_is_listed := fun_mk (st := s_is_listed) l_is_listed c_is_listed k_is_listed
  have B_is_listed := F_is_listed.binds (ps := ["value"]) fun _ _ _ _ _ _ us hl => match us, hl with | [_], _ => rfl
  have F_is_place := fun_mk (st := s_is_place) l_is_place c_is_place k_is_place
  have B_is_place := F_is_place.binds (ps := ["value"]) fun _ _ _ _ _ _ us hl => match us, hl with | [_], _ => rfl
  have F_is_place_list := fun_mk (st := s_is_place_list) l_is_place_list c_is_place_list k_is_place_list
  have B_is_place_list := F_is_place_list.binds (ps := ["value"]) fun _ _ _ _ _ _ us hl => match us, hl with | [_], _ => rfl
  have F_check_places := fun_mk (st := s_check_places) l_check_places c_check_places k_check_places
  have B_check_places := F_check_places.binds (ps := ["value"]) fun _ _ _ _ _ _ us hl => match us, hl with | [_], _ => rfl
  have F_check_same_places := fun_mk (st := s_check_same_places) l_check_same_places c_check_same_places k_check_same_places
  have B_check_same_places := F_check_same_places.binds (ps := ["first", "second"]) fun _ _ _ _ _ _ us hl => match us, hl with | [_, _], _ => rfl
  have F_check_pair := fun_mk (st := s_check_pair) l_check_pair c_check_pair k_check_pair
  have B_check_pair := F_check_pair.binds (ps := ["takes", "fills"]) fun _ _ _ _ _ _ us hl => match us, hl with | [_, _], _ => rfl
  have F_is_pattern := fun_mk (st := s_is_pattern) l_is_pattern c_is_pattern k_is_pattern
  have B_is_pattern := F_is_pattern.binds (ps := ["value"]) fun _ _ _ _ _ _ us hl => match us, hl with | [_], _ => rfl
  have F_check_pattern_for := fun_mk (st := s_check_pattern_for) l_check_pattern_for c_check_pattern_for k_check_pattern_for
  have B_check_pattern_for := F_check_pattern_for.binds (ps := ["takes", "pattern"]) fun _ _ _ _ _ _ us hl => match us, hl with | [_, _], _ => rfl
  have F_numbers_by_place := fun_mk (st := s_numbers_by_place) l_numbers_by_place c_numbers_by_place k_numbers_by_place
  have B_numbers_by_place := F_numbers_by_place.binds (ps := ["places"]) fun _ _ _ _ _ _ us hl => match us, hl with | [_], _ => rfl
  have F_fills_by := fun_mk (st := s_fills_by) l_fills_by c_fills_by k_fills_by
  have B_fills_by := F_fills_by.binds (ps := ["takes", "pattern"]) fun _ _ _ _ _ _ us hl => match us, hl with | [_, _], _ => rfl
  have F_is_two := fun_mk (st := s_is_two) l_is_two c_is_two k_is_two
  have B_is_two := F_is_two.binds (ps := ["taken", "filled", "a", "b"]) fun _ _ _ _ _ _ us hl => match us, hl with | [_, _, _, _], _ => rfl
  have F_is_three := fun_mk (st := s_is_three) l_is_three c_is_three k_is_three
  have B_is_three := F_is_three.binds (ps := ["taken", "filled", "a", "b", "c"]) fun _ _ _ _ _ _ us hl => match us, hl with | [_, _, _, _, _], _ => rfl
  have F_first_two := fun_mk (st := s_first_two) l_first_two c_first_two k_first_two
  have B_first_two := F_first_two.binds (ps := ["taken", "filled"]) fun _ _ _ _ _ _ us hl => match us, hl with | [_, _], _ => rfl
  have F_last_fill_between := fun_mk (st := s_last_fill_between) l_last_fill_between c_last_fill_between k_last_fill_between
  have B_last_fill_between := F_last_fill_between.binds (ps := ["taken", "filled", "b"]) fun _ _ _ _ _ _ us hl => match us, hl with | [_, _, _], _ => rfl
  have F_first_three := fun_mk (st := s_first_three) l_first_three c_first_three k_first_three
  have B_first_three := F_first_three.binds (ps := ["taken", "filled"]) fun _ _ _ _ _ _ us hl => match us, hl with | [_, _], _ => rfl
  have F_obstruction := fun_mk (st := s_obstruction) l_obstruction c_obstruction k_obstruction
  have B_obstruction := F_obstruction.binds (ps := ["takes", "fills"]) fun _ _ _ _ _ _ us hl => match us, hl with | [_, _], _ => rfl
  have F_least_times := fun_mk (st := s_least_times) l_least_times c_least_times k_least_times
  have B_least_times := F_least_times.binds (ps := ["takes", "fills"]) fun _ _ _ _ _ _ us hl => match us, hl with | [_, _], _ => rfl
  have F_most_times := fun_mk (st := s_most_times) l_most_times c_most_times k_most_times
  have B_most_times := F_most_times.binds (ps := ["takes", "fills"]) fun _ _ _ _ _ _ us hl => match us, hl with | [_, _], _ => rfl
  have F_check_possible := fun_mk (st := s_check_possible) l_check_possible c_check_possible k_check_possible
  have B_check_possible := F_check_possible.binds (ps := ["takes", "fills"]) fun _ _ _ _ _ _ us hl => match us, hl with | [_, _], _ => rfl
  have F_time_bounds := fun_mk (st := s_time_bounds) l_time_bounds c_time_bounds k_time_bounds
  have B_time_bounds := F_time_bounds.binds (ps := ["takes", "fills"]) fun _ _ _ _ _ _ us hl => match us, hl with | [_, _], _ => rfl
  have F__law_bag := fun_mk (st := s__law_bag) l__law_bag c__law_bag k__law_bag
  have B__law_bag := F__law_bag.binds (ps := ["script"]) fun _ _ _ _ _ _ us hl => match us, hl with | [_], _ => rfl
  have F__law_stir := fun_mk (st := s__law_stir) l__law_stir c__law_stir k__law_stir
  have B__law_stir := F__law_stir.binds (ps := ["number", "place"]) fun _ _ _ _ _ _ us hl => match us, hl with | [_, _], _ => rfl
  have F__law_draw := fun_mk (st := s__law_draw) l__law_draw c__law_draw k__law_draw
  have B__law_draw := F__law_draw.binds (ps := ["bag", "bound"]) fun _ _ _ _ _ _ us hl => match us, hl with | [_, _], _ => rfl
  have F__law_shuffled := fun_mk (st := s__law_shuffled) l__law_shuffled c__law_shuffled k__law_shuffled
  have B__law_shuffled := F__law_shuffled.binds (ps := ["bag", "items"]) fun _ _ _ _ _ _ us hl => match us, hl with | [_, _], _ => rfl
  have F__law_either := fun_mk (st := s__law_either) l__law_either c__law_either k__law_either
  have B__law_either := F__law_either.binds (ps := ["bag", "items"]) fun _ _ _ _ _ _ us hl => match us, hl with | [_, _], _ => rfl
  have F__law_pattern := fun_mk (st := s__law_pattern) l__law_pattern c__law_pattern k__law_pattern
  have B__law_pattern := F__law_pattern.binds (ps := ["bag", "count"]) fun _ _ _ _ _ _ us hl => match us, hl with | [_, _], _ => rfl
  have F__law_places := fun_mk (st := s__law_places) l__law_places c__law_places k__law_places
  have B__law_places := F__law_places.binds (ps := ["bag", "count"]) fun _ _ _ _ _ _ us hl => match us, hl with | [_, _], _ => rfl
  have F__law_filled := fun_mk (st := s__law_filled) l__law_filled c__law_filled k__law_filled
  have B__law_filled := F__law_filled.binds (ps := ["takes", "pattern"]) fun _ _ _ _ _ _ us hl => match us, hl with | [_, _], _ => rfl
  have F__law_times := fun_mk (st := s__law_times) l__law_times c__law_times k__law_times
  have B__law_times := F__law_times.binds (ps := ["pattern"]) fun _ _ _ _ _ _ us hl => match us, hl with | [_], _ => rfl
  have F__law_bounds := fun_mk (st := s__law_bounds) l__law_bounds c__law_bounds k__law_bounds
  have B__law_bounds := F__law_bounds.binds (ps := ["takes", "fills"]) fun _ _ _ _ _ _ us hl => match us, hl with | [_, _], _ => rfl
  have F__law_written := fun_mk (st := s__law_written) l__law_written c__law_written k__law_written
  have B__law_written := F__law_written.binds (ps := ["times_here", "count"]) fun _ _ _ _ _ _ us hl => match us, hl with | [_, _], _ => rfl
  have F__law_right := fun_mk (st := s__law_right) l__law_right c__law_right k__law_right
  have B__law_right := F__law_right.binds (ps := ["bag", "takes", "pattern"]) fun _ _ _ _ _ _ us hl => match us, hl with | [_, _, _], _ => rfl
  have F_law := fun_mk (st := s_law) l_law c_law k_law
  have B_law := F_law.binds (ps := ["script"]) fun _ _ _ _ _ _ us hl => match us, hl with | [_], _ => rfl
  refine ⟨PySem.W.fnOf "law" "law" (defArgs s_law) (defBody s_law) (defScope s_law) .none kV_law dc_law pm_law an_law cd_law ct_law, fun s v => .of_eq rfl, fun base _ _ => ?_⟩
  exact ok_law (({
    n_len := PySem.W.mg_none_of X G z_len,
    n_range := PySem.W.mg_none_of X G z_range,
    n_list := PySem.W.mg_none_of X G z_list,
    n_tuple := PySem.W.mg_none_of X G z_tuple,
    n_int := PySem.W.mg_none_of X G z_int,
    n_bool := PySem.W.mg_none_of X G z_bool,
    n_str := PySem.W.mg_none_of X G z_str,
    n_isinstance := PySem.W.mg_none_of X G z_isinstance,
    n_min := PySem.W.mg_none_of X G z_min,
    n_max := PySem.W.mg_none_of X G z_max,
    n_sorted := PySem.W.mg_none_of X G z_sorted,
    n_set := PySem.W.mg_none_of X G z_set,
    n_all := PySem.W.mg_none_of X G z_all,
    n_repr := PySem.W.mg_none_of X G z_repr,
    n_enumerate := PySem.W.mg_none_of X G z_enumerate,
    n_zip := PySem.W.mg_none_of X G z_zip,
    n_dict := PySem.W.mg_none_of X G z_dict,
    t_MOST_PLACES := t_MOST_PLACES, g_MOST_PLACES := PySem.W.mg_of X G z_MOST_PLACES,
    t_GREATEST_PLACE := t_GREATEST_PLACE, g_GREATEST_PLACE := PySem.W.mg_of X G z_GREATEST_PLACE,
    g_heappush := PySem.W.mg_of X G z_heappush,
    g_heappop := PySem.W.mg_of X G z_heappop,
    g_combinations := PySem.W.mg_of X G z_combinations,
    a_is_whole := a_is_whole, d_is_whole := _, f_is_whole := F_is_whole, b_is_whole := B_is_whole, g_is_whole := PySem.W.mg_of X G z_is_whole,
    a_is_listed := a_is_listed, d_is_listed := _, f_is_listed := F_is_listed, b_is_listed := B_is_listed, g_is_listed := PySem.W.mg_of X G z_is_listed,
    a_is_place := a_is_place, d_is_place := _, f_is_place := F_is_place, b_is_place := B_is_place, g_is_place := PySem.W.mg_of X G z_is_place,
    a_is_place_list := a_is_place_list, d_is_place_list := _, f_is_place_list := F_is_place_list, b_is_place_list := B_is_place_list, g_is_place_list := PySem.W.mg_of X G z_is_place_list,
    a_check_places := a_check_places, d_check_places := _, f_check_places := F_check_places, b_check_places := B_check_places, g_check_places := PySem.W.mg_of X G z_check_places,
    a_check_same_places := a_check_same_places, d_check_same_places := _, f_check_same_places := F_check_same_places, b_check_same_places := B_check_same_places, g_check_same_places := PySem.W.mg_of X G z_check_same_places,
    a_check_pair := a_check_pair, d_check_pair := _, f_check_pair := F_check_pair, b_check_pair := B_check_pair, g_check_pair := PySem.W.mg_of X G z_check_pair,
    a_is_pattern := a_is_pattern, d_is_pattern := _, f_is_pattern := F_is_pattern, b_is_pattern := B_is_pattern, g_is_pattern := PySem.W.mg_of X G z_is_pattern,
    a_check_pattern_for := a_check_pattern_for, d_check_pattern_for := _, f_check_pattern_for := F_check_pattern_for, b_check_pattern_for := B_check_pattern_for, g_check_pattern_for := PySem.W.mg_of X G z_check_pattern_for,
    a_numbers_by_place := a_numbers_by_place, d_numbers_by_place := _, f_numbers_by_place := F_numbers_by_place, b_numbers_by_place := B_numbers_by_place, g_numbers_by_place := PySem.W.mg_of X G z_numbers_by_place,
    a_fills_by := a_fills_by, d_fills_by := _, f_fills_by := F_fills_by, b_fills_by := B_fills_by, g_fills_by := PySem.W.mg_of X G z_fills_by,
    a_is_two := a_is_two, d_is_two := _, f_is_two := F_is_two, b_is_two := B_is_two, g_is_two := PySem.W.mg_of X G z_is_two,
    a_is_three := a_is_three, d_is_three := _, f_is_three := F_is_three, b_is_three := B_is_three, g_is_three := PySem.W.mg_of X G z_is_three,
    a_first_two := a_first_two, d_first_two := _, f_first_two := F_first_two, b_first_two := B_first_two, g_first_two := PySem.W.mg_of X G z_first_two,
    a_last_fill_between := a_last_fill_between, d_last_fill_between := _, f_last_fill_between := F_last_fill_between, b_last_fill_between := B_last_fill_between, g_last_fill_between := PySem.W.mg_of X G z_last_fill_between,
    a_first_three := a_first_three, d_first_three := _, f_first_three := F_first_three, b_first_three := B_first_three, g_first_three := PySem.W.mg_of X G z_first_three,
    a_obstruction := a_obstruction, d_obstruction := _, f_obstruction := F_obstruction, b_obstruction := B_obstruction, g_obstruction := PySem.W.mg_of X G z_obstruction,
    a_least_times := a_least_times, d_least_times := _, f_least_times := F_least_times, b_least_times := B_least_times, g_least_times := PySem.W.mg_of X G z_least_times,
    a_most_times := a_most_times, d_most_times := _, f_most_times := F_most_times, b_most_times := B_most_times, g_most_times := PySem.W.mg_of X G z_most_times,
    a_check_possible := a_check_possible, d_check_possible := _, f_check_possible := F_check_possible, b_check_possible := B_check_possible, g_check_possible := PySem.W.mg_of X G z_check_possible,
    a_time_bounds := a_time_bounds, d_time_bounds := _, f_time_bounds := F_time_bounds, b_time_bounds := B_time_bounds, g_time_bounds := PySem.W.mg_of X G z_time_bounds,
    a__law_bag := a__law_bag, d__law_bag := _, f__law_bag := F__law_bag, b__law_bag := B__law_bag, g__law_bag := PySem.W.mg_of X G z__law_bag,
    a__law_stir := a__law_stir, d__law_stir := _, f__law_stir := F__law_stir, b__law_stir := B__law_stir, g__law_stir := PySem.W.mg_of X G z__law_stir,
    a__law_draw := a__law_draw, d__law_draw := _, f__law_draw := F__law_draw, b__law_draw := B__law_draw, g__law_draw := PySem.W.mg_of X G z__law_draw,
    a__law_shuffled := a__law_shuffled, d__law_shuffled := _, f__law_shuffled := F__law_shuffled, b__law_shuffled := B__law_shuffled, g__law_shuffled := PySem.W.mg_of X G z__law_shuffled,
    a__law_either := a__law_either, d__law_either := _, f__law_either := F__law_either, b__law_either := B__law_either, g__law_either := PySem.W.mg_of X G z__law_either,
    a__law_pattern := a__law_pattern, d__law_pattern := _, f__law_pattern := F__law_pattern, b__law_pattern := B__law_pattern, g__law_pattern := PySem.W.mg_of X G z__law_pattern,
    a__law_places := a__law_places, d__law_places := _, f__law_places := F__law_places, b__law_places := B__law_places, g__law_places := PySem.W.mg_of X G z__law_places,
    a__law_filled := a__law_filled, d__law_filled := _, f__law_filled := F__law_filled, b__law_filled := B__law_filled, g__law_filled := PySem.W.mg_of X G z__law_filled,
    a__law_times := a__law_times, d__law_times := _, f__law_times := F__law_times, b__law_times := B__law_times, g__law_times := PySem.W.mg_of X G z__law_times,
    a__law_bounds := a__law_bounds, d__law_bounds := _, f__law_bounds := F__law_bounds, b__law_bounds := B__law_bounds, g__law_bounds := PySem.W.mg_of X G z__law_bounds,
    a__law_written := a__law_written, d__law_written := _, f__law_written := F__law_written, b__law_written := B__law_written, g__law_written := PySem.W.mg_of X G z__law_written,
    a__law_right := a__law_right, d__law_right := _, f__law_right := F__law_right, b__law_right := B__law_right, g__law_right := PySem.W.mg_of X G z__law_right,
    a_law := fa, d_law := _, f_law := F_law, b_law := B_law, g_law := PySem.W.mg_of X G z_law } : Env K mg))
theorem walk {l : PySem.W.OpenLaw} {q : Program} {loose : List Str} {XP : (Str → Option Value) → Heap → Prop} {YP : World → Heap → Prop} {d : DefRec} {K : Params → PySem.W.Frag} (hn : l.most = some 63) (hdf : d.params.defaults = [])
    (hY : ∀ (w : World) (h : Heap), YP w h → (K w.params).In h)
    (F : ∀ (w : World) (mg : Str → Option Value) (fa : Addr) (h : Heap), (K w.params).In h → h.Ns mainGlobals mg → mg d.name = some (.ref fa) →
      ∃ fd : FuncData, (∀ (s : Shared) (u : Value), BindsTo s fd ⟨[u], []⟩ [("script", u)]) ∧ ∀ base : Heap, (K w.params).In base → base.Ns mainGlobals mg → LG.FnG l.prog w (K w.params) mg base CX0 10 fa fd ["script"] (sp_law (K w.params))) :
    PySem.W.WalkO q loose XP YP l.row.toRowW d [] (fun f vs => PySem.call f vs) :=
  LG.walk_ofG (n := 63) (k := 10) (x := "script") (sp := sp_law) hn (by decide) hdf ⟨rfl, by decide, by decide⟩ hY F (fun _ _ a ns hl _ hS => ⟨a, ns, rfl, hS, hl, fun _ => rfl⟩)
end LP
open PySem PySem.W PyProof.Rows
set_option maxRecDepth 100000 in
set_option maxHeartbeats 0 in
theorem PySem.Challenge.cw_leftreturn_k10_times_of_many_places_holds : PySem.Challenge.rw_leftreturn_k10_times_of_many_places.Holds := by
  w_on; o_law; k_head; (case hw => w_witness2)
  k_fill
  refine LP.walk (l := PySem.Challenge.rw_leftreturn_k10_times_of_many_places) rfl rfl (fun w h Y => PySem.W.kIn_of Y) ?F
  case F =>
    intro w mg fa h KX G hmg
    refine' LP.all_mk KX G hmg ?z_len ?z_range ?z_list ?z_tuple ?z_int ?z_bool ?z_str ?z_isinstance ?z_min ?z_max ?z_sorted ?z_set ?z_all ?z_repr ?z_enumerate ?z_zip ?z_dict ?z_MOST_PLACES ?z_GREATEST_PLACE ?z_heappush ?z_heappop ?z_combinations ?z_is_whole ?l_is_whole ?c_is_whole ?k_is_whole ?z_is_listed ?l_is_listed ?c_is_listed ?k_is_listed ?z_is_place ?l_is_place ?c_is_place ?k_is_place ?z_is_place_list ?l_is_place_list ?c_is_place_list ?k_is_place_list ?z_check_places ?l_check_places ?c_check_places ?k_check_places ?z_check_same_places ?l_check_same_places ?c_check_same_places ?k_check_same_places ?z_check_pair ?l_check_pair ?c_check_pair ?k_check_pair ?z_is_pattern ?l_is_pattern ?c_is_pattern ?k_is_pattern ?z_check_pattern_for ?l_check_pattern_for ?c_check_pattern_for ?k_check_pattern_for ?z_numbers_by_place ?l_numbers_by_place ?c_numbers_by_place ?k_numbers_by_place ?z_fills_by ?l_fills_by ?c_fills_by ?k_fills_by ?z_is_two ?l_is_two ?c_is_two ?k_is_two ?z_is_three ?l_is_three ?c_is_three ?k_is_three ?z_first_two ?l_first_two ?c_first_two ?k_first_two ?z_last_fill_between ?l_last_fill_between ?c_last_fill_between ?k_last_fill_between ?z_first_three ?l_first_three ?c_first_three ?k_first_three ?z_obstruction ?l_obstruction ?c_obstruction ?k_obstruction ?z_least_times ?l_least_times ?c_least_times ?k_least_times ?z_most_times ?l_most_times ?c_most_times ?k_most_times ?z_check_possible ?l_check_possible ?c_check_possible ?k_check_possible ?z_time_bounds ?l_time_bounds ?c_time_bounds ?k_time_bounds ?z__law_bag ?l__law_bag ?c__law_bag ?k__law_bag ?z__law_stir ?l__law_stir ?c__law_stir ?k__law_stir ?z__law_draw ?l__law_draw ?c__law_draw ?k__law_draw ?z__law_shuffled ?l__law_shuffled ?c__law_shuffled ?k__law_shuffled ?z__law_either ?l__law_either ?c__law_either ?k__law_either ?z__law_pattern ?l__law_pattern ?c__law_pattern ?k__law_pattern ?z__law_places ?l__law_places ?c__law_places ?k__law_places ?z__law_filled ?l__law_filled ?c__law_filled ?k__law_filled ?z__law_times ?l__law_times ?c__law_times ?k__law_times ?z__law_bounds ?l__law_bounds ?c__law_bounds ?k__law_bounds ?z__law_written ?l__law_written ?c__law_written ?k__law_written ?z__law_right ?l__law_right ?c__law_right ?k__law_right ?z_law ?l_law ?c_law ?k_law
    (case z_len => k_is)
    (case z_range => k_is)
    (case z_list => k_is)
    (case z_tuple => k_is)
    (case z_int => k_is)
    (case z_bool => k_is)
    (case z_str => k_is)
    (case z_isinstance => k_is)
    (case z_min => k_is)
    (case z_max => k_is)
    (case z_sorted => k_is)
    (case z_set => k_is)
    (case z_all => k_is)
    (case z_repr => k_is)
    (case z_enumerate => k_is)
    (case z_zip => k_is)
    (case z_dict => k_is)
    (case z_MOST_PLACES => k_is)
    (case z_GREATEST_PLACE => k_is)
    (case z_heappush => k_is)
    (case z_heappop => k_is)
    (case z_combinations => k_is)
    (case z_is_whole => k_is)
    (case l_is_whole => k_is)
    (case c_is_whole => k_is)
    (case k_is_whole => k_is)
    (case z_is_listed => k_is)
    (case l_is_listed => k_is)
    (case c_is_listed => k_is)
    (case k_is_listed => k_is)
    (case z_is_place => k_is)
    (case l_is_place => k_is)
    (case c_is_place => k_is)
    (case k_is_place => k_is)
    (case z_is_place_list => k_is)
    (case l_is_place_list => k_is)
    (case c_is_place_list => k_is)
    (case k_is_place_list => k_is)
    (case z_check_places => k_is)
    (case l_check_places => k_is)
    (case c_check_places => k_is)
    (case k_check_places => k_is)
    (case z_check_same_places => k_is)
    (case l_check_same_places => k_is)
    (case c_check_same_places => k_is)
    (case k_check_same_places => k_is)
    (case z_check_pair => k_is)
    (case l_check_pair => k_is)
    (case c_check_pair => k_is)
    (case k_check_pair => k_is)
    (case z_is_pattern => k_is)
    (case l_is_pattern => k_is)
    (case c_is_pattern => k_is)
    (case k_is_pattern => k_is)
    (case z_check_pattern_for => k_is)
    (case l_check_pattern_for => k_is)
    (case c_check_pattern_for => k_is)
    (case k_check_pattern_for => k_is)
    (case z_numbers_by_place => k_is)
    (case l_numbers_by_place => k_is)
    (case c_numbers_by_place => k_is)
    (case k_numbers_by_place => k_is)
    (case z_fills_by => k_is)
    (case l_fills_by => k_is)
    (case c_fills_by => k_is)
    (case k_fills_by => k_is)
    (case z_is_two => k_is)
    (case l_is_two => k_is)
    (case c_is_two => k_is)
    (case k_is_two => k_is)
    (case z_is_three => k_is)
    (case l_is_three => k_is)
    (case c_is_three => k_is)
    (case k_is_three => k_is)
    (case z_first_two => k_is)
    (case l_first_two => k_is)
    (case c_first_two => k_is)
    (case k_first_two => k_is)
    (case z_last_fill_between => k_is)
    (case l_last_fill_between => k_is)
    (case c_last_fill_between => k_is)
    (case k_last_fill_between => k_is)
    (case z_first_three => k_is)
    (case l_first_three => k_is)
    (case c_first_three => k_is)
    (case k_first_three => k_is)
    (case z_obstruction => k_is)
    (case l_obstruction => k_is)
    (case c_obstruction => k_is)
    (case k_obstruction => k_is)
    (case z_least_times => k_is)
    (case l_least_times => k_is)
    (case c_least_times => k_is)
    (case k_least_times => k_is)
    (case z_most_times => k_is)
    (case l_most_times => k_is)
    (case c_most_times => k_is)
    (case k_most_times => k_is)
    (case z_check_possible => k_is)
    (case l_check_possible => k_is)
    (case c_check_possible => k_is)
    (case k_check_possible => k_is)
    (case z_time_bounds => k_is)
    (case l_time_bounds => k_is)
    (case c_time_bounds => k_is)
    (case k_time_bounds => k_is)
    (case z__law_bag => k_is)
    (case l__law_bag => k_is)
    (case c__law_bag => k_is)
    (case k__law_bag => k_is)
    (case z__law_stir => k_is)
    (case l__law_stir => k_is)
    (case c__law_stir => k_is)
    (case k__law_stir => k_is)
    (case z__law_draw => k_is)
    (case l__law_draw => k_is)
    (case c__law_draw => k_is)
    (case k__law_draw => k_is)
    (case z__law_shuffled => k_is)
    (case l__law_shuffled => k_is)
    (case c__law_shuffled => k_is)
    (case k__law_shuffled => k_is)
    (case z__law_either => k_is)
    (case l__law_either => k_is)
    (case c__law_either => k_is)
    (case k__law_either => k_is)
    (case z__law_pattern => k_is)
    (case l__law_pattern => k_is)
    (case c__law_pattern => k_is)
    (case k__law_pattern => k_is)
    (case z__law_places => k_is)
    (case l__law_places => k_is)
    (case c__law_places => k_is)
    (case k__law_places => k_is)
    (case z__law_filled => k_is)
    (case l__law_filled => k_is)
    (case c__law_filled => k_is)
    (case k__law_filled => k_is)
    (case z__law_times => k_is)
    (case l__law_times => k_is)
    (case c__law_times => k_is)
    (case k__law_times => k_is)
    (case z__law_bounds => k_is)
    (case l__law_bounds => k_is)
    (case c__law_bounds => k_is)
    (case k__law_bounds => k_is)
    (case z__law_written => k_is)
    (case l__law_written => k_is)
    (case c__law_written => k_is)
    (case k__law_written => k_is)
    (case z__law_right => k_is)
    (case l__law_right => k_is)
    (case c__law_right => k_is)
    (case k__law_right => k_is)
    (case z_law => k_is)
    (case l_law => k_is)
    (case c_law => k_is)
    (case k_law => k_is)
