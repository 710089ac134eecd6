import PyProof.Rows.All
import Wide.All
import OpenK.AllK
import Wide.FinOn
import HandS.ForMost
import PyProof.ReprRoads
import PyProof.ReprLen
import HandS.Walk
import KE.GoesMore
import KE.GoesZip
import HandS.SortInts
import HandS.SetFor
import HandS.Zip
import HandS.DictComp
import PyProof.TupleOfSeq
import HandS.RaiseMore
import HandS.Text
import HandS.IsInst
import HandS.Conv
import HandS.Style
import HandS.Wide
import HandS.ForExc
import HandS.Gcd
import HandS.More
import HandS.RepeatKit
import HandS.Records
import KE.DataMinMax
import KE.KDictZip
import HandS.SortKw
import PyProof.StrOps2
import HandS.Comp
import HandS.Dict
import PySem.Challenge.RW_leftreturn_k05_whole_schedules_and_pairs
set_option Elab.async false
set_option linter.all false
set_option maxRecDepth 100000
set_option maxHeartbeats 4000000
/-! patterns, times, orders: the mathematics -/
namespace LQ
abbrev Pat := List Bool
def tks (l : Pat) : Nat := l.count true
def fls (l : Pat) : Nat := l.count false
theorem tks_nil : tks [] = 0 := rfl
theorem fls_nil : fls [] = 0 := rfl
theorem tks_app (l m : Pat) : tks (l ++ m) = tks l + tks m := List.count_append
theorem fls_app (l m : Pat) : fls (l ++ m) = fls l + fls m := List.count_append
theorem tks_t (l : Pat) : tks (l ++ [true]) = tks l + 1 := tks_app l [true]
theorem tks_f (l : Pat) : tks (l ++ [false]) = tks l := tks_app l [false]
theorem fls_t (l : Pat) : fls (l ++ [true]) = fls l := fls_app l [true]
theorem fls_f (l : Pat) : fls (l ++ [false]) = fls l + 1 := fls_app l [false]
theorem len_pat : ∀ l : Pat, l.length = tks l + fls l
  | [] => rfl
  | true :: r => by have := len_pat r; simp [tks, fls] at *; omega
  | false :: r => by have := len_pat r; simp [tks, fls] at *; omega
theorem take_snoc {α : Type} {l : List α} {i : Nat} {b : α} (h : l[i]? = some b) : l.take (i + 1) = l.take i ++ [b] := by
  rw [List.take_add_one, h]; rfl
def Pre (l : Pat) : Prop := ∀ i, fls (l.take i) ≤ tks (l.take i)
theorem Pre.nil : Pre [] := fun i => by simp [tks, fls]
theorem Pre.snoc {l : Pat} {b : Bool} (h : Pre l) (hb : fls (l ++ [b]) ≤ tks (l ++ [b])) : Pre (l ++ [b]) := fun i => by
  by_cases c : i ≤ l.length
  · rw [List.take_append_of_le_length c]; exact h i
  · rw [List.take_of_length_le (by simp; omega)]; exact hb
theorem Pre.all {l : Pat} (h : Pre l) : fls l ≤ tks l := by
  have := h l.length
  rwa [List.take_length] at this
theorem tks_take (l : Pat) (i : Nat) : tks (l.take i) ≤ tks l := (List.take_sublist i l).count_le _
theorem fls_take (l : Pat) (i : Nat) : fls (l.take i) ≤ fls l := (List.take_sublist i l).count_le _
def Good (l : Pat) : Prop := Pre l ∧ fls l = tks l
def tm : Nat → Pat → List Nat
  | _, [] => []
  | t, true :: r => tm (t + 1) r
  | t, false :: r => t :: tm t r
theorem tm_app : ∀ (l m : Pat) (t : Nat), tm t (l ++ m) = tm t l ++ tm (t + tks l) m
  | [], m, t => by simp [tm, tks]
  | true :: r, m, t => by
    have := tm_app r m (t + 1)
    simp only [List.cons_append, tm, this]
    congr 2
    simp [tks]; omega
  | false :: r, m, t => by
    have := tm_app r m t
    simp only [List.cons_append, tm, this]
    congr 2
theorem tm_len : ∀ (l : Pat) (t : Nat), (tm t l).length = fls l
  | [], _ => rfl
  | true :: r, t => by rw [tm, tm_len r]; simp [fls]
  | false :: r, t => by rw [tm, List.length_cons, tm_len r]; simp [fls]
abbrev times (l : Pat) : List Nat := tm 0 l
theorem times_t (l : Pat) : times (l ++ [true]) = times l := by rw [times, tm_app]; simp [tm]
theorem times_f (l : Pat) : times (l ++ [false]) = times l ++ [tks l] := by rw [times, tm_app]; simp [tm]
theorem times_len (l : Pat) : (times l).length = fls l := tm_len l 0
theorem times_pre (l : Pat) (i : Nat) : ∃ m, times l = times (l.take i) ++ m := by
  refine ⟨tm (tks (l.take i)) (l.drop i), ?_⟩
  have h := tm_app (l.take i) (l.drop i) 0
  rw [List.take_append_drop, Nat.zero_add] at h
  exact h
/-- the time of the fill that stands at i -/
theorem times_at {l : Pat} {i : Nat} (h : l[i]? = some false) : (times l)[fls (l.take i)]? = some (tks (l.take i)) := by
  obtain ⟨m, e⟩ := times_pre l (i + 1)
  rw [e, take_snoc h, times_f, List.append_assoc, List.getElem?_append_right (by rw [times_len]; exact Nat.le_refl _), times_len, Nat.sub_self]
  rfl
theorem times_all {l : Pat} (h : Pre l) : (∀ j t, (times l)[j]? = some t → j < t ∧ t ≤ tks l) ∧ (times l).Pairwise (· ≤ ·) := by
  have H : ∀ i, i ≤ l.length → (∀ j t, (times (l.take i))[j]? = some t → j < t ∧ t ≤ tks (l.take i)) ∧ (times (l.take i)).Pairwise (· ≤ ·) := by
    intro i
    induction i with
    | zero => intro _; exact ⟨fun j t e => by simp [tm] at e, by simp [tm]⟩
    | succ i ih =>
      intro hi
      obtain ⟨ih1, ih2⟩ := ih (by omega)
      have hb : l[i]? = some l[i] := List.getElem?_eq_getElem (by omega)
      have hp := h (i + 1)
      rw [take_snoc hb] at hp ⊢
      generalize l[i] = b at hp hb
      cases b with
      | true =>
        rw [times_t, tks_t]
        exact ⟨fun j t e => let ⟨a, b⟩ := ih1 j t e; ⟨a, by omega⟩, ih2⟩
      | false =>
        rw [times_f, tks_f]
        rw [fls_f, tks_f] at hp
        refine ⟨fun j t e => ?_, ?_⟩
        · rw [List.getElem?_append] at e
          split at e
          · exact ih1 j t e
          · rename_i c
            rw [times_len] at c e
            cases q : j - fls (l.take i) with
            | zero => rw [q] at e; cases e; omega
            | succ k => rw [q] at e; simp at e
        · rw [List.pairwise_append]
          refine ⟨ih2, by simp, fun a ha b hb => ?_⟩
          rw [List.mem_singleton] at hb; subst hb
          obtain ⟨j, e⟩ := List.mem_iff_getElem?.mp ha
          exact (ih1 j a e).2
  have := H l.length (Nat.le_refl _)
  rwa [List.take_length] at this
def ways : Nat → List Nat → Int
  | _, [] => 1
  | j, t :: r => ((t : Int) - (j : Nat)) * ways (j + 1) r
theorem ways_snoc : ∀ (ts : List Nat) (j t : Nat), ways j (ts ++ [t]) = ways j ts * ((t : Int) - ((j + ts.length : Nat) : Int))
  | [], j, t => by simp [ways]
  | u :: r, j, t => by
    simp only [List.cons_append, ways, ways_snoc r (j + 1) t, List.length_cons]
    rw [show j + 1 + r.length = j + (r.length + 1) by omega, Int.mul_assoc]
theorem ways_bound : ∀ (ts : List Nat) (j n : Nat), (∀ i t, ts[i]? = some t → j + i < t ∧ t ≤ n) → 0 ≤ ways j ts ∧ ways j ts ≤ (n : Int) ^ ts.length
  | [], j, n, _ => by simp [ways]
  | t :: r, j, n, h => by
    have h0 := h 0 t rfl
    obtain ⟨a, b⟩ := ways_bound r (j + 1) n fun i u e => by have := h (i + 1) u e; omega
    rw [ways, List.length_cons, Int.pow_succ]
    refine ⟨Int.mul_nonneg (by omega) a, ?_⟩
    rw [Int.mul_comm ((n : Int) ^ r.length)]
    exact Int.mul_le_mul (by omega) b a (by omega)
/-! ### orders, and those that can be -/
def dueP (tk : List Int) (ts : List Nat) (bs : List Int) : Bool := (bs.zip ts).all fun p => decide (p.1 ∈ tk.take p.2)
def orders (items : List Int) : Nat → List (List Int)
  | 0 => [[]]
  | k + 1 => (orders items k).flatMap fun row => (items.filter fun x => decide (x ∉ row)).map fun x => row ++ [x]
theorem orders_mem {items : List Int} : ∀ {k : Nat} {r : List Int}, r ∈ orders items k → r.length = k ∧ r.Nodup ∧ ∀ x ∈ r, x ∈ items
  | 0, r, h => by
    rw [orders, List.mem_singleton] at h; subst h
    exact ⟨rfl, List.nodup_nil, fun x hx => by cases hx⟩
  | k + 1, r, h => by
    rw [orders, List.mem_flatMap] at h
    obtain ⟨row, h1, h2⟩ := h
    rw [List.mem_map] at h2
    obtain ⟨x, h3, rfl⟩ := h2
    rw [List.mem_filter, decide_eq_true_iff] at h3
    obtain ⟨a, b, c⟩ := orders_mem h1
    refine ⟨by simp [a], ?_, fun y hy => ?_⟩
    · rw [List.nodup_append]
      refine ⟨b, by simp, fun y hy z hz => ?_⟩
      rw [List.mem_singleton] at hz; subst hz
      rintro rfl; exact h3.2 hy
    · rw [List.mem_append, List.mem_singleton] at hy
      rcases hy with hy | rfl
      · exact c y hy
      · exact h3.1
theorem perm_of_subset {l m : List Int} (h1 : l.Nodup) (h2 : m.Nodup) (hs : ∀ x ∈ l, x ∈ m) (hl : l.length = m.length) : l.Perm m := by
  refine (List.perm_ext_iff_of_nodup h1 h2).mpr fun a => ⟨hs a, fun ha => ?_⟩
  by_cases q : a ∈ l
  · exact q
  · exfalso
    have hn : (a :: l).Nodup := List.nodup_cons.mpr ⟨q, h1⟩
    have := List.Nodup.length_le_of_subset hn (l₂ := m) (fun x hx => by
      rcases List.mem_cons.mp hx with rfl | hx
      · exact ha
      · exact hs x hx)
    rw [List.length_cons] at this; omega
theorem orders_perm {items : List Int} (nd : items.Nodup) {r : List Int} (h : r ∈ orders items items.length) : r.Perm items := by
  obtain ⟨a, b, c⟩ := orders_mem h
  exact perm_of_subset b nd c a
theorem sum_flat {α β : Type} (f : α → List β) (d : α → Bool) (c : Nat) : ∀ L : List α, (∀ r ∈ L, (f r).length = if d r = true then c else 0) → (L.flatMap f).length = c * (L.filter d).length
  | [], _ => by simp
  | r :: L, h => by
    rw [List.flatMap_cons, List.length_append, h r List.mem_cons_self, sum_flat f d c L fun r hr => h r (List.mem_cons_of_mem _ hr), List.filter_cons]
    by_cases q : d r = true
    · rw [if_pos q, if_pos q, List.length_cons, Nat.mul_succ]; omega
    · rw [if_neg q, if_neg q]; omega
theorem len_split {α : Type} (p : α → Bool) : ∀ l : List α, l.length = (l.filter p).length + (l.filter fun x => !p x).length
  | [] => rfl
  | a :: r => by
    have := len_split p r
    cases q : p a <;> simp [List.filter_cons, q] <;> omega
theorem filter_split {items row : List Int} {t : Nat} (nd : items.Nodup) (nr : row.Nodup) (ht : t ≤ items.length) (hr : ∀ x ∈ row, x ∈ items.take t) :
    ((items.filter fun x => decide (x ∉ row)).filter fun x => decide (x ∈ items.take t)).length = t - row.length := by
  rw [List.filter_filter]
  have e : items.filter (fun a => decide (a ∈ items.take t) && decide (a ∉ row)) = (items.take t).filter fun a => decide (a ∉ row) := by
    conv => lhs; rw [← List.take_append_drop t items]
    rw [List.filter_append]
    have nd2 := nd
    rw [← List.take_append_drop t items, List.nodup_append] at nd2
    have z : (items.drop t).filter (fun a => decide (a ∈ (items.take t ++ items.drop t).take t) && decide (a ∉ row)) = [] := by
      rw [List.filter_eq_nil_iff]
      intro a ha q
      rw [Bool.and_eq_true, decide_eq_true_iff, List.take_append_drop] at q
      exact nd2.2.2 a q.1 a ha rfl
    rw [z, List.append_nil]
    refine List.filter_congr fun a ha => ?_
    rw [List.take_append_drop, decide_eq_true ha, Bool.true_and]
  rw [e]
  have nt : (items.take t).Nodup := nd.sublist (List.take_sublist _ _)
  have p : ((items.take t).filter fun a => decide (a ∈ row)).Perm row := by
    refine (List.perm_ext_iff_of_nodup (nt.filter _) nr).mpr fun a => ?_
    rw [List.mem_filter, decide_eq_true_iff]
    exact ⟨fun q => q.2, fun q => ⟨hr a q, q⟩⟩
  have s := len_split (fun a => decide (a ∈ row)) (items.take t)
  rw [p.length_eq, List.length_take, Nat.min_eq_left ht] at s
  have e2 : ((items.take t).filter fun x => !decide (x ∈ row)) = (items.take t).filter fun a => decide (a ∉ row) := by
    refine List.filter_congr fun a _ => ?_
    by_cases q : a ∈ row <;> simp [q]
  rw [e2] at s
  omega
theorem dueP_snoc {tk : List Int} {ts : List Nat} {row : List Int} {x : Int} {t : Nat} (h : ts[row.length]? = some t) : dueP tk ts (row ++ [x]) = (dueP tk ts row && decide (x ∈ tk.take t)) := by
  unfold dueP
  have e : (row ++ [x]).zip ts = row.zip ts ++ [(x, t)] := by
    have hl := (List.getElem?_eq_some_iff.mp h).1
    have e1 : ts = ts.take row.length ++ t :: ts.drop (row.length + 1) := by
      conv => lhs; rw [← List.take_append_drop row.length ts]
      congr 1
      rw [List.drop_eq_getElem_cons hl]
      congr 1
      exact (List.getElem?_eq_some_iff.mp h).2
    conv => lhs; rw [e1]
    rw [List.zip_append (by rw [List.length_take]; omega)]
    have e3 : row.zip ts = row.zip (ts.take row.length) := by
      have q : row.zip ts = (row ++ []).zip (ts.take row.length ++ t :: ts.drop (row.length + 1)) := by rw [List.append_nil, ← e1]
      rw [q, List.zip_append (by rw [List.length_take]; omega)]
      simp
    rw [e3]
    simp
  rw [e, List.all_append]
  simp
theorem due_sub {tk : List Int} {ts : List Nat} {row : List Int} {t : Nat} (hd : dueP tk ts row = true) (hl : row.length ≤ ts.length) (hm : ∀ j u, j < row.length → ts[j]? = some u → u ≤ t) : ∀ x ∈ row, x ∈ tk.take t := by
  intro x hx
  obtain ⟨j, hj, rfl⟩ := List.mem_iff_getElem.mp hx
  have hu : ts[j]? = some ts[j] := List.getElem?_eq_getElem (by omega)
  have hz : (row.zip ts)[j]? = some (row[j], ts[j]) := List.getElem?_zip_eq_some.mpr ⟨List.getElem?_eq_getElem hj, hu⟩
  have := List.all_eq_true.mp hd _ (List.mem_of_getElem? hz)
  rw [decide_eq_true_iff] at this
  exact (List.take_subset_take_left _ (hm j _ hj hu)) this
theorem count_due {items : List Int} {ts : List Nat} (nd : items.Nodup) (hts : ∀ j t, ts[j]? = some t → j < t ∧ t ≤ items.length) (mono : ts.Pairwise (· ≤ ·)) :
    ∀ k, k ≤ ts.length → (((orders items k).filter (dueP items ts)).length : Int) = ways 0 (ts.take k)
  | 0, _ => by rw [List.take_zero]; rfl
  | k + 1, hk => by
    have ih := count_due nd hts mono k (by omega)
    have ht : ts[k]? = some ts[k] := List.getElem?_eq_getElem (by omega)
    generalize ts[k] = t at ht
    obtain ⟨h1, h2⟩ := hts k t ht
    rw [take_snoc ht, ways_snoc, ← ih, List.length_take, Nat.min_eq_left (by omega), Nat.zero_add, orders, List.filter_flatMap,
      sum_flat _ (dueP items ts) (t - k) (orders items k) fun row hr => ?_]
    · rw [Int.natCast_mul, Int.mul_comm]
      congr 1
      omega
    · obtain ⟨a, b, c⟩ := orders_mem hr
      have e : ∀ L : List Int, ((L.map fun x => row ++ [x]).filter (dueP items ts)).length = if dueP items ts row = true then (L.filter fun x => decide (x ∈ items.take t)).length else 0 := by
        intro L
        rw [List.filter_map, List.length_map]
        by_cases q : dueP items ts row = true
        · rw [if_pos q]
          congr 2
          funext x
          show dueP items ts (row ++ [x]) = _
          rw [dueP_snoc (t := t) (by rw [a]; exact ht), q, Bool.true_and]
        · rw [if_neg q, List.length_eq_zero_iff, List.filter_eq_nil_iff]
          intro x _ z
          replace z : dueP items ts (row ++ [x]) = true := z
          rw [dueP_snoc (t := t) (by rw [a]; exact ht), Bool.and_eq_true] at z
          exact q z.1
      rw [e]
      by_cases q : dueP items ts row = true
      · rw [if_pos q, if_pos q, filter_split nd b h2 (due_sub q (by omega) fun j u hj hu => ?_), a]
        have hk2 := (List.getElem?_eq_some_iff.mp ht)
        have hj2 := (List.getElem?_eq_some_iff.mp hu)
        have := List.pairwise_iff_getElem.mp mono j k hj2.1 hk2.1 (by omega)
        rw [hj2.2, hk2.2] at this
        exact this
      · rw [if_neg q, if_neg q]
/-- the pattern's number of orders: the product -/
theorem orders_count {items : List Int} {l : Pat} (nd : items.Nodup) (g : Good l) (hn : tks l = items.length) : (((orders items items.length).filter (dueP items (times l))).length : Int) = ways 0 (times l) := by
  obtain ⟨h1, h2⟩ := times_all g.1
  have hl : (times l).length = items.length := by rw [times_len, g.2, hn]
  have := count_due nd (fun j t e => by have := h1 j t e; omega) h2 items.length (by omega)
  rw [← hl, List.take_length, hl] at this
  exact this
theorem idx_take {l : List Int} {x : Int} {t : Nat} (ht : t ≤ l.length) : decide (l.idxOf x < t) = decide (x ∈ l.take t) := by
  refine decide_eq_decide.mpr ⟨fun h => ?_, fun h => ?_⟩
  · rw [List.mem_take_iff_getElem]
    have h2 : l.idxOf x < l.length := by omega
    exact ⟨l.idxOf x, by omega, List.getElem_idxOf h2⟩
  · obtain ⟨j, hj, e⟩ := List.mem_take_iff_getElem.mp h
    have : l.idxOf x ≤ j := by
      apply Nat.le_of_not_lt
      intro q
      have := List.not_of_lt_findIdx (p := (· == x)) (xs := l) q
      rw [e] at this
      simp at this
    omega
theorem swap_perm {l : List Int} {i j : Nat} {a b : Int} (hi : l[i]? = some a) (hj : l[j]? = some b) : ((l.set i b).set j a).Perm l := by
  obtain ⟨h1, rfl⟩ := List.getElem?_eq_some_iff.mp hi
  obtain ⟨h2, rfl⟩ := List.getElem?_eq_some_iff.mp hj
  exact List.set_set_perm h1 h2
end LQ

namespace LQ
/-! the places that a pattern fills -/
def mn : List Int → Int
  | [] => 0
  | [a] => a
  | a :: b :: r => if a ≤ mn (b :: r) then a else mn (b :: r)
theorem mn_ok : ∀ {l : List Int}, l ≠ [] → mn l ∈ l ∧ ∀ x ∈ l, mn l ≤ x
  | [], h => absurd rfl h
  | [a], _ => ⟨List.mem_singleton.mpr rfl, fun x hx => by rw [List.mem_singleton] at hx; subst hx; exact Int.le_refl _⟩
  | a :: b :: r, _ => by
    obtain ⟨h1, h2⟩ := mn_ok (l := b :: r) (by simp)
    rw [mn]
    by_cases c : a ≤ mn (b :: r)
    · rw [if_pos c]
      exact ⟨List.mem_cons_self, fun x hx => by
        rcases List.mem_cons.mp hx with rfl | hx
        · exact Int.le_refl _
        · exact Int.le_trans c (h2 x hx)⟩
    · rw [if_neg c]
      exact ⟨List.mem_cons_of_mem _ h1, fun x hx => by
        rcases List.mem_cons.mp hx with rfl | hx
        · omega
        · exact h2 x hx⟩
theorem mn_eq {l : List Int} {m : Int} (h : m ∈ l) (h2 : ∀ x ∈ l, m ≤ x) : m = mn l := by
  obtain ⟨a, b⟩ := mn_ok (l := l) (fun e => by subst e; cases h)
  exact Int.le_antisymm (h2 _ a) (b _ h)
structure Sh where
  at_ : Nat
  gaps : List Int
  fills : List Int
def stp (tk : List Int) (s : Sh) (b : Bool) : Sh := if b = true then ⟨s.at_ + 1, s.gaps ++ (tk[s.at_]?).toList, s.fills⟩ else ⟨s.at_, s.gaps.erase (mn s.gaps), s.fills ++ [mn s.gaps]⟩
def run (tk : List Int) (l : Pat) : Sh := l.foldl (stp tk) ⟨0, [], []⟩
theorem run_snoc (tk : List Int) (l : Pat) (b : Bool) : run tk (l ++ [b]) = stp tk (run tk l) b := by unfold run; rw [List.foldl_append]; rfl
theorem run_nil (tk : List Int) : run tk [] = ⟨0, [], []⟩ := rfl
/-- what has been kept after a part of a pattern -/
theorem run_ok {tk : List Int} {l : Pat} (h : Pre l) (hl : tks l ≤ tk.length) : ∀ i, i ≤ l.length → (run tk (l.take i)).at_ = tks (l.take i) ∧ (run tk (l.take i)).fills.length = fls (l.take i) ∧ ((run tk (l.take i)).gaps ++ (run tk (l.take i)).fills).Perm (tk.take (tks (l.take i)))
  | 0, _ => by rw [List.take_zero]; exact ⟨rfl, rfl, List.Perm.refl _⟩
  | i + 1, hi => by
    obtain ⟨a, b, c⟩ := run_ok h hl i (by omega)
    have hb : l[i]? = some l[i] := List.getElem?_eq_getElem (by omega)
    have hp := h (i + 1)
    have ht := tks_take l (i + 1)
    rw [take_snoc hb] at hp ht ⊢
    generalize l[i] = x at hp ht hb
    rw [run_snoc]
    cases x with
    | true =>
      rw [tks_t] at ht
      have hx := List.getElem?_eq_getElem (l := tk) (i := tks (l.take i)) (by omega)
      rw [tks_t, fls_t]
      refine ⟨congrArg (· + 1) a, b, ?_⟩
      show (((run tk (l.take i)).gaps ++ (tk[(run tk (l.take i)).at_]?).toList) ++ (run tk (l.take i)).fills).Perm _
      rw [a, hx, take_snoc hx]
      show (((run tk (l.take i)).gaps ++ [_]) ++ (run tk (l.take i)).fills).Perm _
      rw [List.append_assoc]
      refine List.Perm.trans (List.perm_append_comm_assoc _ [_] _) ?_
      exact (List.perm_append_comm (l₁ := [_])).trans (c.append_right _)
    | false =>
      rw [fls_f, tks_f] at hp
      rw [tks_f, fls_f]
      have hlen := c.length_eq
      rw [List.length_append, List.length_take, b] at hlen
      have hne : (run tk (l.take i)).gaps ≠ [] := fun e => by
        rw [e] at hlen
        have := tks_take l i
        simp at hlen; omega
      refine ⟨a, by show ((run tk (l.take i)).fills ++ [_]).length = _; rw [List.length_append, b]; rfl, ?_⟩
      show ((run tk (l.take i)).gaps.erase (mn (run tk (l.take i)).gaps) ++ ((run tk (l.take i)).fills ++ [mn (run tk (l.take i)).gaps])).Perm _
      refine List.Perm.trans ?_ c
      rw [← List.append_assoc]
      refine (List.perm_append_singleton _ _).trans ?_
      exact (List.perm_cons_erase (mn_ok hne).1).symm.append_right _
/-- the places that the pattern fills from the list tk -/
def fillsOf (tk : List Int) (l : Pat) : List Int := (run tk l).fills
theorem fills_perm {tk : List Int} {l : Pat} (g : Good l) (hl : tks l = tk.length) : (fillsOf tk l).Perm tk := by
  obtain ⟨a, b, c⟩ := run_ok g.1 (Nat.le_of_eq hl) l.length (Nat.le_refl _)
  rw [List.take_length] at a b c
  rw [hl, List.take_length] at c
  have h := c.length_eq
  rw [List.length_append, b, g.2, hl] at h
  have e : (run tk l).gaps = [] := List.length_eq_zero_iff.mp (by omega)
  rw [e] at c
  exact c
end LQ

namespace LQ
/-! patterns between takes and fills: times within bounds -/
abbrev ix (tk : List Int) (p : Int) : Nat := tk.idxOf p
structure Lead (tk : List Int) (ts : List Nat) (fs : List Int) : Prop where
  len : fs.length = ts.length
  at_ : ∀ (j : Nat) (f : Int) (t : Nat), fs[j]? = some f → ts[j]? = some t → f ∈ tk.take t ∧ f ∉ fs.take j ∧ ∀ x ∈ tk.take t, x ∉ fs.take j → f ≤ x
theorem Lead.snoc {tk : List Int} {ts : List Nat} {fs : List Int} {f : Int} {t : Nat} (h : Lead tk ts fs) (h1 : f ∈ tk.take t) (h2 : f ∉ fs) (h3 : ∀ x ∈ tk.take t, x ∉ fs → f ≤ x) : Lead tk (ts ++ [t]) (fs ++ [f]) := by
  have hl := h.len
  refine ⟨by rw [List.length_append, List.length_append, hl]; rfl, fun j g u e1 e2 => ?_⟩
  by_cases c : j < fs.length
  · rw [List.getElem?_append_left c] at e1
    rw [List.getElem?_append_left (by omega)] at e2
    rw [List.take_append_of_le_length (by omega)]
    exact h.at_ j g u e1 e2
  · rw [List.getElem?_append_right (by omega)] at e1
    rw [List.getElem?_append_right (by omega), ← hl] at e2
    cases z : j - fs.length with
    | zero =>
      rw [z] at e1 e2
      cases e1; cases e2
      have : j = fs.length := by omega
      subst this
      rw [List.take_left]
      exact ⟨h1, h2, h3⟩
    | succ m => rw [z] at e1; simp at e1
theorem lead_run {tk : List Int} {l : Pat} (nd : tk.Nodup) (h : Pre l) (hl : tks l ≤ tk.length) : ∀ i, i ≤ l.length → Lead tk (times (l.take i)) (run tk (l.take i)).fills
  | 0, _ => by rw [List.take_zero]; exact ⟨rfl, fun j f t e => by simp [run_nil] at e⟩
  | i + 1, hi => by
    have ih := lead_run nd h hl i (by omega)
    obtain ⟨a, b, c⟩ := run_ok h hl i (by omega)
    have hb : l[i]? = some l[i] := List.getElem?_eq_getElem (by omega)
    have hp := h (i + 1)
    rw [take_snoc hb] at hp ⊢
    generalize l[i] = x at hp hb
    rw [run_snoc]
    cases x with
    | true => rw [times_t]; exact ih
    | false =>
      rw [times_f]
      rw [fls_f, tks_f] at hp
      have hlen := c.length_eq
      have ht := tks_take l i
      rw [List.length_append, List.length_take, b] at hlen
      have hne : (run tk (l.take i)).gaps ≠ [] := fun e => by
        rw [e] at hlen
        simp at hlen; omega
      obtain ⟨m1, m2⟩ := mn_ok hne
      have nd2 : ((run tk (l.take i)).gaps ++ (run tk (l.take i)).fills).Nodup := c.nodup_iff.mpr (nd.sublist (List.take_sublist _ _))
      rw [List.nodup_append] at nd2
      refine ih.snoc (c.subset (List.mem_append_left _ m1)) (fun q => nd2.2.2 _ m1 _ q rfl) fun x hx hn => ?_
      rcases List.mem_append.mp (c.symm.subset hx) with q | q
      · exact m2 x q
      · exact absurd q hn
theorem lead_of {tk : List Int} {l : Pat} (nd : tk.Nodup) (g : Good l) (hl : tks l = tk.length) : Lead tk (times l) (fillsOf tk l) := by
  have := lead_run nd g.1 (Nat.le_of_eq hl) l.length (Nat.le_refl _)
  rwa [List.take_length] at this
theorem lead_unique {tk : List Int} {ts : List Nat} {fs gs : List Int} (h1 : Lead tk ts fs) (h2 : Lead tk ts gs) : fs = gs := by
  have key : ∀ j, j ≤ ts.length → fs.take j = gs.take j := by
    intro j
    induction j with
    | zero => intro _; rfl
    | succ j ih =>
      intro hj
      have e := ih (by omega)
      have l1 := h1.len
      have l2 := h2.len
      have a := List.getElem?_eq_getElem (l := fs) (i := j) (by omega)
      have b := List.getElem?_eq_getElem (l := gs) (i := j) (by omega)
      have t := List.getElem?_eq_getElem (l := ts) (i := j) (by omega)
      obtain ⟨p1, p2, p3⟩ := h1.at_ j _ _ a t
      obtain ⟨q1, q2, q3⟩ := h2.at_ j _ _ b t
      have e2 : fs[j]'(by omega) = gs[j]'(by omega) := Int.le_antisymm (p3 _ q1 (by rw [e]; exact q2)) (q3 _ p1 (by rw [← e]; exact p2))
      rw [take_snoc a, take_snoc b, e, e2]
  have := key ts.length (Nat.le_refl _)
  rwa [← h1.len, List.take_length, h1.len, ← h2.len, List.take_length] at this
/-! ### the bounds of each time -/
structure InB (tk fs : List Int) (ts : List Nat) : Prop where
  len : fs.length = ts.length
  lo : ∀ (j : Nat) (f : Int) (t : Nat), fs[j]? = some f → ts[j]? = some t → ix tk f < t
  hi : ∀ (j : Nat) (f : Int) (t : Nat), fs[j]? = some f → ts[j]? = some t → ∀ (k : Nat) (g : Int), j < k → fs[k]? = some g → g < f → t ≤ ix tk g
theorem mem_take_ix {tk : List Int} {x : Int} {t : Nat} (h : x ∈ tk.take t) : ix tk x < t := by
  obtain ⟨j, hj, e⟩ := List.mem_take_iff_getElem.mp h
  have h1 : ix tk x ≤ j := by
    apply Nat.le_of_not_lt
    intro q
    have := List.not_of_lt_findIdx (p := (· == x)) (xs := tk) q
    rw [e] at this
    simp at this
  omega
theorem ix_take {tk : List Int} {x : Int} {t : Nat} (hx : x ∈ tk) (h : ix tk x < t) : x ∈ tk.take t := by
  rw [List.mem_take_iff_getElem]
  have h2 : ix tk x < tk.length := List.idxOf_lt_length_iff.mpr hx
  exact ⟨ix tk x, by omega, List.getElem_idxOf h2⟩
theorem ix_at {l : List Int} (nd : l.Nodup) {j : Nat} {x : Int} (h : l[j]? = some x) : ix l x = j := by
  obtain ⟨hj, e⟩ := List.getElem?_eq_some_iff.mp h
  have hm : x ∈ l := List.mem_of_getElem? h
  have h2 : ix l x < l.length := List.idxOf_lt_length_iff.mpr hm
  exact (List.getElem_inj nd).mp ((List.getElem_idxOf h2).trans e.symm)
theorem at_ix {l : List Int} {x : Int} (h : x ∈ l) : l[ix l x]? = some x := by
  have h1 := List.idxOf_lt_length_iff.mpr h
  rw [List.getElem?_eq_getElem h1]
  exact congrArg some (List.getElem_idxOf h1)
theorem not_take {l : List Int} (nd : l.Nodup) {j k : Nat} {x : Int} (h : l[k]? = some x) (hk : j ≤ k) : x ∉ l.take j := fun q => by
  have := mem_take_ix q
  rw [ix_at nd h] at this
  omega
theorem Lead.inB {tk fs : List Int} {ts : List Nat} (h : Lead tk ts fs) (nd : tk.Nodup) (p : fs.Perm tk) : InB tk fs ts := by
  have nf : fs.Nodup := p.nodup_iff.mpr nd
  refine ⟨h.len, fun j f t e1 e2 => mem_take_ix (h.at_ j f t e1 e2).1, fun j f t e1 e2 k g hk e3 hg => ?_⟩
  apply Nat.le_of_not_lt
  intro q
  have := (h.at_ j f t e1 e2).2.2 g (ix_take (p.subset (List.mem_of_getElem? e3)) q) (not_take nf e3 (by omega))
  omega
theorem InB.lead {tk fs : List Int} {ts : List Nat} (h : InB tk fs ts) (nd : tk.Nodup) (p : fs.Perm tk) : Lead tk ts fs := by
  have nf : fs.Nodup := p.nodup_iff.mpr nd
  refine ⟨h.len, fun j f t e1 e2 => ⟨ix_take (p.subset (List.mem_of_getElem? e1)) (h.lo j f t e1 e2), not_take nf e1 (Nat.le_refl _), fun x hx hn => ?_⟩⟩
  have hxf : x ∈ fs := p.symm.subset (List.mem_of_mem_take hx)
  have ek := at_ix hxf
  have hk : j ≤ ix fs x := by
    apply Nat.le_of_not_lt
    intro q
    exact hn (ix_take hxf q)
  rcases Nat.lt_or_eq_of_le hk with q | q
  · apply Int.le_of_not_gt
    intro z
    have := h.hi j f t e1 e2 _ x q ek z
    have := mem_take_ix hx
    omega
  · rw [← q, e1] at ek
    cases ek
    exact Int.le_refl _
/-! ### no obstruction -/
structure NoObs (tk fs : List Int) : Prop where
  two : ∀ a b, a ∈ tk → b ∈ tk → a < b → ix tk a < ix tk b → ¬ ix fs b < ix fs a
  three : ∀ a b c, a ∈ tk → b ∈ tk → c ∈ tk → a < b → b < c → ix tk c < ix tk b → ix tk b < ix tk a → ix fs a < ix fs c → ¬ ix fs c < ix fs b
theorem mono_at {ts : List Nat} (m : ts.Pairwise (· ≤ ·)) {i j a b : Nat} (h : i ≤ j) (h1 : ts[i]? = some a) (h2 : ts[j]? = some b) : a ≤ b := by
  obtain ⟨p1, e1⟩ := List.getElem?_eq_some_iff.mp h1
  obtain ⟨p2, e2⟩ := List.getElem?_eq_some_iff.mp h2
  rcases Nat.lt_or_eq_of_le h with q | q
  · have := List.pairwise_iff_getElem.mp m i j p1 p2 q
    rw [e1, e2] at this; exact this
  · subst q
    rw [h1] at h2; cases h2; exact Nat.le_refl _
theorem InB.noObs {tk fs : List Int} {ts : List Nat} (h : InB tk fs ts) (m : ts.Pairwise (· ≤ ·)) (p : fs.Perm tk) : NoObs tk fs := by
  have hl := h.len
  have get : ∀ {x : Int}, x ∈ tk → fs[ix fs x]? = some x ∧ ∃ t, ts[ix fs x]? = some t := fun {x} hx => by
    have hf := p.symm.subset hx
    have h1 := List.idxOf_lt_length_iff.mpr hf
    exact ⟨at_ix hf, _, List.getElem?_eq_getElem (by show ix fs x < ts.length; rw [← hl]; exact h1)⟩
  refine ⟨fun a b ha hb hab h1 h2 => ?_, fun a b c ha hb hc hab hbc h1 h2 h3 h4 => ?_⟩
  · obtain ⟨ea, _⟩ := get ha
    obtain ⟨eb, t, et⟩ := get hb
    have := h.lo _ _ _ eb et
    have := h.hi _ _ _ eb et _ _ h2 ea hab
    omega
  · obtain ⟨ea, ta, eta⟩ := get ha
    obtain ⟨eb, _⟩ := get hb
    obtain ⟨ec, tc, etc⟩ := get hc
    have l1 := h.lo _ _ _ ea eta
    have l2 := h.hi _ _ _ ec etc _ _ h4 eb hbc
    have l3 := mono_at m (Nat.le_of_lt h3) eta etc
    omega
/-! ### least and greatest times -/
def mnN (n : Nat) (l : List Nat) : Nat := l.foldr min n
theorem mnN_ok (n : Nat) : ∀ l : List Nat, (mnN n l = n ∨ mnN n l ∈ l) ∧ mnN n l ≤ n ∧ ∀ y ∈ l, mnN n l ≤ y
  | [] => ⟨.inl rfl, Nat.le_refl _, fun y hy => by cases hy⟩
  | a :: r => by
    obtain ⟨h1, h2, h3⟩ := mnN_ok n r
    have e : mnN n (a :: r) = min a (mnN n r) := rfl
    rw [e]
    refine ⟨?_, by omega, fun y hy => ?_⟩
    · rcases Nat.le_total a (mnN n r) with q | q
      · rw [Nat.min_eq_left q]; exact .inr List.mem_cons_self
      · rw [Nat.min_eq_right q]
        exact h1.imp id fun z => List.mem_cons_of_mem _ z
    · rcases List.mem_cons.mp hy with rfl | hy
      · exact Nat.min_le_left _ _
      · exact Nat.le_trans (Nat.min_le_right _ _) (h3 y hy)
theorem mnN_eq {n m : Nat} {l : List Nat} (h1 : m = n ∨ m ∈ l) (h2 : m ≤ n) (h3 : ∀ y ∈ l, m ≤ y) : m = mnN n l := by
  obtain ⟨g1, g2, g3⟩ := mnN_ok n l
  apply Nat.le_antisymm
  · rcases g1 with q | q
    · rw [q]; exact h2
    · exact h3 _ q
  · rcases h1 with q | q
    · rw [q]; exact g2
    · exact g3 _ q
/-- the bound of one fill by the smaller places behind it -/
def hi1 (tk : List Int) (p : Int) (r : List Int) : Nat := mnN tk.length ((r.filter fun q => decide (q < p)).map (ix tk))
def hiL (tk : List Int) : List Int → Nat
  | [] => tk.length
  | p :: r => min (hi1 tk p r) (hiL tk r)
def loL (tk : List Int) (l : List Int) : Nat := l.foldl (fun m p => max m (ix tk p + 1)) 0
theorem loL_snoc (tk l : List Int) (p : Int) : loL tk (l ++ [p]) = max (loL tk l) (ix tk p + 1) := by unfold loL; rw [List.foldl_append]; rfl
def lo (tk fs : List Int) (j : Nat) : Nat := loL tk (fs.take (j + 1))
def hi (tk fs : List Int) (j : Nat) : Nat := hiL tk (fs.drop j)
theorem loF_ok (tk : List Int) : ∀ (l : List Int) (m0 : Nat), (l.foldl (fun m p => max m (ix tk p + 1)) m0 = m0 ∨ ∃ p ∈ l, l.foldl (fun m p => max m (ix tk p + 1)) m0 = ix tk p + 1) ∧ m0 ≤ l.foldl (fun m p => max m (ix tk p + 1)) m0 ∧ ∀ p ∈ l, ix tk p + 1 ≤ l.foldl (fun m p => max m (ix tk p + 1)) m0
  | [], m0 => ⟨.inl rfl, Nat.le_refl _, fun y hy => by cases hy⟩
  | a :: r, m0 => by
    obtain ⟨h1, h2, h3⟩ := loF_ok tk r (max m0 (ix tk a + 1))
    rw [List.foldl_cons]
    refine ⟨?_, by omega, fun y hy => ?_⟩
    · rcases h1 with q | ⟨p, hp, q⟩
      · rw [q]
        rcases Nat.le_total m0 (ix tk a + 1) with z | z
        · rw [Nat.max_eq_right z]; exact .inr ⟨a, List.mem_cons_self, rfl⟩
        · rw [Nat.max_eq_left z]; exact .inl rfl
      · exact .inr ⟨p, List.mem_cons_of_mem _ hp, q⟩
    · rcases List.mem_cons.mp hy with rfl | hy
      · omega
      · exact h3 y hy
theorem loL_ok (tk l : List Int) : (loL tk l = 0 ∨ ∃ p ∈ l, loL tk l = ix tk p + 1) ∧ ∀ p ∈ l, ix tk p + 1 ≤ loL tk l :=
  let ⟨a, _, c⟩ := loF_ok tk l 0
  ⟨a, c⟩
theorem loL_eq {tk l : List Int} {m : Nat} (h1 : ∃ p ∈ l, m = ix tk p + 1) (h2 : ∀ p ∈ l, ix tk p + 1 ≤ m) : m = loL tk l := by
  obtain ⟨g1, g2⟩ := loL_ok tk l
  apply Nat.le_antisymm
  · obtain ⟨p, hp, rfl⟩ := h1
    exact g2 p hp
  · rcases g1 with q | ⟨p, hp, q⟩
    · rw [q]; exact Nat.zero_le _
    · rw [q]; exact h2 p hp
theorem hi1_ok (tk : List Int) (p : Int) (r : List Int) : (hi1 tk p r = tk.length ∨ ∃ q ∈ r, q < p ∧ hi1 tk p r = ix tk q) ∧ hi1 tk p r ≤ tk.length ∧ ∀ q ∈ r, q < p → hi1 tk p r ≤ ix tk q := by
  obtain ⟨a, b, c⟩ := mnN_ok tk.length ((r.filter fun q => decide (q < p)).map (ix tk))
  refine ⟨a.imp id fun z => ?_, b, fun q hq hp => c _ (List.mem_map.mpr ⟨q, List.mem_filter.mpr ⟨hq, decide_eq_true hp⟩, rfl⟩)⟩
  obtain ⟨q, h1, h2⟩ := List.mem_map.mp z
  obtain ⟨h3, h4⟩ := List.mem_filter.mp h1
  exact ⟨q, h3, of_decide_eq_true h4, h2.symm⟩
theorem hiL_ok (tk : List Int) : ∀ l : List Int, (hiL tk l = tk.length ∨ ∃ (k : Nat) (p : Int), l[k]? = some p ∧ hiL tk l = hi1 tk p (l.drop (k + 1))) ∧ hiL tk l ≤ tk.length ∧ ∀ (k : Nat) (p : Int), l[k]? = some p → hiL tk l ≤ hi1 tk p (l.drop (k + 1))
  | [] => ⟨.inl rfl, Nat.le_refl _, fun k p h => by simp at h⟩
  | a :: r => by
    obtain ⟨h1, h2, h3⟩ := hiL_ok tk r
    have e : hiL tk (a :: r) = min (hi1 tk a r) (hiL tk r) := rfl
    rw [e]
    refine ⟨?_, by omega, fun k p hk => ?_⟩
    · rcases Nat.le_total (hi1 tk a r) (hiL tk r) with q | q
      · rw [Nat.min_eq_left q]; exact .inr ⟨0, a, rfl, rfl⟩
      · rw [Nat.min_eq_right q]
        rcases h1 with z | ⟨k, p, z1, z2⟩
        · exact .inl z
        · exact .inr ⟨k + 1, p, z1, z2⟩
    · cases k with
      | zero => cases hk; exact Nat.min_le_left _ _
      | succ k => exact Nat.le_trans (Nat.min_le_right _ _) (h3 k p hk)
theorem hiL_drop (tk : List Int) (l : List Int) {j k : Nat} (h : j ≤ k) : hiL tk (l.drop j) ≤ hiL tk (l.drop k) := by
  rcases (hiL_ok tk (l.drop k)).1 with q | ⟨i, p, q1, q2⟩
  · rw [q]; exact (hiL_ok tk (l.drop j)).2.1
  · rw [q2]
    have e : (l.drop j)[k - j + i]? = some p := by
      rw [List.getElem?_drop] at q1 ⊢
      rw [← q1]; congr 1; omega
    have := (hiL_ok tk (l.drop j)).2.2 _ p e
    rw [List.drop_drop] at this ⊢
    rw [show k + (i + 1) = j + (k - j + i + 1) by omega]
    exact this
theorem hi_mono (tk fs : List Int) {j k : Nat} (h : j ≤ k) : hi tk fs j ≤ hi tk fs k := hiL_drop tk fs h
theorem lo_mono (tk fs : List Int) {j k : Nat} (h : j ≤ k) : lo tk fs j ≤ lo tk fs k := by
  unfold lo
  rcases (loL_ok tk (fs.take (j + 1))).1 with q | ⟨p, hp, q⟩
  · rw [q]; exact Nat.zero_le _
  · rw [q]
    exact (loL_ok tk (fs.take (k + 1))).2 p (List.take_subset_take_left _ (by omega) hp)
theorem hi_le (tk fs : List Int) (j : Nat) : hi tk fs j ≤ tk.length := (hiL_ok tk _).2.1
theorem lo_ge {tk fs : List Int} (nd : tk.Nodup) (p : fs.Perm tk) {j : Nat} (hj : j < fs.length) : j + 1 ≤ lo tk fs j := by
  have nf : fs.Nodup := p.nodup_iff.mpr nd
  have h1 : (fs.take (j + 1)).Nodup := nf.sublist (List.take_sublist _ _)
  have h2 := List.Nodup.length_le_of_subset h1 (l₂ := tk.take (lo tk fs j)) fun x hx => ix_take (p.subset (List.mem_of_mem_take hx)) (Nat.lt_of_succ_le ((loL_ok tk _).2 x hx))
  rw [List.length_take, List.length_take] at h2
  omega
/-- times that never fall are those of a pattern of the pair if and only if they keep the bounds -/
theorem InB_within {tk fs : List Int} {ts : List Nat} (h : InB tk fs ts) (m : ts.Pairwise (· ≤ ·)) (hn : ∀ t ∈ ts, t ≤ tk.length) {j t : Nat} (ht : ts[j]? = some t) : lo tk fs j ≤ t ∧ t ≤ hi tk fs j := by
  have hl := h.len
  have hj : j < ts.length := (List.getElem?_eq_some_iff.mp ht).1
  constructor
  · unfold lo
    rcases (loL_ok tk (fs.take (j + 1))).1 with q | ⟨p, hp, q⟩
    · rw [q]; exact Nat.zero_le _
    · rw [q]
      obtain ⟨i, hi, e⟩ := List.mem_take_iff_getElem.mp hp
      have e1 : fs[i]? = some p := by rw [List.getElem?_eq_getElem (by omega), e]
      have e2 := List.getElem?_eq_getElem (l := ts) (i := i) (by omega)
      have := h.lo _ _ _ e1 e2
      have := mono_at m (show i ≤ j by omega) e2 ht
      omega
  · show t ≤ hiL tk (fs.drop j)
    rcases (hiL_ok tk (fs.drop j)).1 with q | ⟨k, p, q1, q2⟩
    · rw [q]; exact hn t (List.mem_of_getElem? ht)
    · rw [q2]
      rw [List.getElem?_drop] at q1
      have hk : j + k < fs.length := (List.getElem?_eq_some_iff.mp q1).1
      have e2 := List.getElem?_eq_getElem (l := ts) (i := j + k) (by omega)
      have l1 := mono_at m (show j ≤ j + k by omega) ht e2
      rcases (hi1_ok tk p ((fs.drop j).drop (k + 1))).1 with z | ⟨g, hg, z1, z2⟩
      · rw [z]; exact hn t (List.mem_of_getElem? ht)
      · rw [z2]
        rw [List.drop_drop] at hg
        obtain ⟨i, hi, e⟩ := List.mem_iff_getElem.mp hg
        rw [List.length_drop] at hi
        have e3 : fs[j + (k + 1) + i]? = some g := by rw [List.getElem?_eq_getElem (by omega), ← e, List.getElem_drop]
        have := h.hi _ _ _ q1 e2 _ _ (by omega) e3 z1
        omega
theorem inB_of {tk fs : List Int} {ts : List Nat} (hl : fs.length = ts.length) (h : ∀ (j t : Nat), ts[j]? = some t → lo tk fs j ≤ t ∧ t ≤ hi tk fs j) : InB tk fs ts := by
  refine ⟨hl, fun j f t e1 e2 => ?_, fun j f t e1 e2 k g hk e3 hg => ?_⟩
  · have h1 := (h j t e2).1
    have : f ∈ fs.take (j + 1) := by
      have hj := List.getElem?_eq_some_iff.mp e1
      obtain ⟨hj, e⟩ := hj
      exact List.mem_take_iff_getElem.mpr ⟨j, by omega, e⟩
    have := (loL_ok tk (fs.take (j + 1))).2 f this
    unfold lo at h1
    omega
  · have h1 := (h j t e2).2
    unfold hi at h1
    have e4 : (fs.drop j)[0]? = some f := by rw [List.getElem?_drop]; exact e1
    have h2 := (hiL_ok tk (fs.drop j)).2.2 0 f e4
    have hg2 : g ∈ (fs.drop j).drop (0 + 1) := by
      rw [List.drop_drop]
      have hk2 := List.getElem?_eq_some_iff.mp e3
      refine List.mem_of_getElem? (i := k - (j + 1)) ?_
      rw [List.getElem?_drop, show j + (0 + 1) + (k - (j + 1)) = k by omega]
      exact e3
    have h3 := (hi1_ok tk f ((fs.drop j).drop (0 + 1))).2.2 g hg2 hg
    omega
/-! ### the pattern with given times -/
def wr (ts : List Nat) : Nat → Pat × Nat
  | 0 => ([], 0)
  | j + 1 => ((wr ts j).1 ++ List.replicate (ts.getD j 0 - (wr ts j).2) true ++ [false], ts.getD j 0)
theorem tks_rep (k : Nat) : tks (List.replicate k true) = k := by simp [tks]
theorem fls_rep (k : Nat) : fls (List.replicate k true) = 0 := by
  unfold fls
  rw [List.count_eq_zero]
  intro h
  exact absurd (List.eq_of_mem_replicate h) (by decide)
theorem Pre.reps {l : Pat} (h : Pre l) : ∀ k, Pre (l ++ List.replicate k true)
  | 0 => by simpa using h
  | k + 1 => by
    have ih := Pre.reps h k
    rw [List.replicate_succ', ← List.append_assoc]
    have := ih.all
    exact ih.snoc (by rw [fls_t, tks_t]; omega)
theorem times_reps (l : Pat) : ∀ k, times (l ++ List.replicate k true) = times l
  | 0 => by simp
  | k + 1 => by rw [List.replicate_succ', ← List.append_assoc, times_t, times_reps l k]
theorem wr_ok {ts : List Nat} (m : ts.Pairwise (· ≤ ·)) (hj : ∀ (j t : Nat), ts[j]? = some t → j < t) : ∀ j, j ≤ ts.length → Pre (wr ts j).1 ∧ tks (wr ts j).1 = (wr ts j).2 ∧ fls (wr ts j).1 = j ∧ times (wr ts j).1 = ts.take j ∧ (∀ i t, ts[i]? = some t → j ≤ i → (wr ts j).2 ≤ t) ∧ (0 < j → ts[j - 1]? = some (wr ts j).2)
  | 0, _ => ⟨Pre.nil, rfl, rfl, rfl, fun i t _ _ => Nat.zero_le _, fun h => absurd h (by omega)⟩
  | j + 1, h => by
    obtain ⟨a, b, c, d, e, _⟩ := wr_ok m hj j (by omega)
    have ht := List.getElem?_eq_getElem (l := ts) (i := j) (by omega)
    have eD : ts.getD j 0 = ts[j]'(by omega) := by rw [List.getD_eq_getElem?_getD, ht]; rfl
    have h1 := hj j _ ht
    have h2 := e j _ ht (Nat.le_refl _)
    have e1 : wr ts (j + 1) = ((wr ts j).1 ++ List.replicate (ts[j]'(by omega) - (wr ts j).2) true ++ [false], ts[j]'(by omega)) := by rw [wr, eD]
    rw [e1]
    generalize ts[j]'(by omega) = t at ht h1 h2 e1
    have t1 : tks ((wr ts j).1 ++ List.replicate (t - (wr ts j).2) true) = t := by rw [tks_app, tks_rep, b]; omega
    have t2 : fls ((wr ts j).1 ++ List.replicate (t - (wr ts j).2) true) = j := by rw [fls_app, fls_rep, c]; rfl
    refine ⟨(a.reps _).snoc (by rw [fls_f, tks_f, t1, t2]; omega), by rw [tks_f, t1], by rw [fls_f, t2], ?_, fun i u hu hi => mono_at m (by omega) ht hu, fun _ => ht⟩
    rw [times_f, times_reps, d, t1, take_snoc ht]
def wrote (ts : List Nat) : Pat := (wr ts ts.length).1
theorem wrote_ok {ts : List Nat} (m : ts.Pairwise (· ≤ ·)) (hj : ∀ (j t : Nat), ts[j]? = some t → j < t ∧ t ≤ ts.length) : Good (wrote ts) ∧ tks (wrote ts) = ts.length ∧ times (wrote ts) = ts ∧ (wr ts ts.length).2 = ts.length := by
  obtain ⟨a, b, c, d, e, f⟩ := wr_ok m (fun j t h => (hj j t h).1) ts.length (Nat.le_refl _)
  have z : (wr ts ts.length).2 = ts.length := by
    by_cases q : ts.length = 0
    · rw [q]; rfl
    · have g := f (by omega)
      have := hj _ _ g
      omega
  refine ⟨⟨a, ?_⟩, ?_, ?_, z⟩
  · show fls (wr ts ts.length).1 = tks (wr ts ts.length).1
    rw [b, c, z]
  · show tks (wr ts ts.length).1 = _
    rw [b, z]
  · show times (wr ts ts.length).1 = _
    rw [d, List.take_length]
/-- bounds and times: the pattern written leads to the fills -/
theorem wrote_leads {tk fs : List Int} {ts : List Nat} (nd : tk.Nodup) (p : fs.Perm tk) (m : ts.Pairwise (· ≤ ·)) (hl : fs.length = ts.length) (h : ∀ (j t : Nat), ts[j]? = some t → lo tk fs j ≤ t ∧ t ≤ hi tk fs j) :
    Good (wrote ts) ∧ tks (wrote ts) = tk.length ∧ fillsOf tk (wrote ts) = fs ∧ times (wrote ts) = ts ∧ (wr ts ts.length).2 = ts.length := by
  have hp := p.length_eq
  obtain ⟨a, b, c, d⟩ := wrote_ok m fun j t e => by
    have h1 := h j t e
    have hj := (List.getElem?_eq_some_iff.mp e).1
    have h2 := lo_ge nd p (show j < fs.length by omega)
    have h3 := hi_le tk fs j
    omega
  have e : tks (wrote ts) = tk.length := by omega
  refine ⟨a, e, ?_, c, d⟩
  have l1 := lead_of nd a e
  rw [c] at l1
  exact lead_unique l1 ((inB_of hl h).lead nd p)
/-- what is known of the pair that a pattern leads to -/
theorem pair_ok {tk : List Int} {l : Pat} (nd : tk.Nodup) (g : Good l) (hn : tks l = tk.length) : (fillsOf tk l).Perm tk ∧ NoObs tk (fillsOf tk l) ∧ ∀ j t, (times l)[j]? = some t → lo tk (fillsOf tk l) j ≤ t ∧ t ≤ hi tk (fillsOf tk l) j := by
  have p := fills_perm g hn
  obtain ⟨t1, t2⟩ := times_all g.1
  have b := (lead_of nd g hn).inB nd p
  exact ⟨p, b.noObs t2 p, fun j t e => InB_within b t2 (fun u hu => by obtain ⟨i, e⟩ := List.mem_iff_getElem?.mp hu; have := (t1 i u e).2; omega) e⟩
end LQ

namespace LR
/-! the mirror: a shelf, stp by stp -/
abbrev Op := Bool × Int
structure Sim where
  books : List (Option Int)
  out : List Int
  filled : List Int
  most : Int
def rangeI (n : Nat) : List Int := (List.range n).map fun k : Nat => (k : Int)
def simInit (n : Nat) : Sim := ⟨(rangeI n).map some, [], [], 0⟩
def gap (l : List (Option Int)) : Nat := l.idxOf none
def mx (i j : Int) : Int := if j > i then j else i
def stp (s : Sim) (o : Op) : Option Sim :=
  if o.1 = true then
    if 0 ≤ o.2 then
      match s.books[o.2.toNat]? with
      | some (some b) => some ⟨s.books.set o.2.toNat none, s.out ++ [b], s.filled, mx s.most ((s.out ++ [b]).length : Nat)⟩
      | _ => none
    else none
  else if o.2 ∈ s.out then some ⟨s.books.set (gap s.books) (some o.2), s.out.erase o.2, s.filled ++ [(gap s.books : Int)], mx s.most ((s.out.erase o.2).length : Nat)⟩
  else none
def run (s : Sim) : List Op → Option Sim
  | [] => some s
  | o :: os => (stp s o).bind fun t => run t os
theorem run_nil {s : Sim} : run s [] = some s := rfl
theorem run_append {s : Sim} {a b : List Op} : run s (a ++ b) = (run s a).bind fun t => run t b := by
  induction a generalizing s with
  | nil => rfl
  | cons o os ih =>
    show (stp s o).bind (fun t => run t (os ++ b)) = ((stp s o).bind fun t => run t os).bind fun t => run t b
    cases stp s o with
    | none => rfl
    | some t => exact ih
theorem run_snoc {s t u : Sim} {a : List Op} {o : Op} (h : run s a = some t) (h2 : stp t o = some u) : run s (a ++ [o]) = some u := by
  rw [run_append, h]
  show (stp t o).bind _ = _
  rw [h2]; rfl
theorem run_take {s e : Sim} {ops : List Op} (h : run s ops = some e) (i : Nat) : ∃ t, run s (ops.take i) = some t ∧ run t (ops.drop i) = some e := by
  have h2 : run s (ops.take i ++ ops.drop i) = some e := by rw [List.take_append_drop]; exact h
  rw [run_append] at h2
  cases q : run s (ops.take i) with
  | none => rw [q] at h2; cases h2
  | some t => rw [q] at h2; exact ⟨t, rfl, h2⟩
theorem run_stp {s e : Sim} {ops : List Op} (h : run s ops = some e) {i : Nat} {o : Op} (hi : ops[i]? = some o) : ∃ t u, run s (ops.take i) = some t ∧ stp t o = some u ∧ run s (ops.take (i + 1)) = some u := by
  obtain ⟨t, h1, h2⟩ := run_take h i
  obtain ⟨hl, e1⟩ := List.getElem?_eq_some_iff.mp hi
  have e2 : ops.drop i = o :: ops.drop (i + 1) := by rw [List.drop_eq_getElem_cons hl, e1]
  rw [e2] at h2
  have h3 : (stp t o).bind (fun u => run u (ops.drop (i + 1))) = some e := h2
  cases q : stp t o with
  | none => rw [q] at h3; cases h3
  | some u =>
    refine ⟨t, u, h1, q, ?_⟩
    rw [List.take_add_one, hi]
    exact run_snoc h1 q
/-! ### what is always so -/
structure Good (n : Nat) (s : Sim) : Prop where
  len : s.books.length = n
  perm : (s.books.filterMap id ++ s.out).Perm (rangeI n)
  out_le : (s.out.length : Int) ≤ s.most
theorem rangeI_length (n : Nat) : (rangeI n).length = n := by simp [rangeI]
theorem rangeI_nodup (n : Nat) : (rangeI n).Nodup := by
  unfold rangeI
  refine List.Pairwise.map _ (fun a b h => ?_) (List.nodup_range (n := n))
  intro e; exact h (Int.ofNat.inj e)
theorem rangeI_sorted (n : Nat) : (rangeI n).Pairwise (· ≤ ·) := by
  unfold rangeI
  refine List.Pairwise.map _ (fun a b h => ?_) (List.pairwise_lt_range (n := n))
  exact Int.ofNat_le.mpr (Nat.le_of_lt h)
theorem rangeI_get {n k : Nat} (h : k < n) : (rangeI n)[k]? = some (k : Int) := by
  unfold rangeI
  rw [List.getElem?_map, List.getElem?_range h]; rfl
theorem mem_rangeI {n : Nat} {x : Int} : x ∈ rangeI n ↔ 0 ≤ x ∧ x < n := by
  unfold rangeI
  rw [List.mem_map]
  constructor
  · rintro ⟨k, hk, rfl⟩
    have := List.mem_range.mp hk
    omega
  · intro ⟨h1, h2⟩
    exact ⟨x.toNat, List.mem_range.mpr (by omega), by omega⟩
theorem rangeI_succ (n : Nat) : rangeI (n + 1) = rangeI n ++ [(n : Int)] := by
  unfold rangeI
  rw [List.range_succ, List.map_append]; rfl
theorem fm_some (l : List Int) : (l.map some).filterMap id = l := by
  induction l with
  | nil => rfl
  | cons a r ih => show a :: (r.map some).filterMap id = a :: r; rw [ih]
theorem good_init (n : Nat) : Good n (simInit n) := by
  refine ⟨?_, ?_, ?_⟩
  · show ((rangeI n).map some).length = n
    rw [List.length_map, rangeI_length]
  · show (((rangeI n).map some).filterMap id ++ []).Perm _
    rw [List.append_nil, fm_some]
  · show ((0 : Nat) : Int) ≤ 0
    decide
theorem fm_set_none {b : Int} : ∀ {l : List (Option Int)} {p : Nat}, l[p]? = some (some b) → (b :: (l.set p none).filterMap id).Perm (l.filterMap id)
  | [], p, h => by simp at h
  | a :: r, 0, h => by
    have e : a = some b := Option.some.inj h
    subst e
    exact List.Perm.refl _
  | none :: r, p + 1, h => fm_set_none (l := r) (p := p) h
  | some a :: r, p + 1, h => by
    have ih := fm_set_none (l := r) (p := p) h
    show (b :: a :: (r.set p none).filterMap id).Perm (a :: r.filterMap id)
    exact (List.Perm.swap a b _).trans (ih.cons a)
theorem fm_set_some {b : Int} : ∀ {l : List (Option Int)} {p : Nat}, l[p]? = some none → ((l.set p (some b)).filterMap id).Perm (b :: l.filterMap id)
  | [], p, h => by simp at h
  | a :: r, 0, h => by
    have e : a = none := Option.some.inj h
    subst e
    exact List.Perm.refl _
  | none :: r, p + 1, h => fm_set_some (l := r) (p := p) h
  | some a :: r, p + 1, h => by
    have ih := fm_set_some (b := b) (l := r) (p := p) h
    show (a :: (r.set p (some b)).filterMap id).Perm (b :: a :: r.filterMap id)
    exact (ih.cons a).trans (List.Perm.swap b a _)
theorem fm_full : ∀ {l : List (Option Int)}, none ∉ l → (l.filterMap id).length = l.length
  | [], _ => rfl
  | none :: r, h => absurd List.mem_cons_self h
  | some a :: r, h => by
    show ((a :: r.filterMap id)).length = (some a :: r).length
    rw [List.length_cons, List.length_cons, fm_full fun q => h (List.mem_cons_of_mem _ q)]
theorem fm_len (l : List (Option Int)) : (l.filterMap id).length ≤ l.length := List.length_filterMap_le _ _
theorem gap_lt {l : List (Option Int)} (h : none ∈ l) : gap l < l.length := List.idxOf_lt_length_iff.mpr h
theorem gap_get {l : List (Option Int)} (h : none ∈ l) : l[gap l]? = some none := by
  have h1 := gap_lt h
  rw [List.getElem?_eq_getElem h1]
  have h2 := List.findIdx_getElem (p := (· == none)) (xs := l) (w := h1)
  exact congrArg some (eq_of_beq h2)
theorem gap_least : ∀ {l : List (Option Int)} {k : Nat}, l[k]? = some none → gap l ≤ k
  | [], k, h => by simp at h
  | none :: r, k, h => by unfold gap; rw [List.idxOf_cons]; simp
  | some a :: r, 0, h => by cases h
  | some a :: r, k + 1, h => by
    have ih := gap_least (l := r) (k := k) h
    unfold gap at ih ⊢
    rw [List.idxOf_cons]
    simp
    exact ih
theorem gap_before {l : List (Option Int)} {k : Nat} {x : Option Int} (hk : k < gap l) (h : l[k]? = some x) : x ≠ none := by
  intro e
  subst e
  exact absurd (gap_least h) (Nat.not_le.mpr hk)
theorem Good.gap {n : Nat} {s : Sim} (g : Good n s) {b : Int} (hb : b ∈ s.out) : none ∈ s.books := by
  refine Classical.byContradiction fun h => ?_
  have h1 := fm_full h
  have h2 := g.perm.length_eq
  rw [List.length_append, rangeI_length, h1, g.len] at h2
  have h3 : s.out.length = 0 := by omega
  rw [List.eq_nil_of_length_eq_zero h3] at hb
  cases hb
theorem mx_ge (i j : Int) : i ≤ mx i j ∧ j ≤ mx i j := by unfold mx; split <;> omega
theorem stp_take {s u : Sim} {p : Int} (h : stp s (true, p) = some u) : 0 ≤ p ∧ ∃ b, s.books[p.toNat]? = some (some b) ∧ u = ⟨s.books.set p.toNat none, s.out ++ [b], s.filled, mx s.most ((s.out ++ [b]).length : Nat)⟩ := by
  unfold stp at h
  rw [if_pos rfl] at h
  by_cases hp : 0 ≤ p
  · rw [if_pos (show 0 ≤ ((true, p) : Op).2 from hp)] at h
    refine ⟨hp, ?_⟩
    dsimp only at h
    split at h
    · rename_i b e
      exact ⟨b, e, (Option.some.inj h).symm⟩
    · cases h
  · rw [if_neg (show ¬ 0 ≤ ((true, p) : Op).2 from hp)] at h
    cases h
theorem stp_take_of {s : Sim} {p : Int} {b : Int} (hp : 0 ≤ p) (e : s.books[p.toNat]? = some (some b)) : stp s (true, p) = some ⟨s.books.set p.toNat none, s.out ++ [b], s.filled, mx s.most ((s.out ++ [b]).length : Nat)⟩ := by
  unfold stp
  rw [if_pos rfl, if_pos (show 0 ≤ ((true, p) : Op).2 from hp)]
  dsimp only
  rw [e]
theorem stp_ret {s u : Sim} {b : Int} (h : stp s (false, b) = some u) : b ∈ s.out ∧ u = ⟨s.books.set (gap s.books) (some b), s.out.erase b, s.filled ++ [(gap s.books : Int)], mx s.most ((s.out.erase b).length : Nat)⟩ := by
  unfold stp at h
  rw [if_neg (show ¬ ((false, b) : Op).1 = true from Bool.false_ne_true)] at h
  by_cases hb : b ∈ s.out
  · rw [if_pos (show ((false, b) : Op).2 ∈ s.out from hb)] at h
    exact ⟨hb, (Option.some.inj h).symm⟩
  · rw [if_neg (show ¬ ((false, b) : Op).2 ∈ s.out from hb)] at h
    cases h
theorem stp_ret_of {s : Sim} {b : Int} (hb : b ∈ s.out) : stp s (false, b) = some ⟨s.books.set (gap s.books) (some b), s.out.erase b, s.filled ++ [(gap s.books : Int)], mx s.most ((s.out.erase b).length : Nat)⟩ := by
  unfold stp
  rw [if_neg (show ¬ ((false, b) : Op).1 = true from Bool.false_ne_true), if_pos (show ((false, b) : Op).2 ∈ s.out from hb)]
theorem good_stp {n : Nat} {s u : Sim} {o : Op} (g : Good n s) (h : stp s o = some u) : Good n u := by
  obtain ⟨w, x⟩ := o
  cases w with
  | true =>
    obtain ⟨hp, b, e, rfl⟩ := stp_take h
    refine ⟨?_, ?_, ?_⟩
    · show (s.books.set _ none).length = n
      rw [List.length_set]; exact g.len
    · show ((s.books.set x.toNat none).filterMap id ++ (s.out ++ [b])).Perm _
      refine List.Perm.trans ?_ g.perm
      have h1 := fm_set_none e
      rw [← List.append_assoc]
      refine (List.perm_append_singleton b _).trans ?_
      exact List.Perm.append_right s.out h1
    · exact (mx_ge _ _).2
  | false =>
    obtain ⟨hb, rfl⟩ := stp_ret h
    have hg := g.gap hb
    refine ⟨?_, ?_, ?_⟩
    · show (s.books.set _ _).length = n
      rw [List.length_set]; exact g.len
    · show ((s.books.set (LR.gap s.books) (some x)).filterMap id ++ s.out.erase x).Perm _
      refine List.Perm.trans ?_ g.perm
      have h1 := fm_set_some (b := x) (gap_get hg)
      refine (List.Perm.append_right _ h1).trans ?_
      have h2 := List.perm_cons_erase hb
      refine List.Perm.trans ?_ (List.Perm.append_left _ h2.symm)
      exact List.perm_middle.symm
    · exact (mx_ge _ _).2
theorem good_run {n : Nat} {ops : List Op} : ∀ {s e : Sim}, Good n s → run s ops = some e → Good n e := by
  induction ops with
  | nil => intro s e g h; cases h; exact g
  | cons o os ih =>
    intro s e g h
    have h' : (stp s o).bind (fun t => run t os) = some e := h
    cases q : stp s o with
    | none => rw [q] at h'; cases h'
    | some t => rw [q] at h'; exact ih (good_stp g q) h'
theorem Good.nodup {n : Nat} {s : Sim} (g : Good n s) : (s.books.filterMap id ++ s.out).Nodup := g.perm.nodup_iff.mpr (rangeI_nodup n)
/-! ### the filled places and the greatest number -/
def rets (ops : List Op) : Nat := (ops.filter fun o => !o.1).length
theorem stp_grow {s u : Sim} {o : Op} (h : stp s o = some u) : (∃ m, u.filled = s.filled ++ m ∧ m.length = rets [o]) ∧ s.most ≤ u.most := by
  obtain ⟨w, x⟩ := o
  cases w with
  | true =>
    obtain ⟨hp, b, e, rfl⟩ := stp_take h
    exact ⟨⟨[], (List.append_nil _).symm, rfl⟩, (mx_ge _ _).1⟩
  | false =>
    obtain ⟨hb, rfl⟩ := stp_ret h
    exact ⟨⟨_, rfl, rfl⟩, (mx_ge _ _).1⟩
theorem run_grow {ops : List Op} : ∀ {s e : Sim}, run s ops = some e → (∃ m, e.filled = s.filled ++ m ∧ m.length = rets ops) ∧ s.most ≤ e.most := by
  induction ops with
  | nil => intro s e h; cases h; exact ⟨⟨[], (List.append_nil _).symm, rfl⟩, Int.le_refl _⟩
  | cons o os ih =>
    intro s e h
    have h' : (stp s o).bind (fun t => run t os) = some e := h
    cases q : stp s o with
    | none => rw [q] at h'; cases h'
    | some t =>
      rw [q] at h'
      obtain ⟨⟨m1, e1, l1⟩, k1⟩ := stp_grow q
      obtain ⟨⟨m2, e2, l2⟩, k2⟩ := ih h'
      refine ⟨⟨m1 ++ m2, by rw [e2, e1, List.append_assoc], ?_⟩, Int.le_trans k1 k2⟩
      rw [List.length_append, l1, l2]
      unfold rets
      rw [← List.length_append, ← List.filter_append]; rfl
/-! ### a longer shelf -/
def ext (n : Nat) (s : Sim) : Sim := { s with books := s.books ++ [some (n : Int)] }
theorem init_ext (n : Nat) : simInit (n + 1) = ext n (simInit n) := by
  unfold simInit ext
  simp [rangeI_succ]
theorem gap_append {l : List (Option Int)} (h : none ∈ l) (m : List (Option Int)) : gap (l ++ m) = gap l := by
  unfold gap
  rw [List.idxOf_append, if_pos h]
theorem stp_ext {n : Nat} {s u : Sim} {o : Op} (g : Good n s) (h : stp s o = some u) : stp (ext n s) o = some (ext n u) := by
  obtain ⟨w, x⟩ := o
  cases w with
  | true =>
    obtain ⟨hp, b, e, rfl⟩ := stp_take h
    have hl := (List.getElem?_eq_some_iff.mp e).1
    have e2 : (ext n s).books[x.toNat]? = some (some b) := by
      show (s.books ++ _)[x.toNat]? = _
      rw [List.getElem?_append_left hl]; exact e
    rw [stp_take_of hp e2]
    show some (Sim.mk ((s.books ++ [some (n : Int)]).set x.toNat none) _ _ _) = some (Sim.mk (s.books.set x.toNat none ++ [some (n : Int)]) _ _ _)
    rw [List.set_append_left _ _ hl]; rfl
  | false =>
    obtain ⟨hb, rfl⟩ := stp_ret h
    have hg := g.gap hb
    have hl := gap_lt hg
    rw [stp_ret_of (s := ext n s) hb]
    show some (Sim.mk ((s.books ++ [some (n : Int)]).set (LR.gap (s.books ++ [some (n : Int)])) (some x)) _ (s.filled ++ [(LR.gap (s.books ++ [some (n : Int)]) : Int)]) _) = some (Sim.mk (s.books.set (LR.gap s.books) (some x) ++ [some (n : Int)]) _ _ _)
    rw [gap_append hg, List.set_append_left _ _ hl]; rfl
theorem run_ext {n : Nat} {ops : List Op} : ∀ {s e : Sim}, Good n s → run s ops = some e → run (ext n s) ops = some (ext n e) := by
  induction ops with
  | nil => intro s e g h; cases h; rfl
  | cons o os ih =>
    intro s e g h
    have h' : (stp s o).bind (fun t => run t os) = some e := h
    cases q : stp s o with
    | none => rw [q] at h'; cases h'
    | some t =>
      rw [q] at h'
      show (stp (ext n s) o).bind _ = _
      rw [stp_ext g q]
      exact ih (good_stp g q) h'
/-! ### what one stp changes -/
theorem filter_range_eq {n p : Nat} (h : p < n) (f : Nat → Bool) (hf : ∀ k, k < n → (f k = true ↔ k = p)) : (List.range n).filter f = [p] := by
  have h1 : ((List.range n).filter f).Nodup := (List.nodup_range (n := n)).filter _
  refine List.Perm.eq_singleton ?_ |>.symm ▸ rfl
  exact (List.perm_ext_iff_of_nodup h1 (by simp)).mpr fun a => by
    rw [List.mem_filter, List.mem_range, List.mem_singleton]
    constructor
    · intro ⟨a1, a2⟩; exact (hf a a1).mp a2
    · intro e; subst e; exact ⟨h, (hf a h).mpr rfl⟩
theorem set_differs {l : List (Option Int)} {p : Nat} {x v : Option Int} (hp : l[p]? = some x) (hx : x ≠ v) (k : Nat) : l[k]? ≠ (l.set p v)[k]? ↔ k = p := by
  have hl := (List.getElem?_eq_some_iff.mp hp).1
  rw [List.getElem?_set]
  by_cases e : p = k
  · subst e
    rw [if_pos rfl, if_pos hl, hp]
    constructor
    · intro _; rfl
    · intro _ q; exact hx (Option.some.inj q)
  · rw [if_neg e]
    constructor
    · intro q; exact absurd rfl q
    · intro q; exact absurd q.symm e
theorem sorted_eq {l m : List Int} (h : l.Perm m) (h1 : l.Pairwise (· ≤ ·)) (h2 : m.Pairwise (· ≤ ·)) : l = m :=
  List.Perm.eq_of_pairwise (fun a b _ _ h1 h2 => Int.le_antisymm h1 h2) h1 h2 h
end LR

/-! a schedule that follows a pattern -/
namespace LS
open LQ
inductive Fol (tk : List Int) : Pat → List LR.Op → List Int → Prop
  | nil : Fol tk [] [] []
  | take {l : Pat} {ops : List LR.Op} {out : List Int} {x : Int} : Fol tk l ops out → tk[tks l]? = some x → Fol tk (l ++ [true]) (ops ++ [(true, x)]) (out ++ [x])
  | ret {l : Pat} {ops : List LR.Op} {out : List Int} {k : Nat} {b : Int} : Fol tk l ops out → out[k]? = some b → Fol tk (l ++ [false]) (ops ++ [(false, b)]) (out.eraseIdx k)
/-- the greatest number of books out -/
def mostOf (l : Pat) : Int × Int := l.foldl (fun s b => if b = true then (s.1 + 1, LR.mx s.2 (s.1 + 1)) else (s.1 - 1, LR.mx s.2 (s.1 - 1))) (0, 0)
theorem most_snoc (l : Pat) (b : Bool) : mostOf (l ++ [b]) = if b = true then ((mostOf l).1 + 1, LR.mx (mostOf l).2 ((mostOf l).1 + 1)) else ((mostOf l).1 - 1, LR.mx (mostOf l).2 ((mostOf l).1 - 1)) := by
  unfold mostOf; rw [List.foldl_append]; rfl
structure At (n : Nat) (tk : List Int) (l : Pat) (out : List Int) (s : LR.Sim) (bs : List Int) : Prop where
  out_ : s.out = out
  fil : s.filled = (run tk l).fills
  len : s.books.length = n
  own : ∀ p : Nat, p < n → (p : Int) ∉ tk.take (tks l) → s.books[p]? = some (some (p : Int))
  gp : ∀ p : Nat, p < n → (s.books[p]? = some none ↔ (p : Int) ∈ (run tk l).gaps)
  most : s.most = (mostOf l).2
  cnt : (mostOf l).1 = (out.length : Int)
  bl : bs.length = fls l
  bk : ∀ (j : Nat) (f b : Int), (run tk l).fills[j]? = some f → bs[j]? = some b → s.books[f.toNat]? = some (some b)
  pm : (bs ++ out).Perm (tk.take (tks l))
  due : ∀ (j : Nat) (b : Int) (t : Nat), bs[j]? = some b → (times l)[j]? = some t → b ∈ tk.take t
theorem erase_at {l : List Int} (nd : l.Nodup) {k : Nat} {b : Int} (h : l[k]? = some b) : l.erase b = l.eraseIdx k := by
  rw [List.erase_eq_eraseIdx_of_idxOf (ix_at nd h)]
theorem perm_er {l : List Int} {k : Nat} {b : Int} (h : l[k]? = some b) : (b :: l.eraseIdx k).Perm l := by
  obtain ⟨hk, e⟩ := List.getElem?_eq_some_iff.mp h
  rw [List.eraseIdx_eq_take_drop_succ]
  have e2 : l = l.take k ++ b :: l.drop (k + 1) := by
    conv => lhs; rw [← List.take_append_drop k l]
    rw [List.drop_eq_getElem_cons hk, e]
  conv => rhs; rw [e2]
  exact List.perm_middle.symm
theorem gaps_ok {tk : List Int} {l : Pat} (h : Pre l) (hl : tks l ≤ tk.length) : (run tk l).at_ = tks l ∧ (run tk l).fills.length = fls l ∧ ((run tk l).gaps ++ (run tk l).fills).Perm (tk.take (tks l)) := by
  have := run_ok h hl l.length (Nat.le_refl _)
  rwa [List.take_length] at this
theorem fol_run {n : Nat} {tk : List Int} (p : tk.Perm (LR.rangeI n)) : ∀ {l : Pat} {ops : List LR.Op} {out : List Int}, Fol tk l ops out → Pre l → tks l ≤ n → ops.length = l.length ∧ ∃ (s : LR.Sim) (bs : List Int), LR.run (LR.simInit n) ops = some s ∧ At n tk l out s bs := by
  have nd : tk.Nodup := p.nodup_iff.mpr (LR.rangeI_nodup n)
  have tl : tk.length = n := by rw [p.length_eq, LR.rangeI_length]
  have rg : ∀ {x : Int}, x ∈ tk → 0 ≤ x ∧ x < n := fun hx => LR.mem_rangeI.mp (p.subset hx)
  intro l ops out f
  induction f with
  | nil =>
    intro _ _
    refine ⟨rfl, LR.simInit n, [], rfl, ⟨rfl, rfl, ?_, ?_, ?_, rfl, rfl, rfl, fun j f b h => by simp [run_nil] at h, List.Perm.refl _, fun j b t h => by simp at h⟩⟩
    · show ((LR.rangeI n).map some).length = n
      rw [List.length_map, LR.rangeI_length]
    · intro q hq _
      show ((LR.rangeI n).map some)[q]? = _
      rw [List.getElem?_map, LR.rangeI_get hq]; rfl
    · intro q hq
      show ((LR.rangeI n).map some)[q]? = some none ↔ _ ∈ ([] : List Int)
      rw [List.getElem?_map, LR.rangeI_get hq]
      constructor
      · intro h; cases h
      · intro h; cases h
  | @take l ops out x f hx ih =>
    intro hp ht
    have hp0 : Pre l := fun i => by
      by_cases c : i ≤ l.length
      · have := hp i
        rwa [List.take_append_of_le_length c] at this
      · have := hp l.length
        rw [List.take_append_of_le_length (Nat.le_refl _)] at this
        rw [List.take_length] at this
        rw [List.take_of_length_le (by omega)]; exact this
    rw [tks_t] at ht
    obtain ⟨e1, s, bs, hr, a⟩ := ih hp0 (by omega)
    have mx : x ∈ tk := List.mem_of_getElem? hx
    obtain ⟨x0, x1⟩ := rg mx
    have nx : x ∉ tk.take (tks l) := not_take nd hx (Nat.le_refl _)
    have ex : ((x.toNat : Nat) : Int) = x := by omega
    have hb := a.own x.toNat (by omega) (by rw [ex]; exact nx)
    rw [ex] at hb
    obtain ⟨g1, g2, g3⟩ := gaps_ok hp0 (show tks l ≤ tk.length by omega)
    have r1 : run tk (l ++ [true]) = ⟨(run tk l).at_ + 1, (run tk l).gaps ++ [x], (run tk l).fills⟩ := by
      rw [run_snoc]
      show (⟨_, _ ++ (tk[(run tk l).at_]?).toList, _⟩ : Sh) = _
      rw [g1, hx]; rfl
    have tt : tk.take (tks l + 1) = tk.take (tks l) ++ [x] := take_snoc hx
    have st := LR.stp_take_of x0 hb
    refine ⟨by rw [List.length_append, List.length_append, e1]; rfl, _, bs, LR.run_snoc hr st, ⟨?_, ?_, ?_, ?_, ?_, ?_, ?_, ?_, ?_, ?_, ?_⟩⟩
    · show s.out ++ [x] = _
      rw [a.out_]
    · rw [r1]; exact a.fil
    · show (s.books.set x.toNat none).length = n
      rw [List.length_set]; exact a.len
    · intro q hq hn
      rw [tks_t, tt, List.mem_append] at hn
      have h1 : (q : Int) ∉ tk.take (tks l) := fun z => hn (.inl z)
      have h2 : x.toNat ≠ q := fun z => hn (.inr (List.mem_singleton.mpr (by omega)))
      show (s.books.set x.toNat none)[q]? = _
      rw [List.getElem?_set_ne h2]
      exact a.own q hq h1
    · intro q hq
      rw [r1]
      show (s.books.set x.toNat none)[q]? = some none ↔ (q : Int) ∈ (run tk l).gaps ++ [x]
      rw [List.mem_append, List.mem_singleton]
      by_cases c : x.toNat = q
      · subst c
        rw [List.getElem?_set_self (by rw [a.len]; omega)]
        exact ⟨fun _ => .inr ex, fun _ => rfl⟩
      · rw [List.getElem?_set_ne c, a.gp q hq]
        exact ⟨.inl, fun z => z.elim id fun w => absurd (by omega) c⟩
    · show LR.mx s.most ((s.out ++ [x]).length : Nat) = _
      rw [most_snoc, if_pos rfl]
      show _ = LR.mx (mostOf l).2 ((mostOf l).1 + 1)
      rw [a.most, a.cnt, a.out_, List.length_append]
      rfl
    · rw [most_snoc, if_pos rfl]
      show (mostOf l).1 + 1 = _
      rw [a.cnt, List.length_append]; rfl
    · rw [fls_t]; exact a.bl
    · intro j f b hf hbj
      rw [r1] at hf
      have h1 := a.bk j f b hf hbj
      have mf : f ∈ tk.take (tks l) := g3.subset (List.mem_append_right _ (List.mem_of_getElem? hf))
      obtain ⟨f0, f1⟩ := rg (List.mem_of_mem_take mf)
      have h2 : x.toNat ≠ f.toNat := fun z => nx (by
        have : x = f := by omega
        rw [this]; exact mf)
      show (s.books.set x.toNat none)[f.toNat]? = _
      rw [List.getElem?_set_ne h2]; exact h1
    · rw [tks_t, tt, ← List.append_assoc]
      exact a.pm.append_right _
    · rw [times_t]; exact a.due
  | @ret l ops out k b f hk ih =>
    intro hp ht
    have hp0 : Pre l := fun i => by
      by_cases c : i ≤ l.length
      · have := hp i
        rwa [List.take_append_of_le_length c] at this
      · have := hp l.length
        rw [List.take_append_of_le_length (Nat.le_refl _)] at this
        rw [List.take_length] at this
        rw [List.take_of_length_le (by omega)]; exact this
    rw [tks_f] at ht
    obtain ⟨e1, s, bs, hr, a⟩ := ih hp0 ht
    obtain ⟨g1, g2, g3⟩ := gaps_ok hp0 (show tks l ≤ tk.length by omega)
    have mb : b ∈ out := List.mem_of_getElem? hk
    have ndt : (tk.take (tks l)).Nodup := nd.sublist (List.take_sublist _ _)
    have ndg : ((run tk l).gaps ++ (run tk l).fills).Nodup := g3.nodup_iff.mpr ndt
    have ndo : (bs ++ out).Nodup := a.pm.nodup_iff.mpr ndt
    rw [List.nodup_append] at ndg ndo
    have hl1 := g3.length_eq
    have hl2 := a.pm.length_eq
    rw [List.length_append, List.length_take, g2] at hl1
    rw [List.length_append, List.length_take, a.bl] at hl2
    have ko := (List.getElem?_eq_some_iff.mp hk).1
    have hne : (run tk l).gaps ≠ [] := fun e => by rw [e] at hl1; simp at hl1; omega
    obtain ⟨m1, m2⟩ := mn_ok hne
    have mt : mn (run tk l).gaps ∈ tk := List.mem_of_mem_take (g3.subset (List.mem_append_left _ m1))
    obtain ⟨q0, q1⟩ := rg mt
    have eq0 : (((mn (run tk l).gaps).toNat : Nat) : Int) = mn (run tk l).gaps := by omega
    have hgn : s.books[(mn (run tk l).gaps).toNat]? = some none := (a.gp _ (by omega)).mpr (by rw [eq0]; exact m1)
    have hnone : none ∈ s.books := List.mem_of_getElem? hgn
    have hgap : LR.gap s.books = (mn (run tk l).gaps).toNat := by
      apply Nat.le_antisymm (LR.gap_least hgn)
      have h1 := LR.gap_get hnone
      have h2 := LR.gap_lt hnone
      rw [a.len] at h2
      have h3 := (a.gp _ h2).mp h1
      have := m2 _ h3
      omega
    have hbo : b ∈ s.out := by rw [a.out_]; exact mb
    have st := LR.stp_ret_of hbo
    rw [hgap, eq0] at st
    have r1 : run tk (l ++ [false]) = ⟨(run tk l).at_, (run tk l).gaps.erase (mn (run tk l).gaps), (run tk l).fills ++ [mn (run tk l).gaps]⟩ := by rw [run_snoc]; rfl
    have eer : out.erase b = out.eraseIdx k := erase_at ndo.2.1 hk
    generalize hm : mn (run tk l).gaps = m at *
    refine ⟨by rw [List.length_append, List.length_append, e1]; rfl, _, bs ++ [b], LR.run_snoc hr st, ⟨?_, ?_, ?_, ?_, ?_, ?_, ?_, ?_, ?_, ?_, ?_⟩⟩
    · show s.out.erase b = _
      rw [a.out_, eer]
    · show s.filled ++ [m] = _
      rw [r1, a.fil]
    · show (s.books.set m.toNat (some b)).length = n
      rw [List.length_set]; exact a.len
    · intro q hq hn
      rw [tks_f] at hn
      have h2 : m.toNat ≠ q := fun z => hn (by
        have : (q : Int) = m := by omega
        rw [this]; exact g3.subset (List.mem_append_left _ m1))
      show (s.books.set m.toNat (some b))[q]? = _
      rw [List.getElem?_set_ne h2]
      exact a.own q hq hn
    · intro q hq
      rw [r1]
      show (s.books.set m.toNat (some b))[q]? = some none ↔ (q : Int) ∈ (run tk l).gaps.erase m
      rw [ndg.1.mem_erase_iff]
      by_cases c : m.toNat = q
      · subst c
        rw [List.getElem?_set_self (by rw [a.len]; omega)]
        exact ⟨fun z => (by cases z), fun z => absurd eq0 z.1⟩
      · rw [List.getElem?_set_ne c, a.gp q hq]
        exact ⟨fun z => ⟨fun w => c (by omega), z⟩, fun z => z.2⟩
    · show LR.mx s.most ((s.out.erase b).length : Nat) = _
      rw [most_snoc, if_neg (by decide)]
      show _ = LR.mx (mostOf l).2 ((mostOf l).1 - 1)
      rw [a.most, a.cnt, a.out_, eer, List.length_eraseIdx_of_lt ko]
      congr 1
      omega
    · rw [most_snoc, if_neg (by decide)]
      show (mostOf l).1 - 1 = _
      rw [a.cnt, List.length_eraseIdx_of_lt ko]
      omega
    · rw [fls_f, List.length_append, a.bl]; rfl
    · intro j f c hf hbj
      rw [r1] at hf
      replace hf : ((run tk l).fills ++ [m])[j]? = some f := hf
      show (s.books.set m.toNat (some b))[f.toNat]? = _
      by_cases cj : j < bs.length
      · rw [List.getElem?_append_left cj] at hbj
        rw [List.getElem?_append_left (by rw [g2, ← a.bl]; exact cj)] at hf
        have mf := List.mem_of_getElem? hf
        obtain ⟨f0, f1⟩ := rg (List.mem_of_mem_take (g3.subset (List.mem_append_right _ mf)))
        have h2 : m.toNat ≠ f.toNat := fun z => ndg.2.2 m m1 f mf (by omega)
        rw [List.getElem?_set_ne h2]
        exact a.bk j f c hf hbj
      · rw [List.getElem?_append_right (by omega)] at hbj
        rw [List.getElem?_append_right (by rw [g2, ← a.bl]; omega), g2, ← a.bl] at hf
        cases z : j - bs.length with
        | zero =>
          rw [z] at hbj hf
          cases hbj; cases hf
          rw [List.getElem?_set_self (by rw [a.len]; omega)]
        | succ m => rw [z] at hbj; simp at hbj
    · rw [tks_f, List.append_assoc]
      refine List.Perm.trans ?_ a.pm
      exact (perm_er hk).append_left bs
    · intro j c t hbj htj
      rw [times_f] at htj
      by_cases cj : j < bs.length
      · rw [List.getElem?_append_left cj] at hbj
        rw [List.getElem?_append_left (by rw [times_len, ← a.bl]; exact cj)] at htj
        exact a.due j c t hbj htj
      · rw [List.getElem?_append_right (by omega)] at hbj
        rw [List.getElem?_append_right (by rw [times_len, ← a.bl]; omega), times_len, ← a.bl] at htj
        cases z : j - bs.length with
        | zero =>
          rw [z] at hbj htj
          cases hbj; cases htj
          exact a.pm.subset (List.mem_append_right _ mb)
        | succ m => rw [z] at hbj; simp at hbj
theorem all_some : ∀ {l : List (Option Int)}, none ∉ l → l = (l.filterMap id).map some
  | [], _ => rfl
  | none :: r, h => absurd List.mem_cons_self h
  | some a :: r, h => by
    have ih := all_some (l := r) fun q => h (List.mem_cons_of_mem _ q)
    show some a :: r = some a :: ((r.filterMap id).map some)
    rw [← ih]
theorem fol_end {n : Nat} {tk : List Int} {l : Pat} {ops : List LR.Op} {out : List Int} (p : tk.Perm (LR.rangeI n)) (f : Fol tk l ops out) (g : Good l) (ht : tks l = n) :
    ops.length = 2 * n ∧ out = [] ∧ ∃ (s : LR.Sim) (bs ns : List Int), LR.run (LR.simInit n) ops = some s ∧ s.out = [] ∧ s.filled = fillsOf tk l ∧ s.most = (mostOf l).2 ∧ s.books = ns.map some ∧ ns.Perm (LR.rangeI n) ∧ bs.Perm tk ∧
      (∀ (j : Nat) (f b : Int), (fillsOf tk l)[j]? = some f → bs[j]? = some b → ns[f.toNat]? = some b) ∧ dueP tk (times l) bs = true := by
  obtain ⟨e1, s, bs, hr, a⟩ := fol_run p f g.1 (Nat.le_of_eq ht)
  have tl : tk.length = n := by rw [p.length_eq, LR.rangeI_length]
  have hl := a.pm.length_eq
  rw [List.length_append, List.length_take, a.bl, g.2, ht, tl, Nat.min_self] at hl
  have eo : out = [] := List.length_eq_zero_iff.mp (by omega)
  have lp := len_pat l
  have pm := a.pm
  rw [eo, List.append_nil, ht, ← tl, List.take_length] at pm
  have gd := LR.good_run (LR.good_init n) hr
  have so : s.out = [] := by rw [a.out_, eo]
  have gp := gd.perm
  rw [so, List.append_nil] at gp
  have hg := gaps_ok g.1 (show tks l ≤ tk.length by omega)
  have hgl := hg.2.2.length_eq
  rw [List.length_append, hg.2.1, g.2, List.length_take, ht, tl, Nat.min_self] at hgl
  have eg : (run tk l).gaps = [] := List.length_eq_zero_iff.mp (by omega)
  have nn : none ∉ s.books := fun q => by
    obtain ⟨j, e⟩ := List.mem_iff_getElem?.mp q
    have hj := (List.getElem?_eq_some_iff.mp e).1
    rw [a.len] at hj
    have := (a.gp j hj).mp e
    rw [eg] at this; cases this
  have ab := all_some nn
  refine ⟨by rw [e1, lp, g.2, ht]; omega, eo, s, bs, s.books.filterMap id, hr, so, a.fil, a.most, ab, gp, pm, fun j f b h1 h2 => ?_, ?_⟩
  · have h3 := a.bk j f b h1 h2
    rw [ab, List.getElem?_map] at h3
    cases q : (s.books.filterMap id)[f.toNat]? with
    | none => rw [q] at h3; cases h3
    | some x => rw [q] at h3; cases h3; rfl
  · unfold dueP
    rw [List.all_eq_true]
    intro x hx
    obtain ⟨j, e⟩ := List.mem_iff_getElem?.mp hx
    obtain ⟨h1, h2⟩ := List.getElem?_zip_eq_some.mp e
    exact decide_eq_true (a.due j _ _ h1 h2)
end LS

/-! defs that may be run only where no repr is under way: the promise FnG beside FnOk; repr of data -/
namespace LG
open PySem PySem.Spec PyProof.Rows L2
structure FnG (P : Program) (w : World) (K : PySem.W.Frag) (mg : Str → Option Value) (base : Heap) (CX : CXT) (k : Nat) (f : Addr) (fd : FuncData) (ps : List Str) (sp : Sp) : Prop where
  arity : ∀ vs H Q E, sp vs H Q E → vs.length = ps.length
  does : ∀ (A : Around) (out : List Env) (s : Shared) (H : Hp) (ar : Args) (us : List Value) (vs : List V) (Q : VK) (E : XK), A.guards = some [] →
    Room k A → Env0 P w K mg base A out s H → BindsTo s fd ar (ps.zip us) → Vals vs us → sp vs H Q E → codeAny (model P w) A (.call (.ref f) ar) (CR CX out P w H s Q E) s
section
variable {P : Program} {w : World} {K : PySem.W.Frag} {mg : Str → Option Value} {base : Heap} {CX : CXT}
theorem FnG.up {j k : Nat} {f : Addr} {fd : FuncData} {ps : List Str} {sp : Sp} (F : FnG P w K mg base CX j f fd ps sp) (h : j ≤ k) : FnG P w K mg base CX k f fd ps sp :=
  ⟨F.arity, fun A out s H ar us vs Q E hg hr => F.does A out s H ar us vs Q E hg (hr.mono h)⟩
theorem fnG_of {k : Nat} {f : Addr} {name qual : Str} {params : Arguments} {body : List Stmt} {scope : Scope} {dV kV doc pm cdv ct oc : Value} {an od : Option Addr} {osl : Array (Option Value)} {N ps : List Str} {sp : Sp}
    (lk : K.lookup f = some ⟨oc, od, .func (PySem.W.fnOf name qual params body scope dV kV doc pm an cdv ct), osl⟩) (cd : PySem.W.codeIn K cdv qual = true) (S : FnScope N ps scope) (ar : ∀ vs H Q E, sp vs H Q E → vs.length = ps.length)
    (hb : ∀ (A : Around) (out : List Env) (s : Shared) (H : Hp) (vs : List V) (Q : VK) (E : XK), A.guards = some [] → Room k (A.deeper (envOfC qual scope s.heap.objs.size f cdv)) → sp vs H Q E →
      ∃ t, PSs (cxOf CX P w K mg base N qual scope f cdv A out s H E) body t ∧ t ⟨fun _ H1 => Q .non H1, Q, fun _ _ => False, fun _ _ => False⟩ (start N vs) H) :
    FnG P w K mg base CX (k + 1) f (PySem.W.fnOf name qual params body scope dV kV doc pm an cdv ct) ps sp := by
  constructor
  · exact ar
  intro A out s H args us vs Q E hgd hr e0 bnd rel want
  obtain ⟨t, der, wish⟩ := hb A out s H vs Q E hgd (hr.deeper _) want
  have old := fun b o (e : base.get? b = some o) => (e0.bs b o e).1
  have kin : K.In s.heap := e0.mod.kin.keeps old
  have slots : ∀ y ∈ ps.zip us, scope.names.lookup y.1 = some .local ∨ scope.names.lookup y.1 = some .cell ∧ ((cellsFrom (s.heap.objs.size + 1) scope.names []).lookup y.1).isSome = true := by
    rintro ⟨nm, v⟩ mem
    have z := S.par nm (List.of_mem_zip mem).1
    exact z.imp id fun c => ⟨c, PySem.W.cellsFrom_some _ _ _ (Or.inl c)⟩
  apply codeAny_call_function hr.depth (kin _ _ lk) rfl S.co S.gen rfl (PySem.W.codeRec_of kin cd)
  apply bnd
  apply wpAny_newFunctionEnv_cells S.kind slots
  rintro env rfl s1 inC
  refine ⟨(e0.mod.nolimit.keeps old).keeps inC.toInCall.keep, ?_⟩
  apply codeAny_func
  have J := inv_start (CX := CX) (E := E) S hr.hd e0 (ar _ _ _ _ want) rel inC
  apply wpAny_mono (der.run [] s1 (start N vs) H _ J wish)
  · intro fl s2 got
    cases fl with
    | next => obtain ⟨σ2, H2, J2, q⟩ := got; exact ⟨V.non, H2, J2.os, J2.bare, J2.base, J2.hok, rfl, q⟩
    | ret u => obtain ⟨v, σ2, H2, J2, rv, q⟩ := got; exact ⟨v, H2, J2.os, J2.bare, J2.base, J2.hok, rv, q⟩
    | brk => obtain ⟨_, _, _, q⟩ := got; exact q.elim
    | cont => obtain ⟨_, _, _, q⟩ := got; exact q.elim
  · exact fun _ _ z => z
/-- a def of the text by its body, where nothing is raised -/
theorem okG {x qual : Str} {st : Stmt} {f : Addr} {fd : FuncData} {N ps : List Str} {k : Nat} {sp : Sp} (F : Fun K x qual st f fd) (S : FnScope N ps (defScope st)) (ar : ∀ vs H Q E, sp vs H Q E → vs.length = ps.length)
    (hb : ∀ (cdv : Value) (A : Around) (out : List Env) (s : Shared) (H : Hp) (vs : List V) (Q : VK) (E : XK), A.guards = some [] → Room k (A.deeper (envOfC qual (defScope st) s.heap.objs.size f cdv)) → sp vs H Q E →
      ∃ t, PSs (cxOf CX0 P w K mg base N qual (defScope st) f cdv A out s H E).nox (defBody st) t ∧ t ⟨fun _ H1 => Q .non H1, Q, fun _ _ => False, fun _ _ => False⟩ (start N vs) H) : FnG P w K mg base CX0 (k + 1) f fd ps sp := by
  obtain ⟨oc, od, kV, doc, pm, an, cdv, ct, osl, rfl, lk, cd⟩ := F.ex
  refine fnG_of lk cd S ar fun A out s H vs Q E hgd hr want => ?_
  obtain ⟨t, der, wish⟩ := hb cdv A out s H vs Q E hgd hr want
  exact ⟨t, der.nox, wish⟩
theorem of_ok {k : Nat} {f : Addr} {fd : FuncData} {ps : List Str} {sp : Sp} (F : FnOk P w K mg base CX k f fd ps sp) : FnG P w K mg base CX k f fd ps sp :=
  ⟨F.len, fun A out s H ar us vs Q E _ hr => F.run A out s H ar us vs Q E hr⟩
end
section
variable {X : Cx} {CX : CXT} {k : Nat} {f : Addr} {fd : FuncData} {ps : List Str} {sp : Sp} {dvs : List V} {ds : List Value} {E : XK} {x : Str} {p pos : Pos} {e : Expr} {es : List Expr} {t : TA}
/-- f(e, ..), f such a def -/
theorem pe_callG (F : FnG X.prog X.w X.K X.mg X.base CX k f fd ps sp) (hgd : X.A.guards = some []) (hr : Room k X.A) (hg : Gl X x) (hm : X.mg x = some (.ref f)) (hk : PySem.W.keepIn X.K (.ref f) = true) (hb : Binds X.K fd ps ds) (hd : Vals dvs ds) (hx : Passes CX X E)
    (ha : PA X (e :: es) t) (hdb : (x == ("__debug__" : Str)) = false := by decide) (he : starEach (e :: es) X.env = (false, eval e X.env) :: starEach es X.env := by rfl) (hpl : (backTo pos (starEach es X.env)).any (·.1) = false := by rfl) :
    PE X (.Call (.Name x p) (e :: es) [] pos) (tCall sp dvs E t) := by
  constructor
  intro pins s σ H Q I want
  apply wpAny_Call_Name_kw (ld_glob I hg hm _ hdb)
  apply PySem.W.callWith_K (h₀ := X.base) I.ok.mod.kin hk (thn (ha.run pos pins s σ H _ I want) _) he hpl
  rintro us s1 ⟨vs, H1, J, rel, q⟩
  have rel2 : Vals (vs ++ dvs) (us ++ ds) := rel.append hd
  have len : (us ++ ds).length = ps.length := rel2.length.symm.trans (F.arity _ _ _ _ q)
  refine ⟨J.kIn, wpAny_call (codeAny_mono (F.does X.A X.stack s1 H1 ⟨us, []⟩ _ _ Q E hgd hr J.env0 (hb s1 us J.kIn len) rel2 q) ?_)⟩
  intro r s2 got
  match r, got with
  | .error err, got => exact hx pins σ H1 s1 err s2 J got
  | .ok (.ret u), got => exact J.after got
  | .ok .next, got => exact got.elim
  | .ok .brk, got => exact got.elim
  | .ok .cont, got => exact got.elim
/-- repr of a list or a tuple of data -/
def rRepr (K : PySem.W.Frag) : List V → Hp → VK → Prop := fun xs H Q => ∃ (a : Addr) (d : PyData), xs = [.ref a] ∧ Dp K H (.ref a) d ∧ d.showable = true ∧ SeqAt.shaped d = true ∧ d.shown.length ≤ sizeLine ∧ Q (.str d.shown) H
theorem call_repr (hgd : X.A.guards = some []) (hu : X.A.units + 66 < cLine) : CallR X (.builtin "repr") (rRepr X.K) := by
  rintro pins s σ H xs us Q I rel ⟨a, d, rfl, hd, sh, sp, len, q⟩
  obtain ⟨u, rfl, ru⟩ := vals1 rel
  obtain ⟨as, rd⟩ := Dp.reads I d (.ref a) u hd ru
  cases ru
  have dep := SeqAt.depth_of_shaped sp
  refine repr_of_reads' rd sh (PyData.noDict_hsm (PyData.hasDict_of_canLay d (SeqAt.canLay_of_shaped sp))) hgd (by omega) (fun _ _ z => z) (fun h1 u1 tk keep => ?_) len
  exact ⟨.str d.shown, H, I.kept keep, ⟨_, rfl⟩, q⟩
end
/-! the end of a law's row -/
theorem law_callG {P : Program} {w : World} {K : PySem.W.Frag} {mg mb : Str → Option Value} {k : Nat} {fa a : Addr} {fd : FuncData} {x : Str} {sp : Sp} {s : Shared} {vs : List Value} {ns : List Int}
    (kin : K.In s.heap) (gns : s.heap.Ns mainGlobals mg) (bns : s.heap.Ns builtinsNs mb) (hbb : ∀ x : Str, x ≠ "__name__" → mb x = bootBuiltins x) (lim : s.heap.NoLimit) (gens : s.gens = #[])
    (obj : s.heap.get? a = some { cls := .type "list", data := .seq vs.toArray }) (hin : IntsAre vs ns) (len : ns.length ≤ sizeLine) (hr : Room k callerA)
    (F : ∀ base : Heap, K.In base → base.Ns mainGlobals mg → FnG P w K mg base CX0 k fa fd [x] sp) (bnd : ∀ (s : Shared) (u : Value), BindsTo s fd ⟨[u], []⟩ [(x, u)])
    (want : ∀ H : Hp, Only H → SqL K H a (ns.map V.int) → sp [.ref a] H (fun v _ => v = .bl true) fun _ _ _ => False) :
    codeAny (model P w) callerA (.call (.ref fa) ⟨[.ref a], []⟩) (fun r s1 => r = .ok (.ret (.bool true)) ∧ OldK s.heap s1.heap ∧ s1.os = s.os ∧ AllBare s1.gens) s := by
  have rel := vals_ints hin
  have nlen := hin.length
  obtain ⟨H, hH⟩ : ∃ H : Hp, ∀ b, H b = if b = a ∧ K.lookup a = none then some (.frz { cls := .type "list", data := .seq vs.toArray } (.lst (ns.map V.int))) else none := ⟨_, fun b => rfl⟩
  have off : ∀ {b o}, s.heap.get? b = some o → (b = a → K.lookup a ≠ none) → H b = none := fun {b o} _ hne => by
    rw [hH, if_neg fun z => hne z.1 z.2]
  have at_ : ∀ b u, H b = some u → b = a ∧ K.lookup a = none ∧ u = .frz { cls := .type "list", data := .seq vs.toArray } (.lst (ns.map V.int)) := fun b u z => by
    rw [hH] at z
    by_cases c : b = a ∧ K.lookup a = none
    · rw [if_pos c] at z; exact ⟨c.1, c.2, (Option.some.inj z).symm⟩
    · rw [if_neg c] at z; cases z
  have only : Only H := fun b => by
    cases z : H b with
    | none => exact Or.inl rfl
    | some u => obtain ⟨_, _, rfl⟩ := at_ b u z; exact Or.inr ⟨_, _, rfl⟩
  have seq : SqL K H a (ns.map V.int) := by
    cases z : K.lookup a with
    | none => exact Or.inl (Or.inr ⟨_, by rw [hH, if_pos ⟨rfl, z⟩]⟩)
    | some o =>
      have e := kin a o z
      rw [obj] at e
      cases e
      exact Or.inr ⟨_, vs.toArray, _, z, rfl, rfl, rfl, by rw [List.size_toArray, nlen]; exact len, by simpa using rel⟩
  have hok : HOk P w H s.heap := fun b u z => by
    obtain ⟨rfl, _, rfl⟩ := at_ b u z
    exact ⟨obj, by rw [List.length_map]; exact len, vs, _, rel, obj⟩
  have kept : ∀ {b o}, s.heap.get? b = some o → H b = none → (hidT s.heap H).get? b = some o := fun e z => hidT_get e z
  have dicts : ∀ {b o es n}, s.heap.get? b = some o → o.data = .dict es n → H b = none := fun {b o es n} e d => off e fun q => by
    rw [q, obj] at e
    cases e
    have d2 : Data.seq vs.toArray _ = Data.dict es n := d
    cases d2
  have names : ∀ {b m}, s.heap.Ns b m → (hidT s.heap H).Ns b m := fun ⟨o, es, n, e, d, r⟩ => ⟨o, es, n, kept e (dicts e d), d, r⟩
  have kin2 : K.In (hidT s.heap H) := fun b o e => kept (kin b o e) (off (kin b o e) fun q => by rw [← q, e]; exact fun z => nomatch z)
  have lim2 : (hidT s.heap H).NoLimit := let ⟨mc, l1, l2⟩ := lim; ⟨mc, names l1, l2⟩
  have e0 : Env0 P w K mg (hidT s.heap H) callerA [] s H := ⟨rfl, ⟨kin2, names gns, ⟨mb, names bns, hbb⟩, lim2⟩, fun b o e => of_hidT e, Nat.le_of_eq (hidT_size _ _), trivial, fun b m => (by cases (show b ∈ ([] : List Addr) from m)), hok, .of_eq gens⟩
  refine codeAny_mono ((F _ kin2 (names gns)).does callerA [] s H ⟨[.ref a], []⟩ [.ref a] [.ref a] _ _ rfl hr e0 (bnd s (.ref a)) (.cons rfl .nil) (want H only seq)) ?_
  intro r s1 got
  match r, got with
  | .error _, got => exact got.elim
  | .ok .next, got => exact got.elim
  | .ok .brk, got => exact got.elim
  | .ok .cont, got => exact got.elim
  | .ok (.ret u), got =>
    obtain ⟨v, H1, os, bare, un, hok1, ru, q⟩ := got
    cases (show v = .bl true from q)
    cases (show u = Value.bool true from ru)
    refine ⟨rfl, OldK.of_keep fun b o e => ?_, os, bare⟩
    cases z : H b with
    | none => exact un.keep b o e z (by intro y; cases (show b ∈ ([] : List Addr) from y)) (by simp)
    | some u =>
      obtain ⟨rfl, _, rfl⟩ := at_ b u z
      have y := un.frzs b _ _ z
      rw [obj] at e
      cases e
      exact (hok1 b _ y).1
theorem walk_ofG {l : PySem.W.OpenLaw} {n k : Nat} {q : Program} {loose : List Str} {XP : (Str → Option Value) → Heap → Prop} {YP : World → Heap → Prop} {d : DefRec} {K : Params → PySem.W.Frag} {sp : PySem.W.Frag → Sp} {x : Str}
    (hn : l.most = some n) (hn2 : n ≤ sizeLine) (hdf : d.params.defaults = []) (hr : Room k callerA) (hY : ∀ (w : World) (h : Heap), YP w h → (K w.params).In h)
    (F : ∀ (w : World) (mg : Str → Option Value) (fa : Addr) (h : Heap), (K w.params).In h → h.Ns mainGlobals mg → mg d.name = some (.ref fa) →
      ∃ fd : FuncData, (∀ (s : Shared) (u : Value), BindsTo s fd ⟨[u], []⟩ [(x, u)]) ∧ ∀ base : Heap, (K w.params).In base → base.Ns mainGlobals mg → FnG l.prog w (K w.params) mg base CX0 k fa fd [x] (sp (K w.params)))
    (want : ∀ (K : PySem.W.Frag) (H : Hp) (a : Addr) (ns : List Int), ns.length ≤ n → Only H → SqL K H a (ns.map V.int) → sp K [.ref a] H (fun v _ => v = .bl true) fun _ _ _ => False) :
    PySem.W.WalkO q loose XP YP l.row.toRowW d [] (fun f vs => PySem.call f vs) := by
  apply Att.attach_call hn hdf
  intro w s0 s1 mg mb fa o pm cd doc a vs ns G Y ho hd hcd hmg obj hin len gens
  have kin := hY w _ Y
  obtain ⟨fd, bnd, does⟩ := F w mg fa _ kin G.T.g hmg
  exact law_callG kin G.T.g G.T.b G.T.builtins G.T.nolimit gens obj hin (Nat.le_trans len hn2) hr does bnd fun H o q => want _ H a ns len o q
end LG

namespace LT
open PySem PySem.Spec PyProof.Rows L2
open Sem (wp)
open AutoSeq1 (wpAny_loadPart')
theorem meets_enum_tup (l : Addr) (items : Array Value) (n : Nat) (dct : Option Addr) (sl : Array (Option Value)) :
    Meets (Builtin.«enumerate.__new__» ⟨[.type "enumerate", .ref l], []⟩) (fun _ R s => s.heap.get? l = some { cls := .type "tuple", dict := dct, data := .seq items n, slots := sl } ∧
      R (.ok (.ret (.ref (s.heap.objs.size + 1))))
        { s with heap := (s.heap.push { cls := .type "tuple_iterator", data := .fields #[.ref l, .int 0 0] }).push { cls := .type "enumerate", data := .fields #[.none, .bool false, .ref s.heap.objs.size, rawInt 0, .none, .none] } }) :=
  .of_wp fun prog w A R s h => by
    obtain ⟨hp, g, d, tk, os⟩ := s
    obtain ⟨hl, h⟩ := h
    have sub := sub_enumerate
    have tup : Heap.IsTuple (Shared.heap ⟨hp, g, d, tk, os⟩) l items := ⟨_, hl, rfl, n, rfl⟩
    wp_walk using wpAny_loadPart' hl
    refine wpAny_stack_any fun st => wpAny_pure ?_
    have z : (hp.push { cls := .type "tuple_iterator", data := .fields #[.ref l, .int 0 0] }).objs.size = hp.objs.size + 1 := Heap.size_push ..
    split
    · rename_i c _ _ _ _ _
      cases (c == Value.type "enumerate")
      · wp_walk using wpAny_loadPart' hl, wpAny_pyIter_tuple tup
        exact ⟨_, rfl, by rw [z]; exact h⟩
      · wp_walk using wpAny_loadPart' hl, wpAny_pyIter_tuple tup
        exact ⟨_, rfl, by rw [z]; exact h⟩
    · wp_walk using wpAny_loadPart' hl, wpAny_pyIter_tuple tup
      exact ⟨_, rfl, by rw [z]; exact h⟩
section
variable {prog : Program} {w : World} {A : Around} {E : Value → Shared → Prop} {s : Shared}
theorem call_enum_tup {l : Addr} {items : Array Value} {Q : Value → Shared → Prop} (hl : s.heap.IsTuple l items)
    (h : ∀ h', IsEnum h' (s.heap.objs.size + 1) s.heap.objs.size 0 .none → h'.IsTupleIter s.heap.objs.size l 0 →
      (∀ b o, s.heap.get? b = some o → h'.get? b = some o) → Q (.ref (s.heap.objs.size + 1)) { s with heap := h' }) :
    wpAny (model prog w) A (call (.type "enumerate") [.ref l]) Q E s := by
  obtain ⟨⟨c, dct, dt, sl⟩, get, hc, n, hd⟩ := hl
  cases (show c = .type "tuple" from hc)
  cases (show dt = .seq items n from hd)
  refine callType_new F.called_enumerate (by decide) (F.typeCall_enumerate_1 _) (F.newCall_enumerate_1 _) (fun obj => F.args_object_init_2 obj _) F.entry_enumerate_new (meets_enum_tup l items n dct sl) ⟨get, ?_⟩
  have z : (s.heap.push { cls := .type "tuple_iterator", data := .fields #[.ref l, .int 0 0] }).objs.size = s.heap.objs.size + 1 := Heap.size_push ..
  have he := Heap.get?_push_size (s.heap.push { cls := .type "tuple_iterator", data := .fields #[.ref l, .int 0 0] }) (o := { cls := .type "enumerate", data := .fields #[.none, .bool false, .ref s.heap.objs.size, rawInt 0, .none, .none] }) rfl
  rw [z] at he
  exact ⟨⟨_, he, rfl⟩, h _ he ⟨_, Heap.get?_push_of_some _ (Heap.get?_push_size _ rfl), rfl, rfl⟩ fun b o x => Heap.get?_push_of_some _ (Heap.get?_push_of_some _ x)⟩
end
/-- the tuple at a, each item in a new pair with its place -/
def IteT (K : PySem.W.Frag) (a : Addr) : It :=
  ⟨fun i H => ∃ (xs : List V) (x : V), SqT K H a xs ∧ xs[i]? = some x, fun i H v H' => ∃ T x, v = .ref T ∧ H T = none ∧ H' = upd H T (.tup [.int (i : Nat), x]) ∧ ∀ xs, SqT K H a xs → xs[i]? = some x, fun i H => ∃ xs : List V, SqT K H a xs ∧ xs.length = i⟩
theorem apart_it {h : Heap} {it a : Addr} {i : Nat} {items : Array Value} (x : h.IsTupleIter it a i) (p : h.IsTuple a items) : a ≠ it := by
  rintro rfl
  obtain ⟨o, g, c, _⟩ := x
  obtain ⟨o2, g2, c2, _⟩ := p
  rw [g] at g2
  cases g2
  rw [c] at c2
  exact absurd c2 (by decide)
theorem turn_enumT {P : Program} {w : World} {K : PySem.W.Frag} {elts : List Expr} {kk : Nat} {tpos : Pos} (a e it : Addr) :
    Turn P w K (.Tuple elts kk tpos) (IteT K a) [e, it] e (fun i h => (∃ old, IsEnum h e it ((i : Nat) : Int) old) ∧ h.IsTupleIter it a i ∧ e ≠ it) where
  mem := List.mem_cons_self
  obj := fun i h ⟨⟨old, he⟩, ⟨o, ho, _, hd⟩, _⟩ b hb => by
    rcases List.mem_cons.mp hb with rfl | hb
    · exact ⟨_, he, fun v q => by cases q⟩
    · rw [List.mem_singleton.mp hb]; exact ⟨o, ho, fun v q => by rw [hd] at q; cases q⟩
  keep := fun i h h' ⟨⟨old, he⟩, hi, ne⟩ k => ⟨⟨old, k e List.mem_cons_self _ he⟩, hi.at fun o q => k it (List.mem_cons_of_mem _ List.mem_cons_self) o q, ne⟩
  item := by
    intro X hP hw hK hc i pins s σ H E I hf ⟨⟨old, he⟩, hit, ne⟩ ⟨xs, x, hq, hx⟩
    subst hP hw hK
    obtain ⟨its, rv, p, hz⟩ := I.tuple hq
    have tup : s.heap.IsTuple a its.toArray := p
    obtain ⟨u, hu, ru⟩ := rv.get hx
    have hi : i < its.toArray.size := by
      have := (List.getElem?_eq_some_iff.mp hu).1
      simpa using this
    have nai := apart_it hit tup
    have nea : e ≠ a := by
      rintro rfl
      obtain ⟨o2, g2, c2, _⟩ := tup
      rw [show s.heap.get? e = _ from he] at g2
      cases g2
      have c3 : Value.type "enumerate" = Value.type "tuple" := c2
      exact absurd c3 (by decide)
    have lte : e < s.heap.objs.size := Heap.lt_size he
    have lti : it < s.heap.objs.size := let ⟨_, q, _⟩ := hit; Heap.lt_size q
    refine wpAny_pyNext_enum_itemD (Draws.tuple (A := X.A.in1) (show X.A.in1.handled = none from I.ok.hd hc) it a nai its.toArray) he ⟨hit, tup⟩ hi ne (by simp [ne, nea]) fun y h1 tk hy out st new sz kept => ?_
    have ey : y = u := by
      have q : its.toArray[i]? = some u := by simpa using hu
      rw [q] at hy; exact (Option.some.inj hy).symm
    subst ey
    refine ⟨_, rfl, wpAny_letOwnedTupleGo_enum (s := { s with heap := h1, toks := tk + 1 }) out fun h2 he2 sb => ?_⟩
    have new2 := (sb.2 _ (Nat.ne_of_gt lte)).trans new
    have ob : ObjOk X.prog X.w (upd H s.heap.objs.size (.tup [.int (i : Nat), x])) h2 s.heap.objs.size (.tup [.int (i : Nat), x]) :=
      ⟨by show 2 ≤ sizeLine; decide, [.int i tk, y], .cons ⟨_, rfl⟩ (.cons ru .nil), ⟨_, new2, rfl, _, rfl⟩⟩
    have J : Inv X pins σ (upd H s.heap.objs.size (.tup [.int (i : Nat), x])) { s with heap := h2, toks := tk + 1 } :=
      I.turnedNew (ch := [e, it]) (fun b o nb q => (sb.2 b fun z => nb (by simp [z])).trans (kept b o (fun z => nb (by simp [z])) (fun z => nb (by simp [z])) q)) hf (Nat.le_refl _) ob
    refine ⟨.ref s.heap.objs.size, _, J, rfl, ⟨_, x, rfl, I.hok.fresh (Nat.le_refl _), rfl, fun ys hy => by rw [I.tuple_inj hy hq]; exact hx⟩, ⟨⟨y, ?_⟩, st.1.at fun o q => (sb.2 it ne.symm).trans q, ne⟩, fun b hb => ?_⟩
    · rw [show ((i + 1 : Nat) : Int) = (i : Int) + 1 by omega]; exact he2
    · have lt : b < s.heap.objs.size := by
        rcases List.mem_cons.mp hb with rfl | hb
        · exact lte
        · rw [List.mem_singleton.mp hb]; exact lti
      rw [upd_ne (Nat.ne_of_lt lt)]
      exact (hf b hb).1
  done := by
    intro X hP hw hK hc i pins s σ H E I hf ⟨⟨old, he⟩, hit, ne⟩ ⟨xs, hq, hx⟩
    subst hP hw hK
    obtain ⟨its, rv, p, hz⟩ := I.tuple hq
    have tup : s.heap.IsTuple a its.toArray := p
    have nai := apart_it hit tup
    have hl := rv.length
    have ei : i = its.toArray.size := by rw [List.size_toArray, ← hl]; exact hx.symm
    subst ei
    obtain ⟨f0, f1, f2, f3, f4, f5⟩ := hf it (by simp)
    exact wpAny_pyNext_enum_endD (Draws.tuple (A := X.A.in1) (show X.A.in1.handled = none from I.ok.hd hc) it a nai its.toArray) he ⟨hit, tup⟩ fun h1 eb => ⟨rfl, I.turned (t' := s.toks) (fun b o nb q => eb b o nb q) f0 f1 f3 f4 f5⟩
  self := fun A i s Q E ⟨⟨_, he⟩, _⟩ h => wpAny_pyIter_enum he h
def iEnumT (K : PySem.W.Frag) (ta : TA) : TI := fun σ H R => ta σ H fun vs H1 => ∃ a xs, vs = [.ref a] ∧ SqT K H1 a xs ∧ R (IteT K a) H1
/-- enumerate(t), t a tuple -/
theorem pi_enumT {X : Cx} {e : Expr} {ta : TA} {p pos tpos : Pos} {elts : List Expr} {kk : Nat} (hg : Gl X "enumerate") (hm : X.mg "enumerate" = none) (ha : PA X [e] ta) (hs : starEach [e] X.env = [(false, eval e X.env)] := by rfl) :
    PI X (.Tuple elts kk tpos) (.Call (.Name "enumerate" p) [e] [] pos) (iEnumT X.K ta) := by
  constructor
  intro pins s σ H R I want
  refine Call_ (ld_blt I hg hm boot_enumerate (PyProof.Rows.callWith_type1 (thn (ha.run pos pins s σ H _ I want) ?_) hs rfl))
  rintro us s1 ⟨vs, H1, J, rel, a, xs, rfl, hq, q⟩
  obtain ⟨u, rfl, ru⟩ := vals1 rel
  cases ru
  obtain ⟨its, rv, p2, hz⟩ := J.tuple hq
  refine call_enum_tup p2 fun h1 he hit keep => wpAny_pyIter_enum he ?_
  have J2 : Inv X pins σ H1 { s1 with heap := h1 } := J.kept (t' := s1.toks) keep
  refine ⟨s1.heap.objs.size + 1, [s1.heap.objs.size + 1, s1.heap.objs.size], _, _, H1, rfl, J2, turn_enumT a _ _, ⟨⟨.none, he⟩, hit, Nat.succ_ne_self _⟩, fun b hb => ?_, q⟩
  have le : s1.heap.objs.size ≤ b := by
    rcases List.mem_cons.mp hb with rfl | hb
    · exact Nat.le_add_right _ _
    · rw [List.mem_singleton.mp hb]; exact Nat.le_refl _
  exact J.fpOk le (J.hok.fresh le)
theorem walk_enumT {K : PySem.W.Frag} {a : Addr} {xs : List V} : Walk (IteT K a) xs.length (fun H => SqT K H a xs) (YPair (fun i => some (.int (i : Nat))) (fun i => xs[i]?)) := by
  refine ⟨fun i _ hi q => ⟨xs, xs[i], q, by simp [hi]⟩, fun _ q => ⟨xs, q, rfl⟩, fun i H v H' _ q y => ?_⟩
  obtain ⟨T, x, h1, h2, h3, h4⟩ := y
  exact ⟨T, .int (i : Nat), x, h1, h2, h3, rfl, h4 xs q⟩
/-- two derivations of one expression: either reading serves -/
theorem PE.or {X : Cx} {e : Expr} {t u : TE} (h1 : PE X e t) (h2 : PE X e u) : PE X e (fun σ H Q => t σ H Q ∨ u σ H Q) :=
  ⟨fun pins s σ H Q I w => w.elim (h1.run pins s σ H Q I) (h2.run pins s σ H Q I)⟩
theorem PI.or {X : Cx} {tg e : Expr} {t u : TI} (h1 : PI X tg e t) (h2 : PI X tg e u) : PI X tg e (fun σ H R => t σ H R ∨ u σ H R) :=
  ⟨fun pins s σ H R I w => w.elim (h1.run pins s σ H R I) (h2.run pins s σ H R I)⟩
end LT

namespace LT
open PySem PySem.Spec PyProof.Rows L2
/-- zip of the tuple at a and the list at b, as many turns as both have -/
def ItzTL (K : PySem.W.Frag) (a b : Addr) : It :=
  ⟨fun i H => ∃ (xs ys : List V) (x y : V), SqT K H a xs ∧ SqL K H b ys ∧ xs[i]? = some x ∧ ys[i]? = some y,
    fun i H v H' => ∃ T x y, v = .ref T ∧ H T = none ∧ H' = upd H T (.tup [x, y]) ∧ (∀ xs, SqT K H a xs → xs[i]? = some x) ∧ ∀ ys, SqL K H b ys → ys[i]? = some y,
    fun i H => ∃ xs ys : List V, SqT K H a xs ∧ SqL K H b ys ∧ xs.length = i ∧ ys.length = i⟩
theorem sep_tl {z TI TO i1 i2 a b : Addr} (D : ZipApart z TI TO i1 i2 a b) : ZipSep2 z TI TO i1 i2 [i1, a] [i2, b] where
  TIz := D.TIz
  TOz := D.TOz
  TITO := D.TITO
  TIi1 := D.TIi1
  mem1 := List.mem_cons_self
  zf1 := by simp [D.i1z.symm, D.l1z.symm]
  Tf1 := by simp [D.TOi1, D.l1TO.symm]
  TIi2 := D.TIi2
  mem2 := List.mem_cons_self
  zf2 := by simp [D.i2z.symm, D.l2z.symm]
  Tf2 := by simp [D.TOi2, D.l2TO.symm]
  sep1_2 := by simp [D.i12, D.l2i1.symm]
  sep2_1 := by simp [D.i12.symm, D.l1i2.symm]
theorem turn_zipTL {P : Program} {w : World} {K : PySem.W.Frag} {elts : List Expr} {kk : Nat} {tpos : Pos} {a b z TI TO i1 i2 : Addr} (D : ZipApart z TI TO i1 i2 a b) :
    Turn P w K (.Tuple elts kk tpos) (ItzTL K a b) [z, TI, TO, i1, i2] z (fun i h => IsZip h z TI TO .none ∧ IsTupOf2 h TI (.ref i1) (.ref i2) ∧ (∃ x y, IsTupOf2 h TO x y) ∧ h.IsTupleIter i1 a i ∧ h.IsListIter i2 b i) where
  mem := List.mem_cons_self
  obj := fun i h ⟨hz, hTI, ⟨x, y, hTO⟩, ⟨o1, e1, _, d1⟩, ⟨o2, e2, _, d2⟩⟩ c hc => by
    simp only [List.mem_cons, List.not_mem_nil, or_false] at hc
    rcases hc with rfl | rfl | rfl | rfl | rfl
    · exact ⟨_, hz, fun v q => by cases q⟩
    · exact ⟨_, hTI, fun v q => by cases q⟩
    · exact ⟨_, hTO, fun v q => by cases q⟩
    · exact ⟨o1, e1, fun v q => by rw [d1] at q; cases q⟩
    · exact ⟨o2, e2, fun v q => by rw [d2] at q; cases q⟩
  keep := fun i h h' ⟨hz, hTI, ⟨x, y, hTO⟩, h1, h2⟩ k =>
    ⟨k z (by simp) _ hz, k TI (by simp) _ hTI, ⟨x, y, k TO (by simp) _ hTO⟩, h1.at fun o q => k i1 (by simp) o q, h2.at fun o q => k i2 (by simp) o q⟩
  item := by
    intro X hP hw hK hc i pins s σ H E I hf ⟨hz, hTI, ⟨x0, y0, hTO⟩, h1, h2⟩ ⟨xs, ys, x, y, qx, qy, hx, hy⟩
    subst hP hw hK
    obtain ⟨its, rv, p, _⟩ := I.tuple qx
    obtain ⟨its2, rv2, p2, _⟩ := I.list qy
    have tup : s.heap.IsTuple a its.toArray := p
    obtain ⟨u, hu, ru⟩ := rv.get hx
    obtain ⟨u2, hu2, ru2⟩ := rv2.get hy
    have li : i < its.toArray.size := by have := (List.getElem?_eq_some_iff.mp hu).1; simpa using this
    have li2 : i < its2.toArray.size := by have := (List.getElem?_eq_some_iff.mp hu2).1; simpa using this
    have hh : X.A.in1.handled = none := I.ok.hd hc
    have ltz : z < s.heap.objs.size := Heap.lt_size hz
    refine wpAny_pyNext_zipD2_item (sep_tl D) (Draws.tuple hh i1 a D.l1i1 its.toArray) (Draws.list hh i2 b D.l2i2 its2.toArray) hz hTI hTO ⟨h1, tup⟩ ⟨h2, p2.isList⟩ li li2 fun v1 v2 h3 tk y1 y2 z3 TO3 st1 st2 new sz kept => ?_
    have ev1 : v1 = u := by
      have q : its.toArray[i]? = some u := by simpa using hu
      rw [q] at y1; exact (Option.some.inj y1).symm
    have ev2 : v2 = u2 := by
      have q : its2.toArray[i]? = some u2 := by simpa using hu2
      rw [q] at y2; exact (Option.some.inj y2).symm
    subst ev1 ev2
    refine ⟨_, rfl, wpAny_letOwnedTupleGo_zip (s := { s with heap := h3, toks := tk }) z3 fun h4 z4 sb => ?_⟩
    have new4 := (sb.2 _ (Nat.ne_of_gt ltz)).trans new
    have ob : ObjOk X.prog X.w (upd H s.heap.objs.size (.tup [x, y])) h4 s.heap.objs.size (.tup [x, y]) :=
      ⟨by show 2 ≤ sizeLine; decide, [v1, v2], .cons ru (.cons ru2 .nil), ⟨_, new4, rfl, _, rfl⟩⟩
    have J : Inv X pins σ (upd H s.heap.objs.size (.tup [x, y])) { s with heap := h4, toks := tk } :=
      I.turnedNew (ch := [z, TI, TO, i1, i2]) (fun c o nb q => (sb.2 c fun e => nb (by simp [e])).trans (kept c o (fun e => nb (by simp [e])) (fun e => nb (by simp [e])) (fun e => nb (by simp [e])) (fun e => nb (by simp [e])) q)) hf (Nat.le_refl _) ob
    refine ⟨.ref s.heap.objs.size, _, J, rfl, ⟨_, x, y, rfl, I.hok.fresh (Nat.le_refl _), rfl, fun l hl => by rw [I.tuple_inj hl qx]; exact hx, fun l hl => by rw [I.list_inj hl qy]; exact hy⟩, ⟨z4, ?_, ⟨v1, v2, ?_⟩, ?_, ?_⟩, fun c hm => ?_⟩
    · exact (sb.2 _ D.TIz).trans (kept _ _ D.TIz D.TITO D.TIi1 D.TIi2 hTI)
    · exact (sb.2 _ D.TOz).trans TO3
    · exact st1.1.at fun o q => (sb.2 _ D.i1z).trans q
    · exact st2.1.at fun o q => (sb.2 _ D.i2z).trans q
    · have lt : c < s.heap.objs.size := by
        have hm2 := hm
        simp only [List.mem_cons, List.not_mem_nil, or_false] at hm2
        rcases hm2 with rfl | rfl | rfl | rfl | rfl
        · exact ltz
        · exact Heap.lt_size hTI
        · exact Heap.lt_size hTO
        · obtain ⟨_, e1, _⟩ := h1; exact Heap.lt_size e1
        · obtain ⟨_, e2, _⟩ := h2; exact Heap.lt_size e2
      rw [upd_ne (Nat.ne_of_lt lt)]
      exact (hf c hm).1
  done := by
    intro X hP hw hK hc i pins s σ H E I hf ⟨hz, hTI, ⟨x0, y0, hTO⟩, h1, h2⟩ ⟨xs, ys, qx, qy, e1, e2⟩
    subst hP hw hK
    obtain ⟨its, rv, p, _⟩ := I.tuple qx
    obtain ⟨its2, rv2, p2, _⟩ := I.list qy
    have tup : s.heap.IsTuple a its.toArray := p
    have n1 : i = its.toArray.size := by rw [List.size_toArray, ← rv.length]; exact e1.symm
    have n2 : i = its2.toArray.size := by rw [List.size_toArray, ← rv2.length]; exact e2.symm
    have hh : X.A.in1.handled = none := I.ok.hd hc
    exact wpAny_pyNext_zipD2_end (sep_tl D) (Draws.tuple hh i1 a D.l1i1 its.toArray) (Draws.list hh i2 b D.l2i2 its2.toArray) hz hTI hTO ⟨h1, tup⟩ ⟨h2, p2.isList⟩ (Nat.le_of_eq n1) (Nat.le_of_eq n2) (.inl n1) fun h3 tk kept =>
      ⟨rfl, I.turnedL (ch := [z, TI, TO, i1, i2]) (fun c o nb q => kept c o (fun e => nb (by simp [e])) (fun e => nb (by simp [e])) (fun e => nb (by simp [e])) (fun e => nb (by simp [e])) q) hf⟩
  self := fun A i s Q E st h => wpAny_pyIter_zip st.1 h
def iZipTL (K : PySem.W.Frag) (ta : TA) : TI := fun σ H R => ta σ H fun vs H1 => ∃ a b xs ys, vs = [.ref a, .ref b] ∧ SqT K H1 a xs ∧ SqL K H1 b ys ∧ R (ItzTL K a b) H1
theorem pi_zipTL {X : Cx} {e e2 : Expr} {ta : TA} {p pos tpos : Pos} {elts : List Expr} {kk : Nat} (hg : Gl X "zip") (hm : X.mg "zip" = none) (ha : PA X [e, e2] ta)
    (hs : starEach [e, e2] X.env = (false, eval e X.env) :: starEach [e2] X.env := by rfl) (hpl : (backTo pos (starEach [e2] X.env)).any (·.1) = false := by rfl) :
    PI X (.Tuple elts kk tpos) (.Call (.Name "zip" p) [e, e2] [] pos) (iZipTL X.K ta) := by
  constructor
  intro pins s σ H R I want
  refine Call_ (ld_blt I hg hm PyProof.Rows.boot_zip (PyProof.Rows.callWith_type1 (thn (ha.run pos pins s σ H _ I want) ?_) hs hpl))
  rintro us s1 ⟨vs, H1, J, rel, a, b, xs, ys, rfl, qx, qy, q⟩
  obtain ⟨u1, u2, rfl, r1, r2⟩ := vals2 rel
  cases r1
  cases r2
  obtain ⟨its, rv, p1, _⟩ := J.tuple qx
  obtain ⟨its2, rv2, p2, _⟩ := J.list qy
  have la : a < s1.heap.objs.size := let ⟨_, g, _⟩ := p1; Heap.lt_size g
  refine zip_begins2 (begins_tuple a its.toArray) (begins_list b its2.toArray) p1 p2.isList fun h' hz hTI hTO g1 g2 sz keep => wpAny_pyIter_zip hz ?_
  have J2 : Inv X pins σ H1 { s1 with heap := h' } := J.kept (t' := s1.toks) keep
  refine ⟨s1.heap.objs.size + 4, [s1.heap.objs.size + 4, s1.heap.objs.size + 2, s1.heap.objs.size + 3, s1.heap.objs.size, s1.heap.objs.size + 1], _, _, H1, rfl, J2, turn_zipTL (PySem.W.ktu_apart s1.heap.objs.size a b la p2.lt),
    ⟨hz, hTI, ⟨_, _, hTO⟩, ⟨_, g1, rfl, rfl⟩, ⟨_, g2, rfl, rfl⟩⟩, fun c hc => ?_, q⟩
  have le : s1.heap.objs.size ≤ c := by
    simp only [List.mem_cons, List.not_mem_nil, or_false] at hc
    rcases hc with rfl | rfl | rfl | rfl | rfl <;> first | exact Nat.le_add_right _ _ | exact Nat.le_refl _
  exact J.fpOk le (J.hok.fresh le)
theorem walk_zipTL {K : PySem.W.Frag} {a b : Addr} {xs ys : List V} (hl : xs.length = ys.length) : Walk (ItzTL K a b) xs.length (fun H => SqT K H a xs ∧ SqL K H b ys) (YPair (fun i => xs[i]?) (fun i => ys[i]?)) := by
  refine ⟨fun i _ hi q => ⟨xs, ys, xs[i], ys[i]'(by omega), q.1, q.2, by simp [hi], by simp [show i < ys.length by omega]⟩, fun _ q => ⟨xs, ys, q.1, q.2, rfl, hl.symm⟩, fun i H v H' _ q y => ?_⟩
  obtain ⟨T, x, y2, h1, h2, h3, h4, h5⟩ := y
  exact ⟨T, x, y2, h1, h2, h3, h4 xs q.1, h5 ys q.2⟩
end LT

namespace LT
open PySem PySem.Spec PyProof.Rows L2
section
variable {prog : Program} {w : World} {A : Around} {E : Value → Shared → Prop} {s : Shared}
/-- what is to be iterated is gathered into a new list; the heap does not get shorter -/
theorem gather {Q : List Value → Shared → Prop} (l : Addr) {T : String} {o : Obj} {its : Array Value} {n : Nat} (hT : T = "list" ∨ T = "tuple") (ho : s.heap.get? l = some o) (hc : o.cls = .type T) (hd : o.data = .seq its n) (hz : its.size ≤ sizeLine)
    (fin : ∀ h1 : Heap, s.heap.objs.size ≤ h1.objs.size → (∀ b u, s.heap.get? b = some u → h1.get? b = some u) → Q its.toList { s with heap := h1 }) : wpAny (model prog w) A (collect (.ref l)) Q E s := by
  unfold collect
  refine wpAny_bind (wpAny_runValue (codeAny_builtin PySem.F.entry_proto_collect ?_))
  rw [Around.under_plainId PySem.F.plain_proto_collect _]
  refine wpAny_bind (m := newList []) (wpAny_newObj_type ?_)
  refine wpAny_pure ⟨plainId_quiet PySem.F.plain_list_iadd _, codeAny_builtin PySem.F.entry_list_iadd ?_⟩
  rw [Around.under_plainId PySem.F.plain_list_iadd _]
  generalize hp : s.heap.push { cls := .type "list", data := .seq ([] : List Value).toArray } = h0
  have e0 : h0.get? s.heap.objs.size = some { cls := .type "list", data := .seq #[] 0 } := by rw [← hp]; exact Heap.get?_push_size _ rfl
  have k0 : ∀ b u, s.heap.get? b = some u → h0.get? b = some u := fun b u q => by rw [← hp]; exact Heap.get?_push_of_some _ q
  have z0 : s.heap.objs.size ≤ h0.objs.size := by rw [← hp, Heap.size_push]; exact Nat.le_succ _
  have e1 := Heap.get?_update_self (Obj.mapSeq (· ++ its)) e0 rfl
  have last : Q its.toList { s with heap := h0.update s.heap.objs.size (Obj.mapSeq (· ++ its)) } :=
    fin _ (by rw [Heap.size_update]; exact z0) fun b u q => (Heap.get?_update_other _ _ (Nat.ne_of_gt (Heap.lt_size q))).trans (k0 b u q)
  have tail : wpAny (model prog w) A (do match (← load s.heap.objs.size).data with
      | Data.seq xs _ => pure xs.toList
      | _ => unsupported "internal:collect") Q E { s with heap := h0.update s.heap.objs.size (Obj.mapSeq (· ++ its)) } := by
    refine wpAny_bind (wpAny_load e1 (wpAny_pure ?_))
    show Q ((#[] : Array Value) ++ its).toList _
    rw [show ((#[] : Array Value) ++ its).toList = its.toList by simp]
    exact last
  refine wpAny_mono (wpAny_extend_seq (hsz := hz) (A := A) (R := fun r t => r = .ok (.ret (.ref s.heap.objs.size)) ∧ t = { s with heap := h0.update s.heap.objs.size (Obj.mapSeq (· ++ its)) })
    (s := { s with heap := h0 }) _ l _ 0 hT e0 (k0 _ _ ho) hc hd ⟨rfl, rfl⟩) (fun r t q => ?_) fun _ t q => absurd q.1 (by simp)
  cases r with
  | done f =>
    obtain ⟨e, rfl⟩ := q
    cases e
    exact tail
  | again c => exact ⟨q.1, codeAny_mono q.2 fun r u hr => by obtain ⟨rfl, rfl⟩ := hr; exact tail⟩
open Srt SrtO in
/-- sorted(x), x a list or a tuple: a new list -/
theorem sorted_seq {l : Addr} {T : String} {o : Obj} {vs : List Value} {n : Nat} {ltv : Value → Value → Bool} {Q : Value → Shared → Prop} (O : Swo ltv) (hT : T = "list" ∨ T = "tuple") (ho : s.heap.get? l = some o) (hc : o.cls = .type T) (hd : o.data = .seq vs.toArray n) (hz : vs.length ≤ sizeLine)
    (hS : 2 ≤ vs.length → ∀ (h₁ : Heap) (a : Addr), h₁.get? a = some (seqObj "list" vs.toArray 0) → (∀ b o, s.heap.get? b = some o → b ≠ a ∧ h₁.get? b = some o) → SortableO prog w A.in1.in1 { s with heap := h₁ } a vs ltv)
    (h : ∀ (out : List Value) (p : Addr) (h' : Heap), Srtd ltv out → Stb ltv out vs → s.heap.objs.size ≤ p → (∃ e, h'.get? p = some (seqObj "list" out.toArray e)) → (∀ b o, s.heap.get? b = some o → h'.get? b = some o) → Q (.ref p) { s with heap := h' }) :
    wpAny (model prog w) A (call (.builtin "sorted") [.ref l]) Q E s := by
  refine Calls.call_function_entry kind_sorted plain_sorted entry_sorted (args_sorted1 _) ?_
  unfold Builtin.«sorted»
  refine wpAny_bind (m := checkCount "sorted" 1 1 _) (wpAny_pure ?_)
  refine wpAny_bind (gather l hT ho hc hd (by rw [List.size_toArray]; exact hz) fun h1 hz2 k1 => ?_)
  refine wpAny_bind (wpAny_newList ?_ (by simpa using hz))
  have hoL : (h1.push (seqObj "list" vs.toArray 0)).get? h1.objs.size = some (seqObj "list" vs.toArray 0) := Heap.get?_push_size _ rfl
  have keep : ∀ b o, s.heap.get? b = some o → b ≠ h1.objs.size ∧ (h1.push (seqObj "list" vs.toArray 0)).get? b = some o := fun b o q =>
    ⟨Nat.ne_of_lt (Heap.lt_size (k1 b o q)), Heap.get?_push_of_some _ (k1 b o q)⟩
  show wpAny _ _ _ _ _ { s with heap := h1.push (seqObj "list" vs.toArray 0) }
  refine wpAny_bind (wpAny_holding (wpAny_call_entry slot_list_sort ⟨_, hoL, rfl⟩ entry_list_sort (list_sort_ord O hoL hz (fun h2 => hS h2 _ _ hoL keep) fun out hs hb => ⟨_, rfl, ?_⟩) (args_list_sort _)))
  refine wpAny_pure ⟨_, rfl, h out _ _ hs hb hz2 (sortedHeap_at hoL) fun b o q => ?_⟩
  obtain ⟨ne, q1⟩ := keep b o q
  rw [sortedHeap_old ne (Heap.lt_size q1)]
  exact q1
end
/-- sorted(xs), xs a list or a tuple of ints -/
def rSortedE (K : PySem.W.Frag) : List V → Hp → VK → Prop := fun vs H Q => ∃ (a : Addr) (ns : List Int), vs = [V.ref a] ∧ (SqL K H a (ns.map V.int) ∨ SqT K H a (ns.map V.int)) ∧
  ∀ (ns' : List Int) (p : Addr), ns'.Perm ns → ns'.Pairwise (· ≤ ·) → H p = none → Q (.ref p) (upd H p (.lst (ns'.map V.int)))
theorem cr_sortedE {X : Cx} : CallR X (.builtin "sorted") (rSortedE X.K) := by
  intro pins s σ H vs us Q I r h
  obtain ⟨a, ns, rfl, hs, q⟩ := h
  rcases hs with hs | hs
  · exact cr_sortedI pins s σ H _ us Q I r ⟨a, ns, rfl, hs, q⟩
  obtain ⟨its, rv, ⟨o, ho, hc, n, hd⟩, hz⟩ := I.tuple hs
  rw [Vals.ref1 r]
  have hi := rv.ints
  refine sorted_seq SrtO.swo_int (.inr rfl) ho hc hd (by rw [← rv.length]; exact hz) (fun h2 h₁ a' _ _ => SrtO.ints_sortable hi h2) fun out p h' h1 h2 le at_ keep => ?_
  obtain ⟨k1, k2, k3⟩ := SrtO.ints_out hi h1 h2
  obtain ⟨ep, he'⟩ := at_
  have hlen : ((out.map SrtO.iv).map V.int).length ≤ sizeLine := by
    rw [List.length_map, k2.length_eq]
    rw [List.length_map] at hz
    exact hz
  exact ⟨.ref p, upd H p (.lst ((out.map SrtO.iv).map V.int)), I.laid (t' := s.toks) keep le ⟨hlen, out, ep, vals_of_ints k1, he'⟩, rfl, q _ _ k2 k3 (I.hok.fresh le)⟩
/-- len(set(xs)), xs a list or a tuple of ints, each once -/
def tLenSetS (K : PySem.W.Frag) (ta : TE) : TE := fun σ H Q => ta σ H fun x H1 => ∃ (l : Addr) (ns : List Int), x = .ref l ∧ (SqL K H1 l (ns.map V.int) ∨ SqT K H1 l (ns.map V.int)) ∧ ns.Nodup ∧ ns.length ≤ 4000 ∧ Q (.int (ns.length : Nat)) H1
theorem pe_lenSetS {X : Cx} {a : Expr} {ta : TE} {p p2 q pos : Pos} (hg : Gl X "len") (hm : X.mg "len" = none) (hg2 : Gl X "set") (hm2 : X.mg "set" = none) (ha : PE X a ta) (hc : X.calm = true := by rfl)
    (na : starEach [a] X.env = (false, eval a X.env) :: starEach [] X.env := by rfl) : PE X (.Call (.Name "len" p) [.Call (.Name "set" p2) [a] [] q] [] pos) (tLenSetS X.K ta) := by
  refine ⟨fun pins s σ H Q I h => ?_⟩
  refine Call_ (ld_blt I hg hm boot_len ?_)
  refine PyProof.Rows.callWith_builtin1 (PyProof.Rows.args_cons ?_ rfl) rfl rfl
  refine Call_ (ld_blt I hg2 hm2 boot_set ?_)
  refine PyProof.Rows.callWith_type1 (PyProof.Rows.args_cons (thn (ha.run pins s σ H _ I h) fun v s1 ⟨x, H1, I1, r1, q1⟩ => PyProof.Rows.args_nil ?_) na) na rfl
  obtain ⟨l, ns, rfl, hq, hnd, hl, q1⟩ := q1
  cases r1
  rcases hq with hq | hq
  · obtain ⟨its, r, pl, hz⟩ := I1.list hq
    have hlen : its.toArray.size = ns.length := by rw [List.size_toArray, ← r.length, List.length_map]
    refine call_set_list (I1.ok.hd hc) pl.isList (by simpa using RZ.intsAre_vals r) (by rw [hlen]; unfold scanBound; omega) fun h' tk hS hk => ?_
    refine PyProof.Rows.args_nil ?_
    rw [hlen, RZ.firstMet_nodup hnd ns.length (Nat.le_refl _), List.take_length] at hS
    obtain ⟨o, es, ep, t, ho, hex, hd, _, _, _, hf, hn⟩ := hS
    have I2 : Inv X pins σ H1 { s1 with heap := h', toks := tk } := I1.kept fun b o e => hk b o (Heap.lt_size e) e
    exact call_len_set ho hex hd hf (by rw [hn] <;> omega) ⟨.int ns.length, H1, I2.tok _, ⟨_, by rw [hn]⟩, q1⟩
  · obtain ⟨its, r, pl, hz⟩ := I1.tuple hq
    refine call_set_tupI ns (I1.ok.hd hc) (show s1.heap.IsTuple l its.toArray from pl) (by simpa using r.ints) (by unfold scanBound; omega) fun h' tk c R hcn hk => ?_
    refine PyProof.Rows.args_nil ?_
    obtain ⟨o, es, ep, t, ho, hex, hd, g, nd, mem, _, hf, hn, _⟩ := R
    have I2 : Inv X pins σ H1 { s1 with heap := h', toks := tk } := I1.kept fun b o e => hk b o e
    have hperm : (es.toList.map keyOf).Perm ns := (List.perm_ext_iff_of_nodup nd hnd).mpr fun k => by rw [← mem k, decide_eq_true_iff]
    have hes : es.size = ns.length := by have := hperm.length_eq; simpa using this
    exact call_len_set ho hex hd hf (by omega) ⟨.int ns.length, H1, I2.tok _, ⟨_, by rw [hes]⟩, q1⟩
/-- a dict comprehension over it: Pv by the turn and the heap (the new dict at D within) -/
theorem dc_it {J : It} {n : Nat} {G : Hp → Prop} {Y : Nat → Hp → V → Hp → Prop} (w : Walk J n G Y) {g : TG} {tt : TT} {tk tv : TE} {vs : List Nat} {σ : L2.St} {H1 : Hp} {D : Addr} {Qd : Hp → Prop} (Pv : Nat → Hp → Prop) (h0 : Pv 0 (upd H1 D (.dK []))) (hG : ∀ i H, i ≤ n → Pv i H → G H)
    (hs : ∀ i x H H', i < n → Pv i H → Y i H x H' → g x (wipe σ vs) H' fun σ2 H2 => wipe σ2 vs = wipe σ vs ∧ tt σ2 H2 fun b H3 =>
      if b = true then tk σ2 H3 fun y H4 => tv σ2 H4 fun z H5 => ∃ kvs k, y = kV k ∧ H5 D = some (.dK kvs) ∧ kvs.length < sizeLine ∧ Pv (i + 1) (upd H5 D (.dK (putK kvs k z))) else Pv (i + 1) H3) (hd : ∀ H, Pv n H → Qd H) :
    ∃ W : Nat → Nat → Hp → Prop, (∃ m, W 0 m (upd H1 D (.dK []))) ∧ ∀ i m H, W i m H →
      (J.stop i H ∧ Qd H) ∨ (J.go i H ∧ ∃ Nx : Hp → Prop, (∀ H', Nx H' → ∃ m', m' < m ∧ W (i + 1) m' H') ∧ ∀ x H', J.yld i H x H' → g x (wipe σ vs) H' fun σ2 H2 => wipe σ2 vs = wipe σ vs ∧ tt σ2 H2 fun b H3 =>
        if b = true then tk σ2 H3 fun y H4 => tv σ2 H4 fun z H5 => ∃ kvs k, y = kV k ∧ H5 D = some (.dK kvs) ∧ kvs.length < sizeLine ∧ Nx (upd H5 D (.dK (putK kvs k z))) else Nx H3) := by
  refine ⟨fun i m H => m = n - i ∧ i ≤ n ∧ Pv i H, ⟨n, by simp, Nat.zero_le _, h0⟩, ?_⟩
  rintro i m H ⟨rfl, hi, p⟩
  have q := hG i H hi p
  by_cases hlt : i < n
  · refine .inr ⟨w.goes i H hlt q, Pv (i + 1), fun H' p' => ⟨n - (i + 1), by omega, rfl, hlt, p'⟩, fun x H' y => hs i x H H' hlt p (w.yields i H x H' hlt q y)⟩
  · obtain rfl : i = n := by omega
    exact .inl ⟨w.stops H q, hd H p⟩
end LT

namespace LG
open PySem PySem.Spec PyProof.Rows L2
section
variable {X : Cx}
/-- repr of a bool -/
theorem call_repr_bl : CallR X (.builtin "repr") (fun xs H Q => ∃ b : Bool, xs = [.bl b] ∧ Q (.str (if b then "True" else "False")) H) := by
  intro pins s σ H xs us Q I r h
  obtain ⟨b, rfl, q⟩ := h
  obtain ⟨u, rfl, ru⟩ := vals1 r
  cases ru
  exact PySem.P.repr_of_bool ⟨.str _, H, I.tok _, ⟨_, rfl⟩, q⟩
/-- repr of data: lists, tuples, ints, bools -/
def rReprA (K : PySem.W.Frag) : List V → Hp → VK → Prop := fun xs H Q => (∃ b : Bool, xs = [.bl b] ∧ Q (.str (if b then "True" else "False")) H) ∨ (∃ i : Int, xs = [.int i] ∧ i.natAbs.log2 < 1920 ∧ Q (.str (toString i)) H) ∨ rRepr K xs H Q
theorem call_reprA (hgd : X.A.guards = some []) (hu : X.A.units + 66 < cLine) : CallR X (.builtin "repr") (rReprA X.K) := by
  intro pins s σ H xs us Q I r h
  rcases h with h | h | h
  · exact call_repr_bl pins s σ H xs us Q I r h
  · exact SkE.call_repr_int pins s σ H xs us Q I r h
  · exact call_repr hgd hu pins s σ H xs us Q I r h
end
end LG

/-! what the laws share: tests, values, the bag, lists or tuples -/
namespace LP
open PySem L2 LT LG
theorem iteD {c A B : Prop} [Decidable c] (hc : c) (h : A) : if decide c = true then A else B := by
  rw [if_pos (decide_eq_true hc)]; exact h
theorem iteX {c A B : Prop} [Decidable c] (hc : ¬ c) (h : B) : if decide c = true then A else B := by
  rw [if_neg (by rw [decide_eq_false hc]; exact Bool.false_ne_true)]; exact h
theorem iteNX {c A B : Prop} [Decidable c] (hc : ¬ c) (h : A) : if (!decide c) = true then A else B := by
  rw [decide_eq_false hc]; exact iteT h
theorem ite2d {c A B : Prop} [Decidable c] (h1 : c → A) (h2 : ¬ c → B) : if decide c = true then A else B := by
  by_cases h : c
  · exact iteD h (h1 h)
  · exact iteX h (h2 h)
theorem iteNB {b : Bool} {A B : Prop} (hb : b = true) (h : B) : if (!b) = true then A else B := by
  subst hb; exact iteF h
theorem iteNF {b : Bool} {A B : Prop} (hb : b = false) (h : A) : if (!b) = true then A else B := by
  subst hb; exact iteT h
theorem iteB {b : Bool} {A B : Prop} (hb : b = true) (h : A) : if b = true then A else B := by
  subst hb; exact iteT h
theorem iteBF {b : Bool} {A B : Prop} (hb : b = false) (h : B) : if b = true then A else B := by
  subst hb; exact iteF h
theorem idx_before {α : Type} [BEq α] [LawfulBEq α] {a : α} : ∀ {l : List α} {m : Nat}, m < l.idxOf a → l[m]? ≠ some a
  | [], m, h => by simp at h
  | b :: r, 0, h => by
    intro e
    have e1 : b = a := Option.some.inj e
    subst e1
    rw [List.idxOf_cons] at h
    simp at h
  | b :: r, m + 1, h => by
    rw [List.idxOf_cons] at h
    by_cases q : (b == a) = true
    · simp [q] at h
    · rw [Bool.not_eq_true] at q
      rw [q] at h
      have h' : m + 1 < r.idxOf a + 1 := h
      exact idx_before (l := r) (m := m) (by omega)
theorem idx_get {α : Type} [BEq α] [LawfulBEq α] {a : α} {l : List α} (h : a ∈ l) : l[l.idxOf a]? = some a := by
  have h1 := List.idxOf_lt_length_iff.mpr h
  rw [List.getElem?_eq_getElem h1]
  have h2 := List.findIdx_getElem (p := (· == a)) (xs := l) (w := h1)
  exact congrArg some (eq_of_beq h2)

theorem same_upd {H : Hp} {p : Addr} {o : HO} (h : H p = Option.none) : Same H (upd H p o) := fun b x e => by rw [upd_ne (ne_of_none e h)]; exact e
/-- all but the bag at b is as it was -/
def Fr (H H' : Hp) (b : Addr) : Prop := ∀ a o, H a = some o → a ≠ b → H' a = some o
theorem Fr.refl (H : Hp) (b : Addr) : Fr H H b := fun _ _ h _ => h
theorem Fr.trans {H H1 H2 : Hp} {b : Addr} (a : Fr H H1 b) (c : Fr H1 H2 b) : Fr H H2 b := fun x o h n => c x o (a x o h n) n
theorem Fr.of {H H' : Hp} {b : Addr} (s : Same H H') : Fr H H' b := fun a o h _ => s a o h
theorem Fr.free {H H' : Hp} {b l : Addr} (e : Fr H H' b) (hb : ∃ o, H b = some o) (h : H' l = Option.none) (h' : ∃ o, H' b = some o) : H l = Option.none := by
  cases q : H l with
  | none => rfl
  | some o =>
    by_cases hl : l = b
    · subst hl; obtain ⟨o', h'⟩ := h'; rw [h'] at h; cases h
    · rw [e l o q hl] at h; cases h
abbrev M61 : Int := 2305843009213693951
/-- the bag: the script's copy at l, the place in it, the rest of a large cell, the number of draws (at most d), the script's sum -/
structure Bag (H : Hp) (b l : Addr) (ns : List Int) (d : Nat) : Prop where
  ex : ∃ i c k t : Int, H b = some (.lst [.ref l, .int i, .int c, .int k, .int t]) ∧ 0 ≤ i ∧ i ≤ ns.length ∧ 0 ≤ k ∧ k ≤ d ∧ 0 ≤ t ∧ t < M61
  ls : H l = some (.lst (ns.map V.int))
  ne : l ≠ b
theorem Bag.mono {H : Hp} {b l : Addr} {ns : List Int} {d d' : Nat} (g : Bag H b l ns d) (h : d ≤ d') : Bag H b l ns d' := by
  obtain ⟨⟨i, c, k, t, h1, h2, h3, h4, h5, h6⟩, ls, ne⟩ := g
  exact ⟨⟨i, c, k, t, h1, h2, h3, h4, by omega, h6⟩, ls, ne⟩
theorem Bag.same {H H' : Hp} {b l : Addr} {ns : List Int} {d : Nat} (g : Bag H b l ns d) (s : Same H H') : Bag H' b l ns d := by
  obtain ⟨⟨i, c, k, t, h1, h2⟩, ls, ne⟩ := g
  exact ⟨⟨i, c, k, t, s _ _ h1, h2⟩, s _ _ ls, ne⟩

theorem flat_ints (l : List Int) : (l.map V.int).all flatV = true := by
  rw [List.all_eq_true]; intro v hv; obtain ⟨i, _, rfl⟩ := List.mem_map.mp hv; rfl
theorem in_ints {p : Int} {l : List Int} : inV (.int p) (l.map V.int) = decide (p ∈ l) := by
  induction l with
  | nil => rfl
  | cons a r ih =>
    show (eqV (.int a) (.int p) || inV (.int p) (r.map V.int)) = _
    rw [ih]
    show ((a == p) || decide (p ∈ r)) = _
    by_cases h : a = p
    · subst h; simp
    · have h2 : ¬ p = a := fun q => h q.symm
      simp [h, h2]

theorem Bag.nb {H : Hp} {b l : Addr} {ns : List Int} {d : Nat} (g : Bag H b l ns d) : ∃ o, H b = some o := let ⟨⟨_, _, _, _, h, _⟩, _, _⟩ := g; ⟨_, h⟩
theorem Bag.ne_new {H : Hp} {b l p : Addr} {ns : List Int} {d : Nat} (g : Bag H b l ns d) (hp : H p = none) : p ≠ b := by
  obtain ⟨o, h⟩ := g.nb
  exact (ne_of_none h hp).symm
theorem Bag.l_ne {H : Hp} {b l p : Addr} {ns : List Int} {d : Nat} (g : Bag H b l ns d) (hp : H p = none) : l ≠ p := ne_of_none g.ls hp

section
variable (K : PySem.W.Frag)
def sp__law_bag : Sp := fun vs H Q _ => ∃ (a : Addr) (ns : List Int), vs = [.ref a] ∧ SqL K H a (ns.map V.int) ∧ ns.length ≤ 63 ∧ ∀ (H' : Hp) (b l : Addr), Same H H' → H b = none → H l = none → Bag H' b l ns 0 → Q (.ref b) H'
def sp__law_stir : Sp := fun vs H Q _ => ∃ x y : Int, vs = [.int x, .int y] ∧ 0 ≤ x ∧ x < M61 ∧ 0 ≤ y ∧ y < 2 ^ 40 ∧ ∀ r : Int, Q (.int r) H
def sp__law_draw : Sp := fun vs H Q _ => ∃ (b l : Addr) (ns : List Int) (d : Nat) (n : Int), vs = [.ref b, .int n] ∧ Bag H b l ns d ∧ 0 < n ∧ n.natAbs.log2 < 9000 ∧ d < 1000000 ∧ ns.length ≤ 63 ∧
  ∀ (H' : Hp) (r : Int), 0 ≤ r → r < n → Bag H' b l ns (d + 1) → Fr H H' b → Q (.int r) H'


end
/-- what len asks of a list or a tuple -/
def rLenS (K : PySem.W.Frag) : List V → Hp → VK → Prop := fun vs H Q => ∃ a xs, vs = [.ref a] ∧ (SqL K H a xs ∨ SqT K H a xs) ∧ Q (.int xs.length) H
theorem u1 {k : Nat} {A : Around} (r : Room k A) : A.units + 1 < cLine := by have := r.un; omega
theorem u66 {k : Nat} {A : Around} (r : Room k A) : A.units + 66 < cLine := by have := r.un; omega
theorem ixN_at {n j : Nat} (h : j < n) : ixN n (j : Int) = some j := by
  unfold ixN; rw [if_pos (by omega), if_pos (by omega)]; congr 1
/-- a list or a tuple -/
def SqE (K : PySem.W.Frag) (H : Hp) (a : Addr) (xs : List V) : Prop := SqL K H a xs ∨ SqT K H a xs
theorem same_tup {K : PySem.W.Frag} {H H' : Hp} {a : Addr} {xs : List V} (e : Same H H') (h : SqT K H a xs) : SqT K H' a xs := by
  rcases h with (h | ⟨o, h⟩) | h
  · exact .inl (.inl (e _ _ h))
  · exact .inl (.inr ⟨o, e _ _ h⟩)
  · exact .inr h
theorem SqE.same {K : PySem.W.Frag} {H H' : Hp} {a : Addr} {xs : List V} (h : SqE K H a xs) (e : Same H H') : SqE K H' a xs := h.imp e.seq (same_tup e)
theorem SqE.l {K : PySem.W.Frag} {H : Hp} {a : Addr} {xs : List V} (h : H a = some (.lst xs)) : SqE K H a xs := .inl (SqL.of h)
theorem SqE.t {K : PySem.W.Frag} {H : Hp} {a : Addr} {xs : List V} (h : H a = some (.tup xs)) : SqE K H a xs := .inr (SqT.of h)
theorem rd_ix {K : PySem.W.Frag} {H : Hp} {a : Addr} {Q : VK} {xs : List V} {j : Nat} {v : V} {z : Int} (h : SqL K H a xs) (e : xs[j]? = some v) (hz : z = (j : Int)) (q : Q v H) : rIxL K (.ref a) (.int z) H Q :=
  ⟨a, xs, z, v, rfl, rfl, h, at_of hz e, q⟩
theorem int_at {ns : List Int} {j : Nat} {x : Int} (h : ns[j]? = some x) : (ns.map V.int)[j]? = some (V.int x) := by rw [List.getElem?_map, h]; rfl
theorem at_int {ns : List Int} {j : Nat} {v : V} (h : (ns.map V.int)[j]? = some v) : ∃ x, ns[j]? = some x ∧ v = .int x := by
  rw [List.getElem?_map] at h
  cases q : ns[j]? with
  | none => rw [q] at h; cases h
  | some x => rw [q] at h; cases h; exact ⟨x, rfl, rfl⟩
/-! a walk over a list or a tuple: one turn for both -/
theorem or_E {K : PySem.W.Frag} {H : Hp} {a : Addr} {xs : List V} {σ : St} {i : Nat} {R : It → Hp → Prop} (hE : SqE K H a xs) (hv : σ[i]? = some (some (.ref a))) (k : ∀ (J : It) (G : Hp → Prop), Walk J xs.length G (YAt xs) → (∀ H', Same H H' → G H') → R J H) :
    iList K (tVar i) σ H R ∨ iTup K (tVar i) σ H R := by
  rcases hE with h | h
  · exact .inl ⟨_, hv, a, rfl, ⟨_, h⟩, k _ _ walk_list fun H' s => s.seq h⟩
  · exact .inr ⟨_, hv, a, rfl, ⟨_, h⟩, k _ _ walk_tup fun H' s => same_tup s h⟩
theorem or_enumE {K : PySem.W.Frag} {H : Hp} {a : Addr} {xs : List V} {σ : St} {R : It → Hp → Prop} {ta : TA} (hE : SqE K H a xs) (hv : ∀ Q : List V → Hp → Prop, Q [.ref a] H → ta σ H Q)
    (k : ∀ (J : It) (G : Hp → Prop), Walk J xs.length G (YPair (fun i => some (.int (i : Nat))) (fun i => xs[i]?)) → (∀ H', Same H H' → G H') → R J H) :
    iEnum K ta σ H R ∨ iEnumT K ta σ H R := by
  rcases hE with h | h
  · exact .inl (hv _ ⟨a, xs, rfl, h, k _ _ walk_enum fun H' s => s.seq h⟩)
  · exact .inr (hv _ ⟨a, xs, rfl, h, k _ _ walk_enumT fun H' s => same_tup s h⟩)
theorem or_zipE {K : PySem.W.Frag} {H : Hp} {a : Addr} {xs ys : List V} {σ : St} {R : It → Hp → Prop} {ta : TA} (hE : SqE K H a xs) (hl : xs.length = ys.length)
    (hv : ∀ Q : List V → Hp → Prop, (∀ H1 p, Same H H1 → H p = none → H1 p = some (.lst ys) → Q [.ref a, .ref p] H1) → ta σ H Q)
    (k : ∀ (H1 : Hp) (p : Addr) (J : It) (G : Hp → Prop), Same H H1 → H p = none → H1 p = some (.lst ys) → Walk J xs.length G (YPair (fun i => xs[i]?) (fun i => ys[i]?)) → (∀ H', Same H1 H' → G H') → R J H1) :
    iZip K ta σ H R ∨ iZipTL K ta σ H R := by
  rcases hE with h | h
  · exact .inl (hv _ fun H1 p s np hp => ⟨a, p, xs, ys, rfl, s.seq h, SqL.of hp, k _ p _ _ s np hp (walk_zip (by omega)) fun H' t => ⟨t.seq (s.seq h), SqL.of (t _ _ hp)⟩⟩)
  · exact .inr (hv _ fun H1 p s np hp => ⟨a, p, xs, ys, rfl, same_tup s h, SqL.of hp, k _ p _ _ s np hp (walk_zipTL hl) fun H' t => ⟨same_tup t (same_tup s h), SqL.of (t _ _ hp)⟩⟩)
theorem ty_E {K : PySem.W.Frag} {H : Hp} {a : Addr} {xs : List V} (h : SqE K H a xs) : TyX K H (.ref a) (.type "list") ∨ TyX K H (.ref a) (.type "tuple") := by
  rcases h with ((h | ⟨o, h⟩) | ⟨dd, its, n, h1, h2⟩) | ((h | ⟨o, h⟩) | ⟨dd, its, n, h1, h2⟩)
  · exact .inl (.base (.lst h))
  · exact .inl (.base (.frz h))
  · exact .inl (.kList h1 h2.1)
  · exact .inr (.base (.tup h))
  · exact .inr (.fTuple h)
  · exact .inr (.kTuple h1 h2.1)
theorem kit_lt {K : PySem.W.Frag} : PySem.W.kitAny K (.type "list") [.type "list", .type "tuple"] = some true := kitAny_cons (b := true) (kit_ty (by decide +kernel)) (fun z => nomatch z) fun _ => rfl
theorem kit_tt {K : PySem.W.Frag} : PySem.W.kitAny K (.type "tuple") [.type "list", .type "tuple"] = some true := kitAny_cons (b := false) (kit_ty (by decide +kernel)) (fun _ => kitAny_cons (b := true) (kit_ty (by decide +kernel)) (fun z => nomatch z) fun _ => rfl) fun z => nomatch z
/-! patterns as texts -/
def sgn (b : Bool) : Nat := if b = true then 84 else 82
def pstr (l : List Bool) : Str := ⟨(l.map sgn).toArray⟩
theorem pstr_nil : pstr [] = ("" : Str) := by decide +kernel
theorem pstr_T (l : List Bool) : pstr l ++ ("T" : Str) = pstr (l ++ [true]) := by
  show (⟨(l.map sgn).toArray ++ ("T" : Str).cps⟩ : Str) = _
  rw [show ("T" : Str).cps = #[84] by decide +kernel]
  simp [pstr, sgn]
theorem pstr_R (l : List Bool) : pstr l ++ ("R" : Str) = pstr (l ++ [false]) := by
  show (⟨(l.map sgn).toArray ++ ("R" : Str).cps⟩ : Str) = _
  rw [show ("R" : Str).cps = #[82] by decide +kernel]
  simp [pstr, sgn]
theorem pstr_size (l : List Bool) : (pstr l).cps.size = l.length := by simp [pstr]
theorem pstr_at {l : List Bool} {i c : Nat} (h : (pstr l).cps[i]? = some c) : ∃ b, l[i]? = some b ∧ c = sgn b := by
  simp only [pstr, List.getElem?_toArray, List.getElem?_map] at h
  cases q : l[i]? with
  | none => rw [q] at h; cases h
  | some b => rw [q] at h; cases h; exact ⟨b, rfl, rfl⟩
theorem sgnT : (⟨#[sgn true]⟩ : Str) = ("T" : Str) := by decide +kernel
theorem sgnR : (⟨#[sgn false]⟩ : Str) = ("R" : Str) := by decide +kernel
theorem R_ne_T : ¬ ((⟨#[sgn false]⟩ : Str) = ("T" : Str)) := by decide +kernel
theorem vsT : V.str ⟨#[sgn true]⟩ = V.str "T" := congrArg V.str sgnT
theorem vsR : ¬ (V.str ⟨#[sgn false]⟩ = V.str "T") := fun h => R_ne_T (V.str.inj h)
theorem vsRR : V.str ⟨#[sgn false]⟩ = V.str "R" := congrArg V.str sgnR
theorem count_T (l : List Bool) : Txt.count (pstr l) ("T" : Str) = ((l.count true : Nat) : Int) := by
  rw [show ("T" : Str) = ⟨#[84]⟩ by decide +kernel, PyProof.Rows.count_cnt]
  show PyProof.Rows.cnt 84 (l.map sgn).toArray.toList = _
  rw [List.toList_toArray]
  induction l with
  | nil => rfl
  | cons b r ih =>
    rw [List.map_cons, PyProof.Rows.cnt_cons, ih]
    cases b with
    | true => rw [if_pos (by decide)]; simp; omega
    | false => rw [if_neg (by decide)]; simp
/-! dicts by place -/
def numK (ns : List Int) : List (Key × V) := ns.zipIdx.map fun p => (.inl p.1, .int (p.2 : Nat))
theorem numK_len (ns : List Int) : (numK ns).length = ns.length := by simp [numK]
theorem putK_new {kvs : List (Key × V)} {k : Key} {v : V} (h : ∀ q ∈ kvs, q.1 ≠ k) : putK kvs k v = kvs ++ [(k, v)] := by
  unfold putK
  rw [if_neg]
  intro q
  obtain ⟨x, hx, e⟩ := List.any_eq_true.mp q
  exact h x hx (of_decide_eq_true e)
theorem numK_snoc (ns : List Int) (x : Int) : numK (ns ++ [x]) = numK ns ++ [(.inl x, .int (ns.length : Nat))] := by
  unfold numK
  rw [List.zipIdx_append]
  simp
theorem numK_put {ns : List Int} {x : Int} (h : x ∉ ns) : putK (numK ns) (.inl x) (.int (ns.length : Nat)) = numK (ns ++ [x]) := by
  rw [numK_snoc, putK_new]
  intro q hq e
  obtain ⟨⟨a, i⟩, hp, rfl⟩ := List.mem_map.mp hq
  cases e
  exact h (List.mem_of_getElem? (List.mem_zipIdx_iff_getElem?.mp hp))
theorem numK_val {ns : List Int} (nd : ns.Nodup) {j : Nat} {x : Int} (h : ns[j]? = some x) : valV (numK ns) (.inl x) = some (.int (j : Nat)) := by
  unfold valV
  have key : (numK ns).find? (fun kv => decide (kv.1 = Sum.inl x)) = some (.inl x, .int (j : Nat)) := by
    obtain ⟨hj, e⟩ := List.getElem?_eq_some_iff.mp h
    rw [List.find?_eq_some_iff_getElem]
    refine ⟨decide_eq_true rfl, j, by rw [numK_len]; exact hj, ?_, fun m hm => ?_⟩
    · simp [numK, e]
    · have hm2 : m < ns.length := by omega
      have e2 : ((numK ns)[m]'(by rw [numK_len]; omega)).1 = Sum.inl ns[m] := by simp [numK]
      rw [e2, decide_eq_false]
      · rfl
      · intro z
        cases z
        exact Nat.ne_of_lt hm ((List.getElem_inj nd).mp e.symm)
  rw [key]; rfl

theorem seq_int {n : Nat} {z : Int} (h0 : 0 ≤ z) (h : z.toNat < n) : seqIndex? z n = some z.toNat := by
  unfold seqIndex?
  have e : (if z < 0 then z + (n : Int) else z) = z := if_neg (by omega)
  simp only [e]
  rw [if_pos (by rw [Bool.and_eq_true, decide_eq_true_iff, decide_eq_true_iff]; omega)]
theorem ixN_int {n : Nat} {z : Int} (h0 : 0 ≤ z) (h : z.toNat < n) : ixN n z = some z.toNat := by
  unfold ixN
  rw [if_pos h0, if_pos (by omega)]
theorem log_small {n : Nat} (h : n < 1024) : ((n : Int)).natAbs.log2 < 9000 := by
  rw [Int.natAbs_natCast]
  by_cases h0 : n = 0
  · subst h0; decide
  · exact Nat.lt_trans ((Nat.log2_lt h0).mpr (show n < 2 ^ 10 from h)) (by decide)
theorem erase_map {α β : Type} (f : α → β) : ∀ (l : List α) (k : Nat), (l.map f).eraseIdx k = (l.eraseIdx k).map f
  | [], _ => rfl
  | _ :: _, 0 => rfl
  | a :: r, k + 1 => by
    show f a :: (r.map f).eraseIdx k = f a :: (r.eraseIdx k).map f
    rw [erase_map f r k]
end LP

/-! binary heaps in lists: the mathematics -/
namespace LH
def IsH (ns : List Int) : Prop := ∀ (i : Nat) (x y : Int), 0 < i → ns[i]? = some x → ns[(i - 1) / 2]? = some y → y ≤ x
def Gr (ns : List Int) (p : Nat) : Prop := ∀ (i : Nat) (x y : Int), 0 < i → 0 < p → (i - 1) / 2 = p → ns[i]? = some x → ns[(p - 1) / 2]? = some y → y ≤ x
def Up (ns : List Int) (p : Nat) : Prop := (∀ (i : Nat) (x y : Int), 0 < i → i ≠ p → ns[i]? = some x → ns[(i - 1) / 2]? = some y → y ≤ x) ∧ Gr ns p
def Dn (ns : List Int) (p : Nat) : Prop := (∀ (i : Nat) (x y : Int), 0 < i → i ≠ p → (i - 1) / 2 ≠ p → ns[i]? = some x → ns[(i - 1) / 2]? = some y → y ≤ x) ∧ Gr ns p
def sw (ns : List Int) (i j : Nat) (x y : Int) : List Int := (ns.set i y).set j x
theorem sw_get {ns : List Int} {i j k : Nat} {x y : Int} (hi : ns[i]? = some x) (hj : ns[j]? = some y) : (sw ns i j x y)[k]? = if k = j then some x else if k = i then some y else ns[k]? := by
  have h1 := (List.getElem?_eq_some_iff.mp hi).1
  have h2 := (List.getElem?_eq_some_iff.mp hj).1
  unfold sw
  rw [List.getElem?_set, List.getElem?_set, List.length_set]
  by_cases a : k = j
  · subst a; rw [if_pos rfl, if_pos h2, if_pos rfl]
  · rw [if_neg (fun q => a q.symm), if_neg a]
    by_cases b : k = i
    · subst b; rw [if_pos rfl, if_pos h1, if_pos rfl]
    · rw [if_neg (fun q => b q.symm), if_neg b]
theorem sw_len (ns : List Int) (i j : Nat) (x y : Int) : (sw ns i j x y).length = ns.length := by unfold sw; rw [List.length_set, List.length_set]
theorem sw_perm {ns : List Int} {i j : Nat} {x y : Int} (hi : ns[i]? = some x) (hj : ns[j]? = some y) : (sw ns i j x y).Perm ns := by
  obtain ⟨h1, rfl⟩ := List.getElem?_eq_some_iff.mp hi
  obtain ⟨h2, rfl⟩ := List.getElem?_eq_some_iff.mp hj
  exact List.set_set_perm h1 h2
theorem up_zero {ns : List Int} (h : Up ns 0) : IsH ns := fun i x y h0 hx hy => h.1 i x y h0 (by omega) hx hy
theorem up_done {ns : List Int} {p : Nat} {x y : Int} (h : Up ns p) (hx : ns[p]? = some x) (hy : ns[(p - 1) / 2]? = some y) (hc : ¬ x < y) : IsH ns := fun i a b h0 ha hb => by
  by_cases e : i = p
  · subst e
    rw [hx] at ha; rw [hy] at hb
    cases ha; cases hb; omega
  · exact h.1 i a b h0 e ha hb
theorem up_step {ns : List Int} {p : Nat} {x y : Int} (h : Up ns p) (hp : 0 < p) (hx : ns[p]? = some x) (hy : ns[(p - 1) / 2]? = some y) (hc : x < y) : Up (sw ns ((p - 1) / 2) p y x) ((p - 1) / 2) := by
  refine ⟨fun i a b h0 hi ha hb => ?_, fun i a b h0 hq hi ha hb => ?_⟩
  · rw [sw_get hy hx] at ha hb
    by_cases e : i = p
    · subst e
      rw [if_pos rfl] at ha
      rw [if_neg (by omega), if_pos rfl] at hb
      cases ha; cases hb; omega
    · rw [if_neg e, if_neg hi] at ha
      by_cases e1 : (i - 1) / 2 = p
      · rw [if_pos e1] at hb; cases hb
        exact h.2 i a y h0 hp e1 ha hy
      · rw [if_neg e1] at hb
        by_cases e2 : (i - 1) / 2 = (p - 1) / 2
        · rw [if_pos e2] at hb; cases hb
          have := h.1 i a y h0 e ha (by rw [e2]; exact hy)
          omega
        · rw [if_neg e2] at hb
          exact h.1 i a b h0 e ha hb
  · rw [sw_get hy hx] at ha hb
    rw [if_neg (by omega), if_neg (by omega)] at hb
    have g := h.1 ((p - 1) / 2) y b hq (by omega) hy hb
    by_cases e : i = p
    · rw [if_pos e] at ha; cases ha; exact g
    · rw [if_neg e, if_neg (by omega)] at ha
      have := h.1 i a y h0 e ha (by rw [hi]; exact hy)
      omega
theorem dn_step {ns : List Int} {p c : Nat} {x z : Int} (h : Dn ns p) (hc0 : 0 < c) (hc : (c - 1) / 2 = p) (hx : ns[p]? = some x) (hz : ns[c]? = some z) (least : ∀ (i : Nat) (a : Int), 0 < i → (i - 1) / 2 = p → ns[i]? = some a → z ≤ a) : Dn (sw ns c p z x) c := by
  refine ⟨fun i a b h0 hi hpi ha hb => ?_, fun i a b h0 _ hi ha hb => ?_⟩
  · rw [sw_get hz hx] at ha hb
    by_cases e : i = p
    · rw [if_pos e] at ha; cases ha
      rw [if_neg (by omega), if_neg (by omega)] at hb
      subst e
      exact h.2 c z b hc0 h0 hc hz hb
    · rw [if_neg e, if_neg hi] at ha
      by_cases e1 : (i - 1) / 2 = p
      · rw [if_pos e1] at hb; cases hb
        exact least i a h0 e1 ha
      · rw [if_neg e1, if_neg hpi] at hb
        exact h.1 i a b h0 e e1 ha hb
  · rw [sw_get hz hx] at ha hb
    rw [if_neg (by omega), if_neg (by omega)] at ha
    rw [hc, if_pos rfl] at hb
    cases hb
    exact h.1 i a z h0 (by omega) (by omega) ha (by rw [hi]; exact hz)
theorem dn_leaf {ns : List Int} {p : Nat} (h : Dn ns p) (hp : ns.length ≤ 2 * p + 1) : Up ns p := by
  refine ⟨fun i x y h0 hi hx hy => ?_, h.2⟩
  by_cases e : (i - 1) / 2 = p
  · have := (List.getElem?_eq_some_iff.mp hx).1; omega
  · exact h.1 i x y h0 hi e hx hy
theorem up_push {ns : List Int} {x : Int} (h : IsH ns) : Up (ns ++ [x]) ns.length := by
  refine ⟨fun i a b h0 hi ha hb => ?_, fun i a b h0 hp hi ha hb => ?_⟩
  · have hl := (List.getElem?_eq_some_iff.mp ha).1
    rw [List.length_append] at hl
    have hl2 : i < ns.length := by simp at hl; omega
    rw [List.getElem?_append_left hl2] at ha
    rw [List.getElem?_append_left (by omega)] at hb
    exact h i a b h0 ha hb
  · have hl := (List.getElem?_eq_some_iff.mp ha).1
    simp at hl; omega
theorem dn_pop {f last : Int} {mid : List Int} (h : IsH (f :: (mid ++ [last]))) : Dn (last :: mid) 0 := by
  refine ⟨fun i x y h0 _ h1 hx hy => ?_, fun i x y _ h0 => by omega⟩
  obtain ⟨k, rfl⟩ : ∃ k, i = k + 1 := ⟨i - 1, by omega⟩
  obtain ⟨m, hm⟩ : ∃ m, (k + 1 - 1) / 2 = m + 1 := ⟨(k + 1 - 1) / 2 - 1, by omega⟩
  rw [hm] at hy
  have hx1 : mid[k]? = some x := hx
  have hy1 : mid[m]? = some y := hy
  have lx := (List.getElem?_eq_some_iff.mp hx1).1
  have ly := (List.getElem?_eq_some_iff.mp hy1).1
  refine h (k + 1) x y h0 ?_ ?_
  · show (mid ++ [last])[k]? = some x
    rw [List.getElem?_append_left lx]; exact hx1
  · rw [hm]
    show (mid ++ [last])[m]? = some y
    rw [List.getElem?_append_left ly]; exact hy1
theorem heap_min {ns : List Int} {m : Int} (h : IsH ns) (hm : ns[0]? = some m) : ∀ (i : Nat) (x : Int), ns[i]? = some x → m ≤ x := by
  intro i
  induction i using Nat.strongRecOn with
  | _ i ih =>
    intro x hx
    by_cases e : i = 0
    · subst e; rw [hm] at hx; cases hx; exact Int.le_refl _
    · have hl := (List.getElem?_eq_some_iff.mp hx).1
      have hq : ns[(i - 1) / 2]? = some (ns[(i - 1) / 2]'(by omega)) := List.getElem?_eq_getElem (by omega)
      exact Int.le_trans (ih _ (by omega) _ hq) (h i x _ (by omega) hx hq)
theorem heap_nil : IsH [] := fun i x y _ h => by simp at h
theorem heap_one (x : Int) : IsH [x] := fun i a b h0 ha => by
  have := (List.getElem?_eq_some_iff.mp ha).1
  simp at this; omega
end LH

namespace LH
open PySem PySem.Spec PyProof.Rows L2
open AutoSeq1 (wpAny_loadPart')
theorem plain_sift : plainId "_heapq.heapify.sift" = true := by decide +kernel
theorem entry_sift : entryFor table "_heapq.heapify.sift" = some Builtin.«_heapq.heapify.sift» := entryFor_of_fast (by kernel_rfl)
theorem plain_push : plainId "_heapq.heappush" = true := by decide +kernel
theorem entry_push : entryFor table "_heapq.heappush" = some Builtin.«_heapq.heappush» := entryFor_of_fast (by kernel_rfl)
theorem kind_push : builtinKind "_heapq.heappush" = none := by decide +kernel
theorem args_push (a b : Value) : argsOk "_heapq.heappush" ⟨[a, b], []⟩ := by unfold argsOk; kernel_rfl
theorem plain_pop : plainId "_heapq.heappop" = true := by decide +kernel
theorem entry_pop : entryFor table "_heapq.heappop" = some Builtin.«_heapq.heappop» := entryFor_of_fast (by kernel_rfl)
theorem kind_pop : builtinKind "_heapq.heappop" = none := by decide +kernel
theorem args_pop (a : Value) : argsOk "_heapq.heappop" ⟨[a], []⟩ := by unfold argsOk; kernel_rfl
/-- the list object at a holds these ints -/
def Li (h : Heap) (a : Addr) (vs : List Value) (ns : List Int) : Prop := (∃ n, h.get? a = some (seqObj "list" vs.toArray n)) ∧ IntsAre vs ns
/-- only the object at a is other than it was -/
def Ot (h h' : Heap) (a : Addr) : Prop := h'.objs.size = h.objs.size ∧ ∀ b, b ≠ a → h'.get? b = h.get? b
theorem Ot.refl (h : Heap) (a : Addr) : Ot h h a := ⟨rfl, fun _ _ => rfl⟩
theorem Ot.trans {h h1 h2 : Heap} {a : Addr} (x : Ot h h1 a) (y : Ot h1 h2 a) : Ot h h2 a := ⟨y.1.trans x.1, fun b hb => (y.2 b hb).trans (x.2 b hb)⟩
theorem Ot.up (h : Heap) (a : Addr) (f : Obj → Obj) : Ot h (h.update a f) a := ⟨Heap.size_update .., fun b hb => Heap.get?_update_ne _ _ _ _ hb⟩
theorem ints_get {vs : List Value} {ns : List Int} (h : IntsAre vs ns) {i : Nat} {x : Int} (hx : ns[i]? = some x) : ∃ t, vs[i]? = some (.int x t) := by
  induction h generalizing i with
  | nil => simp at hx
  | cons n t r ih =>
    cases i with
    | zero => cases hx; exact ⟨t, rfl⟩
    | succ k => exact ih hx
theorem ints_set {vs : List Value} {ns : List Int} (h : IntsAre vs ns) {i : Nat} {x : Int} {t : Tok} : IntsAre (vs.set i (.int x t)) (ns.set i x) := by
  induction h generalizing i with
  | nil => exact .nil
  | cons n u r ih =>
    cases i with
    | zero => exact .cons x t r
    | succ k => exact .cons n u ih
theorem ints_app {vs us : List Value} {ns ms : List Int} (h : IntsAre vs ns) (g : IntsAre us ms) : IntsAre (vs ++ us) (ns ++ ms) := by
  induction h with
  | nil => exact g
  | cons n u r ih => exact .cons n u ih
section
variable {prog : Program} {w : World} {A : Around} {E : Value → Shared → Prop} {s : Shared}
theorem lt_int {a b : Int} {t u : Tok} {Q : Value → Shared → Prop} (h : Q (.bool (decide (a < b))) s) : wpAny (model prog w) A (richCompare .Lt (.int a t) (.int b u)) Q E s :=
  richCompare_gives (op := .Lt) (typeIs_int s _ t) (typeIs_int s _ u) PySem.F.slot_int_lt PySem.F.entry_int_lt (PySem.F.args_int_lt_2 _ _) (gives_int_lt _ _ t u) (fun x => nomatch x) h
/-- two items exchanged -/
theorem swap_li {h : Heap} {a : Addr} {vs : List Value} {ns : List Int} {n i j : Nat} {x y : Int} {t u : Tok} (ho : h.get? a = some (seqObj "list" vs.toArray n)) (hI : IntsAre vs ns) :
    Li (h.update a (Obj.mapSeq fun xs => (xs.setIfInBounds i (.int y u)).setIfInBounds j (.int x t))) a ((vs.set i (.int y u)).set j (.int x t)) (sw ns i j x y) := by
  have e := get?_update_seq ho (fun xs => (xs.setIfInBounds i (.int y u)).setIfInBounds j (.int x t))
  rw [List.setIfInBounds_toArray, List.setIfInBounds_toArray] at e
  exact ⟨⟨_, e⟩, ints_set (ints_set hI)⟩
theorem sift_up {a : Addr} {R : Result → Shared → Prop} {res : Value} : ∀ (p : Nat) (s : Shared) (vs : List Value) (ns : List Int), Li s.heap a vs ns → ns.length ≤ 1000 → p < ns.length → Up ns p →
    (∀ (h' : Heap) (ws : List Value) (ms : List Int), IsH ms → ms.Perm ns → Li h' a ws ms → Ot s.heap h' a → R (.ok (.ret res)) { s with heap := h' }) →
    codeAny (model prog w) A (.builtin "_heapq.heapify.sift" ⟨[.ref a, .bool false, .bool false, rawInt (p : Nat), rawInt (0 : Nat), res, rawInt (-1)], []⟩) R s := by
  intro p
  induction p using Nat.strongRecOn with
  | _ p ih =>
  intro s vs ns hL hz hlt hup k
  obtain ⟨⟨n, ho⟩, hI⟩ := id hL
  refine codeAny_builtin entry_sift ?_
  rw [Around.under_plainId plain_sift _]
  wp_walk using wpAny_loadPart' ho
  simp only [Int.toNat_natCast]
  by_cases hp : p > 0
  · rw [if_pos (by simpa using hp)]
    have hx1 : ns[p]? = some ns[p] := List.getElem?_eq_getElem hlt
    have hy1 : ns[(p - 1) / 2]? = some (ns[(p - 1) / 2]'(by omega)) := List.getElem?_eq_getElem (by omega)
    generalize ns[p] = x at hx1
    generalize ns[(p - 1) / 2]'(by omega) = y at hy1
    obtain ⟨t, hx⟩ := ints_get hI hx1
    obtain ⟨u, hy⟩ := ints_get hI hy1
    have hxa : vs.toArray[p]? = some (.int x t) := by simpa using hx
    have hya : vs.toArray[(p - 1) / 2]? = some (.int y u) := by simpa using hy
    wp_step
    wp_step
    rw [hxa]
    wp_step
    wp_step
    wp_step
    rw [hya]
    wp_step
    wp_walk using wpAny_loadPart' ho, lt_int, wpAny_truthy_bool
    by_cases hc : x < y
    · rw [if_pos (decide_eq_true hc)]
      wp_walk using wpAny_loadPart' ho
      rw [hya]
      wp_step
      wp_step
      wp_step
      rw [hxa]
      wp_step
      have hvl := hI.length
      refine wpAny_updateSeq ho rfl ?_ (by rw [List.size_toArray, hvl]; exact Nat.le_of_lt (small1000 hz)) (by rw [Array.size_setIfInBounds, Array.size_setIfInBounds, List.size_toArray, hvl]; exact Nat.le_succ_of_le (Nat.le_of_lt (small1000 hz)))
      wp_walk
      refine ⟨plainId_quiet plain_sift _, ?_⟩
      have hL2 := swap_li (i := (p - 1) / 2) (j := p) (x := y) (y := x) (t := u) (u := t) ho hI
      refine ih ((p - 1) / 2) (by omega) _ _ _ hL2 (by rw [sw_len]; exact hz) (by rw [sw_len]; omega) (up_step hup hp hx1 hy1 hc) fun h' ws ms q1 q2 q3 q4 => ?_
      exact k h' ws ms q1 (q2.trans (sw_perm hy1 hx1)) q3 ((Ot.up _ _ _).trans q4)
    · rw [if_neg (by rw [decide_eq_false hc]; exact Bool.false_ne_true)]
      wp_walk
      exact k s.heap vs ns (up_done hup hx1 hy1 hc) (List.Perm.refl _) hL (Ot.refl _ _)
  · rw [if_neg (by simpa using hp)]
    have e : p = 0 := by omega
    subst e
    wp_walk
    exact k s.heap vs ns (up_zero hup) (List.Perm.refl _) hL (Ot.refl _ _)
end
end LH

namespace LH
open PySem PySem.Spec PyProof.Rows L2
open AutoSeq1 (wpAny_loadPart')
section
variable {prog : Program} {w : World} {A : Around} {E : Value → Shared → Prop} {s : Shared}
theorem sift_down {a : Addr} {R : Result → Shared → Prop} {res : Value} : ∀ (d p : Nat) (s : Shared) (vs : List Value) (ns : List Int), ns.length - p ≤ d → Li s.heap a vs ns → ns.length ≤ 1000 → p < ns.length → Dn ns p →
    (∀ (h' : Heap) (ws : List Value) (ms : List Int), IsH ms → ms.Perm ns → Li h' a ws ms → Ot s.heap h' a → R (.ok (.ret res)) { s with heap := h' }) →
    codeAny (model prog w) A (.builtin "_heapq.heapify.sift" ⟨[.ref a, .bool false, .bool true, rawInt (p : Nat), rawInt (0 : Nat), res, rawInt (-1)], []⟩) R s := by
  intro d
  induction d with
  | zero => intro p s vs ns hd _ _ hlt; omega
  | succ d ih =>
  intro p s vs ns hd hL hz hlt hdn k
  obtain ⟨⟨n, ho⟩, hI⟩ := id hL
  have hvl := hI.length
  have hsz : vs.toArray.size = ns.length := by rw [List.size_toArray, hvl]
  refine codeAny_builtin entry_sift ?_
  rw [Around.under_plainId plain_sift _]
  wp_walk using wpAny_loadPart' ho
  simp only [Int.toNat_natCast]
  by_cases hp : p < vs.toArray.size / 2
  · rw [if_pos hp]
    rw [hsz] at hp
    have hx1 : ns[p]? = some ns[p] := List.getElem?_eq_getElem hlt
    have hl1 : ns[2 * p + 1]? = some (ns[2 * p + 1]'(by omega)) := List.getElem?_eq_getElem (by omega)
    generalize ns[p] = x at hx1
    generalize ns[2 * p + 1]'(by omega) = y at hl1
    obtain ⟨t, hx⟩ := ints_get hI hx1
    obtain ⟨u, hy⟩ := ints_get hI hl1
    have hxa : vs.toArray[p]? = some (.int x t) := by simpa using hx
    have hya : vs.toArray[2 * p + 1]? = some (.int y u) := by simpa using hy
    by_cases hr : 2 * p + 1 + 1 < vs.toArray.size
    · rw [if_pos hr]
      rw [hsz] at hr
      have hr1 : ns[2 * p + 1 + 1]? = some (ns[2 * p + 1 + 1]'(by omega)) := List.getElem?_eq_getElem (by omega)
      generalize ns[2 * p + 1 + 1]'(by omega) = z at hr1
      obtain ⟨v, hz1⟩ := ints_get hI hr1
      have hz2a : vs.toArray[2 * p + 1 + 1]? = some (.int z v) := by simpa using hz1
      wp_step
      wp_step
      rw [hya]
      wp_step
      wp_step
      wp_step
      rw [hz2a]
      wp_step
      wp_walk using wpAny_loadPart' ho, lt_int, wpAny_truthy_bool
      by_cases hc : y < z
      · rw [decide_eq_true hc]
        wp_walk using wpAny_loadPart' ho
        rw [hya]
        wp_step
        wp_step
        wp_step
        rw [hxa]
        wp_step
        refine wpAny_updateSeq ho rfl ?_ (by rw [hsz]; exact Nat.le_of_lt (small1000 hz)) (by rw [Array.size_setIfInBounds, Array.size_setIfInBounds, hsz]; exact Nat.le_succ_of_le (Nat.le_of_lt (small1000 hz)))
        wp_walk
        refine ⟨plainId_quiet plain_sift _, ?_⟩
        have hL2 := swap_li (i := 2 * p + 1) (j := p) (x := y) (y := x) (t := u) (u := t) ho hI
        refine ih (2 * p + 1) _ _ _ (by rw [sw_len]; omega) hL2 (by rw [sw_len]; exact hz) (by rw [sw_len]; omega) (dn_step hdn (by omega) (by omega) hx1 hl1 (fun i b h0 hi hb => ?_)) fun h' ws ms q1 q2 q3 q4 => k h' ws ms q1 (q2.trans (sw_perm hl1 hx1)) q3 ((Ot.up _ _ _).trans q4)
        rcases (show i = 2 * p + 1 ∨ i = 2 * p + 1 + 1 by omega) with e | e
        · subst e; rw [hl1] at hb; cases hb; exact Int.le_refl _
        · subst e; rw [hr1] at hb; cases hb; omega
      · rw [decide_eq_false hc]
        wp_walk using wpAny_loadPart' ho
        rw [hz2a]
        wp_step
        wp_step
        wp_step
        rw [hxa]
        wp_step
        refine wpAny_updateSeq ho rfl ?_ (by rw [hsz]; exact Nat.le_of_lt (small1000 hz)) (by rw [Array.size_setIfInBounds, Array.size_setIfInBounds, hsz]; exact Nat.le_succ_of_le (Nat.le_of_lt (small1000 hz)))
        wp_walk
        refine ⟨plainId_quiet plain_sift _, ?_⟩
        have hL2 := swap_li (i := 2 * p + 1 + 1) (j := p) (x := z) (y := x) (t := v) (u := t) ho hI
        refine ih (2 * p + 1 + 1) _ _ _ (by rw [sw_len]; omega) hL2 (by rw [sw_len]; exact hz) (by rw [sw_len]; omega) (dn_step hdn (by omega) (by omega) hx1 hr1 (fun i b h0 hi hb => ?_)) fun h' ws ms q1 q2 q3 q4 => k h' ws ms q1 (q2.trans (sw_perm hr1 hx1)) q3 ((Ot.up _ _ _).trans q4)
        rcases (show i = 2 * p + 1 ∨ i = 2 * p + 1 + 1 by omega) with e | e
        · subst e; rw [hl1] at hb; cases hb; omega
        · subst e; rw [hr1] at hb; cases hb; exact Int.le_refl _
    · rw [if_neg hr]
      rw [hsz] at hr
      wp_walk using wpAny_loadPart' ho
      rw [hya]
      wp_step
      wp_step
      wp_step
      rw [hxa]
      wp_step
      refine wpAny_updateSeq ho rfl ?_ (by rw [hsz]; exact Nat.le_of_lt (small1000 hz)) (by rw [Array.size_setIfInBounds, Array.size_setIfInBounds, hsz]; exact Nat.le_succ_of_le (Nat.le_of_lt (small1000 hz)))
      wp_walk
      refine ⟨plainId_quiet plain_sift _, ?_⟩
      have hL2 := swap_li (i := 2 * p + 1) (j := p) (x := y) (y := x) (t := u) (u := t) ho hI
      refine ih (2 * p + 1) _ _ _ (by rw [sw_len]; omega) hL2 (by rw [sw_len]; exact hz) (by rw [sw_len]; omega) (dn_step hdn (by omega) (by omega) hx1 hl1 (fun i b h0 hi hb => ?_)) fun h' ws ms q1 q2 q3 q4 => k h' ws ms q1 (q2.trans (sw_perm hl1 hx1)) q3 ((Ot.up _ _ _).trans q4)
      have hlt2 := (List.getElem?_eq_some_iff.mp hb).1
      have e : i = 2 * p + 1 := by omega
      subst e; rw [hl1] at hb; cases hb; exact Int.le_refl _
  · rw [if_neg hp]
    rw [hsz] at hp
    wp_walk
    refine ⟨plainId_quiet plain_sift _, ?_⟩
    exact sift_up p s vs ns hL hz hlt (dn_leaf hdn (by omega)) k
end
end LH

namespace LH
open PySem PySem.Spec PyProof.Rows L2
open AutoSeq1 (wpAny_loadPart')
section
variable {prog : Program} {w : World} {A : Around} {E : Value → Shared → Prop} {s : Shared}
theorem push_li {h : Heap} {a : Addr} {vs : List Value} {ns : List Int} {n : Nat} {x : Int} {t : Tok} (ho : h.get? a = some (seqObj "list" vs.toArray n)) (hI : IntsAre vs ns) :
    Li (h.update a (Obj.mapSeq fun xs => xs.push (.int x t))) a (vs ++ [.int x t]) (ns ++ [x]) := by
  have e := get?_update_seq ho (fun xs => xs.push (.int x t))
  rw [List.push_toArray] at e
  exact ⟨⟨_, e⟩, ints_app hI (.cons x t .nil)⟩
theorem call_push {a : Addr} {vs : List Value} {ns : List Int} {x : Int} {t : Tok} {Q : Value → Shared → Prop} (hL : Li s.heap a vs ns) (hz : ns.length < 1000) (hH : IsH ns)
    (k : ∀ (h' : Heap) (ws : List Value) (ms : List Int), IsH ms → ms.Perm (ns ++ [x]) → Li h' a ws ms → Ot s.heap h' a → Q .none { s with heap := h' }) :
    wpAny (model prog w) A (call (.builtin "_heapq.heappush") [.ref a, .int x t]) Q E s := by
  obtain ⟨⟨n, ho⟩, hI⟩ := id hL
  have hvl := hI.length
  have hT : s.TypeIs (.ref a) "list" := ⟨_, ho, rfl⟩
  have hsub := sub_list_self
  refine call_function_tree kind_push plain_push entry_push (args_push _ _) ?_
  have U : ∀ {Q : Unit → Shared → Prop}, Q () { s with heap := s.heap.update a (Obj.mapSeq fun xs => xs.push (.int x t)) } → wpAny (model prog w) A.in1 (updateSeq a fun xs => xs.push (.int x t)) Q E s :=
    fun h => wpAny_updateSeq ho rfl h (by rw [List.size_toArray, hvl]; exact Nat.le_of_lt (small1000 (by omega))) (by rw [Array.size_push, List.size_toArray, hvl]; exact Nat.le_of_lt (Nat.lt_succ_of_lt (small1000 (by omega))))
  have hL2 := push_li (x := x) (t := t) ho hI
  obtain ⟨⟨n2, ho2⟩, hI2⟩ := id hL2
  have hOt := Ot.up s.heap a (Obj.mapSeq fun xs => xs.push (.int x t))
  generalize s.heap.update a (Obj.mapSeq fun xs => xs.push (.int x t)) = h2 at U hL2 ho2 hOt
  wp_walk using wpAny_typeOf hT, U, wpAny_loadPart' ho2
  refine ⟨plainId_quiet plain_sift _, ?_⟩
  have e : (vs ++ [Value.int x t]).toArray.size - 1 = ns.length := by rw [List.size_toArray, List.length_append, hvl]; rfl
  rw [e]
  exact sift_up ns.length { s with heap := h2 } _ _ hL2 (by rw [List.length_append]; exact hz) (by rw [List.length_append]; exact Nat.lt_succ_self _) (up_push hH) fun h' ws ms q1 q2 q3 q4 => k h' ws ms q1 q2 q3 (hOt.trans q4)
theorem ints_split {vs : List Value} : ∀ {ms ks : List Int}, IntsAre vs (ms ++ ks) → ∃ us ws, vs = us ++ ws ∧ IntsAre us ms ∧ IntsAre ws ks
  | [], ks, h => ⟨[], vs, rfl, .nil, h⟩
  | m :: ms, ks, h => by
    cases h with
    | cons n t r =>
      obtain ⟨us, ws, e, h1, h2⟩ := ints_split r
      exact ⟨.int m t :: us, ws, by rw [e]; rfl, .cons m t h1, h2⟩
theorem call_pop1 {a : Addr} {vs : List Value} {m : Int} {Q : Value → Shared → Prop} (hL : Li s.heap a vs [m])
    (k : ∀ (h' : Heap) (t : Tok), Li h' a [] [] → Ot s.heap h' a → Q (.int m t) { s with heap := h' }) :
    wpAny (model prog w) A (call (.builtin "_heapq.heappop") [.ref a]) Q E s := by
  obtain ⟨⟨n, ho⟩, hI⟩ := id hL
  have hT : s.TypeIs (.ref a) "list" := ⟨_, ho, rfl⟩
  have hsub := sub_list_self
  cases hI with
  | cons _ t r =>
    cases r
    have U : ∀ {Q : Unit → Shared → Prop}, Q () { s with heap := s.heap.update a (Obj.mapSeq fun xs => xs.pop) } → wpAny (model prog w) A.in1 (updateSeq a fun xs => xs.pop) Q E s :=
      fun h => wpAny_updateSeq ho rfl h (by show 1 ≤ sizeLine; decide) (by show 0 ≤ sizeLine + 1; exact Nat.zero_le _)
    have e := get?_update_seq ho (fun xs => xs.pop)
    have hOt := Ot.up s.heap a (Obj.mapSeq fun xs => xs.pop)
    generalize s.heap.update a (Obj.mapSeq fun xs => xs.pop) = h2 at U e hOt
    have hL2 : Li h2 a [] [] := ⟨⟨_, e⟩, .nil⟩
    refine call_function_tree kind_pop plain_pop entry_pop (args_pop _) ?_
    wp_walk using wpAny_typeOf hT, U, wpAny_loadPart' ho
    exact k h2 t hL2 hOt
theorem call_pop2 {a : Addr} {vs : List Value} {f last : Int} {mid : List Int} {Q : Value → Shared → Prop} (hL : Li s.heap a vs (f :: (mid ++ [last]))) (hz : mid.length < 900) (hH : IsH (f :: (mid ++ [last])))
    (k : ∀ (h' : Heap) (t : Tok) (ws : List Value) (ms : List Int), IsH ms → ms.Perm (last :: mid) → Li h' a ws ms → Ot s.heap h' a → Q (.int f t) { s with heap := h' }) :
    wpAny (model prog w) A (call (.builtin "_heapq.heappop") [.ref a]) Q E s := by
  obtain ⟨⟨n, ho⟩, hI⟩ := id hL
  have hT : s.TypeIs (.ref a) "list" := ⟨_, ho, rfl⟩
  have hsub := sub_list_self
  cases hI with
  | cons _ t r =>
    obtain ⟨um, ul, rfl, hm, hl⟩ := ints_split r
    cases hl with
    | cons _ t2 r2 =>
      cases r2
      have hml := hm.length
      have U : ∀ {Q : Unit → Shared → Prop}, Q () { s with heap := s.heap.update a (Obj.mapSeq fun xs => xs.pop) } → wpAny (model prog w) A.in1 (updateSeq a fun xs => xs.pop) Q E s :=
        fun h => wpAny_updateSeq ho rfl h (by simp only [List.size_toArray, List.length_cons, List.length_append, List.length_nil]; exact Nat.le_of_lt (small1000 (by omega))) (by rw [Array.size_pop]; simp only [List.size_toArray, List.length_cons, List.length_append, List.length_nil]; exact Nat.le_succ_of_le (Nat.le_of_lt (small1000 (by omega))))
      have e := get?_update_seq ho (fun xs => xs.pop)
      have hOt := Ot.up s.heap a (Obj.mapSeq fun xs => xs.pop)
      generalize s.heap.update a (Obj.mapSeq fun xs => xs.pop) = h2 at U e hOt
      refine call_function_tree kind_pop plain_pop entry_pop (args_pop _) ?_
      wp_walk using wpAny_typeOf hT, U, wpAny_loadPart' ho
      have hb : (Value.int f t :: (um ++ [Value.int last t2])).toArray.back? = some (.int last t2) := by
        show ((Value.int f t :: um) ++ [Value.int last t2]).toArray.back? = _
        simp only [List.back?_toArray, List.getLast?_concat]
      rw [hb]
      have ep : (Value.int f t :: (um ++ [Value.int last t2])).toArray.pop = (Value.int f t :: um).toArray := by
        show ((Value.int f t :: um) ++ [Value.int last t2]).toArray.pop = _
        simp only [List.pop_toArray, List.dropLast_concat]
      rw [ep] at e
      wp_step
      wp_step
      refine U ?_
      rw [if_neg (by simp)]
      wp_step
      wp_step
      show wpAny _ _ (pure (Value.int f t)) _ _ _
      wp_step
      have U2 : ∀ {Q : Unit → Shared → Prop}, Q () { s with heap := h2.update a (Obj.mapSeq fun xs => xs.setIfInBounds 0 (.int last t2)) } → wpAny (model prog w) A.in1 (updateSeq a fun xs => xs.setIfInBounds 0 (.int last t2)) Q E { s with heap := h2 } :=
        fun h => wpAny_updateSeq e rfl h (by simp only [List.size_toArray, List.length_cons]; exact Nat.le_of_lt (small1000 (by omega))) (by rw [Array.size_setIfInBounds]; simp only [List.size_toArray, List.length_cons]; exact Nat.le_succ_of_le (Nat.le_of_lt (small1000 (by omega))))
      have e2 := get?_update_seq e (fun xs => xs.setIfInBounds 0 (.int last t2))
      rw [List.setIfInBounds_toArray] at e2
      have hOt2 := hOt.trans (Ot.up h2 a (Obj.mapSeq fun xs => xs.setIfInBounds 0 (.int last t2)))
      generalize h2.update a (Obj.mapSeq fun xs => xs.setIfInBounds 0 (.int last t2)) = h3 at U2 e2 hOt2
      wp_walk using U2
      refine ⟨plainId_quiet plain_sift _, ?_⟩
      exact sift_down (last :: mid).length 0 { s with heap := h3 } (.int last t2 :: um) (last :: mid) (by omega) ⟨⟨_, e2⟩, .cons last t2 hm⟩ (by simp only [List.length_cons]; omega) (by simp) (dn_pop hH) fun h' ws ms q1 q2 q3 q4 => k h' t ws ms q1 q2 q3 (hOt2.trans q4)
end
/-! ### the rules -/
/-- heappush(xs, x), ints in heap order -/
def rPush : List V → Hp → VK → Prop := fun vs H Q => ∃ (a : Addr) (ns : List Int) (x : Int), vs = [.ref a, .int x] ∧ H a = some (.lst (ns.map V.int)) ∧ IsH ns ∧ ns.length < 900 ∧
  ∀ ms : List Int, ms.Perm (ns ++ [x]) → IsH ms → Q .non (upd H a (.lst (ms.map V.int)))
/-- heappop(xs), ints in heap order, at least one -/
def rPop : List V → Hp → VK → Prop := fun vs H Q => ∃ (a : Addr) (ns : List Int), vs = [.ref a] ∧ H a = some (.lst (ns.map V.int)) ∧ IsH ns ∧ ns ≠ [] ∧ ns.length < 900 ∧
  ∀ (m : Int) (ms : List Int), (m :: ms).Perm ns → (∀ x ∈ ns, m ≤ x) → IsH ms → Q (.int m) (upd H a (.lst (ms.map V.int)))
section
variable {X : Cx}
theorem li_of {P : Program} {w : World} {H : Hp} {h : Heap} {a : Addr} {ns : List Int} (x : ObjOk P w H h a (.lst (ns.map V.int))) : ∃ vs, Li h a vs ns := by
  obtain ⟨_, its, n, rv, hob⟩ := x
  exact ⟨its, ⟨n, hob⟩, rv.ints⟩
theorem cr_push : CallR X (.builtin "_heapq.heappush") rPush := by
  intro pins s σ H vs us Q I r h
  obtain ⟨a, ns, x, rfl, ha, hH, hz, q⟩ := h
  obtain ⟨u1, u2, rfl, r1, r2⟩ := vals2 r
  cases r1
  obtain ⟨t, rfl⟩ := r2
  obtain ⟨ws, hL⟩ := li_of (I.hok a _ ha)
  refine call_push hL (by omega) hH fun h' us ms h1 h2 h3 h4 => ?_
  obtain ⟨⟨n, hn⟩, hI⟩ := id h3
  have hlen : (ms.map V.int).length ≤ sizeLine := by rw [List.length_map, h2.length_eq, List.length_append]; exact Nat.le_of_lt (small1000 (by show ns.length + 1 ≤ 1000; omega))
  exact ⟨.non, upd H a (.lst (ms.map V.int)), I.write (e := a) (t' := s.toks) (by rw [ha]; trivial) (.inl rfl) (fun b u hb hu => (h4.2 b hb).trans hu) ⟨_, hn⟩ ⟨hlen, us, n, vals_of_ints hI, hn⟩, rfl, q ms h2 h1⟩
theorem cr_pop : CallR X (.builtin "_heapq.heappop") rPop := by
  intro pins s σ H vs us Q I r h
  obtain ⟨a, ns, rfl, ha, hH, hne, hz, q⟩ := h
  rw [Vals.ref1 r]
  obtain ⟨ws, hL⟩ := li_of (I.hok a _ ha)
  have fin : ∀ (m : Int) (t : Tok) (h' : Heap) (us : List Value) (ms : List Int), (m :: ms).Perm ns → (∀ x ∈ ns, m ≤ x) → IsH ms → Li h' a us ms → Ot s.heap h' a → EP X pins σ Q (.int m t) { s with heap := h' } := by
    intro m t h' us ms h1 hmin h2 h3 h4
    obtain ⟨⟨n, hn⟩, hI⟩ := id h3
    have hl := h1.length_eq
    rw [List.length_cons] at hl
    have hlen : (ms.map V.int).length ≤ sizeLine := by rw [List.length_map]; exact Nat.le_of_lt (small1000 (by omega))
    exact ⟨.int m, upd H a (.lst (ms.map V.int)), I.write (e := a) (t' := s.toks) (by rw [ha]; trivial) (.inl rfl) (fun b u hb hu => (h4.2 b hb).trans hu) ⟨_, hn⟩ ⟨hlen, us, n, vals_of_ints hI, hn⟩, ⟨t, rfl⟩, q m ms h1 hmin h2⟩
  have hmin : ∀ f r, ns = f :: r → ∀ x ∈ ns, f ≤ x := fun f r e x hx => by
    obtain ⟨i, hi⟩ := List.mem_iff_getElem?.mp hx
    exact heap_min hH (by rw [e]; rfl) i x hi
  match ns, hne, hL, hH, hmin, hz with
  | [m], _, hL, hH, hmin, hz => exact call_pop1 hL fun h' t h1 h2 => fin m t h' [] [] (List.Perm.refl _) (hmin m [] rfl) heap_nil h1 h2
  | f :: b :: r, _, hL, hH, hmin, hz =>
    obtain ⟨mid, last, e⟩ : ∃ mid last, b :: r = mid ++ [last] := ⟨(b :: r).dropLast, (b :: r).getLast (by simp), (List.dropLast_concat_getLast (by simp)).symm⟩
    rw [e] at hL hH hmin hz ha fin q
    refine call_pop2 hL (by simp only [List.length_cons, List.length_append, List.length_nil] at hz; omega) hH fun h' t ws ms h1 h2 h3 h4 => ?_
    refine fin f t h' ws ms ?_ (hmin f _ rfl) h1 h3 h4
    exact (h2.trans ((List.perm_append_singleton last mid).symm)).cons f
end
end LH

namespace LT
open PySem PySem.Spec PyProof.Rows L2
/-- sorted(d), d a dict by ints: its keys in a new list -/
def rSortedK : List V → Hp → VK → Prop := fun vs H Q => ∃ (a : Addr) (kvs : List (Key × V)) (ks : List Int), vs = [.ref a] ∧ Rd H a (.dK kvs) ∧ kvs.map (·.1) = ks.map Sum.inl ∧ ks.length ≤ 1000 ∧
  ∀ (ys : List Int) (p : Addr), ys.Perm ks → ys.Pairwise (· ≤ ·) → H p = none → Q (.ref p) (upd H p (.lst (ys.map V.int)))
theorem cr_sortedK {X : Cx} (hcalm : X.calm = true) : CallR X (.builtin "sorted") rSortedK := by
  intro pins s σ H vs us Q I r want
  obtain ⟨a, kvs, ks, rfl, hd, hks, hz, q⟩ := want
  rw [Vals.ref1 r]
  obtain ⟨z, lo, es, rel, dd⟩ := dk_rd I.hok hd
  obtain ⟨ep, hat⟩ := dd.dictAt
  have keys : es.map (·.1) = ks.map Sum.inl := rel.keys.symm.trans hks
  have len : es.length = ks.length := by simpa using congrArg List.length keys
  have fits : ks.length ≤ sizeLine := Nat.le_of_lt (small1000 hz)
  refine Calls.call_function_entry kind_sorted plain_sorted entry_sorted (args_sorted1 _) ?_
  unfold Builtin.«sorted»
  refine wpAny_bind (m := checkCount "sorted" 1 1 _) (wpAny_pure ?_)
  refine wpAny_bind (PySem.W.kdu_collect (A := X.A.in1) (PySem.W.kdl_dict (knd := mixKind X.prog X.w) (kvs := es) (ep := ep) lo) (I.ok.hd hcalm) hat (by rw [len]; exact fits) fun h1 tk acc kept items => ?_)
  have al : acc.toList.length = ks.length := by rw [Array.length_toList, items.1, len]
  have hints : IntsAre acc.toList ks := ints_each al fun j v e => by
    obtain ⟨k, x, e1, e2⟩ := items.2 j v (by rw [← Array.getElem?_toList]; exact e)
    have e3 : (ks.map (Sum.inl (β := Str)))[j]? = some k := by rw [← keys, List.getElem?_map, e1]; rfl
    rw [List.getElem?_map] at e3
    cases e4 : ks[j]? with
    | none => rw [e4] at e3; cases e3
    | some y =>
      rw [e4] at e3
      cases e3
      rcases keyIs_shape (show keyIs (Sum.inl y) v = true from e2) with ⟨i, t, ek, ev⟩ | ⟨w, t, ek, ev⟩
      · cases ek; exact ⟨y, t, rfl, ev⟩
      · cases ek
  have I1 : Inv X pins σ H { s with heap := h1, toks := tk } := I.kept kept
  refine wpAny_bind (wpAny_newList ?_ (by rw [al]; exact fits))
  have at1 : (h1.push (seqObj "list" acc.toList.toArray 0)).get? h1.objs.size = some (seqObj "list" acc.toList.toArray 0) := Heap.get?_push_size _ rfl
  show wpAny _ _ _ _ _ { s with heap := h1.push (seqObj "list" acc.toList.toArray 0), toks := tk }
  refine wpAny_bind (wpAny_holding (wpAny_call_entry slot_list_sort ⟨_, at1, rfl⟩ entry_list_sort (SrtO.list_sort_ord (s := { s with heap := h1.push (seqObj "list" acc.toList.toArray 0), toks := tk }) SrtO.swo_int at1 (by rw [al]; exact fits) (fun h2 => SrtO.ints_sortable hints h2) fun out g1 g2 => ⟨_, rfl, ?_⟩) (args_list_sort _)))
  obtain ⟨k1, k2, k3⟩ := SrtO.ints_out hints g1 g2
  obtain ⟨e', he⟩ := sortedHeap_at (vs := acc.toList) (out := out.toArray) at1
  have hlen : ((out.map SrtO.iv).map V.int).length ≤ sizeLine := by rw [List.length_map, k2.length_eq]; exact fits
  refine wpAny_pure ⟨_, rfl, .ref h1.objs.size, upd H h1.objs.size (.lst ((out.map SrtO.iv).map V.int)), I1.laid (t' := tk) (fun b u e => ?_) (Nat.le_refl _)
    (show ObjOk X.prog X.w _ _ _ (.lst ((out.map SrtO.iv).map V.int)) from ⟨hlen, out, e', vals_of_ints k1, he⟩), rfl, q _ _ k2 k3 (I1.hok.fresh (Nat.le_refl _))⟩
  have lt : b < h1.objs.size := Heap.lt_size e
  rw [sortedHeap_old (Nat.ne_of_lt lt) (by rw [size_push']; exact Nat.lt_succ_of_lt lt)]
  exact Heap.get?_push_of_some _ e
end LT

namespace LC
open PySem PySem.Spec PyProof.Rows
open Sem (wp)
theorem mro_co : mroOf (.type "itertools.combinations") = pure [.type "itertools.combinations", .type "object"] := by rw [mroOf_type]; kernel_rfl
theorem look_co : typeLookup (.type "itertools.combinations") "__new__" = pure (some (.builtin "itertools.combinations.__new__")) := by rw [typeLookup_type, builtinLookup_eq_fast]; kernel_rfl
theorem init_co : Slot "itertools.combinations" "__init__" "object.__init__" :=
  .of (owner := "object") (n := "__init__") (by rw [typeLookup_type, builtinLookup_eq_fast]; kernel_rfl) (by decide +kernel) (by decide +kernel) (by decide +kernel) (by first | exact .inl (by decide +kernel) | exact .inr (by decide +kernel)) (by rw [isSubtype_type]; kernel_rfl)
theorem self_co : isSubtype (.type "itertools.combinations") (.type "itertools.combinations") = pure true := by rw [isSubtype_type]; kernel_rfl
theorem called_co : TypeCalled "itertools.combinations" "itertools.combinations.__new__" "object.__init__" :=
  ⟨by decide +kernel, by decide +kernel, ⟨_, _, mro_co⟩, madeBy_type mro_co look_co (by decide +kernel), by decide +kernel, self_co, init_co⟩
theorem tcall_co (a b : Value) : checkTypeCall "itertools.combinations" ⟨[a, b], []⟩ = pure () := by kernel_rfl
theorem ncall_co (a b : Value) : checkBuiltinCall "itertools.combinations.__new__" ⟨[.type "itertools.combinations", a, b], []⟩ = pure () := by kernel_rfl
theorem enew_co : entryFor table "itertools.combinations.__new__" = some Builtin.«itertools.combinations.__new__» := entryFor_of_tree (by kernel_rfl)
theorem siter_co : Slot "itertools.combinations" "__iter__" "itertools.combinations.__iter__" :=
  .of (owner := "itertools.combinations") (n := "__iter__") (by rw [typeLookup_type, builtinLookup_eq_fast]; kernel_rfl) (by decide +kernel) (by decide +kernel) (by decide +kernel) (by first | exact .inl (by decide +kernel) | exact .inr (by decide +kernel)) self_co
theorem snext_co : Slot "itertools.combinations" "__next__" "itertools.combinations.__next__" :=
  .of (owner := "itertools.combinations") (n := "__next__") (by rw [typeLookup_type, builtinLookup_eq_fast]; kernel_rfl) (by decide +kernel) (by decide +kernel) (by decide +kernel) (by first | exact .inl (by decide +kernel) | exact .inr (by decide +kernel)) self_co
theorem eiter_co : entryFor table "itertools.combinations.__iter__" = some Builtin.«dict_keyiterator.__iter__» :=
  entryFor_alias (id' := "dict_keyiterator.__iter__") (by kernel_rfl) (by first | rfl | decide +kernel | (unfold String.splitOn; simp +decide [String.splitOnAux])) (by decide +kernel) (by kernel_rfl)
theorem enext_co : entryFor table "itertools.combinations.__next__" = some Builtin.«itertools.combinations.__next__» := entryFor_of_tree (by kernel_rfl)
theorem owner_co : Manifest.owners.lookup (String.ofList "itertools.combinations".toList) = some Manifest.sig_itertools_combinations := by kernel_rfl
theorem aiter_co (a : Value) : argsOk "itertools.combinations.__iter__" ⟨[a], []⟩ := by unfold argsOk; kernel_rfl
theorem anext_co (a : Value) : argsOk "itertools.combinations.__next__" ⟨[a], []⟩ := by unfold argsOk; kernel_rfl
theorem nodict_co : typeHasDict (.type "itertools.combinations") = false := by decide +kernel
theorem self_co2 : isSubtype (.type "itertools.combinations") (.type ("itertools." ++ "combinations")) = pure true := by
  rw [show ("itertools." ++ "combinations" : String) = "itertools.combinations" by decide]; exact self_co
end LC

namespace LC
open PySem PySem.Spec PyProof.Rows
open Sem (wp)
/-- a walk over pairs: the pool, the state, what was handed out, the two indices -/
def coObj (p : Addr) (st : Int) (old : Value) (i j : Nat) : Obj := { cls := .type "itertools.combinations", data := .fields #[.ref p, rawInt st, old, rawInt i, rawInt j] }
theorem meets_co (l : Addr) (T : String) (o : Obj) (its : Array Value) (n : Nat) (t : Tok) (hT : T = "list" ∨ T = "tuple") (hc : o.cls = .type T) (hd : o.data = .seq its n) (hz : its.size ≤ 1000) :
    Meets (Builtin.«itertools.combinations.__new__» ⟨[.type "itertools.combinations", .ref l, .int 2 t], []⟩)
      (fun _ R s => s.heap.get? l = some o ∧ ∀ h1 : Heap, s.heap.objs.size ≤ h1.objs.size → (∀ b u, s.heap.get? b = some u → h1.get? b = some u) →
        R (.ok (.ret (.ref (h1.objs.size + 1)))) { s with heap := (h1.push { cls := .type "tuple", data := .seq its.toList.toArray }).push (coObj h1.objs.size (if 2 > its.toList.length then 2 else 0) .none 0 1) }) :=
  .of_wp fun prog w A R s h => by
    obtain ⟨hp, g, dd, tk, os⟩ := s
    obtain ⟨ho, h⟩ := h
    have hsub := self_co
    have hsub2 := self_co2
    have hnd := nodict_co
    repeat (first
      | (with_reducible refine LT.gather (s := ⟨hp, g, dd, tk, os⟩) l hT ho hc hd (Nat.le_of_lt (L2.small1000 hz)) fun h1 z1 k1 => ?_)
      | (with_reducible refine wpAny_newTuple ?_ (by rw [Array.length_toList]; exact Nat.le_of_lt (L2.small1000 hz)))
      | wp_step
      | simp only [List.head?_cons, Option.some_or, List.getElem?_cons_succ, List.getElem?_cons_zero, List.length_cons, List.length_nil, List.forIn_nil])
    have z := h h1 z1 k1
    refine ⟨_, rfl, ?_⟩
    rw [Heap.size_push]
    exact z
section
variable {prog : Program} {w : World} {A : Around} {E : Value → Shared → Prop} {s : Shared}
theorem call_co {l : Addr} {T : String} {o : Obj} {its : Array Value} {n : Nat} {t : Tok} {Q : Value → Shared → Prop} (hT : T = "list" ∨ T = "tuple") (ho : s.heap.get? l = some o) (hc : o.cls = .type T) (hd : o.data = .seq its n) (hz : its.size ≤ 1000)
    (k : ∀ (h' : Heap) (p : Addr), s.heap.objs.size ≤ p → h'.get? (p + 1) = some (coObj p (if 2 > its.toList.length then 2 else 0) .none 0 1) → h'.get? p = some { cls := .type "tuple", data := .seq its.toList.toArray } → (∀ b u, s.heap.get? b = some u → h'.get? b = some u) → Q (.ref (p + 1)) { s with heap := h' }) :
    wpAny (model prog w) A (call (.type "itertools.combinations") [.ref l, .int 2 t]) Q E s := by
  refine callType_new called_co (by decide +kernel) (tcall_co _ _) (ncall_co _ _) (fun obj => PySem.F.args_object_init_3 obj _ _) enew_co (meets_co l T o its n t hT hc hd hz) ⟨ho, fun h1 z1 k1 => ?_⟩
  have e1 : ((h1.push { cls := .type "tuple", data := .seq its.toList.toArray }).push (coObj h1.objs.size (if 2 > its.toList.length then 2 else 0) .none 0 1)).get? (h1.objs.size + 1) = some (coObj h1.objs.size (if 2 > its.toList.length then 2 else 0) .none 0 1) := by
    have := Heap.get?_push_size (h1.push { cls := .type "tuple", data := .seq its.toList.toArray }) (o := coObj h1.objs.size (if 2 > its.toList.length then 2 else 0) .none 0 1) rfl
    rwa [Heap.size_push] at this
  have e2 : ((h1.push { cls := .type "tuple", data := .seq its.toList.toArray }).push (coObj h1.objs.size (if 2 > its.toList.length then 2 else 0) .none 0 1)).get? h1.objs.size = some { cls := .type "tuple", data := .seq its.toList.toArray } :=
    Heap.get?_push_of_some _ (Heap.get?_push_size _ rfl)
  exact ⟨⟨_, e1, rfl⟩, k _ h1.objs.size z1 e1 e2 fun b u q => Heap.get?_push_of_some _ (Heap.get?_push_of_some _ (k1 b u q))⟩
theorem iter_co {c p : Addr} {st : Int} {old : Value} {i j : Nat} {Q : Value → Shared → Prop} (hit : s.heap.get? c = some (coObj p st old i j)) (h : Q (.ref c) s) : wpAny (model prog w) A (pyIter (.ref c)) Q E s := by
  have hT : s.TypeIs (.ref c) "itertools.combinations" := ⟨_, hit, rfl⟩
  refine wpAny_pyIter_slot hT siter_co (wpAny_call_entry siter_co hT eiter_co ?_ (aiter_co _))
  show wpAny _ _ (ret (.ref c)) _ _ s
  exact wpAny_pure ⟨_, rfl, "itertools.combinations", _, hT, snext_co.lookup, h⟩
end
end LC

namespace LC
open PySem PySem.Spec PyProof.Rows
open Sem (wp)
open AutoSeq1 (wpAny_loadPart')
/-- only the object at c is other than it was, and new ones -/
def Oc (h h' : Heap) (c : Addr) : Prop := h.objs.size ≤ h'.objs.size ∧ ∀ b u, b ≠ c → h.get? b = some u → h'.get? b = some u
section
variable {prog : Program} {w : World} {A : Around} {E : Value → Shared → Prop} {s : Shared}
theorem next_first {c p : Addr} {its : Array Value} {n : Nat} {Q : Option Value → Shared → Prop} (hit : s.heap.get? c = some (coObj p 0 .none 0 1)) (hp : s.heap.get? p = some { cls := .type "tuple", data := .seq its n }) (hpc : p ≠ c)
    (k : ∀ (h' : Heap) (T : Addr), s.heap.objs.size ≤ T → h'.get? T = some { cls := .type "tuple", data := .seq #[its.getD 0 .none, its.getD 1 .none] } → h'.get? c = some (coObj p 1 (.ref T) 0 1) → (∀ b u, b ≠ c → s.heap.get? b = some u → h'.get? b = some u) → Q (some (.ref T)) { s with heap := h' }) :
    wpAny (model prog w) A (pyNext (.ref c)) Q E s := by
  have hT : s.TypeIs (.ref c) "itertools.combinations" := ⟨_, hit, rfl⟩
  unfold pyNext
  refine wpAny_bind (wpAny_attempt (wpAny_callSpecial?_slot (name := Str.ofString "__next__") hT snext_co (wpAny_call_entry snext_co hT enext_co ?_ (anext_co _))))
  wp_walk using wpAny_loadPart' hit, wpAny_loadPart' hp
  have e1 : (s.heap.update c (Obj.mapFields fun x => x.setIfInBounds 1 (rawInt 1))).get? c = some (coObj p 1 .none 0 1) := Heap.get?_update_self _ hit rfl
  have e2 := (Heap.get?_update_ne _ _ _ (Obj.mapFields fun x => x.setIfInBounds 1 (rawInt 1)) hpc).trans hp
  have e3 : ∀ b u, b ≠ c → s.heap.get? b = some u → (s.heap.update c (Obj.mapFields fun x => x.setIfInBounds 1 (rawInt 1))).get? b = some u := fun b u hb hu => (Heap.get?_update_ne _ _ _ _ hb).trans hu
  have e4 : (s.heap.update c (Obj.mapFields fun x => x.setIfInBounds 1 (rawInt 1))).objs.size = s.heap.objs.size := Heap.size_update ..
  generalize s.heap.update c (Obj.mapFields fun x => x.setIfInBounds 1 (rawInt 1)) = h2 at e1 e2 e3 e4
  wp_walk using wpAny_loadPart' e2
  have f1 := fun o => Heap.get?_push_of_some o e1
  refine ⟨_, rfl, wpAny_pure ?_⟩
  have lt := Heap.lt_size e1
  refine k _ h2.objs.size (by omega) ?_ (Heap.get?_update_self _ (f1 _) rfl) fun b u hb hu => ?_
  · exact (Heap.get?_update_ne _ _ _ _ (Nat.ne_of_gt lt)).trans (Heap.get?_push_size _ rfl)
  · exact (Heap.get?_update_ne _ _ _ _ hb).trans (Heap.get?_push_of_some _ (e3 b u hb hu))
end
end LC

namespace LC
open PySem PySem.Spec PyProof.Rows
open Sem (wp)
open AutoSeq1 (wpAny_loadPart')
/-- the pair of indices behind (i, j), as the walk finds it -/
def nx (n i j : Nat) : Option (List Nat) :=
  match (List.range 2).reverse.find? (fun k => [i, j].getD k 0 != k + n - 2) with
  | none => none
  | some k => some ([i, j].take k ++ (List.range (2 - k)).map fun m => [i, j].getD k 0 + 1 + m)
theorem nx_a {n i j : Nat} (h : j + 1 < n) : nx n i j = some [i, j + 1] := by
  have e : (List.range 2).reverse = [1, 0] := by decide
  unfold nx
  rw [e, List.find?_cons_of_pos (by simp; omega)]
  rfl
theorem nx_b {n i j : Nat} (h : j + 1 = n) (h2 : i + 2 < n) : nx n i j = some [i + 1, i + 2] := by
  have e : (List.range 2).reverse = [1, 0] := by decide
  unfold nx
  rw [e, List.find?_cons_of_neg (by simp; omega), List.find?_cons_of_pos (by simp; omega)]
  rfl
theorem nx_c {n i j : Nat} (h : j + 1 = n) (h2 : i + 2 = n) : nx n i j = none := by
  have e : (List.range 2).reverse = [1, 0] := by decide
  unfold nx
  rw [e, List.find?_cons_of_neg (by simp; omega), List.find?_cons_of_neg (by simp; omega)]
  rfl
section
variable {prog : Program} {w : World} {A : Around} {E : Value → Shared → Prop} {s : Shared}
theorem next_more {c p : Addr} {its : Array Value} {n i j i2 j2 : Nat} {old : Value} {Q : Option Value → Shared → Prop} (hit : s.heap.get? c = some (coObj p 1 old i j)) (hp : s.heap.get? p = some { cls := .type "tuple", data := .seq its n }) (hpc : p ≠ c) (hn : nx its.size i j = some [i2, j2])
    (k : ∀ (h' : Heap) (T : Addr), s.heap.objs.size ≤ T → h'.get? T = some { cls := .type "tuple", data := .seq #[its.getD i2 .none, its.getD j2 .none] } → h'.get? c = some (coObj p 1 (.ref T) i2 j2) → (∀ b u, b ≠ c → s.heap.get? b = some u → h'.get? b = some u) → Q (some (.ref T)) { s with heap := h' }) :
    wpAny (model prog w) A (pyNext (.ref c)) Q E s := by
  have hT : s.TypeIs (.ref c) "itertools.combinations" := ⟨_, hit, rfl⟩
  unfold pyNext
  refine wpAny_bind (wpAny_attempt (wpAny_callSpecial?_slot (name := Str.ofString "__next__") hT snext_co (wpAny_call_entry snext_co hT enext_co ?_ (anext_co _))))
  wp_walk using wpAny_loadPart' hit, wpAny_loadPart' hp
  split
  · rename_i nxt he
    change nx its.size i j = some nxt at he
    rw [hn] at he
    cases he
    have e1 : (s.heap.update c (Obj.mapFields fun fs => fs.extract 0 3 ++ (List.map (fun (n : Nat) => rawInt n) [i2, j2]).toArray)).get? c = some (coObj p 1 old i2 j2) := (Heap.get?_update_self _ hit rfl).trans (by simp [coObj, Obj.mapFields])
    have e2 := (Heap.get?_update_ne _ _ _ (Obj.mapFields fun fs => fs.extract 0 3 ++ (List.map (fun (n : Nat) => rawInt n) [i2, j2]).toArray) hpc).trans hp
    have e3 : ∀ b u, b ≠ c → s.heap.get? b = some u → (s.heap.update c (Obj.mapFields fun fs => fs.extract 0 3 ++ (List.map (fun (n : Nat) => rawInt n) [i2, j2]).toArray)).get? b = some u := fun b u hb hu => (Heap.get?_update_ne _ _ _ _ hb).trans hu
    have e4 : (s.heap.update c (Obj.mapFields fun fs => fs.extract 0 3 ++ (List.map (fun (n : Nat) => rawInt n) [i2, j2]).toArray)).objs.size = s.heap.objs.size := Heap.size_update ..
    wp_step
    wp_step
    wp_step
    refine wpAny_bind (wpAny_load hit ?_)
    show wpAny _ _ (update c (Obj.mapFields fun fs => fs.extract 0 3 ++ (List.map (fun (n : Nat) => rawInt n) [i2, j2]).toArray) >>= fun _ => lookBehind c) _ _ _
    wp_step
    with_reducible apply wpAny_update'
    · exact hit
    generalize s.heap.update c (Obj.mapFields fun fs => fs.extract 0 3 ++ (List.map (fun (n : Nat) => rawInt n) [i2, j2]).toArray) = h2 at e1 e2 e3 e4 ⊢
    wp_walk using wpAny_loadPart' e1, wpAny_loadPart' e2
    refine ⟨_, rfl, wpAny_pure ?_⟩
    have lt := Heap.lt_size e1
    have f1 := fun o => Heap.get?_push_of_some o e1
    refine k _ h2.objs.size (by omega) ?_ (Heap.get?_update_self _ (f1 _) rfl) fun b u hb hu => ?_
    · exact (Heap.get?_update_ne _ _ _ _ (Nat.ne_of_gt lt)).trans (Heap.get?_push_size _ rfl)
    · exact (Heap.get?_update_ne _ _ _ _ hb).trans (Heap.get?_push_of_some _ (e3 b u hb hu))
  · rename_i he
    change nx its.size i j = none at he
    rw [hn] at he
    cases he
theorem next_none {c p : Addr} {its : Array Value} {n i j : Nat} {old : Value} {Q : Option Value → Shared → Prop} (hh : A.handled = none) (hit : s.heap.get? c = some (coObj p 1 old i j)) (hp : s.heap.get? p = some { cls := .type "tuple", data := .seq its n }) (hpc : p ≠ c) (hn : nx its.size i j = none)
    (k : ∀ h' : Heap, s.heap.objs.size ≤ h'.objs.size → (∀ b u, b ≠ c → s.heap.get? b = some u → h'.get? b = some u) → Q none { s with heap := h' }) :
    wpAny (model prog w) A (pyNext (.ref c)) Q E s := by
  have hT : s.TypeIs (.ref c) "itertools.combinations" := ⟨_, hit, rfl⟩
  have hh1 : A.in1.handled = none := hh
  unfold pyNext
  refine wpAny_bind (wpAny_attempt (wpAny_callSpecial?_slot (name := Str.ofString "__next__") hT snext_co (wpAny_call_entry snext_co hT enext_co ?_ (anext_co _))))
  wp_walk using wpAny_loadPart' hit, wpAny_loadPart' hp
  split
  · rename_i nxt he
    change nx its.size i j = some nxt at he
    rw [hn] at he
    cases he
  · wp_walk using wpAny_loadPart' hit
    simp only [raiseNew]
    refine wpAny_bind (wpAny_handled ?_)
    rw [hh1]
    refine wpAny_bind (wpAny_pure (wpAny_throw ?_))
    refine wpAny_bind (wpAny_isInstance (T := "StopIteration") (b := true) ⟨_, Heap.get?_push_size _ rfl, rfl⟩ isSubtype_stop ?_)
    refine wpAny_pure (k _ (by simp only [Heap.size_push, Heap.size_update]; omega) fun b u hb hu => Heap.get?_push_of_some _ (Heap.get?_push_of_some _ ((Heap.get?_update_ne _ _ _ _ hb).trans hu)))
theorem next_over {c p : Addr} {i j : Nat} {old : Value} {Q : Option Value → Shared → Prop} (hh : A.handled = none) (hit : s.heap.get? c = some (coObj p 2 old i j))
    (k : ∀ h' : Heap, s.heap.objs.size ≤ h'.objs.size → (∀ b u, b ≠ c → s.heap.get? b = some u → h'.get? b = some u) → Q none { s with heap := h' }) :
    wpAny (model prog w) A (pyNext (.ref c)) Q E s := by
  have hT : s.TypeIs (.ref c) "itertools.combinations" := ⟨_, hit, rfl⟩
  have hh1 : A.in1.handled = none := hh
  unfold pyNext
  refine wpAny_bind (wpAny_attempt (wpAny_callSpecial?_slot (name := Str.ofString "__next__") hT snext_co (wpAny_call_entry snext_co hT enext_co ?_ (anext_co _))))
  wp_walk using wpAny_loadPart' hit
  simp only [raiseNew]
  refine wpAny_bind (wpAny_handled ?_)
  rw [hh1]
  refine wpAny_bind (wpAny_pure (wpAny_throw ?_))
  refine wpAny_bind (wpAny_isInstance (T := "StopIteration") (b := true) ⟨_, Heap.get?_push_size _ rfl, rfl⟩ isSubtype_stop ?_)
  refine wpAny_pure (k _ (by simp only [Heap.size_push, Heap.size_update]; omega) fun b u hb hu => Heap.get?_push_of_some _ (Heap.get?_push_of_some _ hu))
end
end LC

namespace LC
open PySem PySem.Spec PyProof.Rows L2
/-! ### the pairs, in their order -/
def nxp (n : Nat) (q : Nat × Nat) : Option (Nat × Nat) := if q.2 + 1 < n then some (q.1, q.2 + 1) else if q.1 + 2 < n then some (q.1 + 1, q.1 + 2) else none
def gop (n : Nat) : Nat → Nat × Nat → List (Nat × Nat)
  | 0, _ => []
  | f + 1, q => q :: match nxp n q with
    | none => []
    | some r => gop n f r
def prs (n : Nat) : List (Nat × Nat) := if n < 2 then [] else gop n (n * n + 1) (0, 1)
def mu (n : Nat) (q : Nat × Nat) : Nat := (n - q.1) * n - q.2
theorem nxp_ok {n : Nat} {q r : Nat × Nat} (h1 : q.1 < q.2) (h2 : q.2 < n) (h : nxp n q = some r) : r.1 < r.2 ∧ r.2 < n ∧ mu n r < mu n q := by
  unfold nxp at h
  have e : n ≤ (n - q.1) * n := Nat.le_mul_of_pos_left n (by omega)
  split at h
  · cases h
    refine ⟨by show q.1 < q.2 + 1; omega, by assumption, ?_⟩
    show (n - q.1) * n - (q.2 + 1) < (n - q.1) * n - q.2
    omega
  · split at h
    · cases h
      refine ⟨by show q.1 + 1 < q.1 + 2; omega, by assumption, ?_⟩
      show (n - (q.1 + 1)) * n - (q.1 + 2) < (n - q.1) * n - q.2
      have e2 : (n - q.1) * n = (n - (q.1 + 1)) * n + n := by
        rw [show n - q.1 = (n - (q.1 + 1)) + 1 by omega, Nat.add_mul, Nat.one_mul]
      omega
    · cases h
theorem gop_step {n : Nat} : ∀ (f : Nat) (q : Nat × Nat), q.1 < q.2 → q.2 < n → mu n q < f → ∀ (k : Nat) (r : Nat × Nat), (gop n f q)[k]? = some r → r.1 < r.2 ∧ r.2 < n ∧ (gop n f q)[k + 1]? = nxp n r
  | 0, q, _, _, h, _, _, _ => by omega
  | f + 1, q, h1, h2, h, k, r, hk => by
    cases e : nxp n q with
    | none =>
      have eg : gop n (f + 1) q = [q] := by rw [gop, e]
      rw [eg] at hk ⊢
      cases k with
      | zero => cases hk; exact ⟨h1, h2, by rw [e]; rfl⟩
      | succ k => simp at hk
    | some u =>
      obtain ⟨a, b, c⟩ := nxp_ok h1 h2 e
      have eg : gop n (f + 1) q = q :: gop n f u := by rw [gop, e]
      rw [eg] at hk ⊢
      cases k with
      | zero =>
        cases hk
        refine ⟨h1, h2, ?_⟩
        rw [e]
        show (gop n f u)[0]? = some u
        cases f with
        | zero => omega
        | succ f => rw [gop]; rfl
      | succ k => exact gop_step f u a b (by omega) k r hk
theorem prs_zero {n : Nat} (h : 2 ≤ n) : (prs n)[0]? = some (0, 1) := by
  unfold prs
  rw [if_neg (by omega), gop]; rfl
theorem prs_step {n k : Nat} {r : Nat × Nat} (h : (prs n)[k]? = some r) : r.1 < r.2 ∧ r.2 < n ∧ (prs n)[k + 1]? = nxp n r := by
  unfold prs at h ⊢
  by_cases c : n < 2
  · rw [if_pos c] at h; simp at h
  · rw [if_neg c] at h ⊢
    refine gop_step _ _ (by decide) (by show 1 < n; omega) ?_ k r h
    show (n - 0) * n - 1 < n * n + 1
    rw [Nat.sub_zero]; omega
theorem nx_of {n : Nat} {q r : Nat × Nat} (h1 : q.1 < q.2) (h2 : q.2 < n) (h : nxp n q = some r) : nx n q.1 q.2 = some [r.1, r.2] := by
  unfold nxp at h
  split at h
  · cases h; exact nx_a (by assumption)
  · split at h
    · cases h; exact nx_b (by omega) (by assumption)
    · cases h
theorem nx_of_none {n : Nat} {q : Nat × Nat} (h1 : q.1 < q.2) (h2 : q.2 < n) (h : nxp n q = none) : nx n q.1 q.2 = none := by
  unfold nxp at h
  split at h
  · cases h
  · split at h
    · cases h
    · exact nx_c (by omega) (by omega)
/-! ### the walk -/
/-- the pairs of the items xs, in their order, as new tuples -/
def Ico (xs : List V) : It :=
  ⟨fun k _ => k < (prs xs.length).length,
    fun k H v H' => ∃ (T : Addr) (q : Nat × Nat) (x y : V), v = .ref T ∧ H T = none ∧ H' = upd H T (.tup [x, y]) ∧ (prs xs.length)[k]? = some q ∧ xs[q.1]? = some x ∧ xs[q.2]? = some y,
    fun k _ => k = (prs xs.length).length⟩
def coSt (c p : Addr) (its : List Value) (k : Nat) (h : Heap) : Prop :=
  h.get? p = some { cls := .type "tuple", data := .seq its.toArray } ∧
    ((k = 0 ∧ h.get? c = some (coObj p (if 2 > its.length then 2 else 0) .none 0 1)) ∨ ∃ old q, 0 < k ∧ (prs its.length)[k - 1]? = some q ∧ h.get? c = some (coObj p 1 old q.1 q.2))
theorem coSt.c {c p : Addr} {its : List Value} {k : Nat} {h : Heap} (s : coSt c p its k h) : ∃ st old i j, h.get? c = some (coObj p st old i j) := by
  rcases s.2 with ⟨_, e⟩ | ⟨old, q, _, _, e⟩
  · exact ⟨_, _, _, _, e⟩
  · exact ⟨_, _, _, _, e⟩
theorem turn_co {P : Program} {w : World} {K : PySem.W.Frag} {tg : Expr} {c p : Addr} {xs : List V} {its : List Value} (rv : Vals xs its) (hpc : p ≠ c) :
    Turn P w K tg (Ico xs) [c, p] c (coSt c p its) where
  mem := List.mem_cons_self
  obj := fun k h st b hb => by
    rcases List.mem_cons.mp hb with rfl | hb
    · obtain ⟨_, _, _, _, e⟩ := st.c
      exact ⟨_, e, fun v q => by cases q⟩
    · rw [List.mem_singleton.mp hb]; exact ⟨_, st.1, fun v q => by cases q⟩
  keep := fun k h h' st kp => by
    refine ⟨kp p (by simp) _ st.1, ?_⟩
    rcases st.2 with ⟨k0, e⟩ | ⟨old, q, k0, e1, e⟩
    · exact .inl ⟨k0, kp c (by simp) _ e⟩
    · exact .inr ⟨old, q, k0, e1, kp c (by simp) _ e⟩
  item := by
    intro X hP hw hK hc k pins s σ H E I hf st hk
    subst hP hw hK
    replace hk : k < (prs xs.length).length := hk
    have hl := rv.length
    obtain ⟨q, hq⟩ : ∃ q, (prs xs.length)[k]? = some q := ⟨_, List.getElem?_eq_getElem hk⟩
    obtain ⟨q1, q2, _⟩ := prs_step hq
    have hx := List.getElem?_eq_getElem (l := xs) (i := q.1) (by omega)
    have hy := List.getElem?_eq_getElem (l := xs) (i := q.2) (by omega)
    obtain ⟨u, hu, ru⟩ := rv.get hx
    obtain ⟨v, hv, rv2⟩ := rv.get hy
    have hfc : ∀ b ∈ [c], FpOk X pins H b := fun b hb => hf b (by simp at hb; simp [hb])
    have fin : ∀ (h' : Heap) (T : Addr), s.heap.objs.size ≤ T → h'.get? T = some { cls := .type "tuple", data := .seq #[its.toArray.getD q.1 .none, its.toArray.getD q.2 .none] } → h'.get? c = some (coObj p 1 (.ref T) q.1 q.2) → (∀ b u, b ≠ c → s.heap.get? b = some u → h'.get? b = some u) →
        (∃ u, (some (Value.ref T)) = some u ∧ wpAny (model X.prog X.w) X.A (letOwnedTupleGo tg (.ref c) u) (fun _ s2 => ∃ x H', Inv X pins σ H' s2 ∧ RelV x u ∧ (Ico xs).yld k H x H' ∧ coSt c p its (k + 1) s2.heap ∧ ∀ b ∈ [c, p], H' b = none) E { s with heap := h' }) := by
      intro h' T hT eT ec kp
      refine ⟨_, rfl, go_of ec rfl rfl (by decide) ?_⟩
      have e1 : its.toArray.getD q.1 .none = u := by simp [hu]
      have e2 : its.toArray.getD q.2 .none = v := by simp [hv]
      rw [e1, e2] at eT
      have ob : ObjOk X.prog X.w (upd H T (.tup [xs[q.1]'(by omega), xs[q.2]'(by omega)])) h' T (.tup [xs[q.1]'(by omega), xs[q.2]'(by omega)]) :=
        ⟨by show 2 ≤ sizeLine; decide, [u, v], .cons ru (.cons rv2 .nil), ⟨_, eT, rfl, _, rfl⟩⟩
      have hTn := I.hok.fresh hT
      refine ⟨.ref T, _, I.turnedNew (ch := [c]) (t' := s.toks) (fun b o nb e => kp b o (fun z => nb (by simp [z])) e) hfc hT ob, rfl, ⟨T, q, _, _, rfl, hTn, rfl, hq, hx, hy⟩, ⟨kp p _ hpc st.1, .inr ⟨_, q, Nat.succ_pos k, by rw [Nat.add_sub_cancel, ← hl]; exact hq, ec⟩⟩, fun b hb => ?_⟩
      have lt : b < s.heap.objs.size := by
        rcases List.mem_cons.mp hb with rfl | hb
        · obtain ⟨_, _, _, _, e⟩ := st.c; exact Heap.lt_size e
        · rw [List.mem_singleton.mp hb]; exact Heap.lt_size st.1
      rw [upd_ne (Nat.ne_of_lt (Nat.lt_of_lt_of_le lt hT))]
      exact (hf b hb).1
    rcases st.2 with ⟨rfl, e⟩ | ⟨old, q0, k0, e1, e⟩
    · have hn : 2 ≤ its.length := by
        rw [← hl]
        rcases Nat.lt_or_ge xs.length 2 with z | z
        · unfold prs at hk; rw [if_pos z] at hk; simp at hk
        · exact z
      rw [if_neg (by omega)] at e
      have e0 := prs_zero (n := xs.length) (by omega)
      rw [hq] at e0
      cases e0
      exact next_first e st.1 hpc fun h' T hT eT ec kp => fin h' T hT eT ec kp
    · obtain ⟨a1, a2, a3⟩ := prs_step e1
      rw [← hl, show k - 1 + 1 = k by omega] at a3
      have hn : nxp xs.length q0 = some q := a3.symm.trans hq
      refine next_more e st.1 hpc (i2 := q.1) (j2 := q.2) ?_ fun h' T hT eT ec kp => fin h' T hT eT ec kp
      rw [List.size_toArray, ← hl]
      exact nx_of a1 (by omega) hn
  done := by
    intro X hP hw hK hc k pins s σ H E I hf st hk
    subst hP hw hK
    replace hk : k = (prs xs.length).length := hk
    have hl := rv.length
    have hfc : ∀ b ∈ [c], FpOk X pins H b := fun b hb => hf b (by simp at hb; simp [hb])
    have hh : X.A.handled = none := I.ok.hd hc
    rcases st.2 with ⟨rfl, e⟩ | ⟨old, q0, k0, e1, e⟩
    · have hn : 2 > its.length := by
        rw [← hl]
        rcases Nat.lt_or_ge xs.length 2 with z | z
        · exact z
        · have := (List.getElem?_eq_some_iff.mp (prs_zero z)).1; omega
      rw [if_pos hn] at e
      exact next_over hh e fun h' _ kp => ⟨rfl, I.turnedL (ch := [c]) (t' := s.toks) (fun b o nb q => kp b o (fun z => nb (by simp [z])) q) hfc⟩
    · obtain ⟨a1, a2, a3⟩ := prs_step e1
      rw [← hl, show k - 1 + 1 = k by omega, hk, List.getElem?_eq_none (Nat.le_refl _)] at a3
      exact next_none hh e st.1 hpc (by rw [List.size_toArray, ← hl]; exact nx_of_none a1 (by omega) a3.symm) fun h' _ kp => ⟨rfl, I.turnedL (ch := [c]) (t' := s.toks) (fun b o nb q => kp b o (fun z => nb (by simp [z])) q) hfc⟩
  self := fun A k s Q E st h => by
    obtain ⟨_, _, _, _, e⟩ := st.c
    exact iter_co e h
def iCo (K : PySem.W.Frag) (ta : TA) : TI := fun σ H R => ta σ H fun vs H1 => ∃ a xs, vs = [.ref a, .int 2] ∧ SqL K H1 a xs ∧ xs.length ≤ 1000 ∧ R (Ico xs) H1
theorem pi_co {X : Cx} {x : Str} {e e2 tg : Expr} {ta : TA} {p pos : Pos} (hg : Gl X x) (hm : X.mg x = some (.type "itertools.combinations")) (ha : PA X [e, e2] ta) (hdb : (x == ("__debug__" : Str)) = false := by decide)
    (hs : starEach [e, e2] X.env = (false, eval e X.env) :: starEach [e2] X.env := by rfl) (hpl : (backTo pos (starEach [e2] X.env)).any (·.1) = false := by rfl) :
    PI X tg (.Call (.Name x p) [e, e2] [] pos) (iCo X.K ta) := by
  constructor
  intro pins s σ H R I want
  refine wpAny_Call_Name_kw (ld_glob I hg hm ?_ hdb)
  refine PyProof.Rows.callWith_type1 (thn (ha.run pos pins s σ H _ I want) ?_) hs hpl
  rintro us s1 ⟨vs, H1, J, rel, a, xs, rfl, qx, hz, q⟩
  obtain ⟨u1, u2, rfl, r1, r2⟩ := vals2 rel
  cases r1
  obtain ⟨t, rfl⟩ := r2
  obtain ⟨its, rv, p1, _⟩ := J.list qx
  have hl := rv.length
  obtain ⟨o, ho, hc, n, hd⟩ := p1.isList
  refine call_co (.inl rfl) ho hc hd (by rw [List.size_toArray, ← hl]; exact hz) fun h' pp hpp e1 e2 kp => iter_co e1 ?_
  have J2 : Inv X pins σ H1 { s1 with heap := h' } := J.kept (t' := s1.toks) kp
  refine ⟨pp + 1, [pp + 1, pp], _, _, H1, rfl, J2, turn_co rv (Nat.ne_of_lt (Nat.lt_succ_self pp)), ⟨by simpa using e2, .inl ⟨rfl, by simpa using e1⟩⟩, fun b hb => ?_, q⟩
  have le : s1.heap.objs.size ≤ b := by
    rcases List.mem_cons.mp hb with rfl | hb
    · omega
    · rw [List.mem_singleton.mp hb]; exact hpp
  exact J.fpOk le (J.hok.fresh le)
theorem walk_co {xs : List V} : Walk (Ico xs) (prs xs.length).length (fun _ => True) (fun k H v H' => ∃ (T : Addr) (q : Nat × Nat) (x y : V), v = .ref T ∧ H T = none ∧ H' = upd H T (.tup [x, y]) ∧ (prs xs.length)[k]? = some q ∧ xs[q.1]? = some x ∧ xs[q.2]? = some y) :=
  ⟨fun _ _ h _ => h, fun _ _ => rfl, fun _ _ _ _ _ _ y => y⟩
end LC

namespace LX
open PySem PySem.Spec PyProof.Rows L2
/-! ### a sign, n times -/
def repS (c : Nat) (n : Int) : Str := ⟨Array.replicate n.toNat c⟩
theorem rep_fold (c : Nat) : ∀ (k : Nat) (a : Array Nat), (List.replicate k #[c]).foldl (· ++ ·) a = a ++ Array.replicate k c
  | 0, a => by simp
  | k + 1, a => by
    rw [List.replicate_succ, List.foldl_cons, rep_fold c k]
    apply Array.toList_inj.mp
    simp [List.replicate_succ]
theorem op_mulS {X : Cx} : OpR X (binaryOp .Mult) (fun x y H Q => ∃ (c : Nat) (n : Int), x = .str ⟨#[c]⟩ ∧ y = .int n ∧ -1000 ≤ n ∧ n ≤ 1000 ∧ Q (.str (repS c n)) H) := by
  intro pins s σ H x y v u Q I rx ry h
  obtain ⟨c, n, rfl, rfl, h0, h1, q⟩ := h
  obtain ⟨t, rfl⟩ := rx
  obtain ⟨t', rfl⟩ := ry
  have el : (⟨#[c]⟩ : Str).length = 1 := rfl
  refine P.mul_str (by
      have a1 : ¬ n < -(2 ^ 63 : Int) := by omega
      have a2 : ¬ n ≥ 2 ^ 63 := by omega
      rw [decide_eq_false a1, decide_eq_false a2]; rfl) (fun g1 _ g3 => ?_) (fun g1 _ => ?_) ?_
  · rw [el] at g3
    have : (1 : Int) ≤ (2 ^ 63 - 1) / n := by
      rw [Int.le_ediv_iff_mul_le (by omega)]; omega
    have g4 : ((1 : Nat) : Int) > (2 ^ 63 - 1) / n := g3
    omega
  · rw [el]
    refine decide_eq_false ?_
    have : n.toNat ≤ 1000 := by omega
    intro q2
    have q3 : 1 * n.toNat > 1000 := Nat.lt_of_lt_of_le (by decide +kernel) (Nat.le_of_lt q2)
    omega
  · by_cases g1 : n < 1
    · rw [if_pos g1]
      have e : repS c n = Str.empty := by
        unfold repS
        rw [show n.toNat = 0 by omega]; rfl
      rw [e] at q
      exact ⟨by decide, ⟨.str Str.empty, H, I.tok _, ⟨_, rfl⟩, q⟩⟩
    · rw [if_neg g1]
      by_cases g2 : n = 1
      · subst g2
        rw [if_pos (by rfl)]
        exact ⟨.str ⟨#[c]⟩, H, I, ⟨_, rfl⟩, q⟩
      · rw [if_neg (by
          rw [el]
          have : (n == 1) = false := by rw [beq_eq_false_iff_ne]; exact g2
          rw [this]; decide)]
        have e : (⟨(List.replicate n.toNat (⟨#[c]⟩ : Str).cps).foldl (· ++ ·) #[]⟩ : Str) = repS c n := by
          unfold repS
          rw [show (⟨#[c]⟩ : Str).cps = #[c] from rfl, rep_fold]
          simp
        rw [e]
        refine ⟨?_, ⟨.str _, H, I.tok _, ⟨_, rfl⟩, q⟩⟩
        show (repS c n).length ≤ sizeLine
        show (Array.replicate n.toNat c).size ≤ sizeLine
        rw [Array.size_replicate]
        exact Nat.le_trans (show n.toNat ≤ 1000 by omega) (by decide +kernel)
end LX

namespace LX
open PySem PySem.Spec PyProof.Rows L2
/-! ### t[::-1] of a tuple -/
theorem applied_rev {prog : Program} {w : World} {A : Around} {E : Value → Shared → Prop} {s : Shared} {sl : Addr} {vl vu vs : Value} {n : Nat} {Q : Int × Int × Nat → Shared → Prop} (hs : s.heap.IsSliceOf sl vl vu vs) (pl : IsPart vl none) (pu : IsPart vu none) (ps : IsPart vs (some (-1)))
    (h : Q ((n : Int) - 1, -1, n) s) : wpAny (model prog w) A (Builtin.Slice.sliceApplied (.ref sl) (pure (n : Int))) Q E s := by
  obtain ⟨os, hos, hcs, hds⟩ := id hs
  unfold Builtin.Slice.sliceApplied Builtin.Slice.sliceFields
  refine wpAny_bind (wpAny_bind (wpAny_field hos hds (x := vl) rfl (wpAny_bind (wpAny_field hos hds (x := vu) rfl (wpAny_bind (wpAny_field hos hds (x := vs) rfl (wpAny_pure ?_)))))))
  refine wpAny_bind (HT.slicePart_ ps ?_)
  show wpAny _ _ (if ((-1 : Int) == 0) = true then _ else _) _ _ s
  rw [if_neg (by decide)]
  refine wpAny_bind (HT.slicePart_ pl (wpAny_bind (HT.slicePart_ pu (wpAny_bind (wpAny_pure ?_)))))
  show wpAny _ _ (match Builtin.Slice.sliceAdjust none none (-1) (n : Int) with | (lo, hi) => pure (lo, (-1 : Int), Builtin.Slice.slicePlaces lo hi (-1))) _ _ s
  have e : Builtin.Slice.sliceAdjust none none (-1) (n : Int) = ((n : Int) - 1, -1) := by
    unfold Builtin.Slice.sliceAdjust
    simp
  rw [e]
  have e2 : Builtin.Slice.slicePlaces ((n : Int) - 1) (-1) (-1) = n := by
    unfold Builtin.Slice.slicePlaces
    by_cases z : n = 0
    · subst z; rfl
    · rw [if_neg (by decide), if_pos (by omega), show (n : Int) - 1 - -1 - 1 = (n : Int) - 1 by omega, show (- -1 : Int) = 1 by decide, Int.ediv_one]
      omega
  show wpAny _ _ (pure ((n : Int) - 1, (-1 : Int), Builtin.Slice.slicePlaces ((n : Int) - 1) (-1) (-1))) _ _ s
  rw [e2]
  exact wpAny_pure h
theorem fmc {α β : Type} {f g : α → Option β} : ∀ {l : List α}, (∀ a ∈ l, f a = g a) → l.filterMap f = l.filterMap g
  | [], _ => rfl
  | a :: r, h => by rw [List.filterMap_cons, List.filterMap_cons, h a List.mem_cons_self, fmc fun b hb => h b (List.mem_cons_of_mem _ hb)]
theorem pick_rev (xs : Array Value) : ((List.range xs.size).filterMap fun (m : Nat) => xs[((xs.size : Int) - 1 + (m : Int) * (-1)).toNat]?).toArray = xs.toList.reverse.toArray := by
  have e := PySem.W.krv_pick xs
  unfold slicePick at e
  rw [PySem.W.krv_bounds] at e
  rw [← e]
  show _ = ((sliceRange ((xs.size : Int) - 1) (-1) (-1)).filterMap (xs[·]?)).toArray
  rw [PySem.W.krv_sliceRange, List.filterMap_map]
  congr 1
  refine fmc fun m hm => ?_
  have := List.mem_range.mp hm
  show _ = xs[xs.size - 1 - m]?
  congr 1
  omega
theorem getItem_tuple_rev {prog : Program} {w : World} {A : Around} {E : Value → Shared → Prop} {s : Shared} {t sl : Addr} {items : Array Value} {vl vu vs : Value} {Q : Value → Shared → Prop} (ht : IsTup s.heap t items) (hs : s.heap.IsSliceOf sl vl vu vs) (pl : IsPart vl none) (pu : IsPart vu none) (ps : IsPart vs (some (-1)))
    (h : Q (.ref s.heap.objs.size) { s with heap := s.heap.push { cls := .type "tuple", data := .seq items.toList.reverse.toArray } })
    (hsz : items.size ≤ sizeLine) : wpAny (model prog w) A (getItem (.ref t) (.ref sl)) Q E s := by
  have htake : sizeOk (.seq items.toList.reverse.toArray) := by
    show items.toList.reverse.toArray.size ≤ sizeLine
    rw [List.size_toArray, List.length_reverse, Array.length_toList]
    exact hsz
  obtain ⟨os, hos, hcs, hds⟩ := id hs
  have hTs : s.TypeIs (.ref sl) "slice" := ⟨os, hos, hcs⟩
  unfold getItem
  try with_reducible refine wpAny_holding ?_
  first | refine wpAny_bind (wpAny_pure ?_) | skip
  refine wpAny_bind (wpAny_sequenceKey ht.typeIs (by decide) ?_)
  refine wpAny_bind (wpAny_callSpecial?_slot (name := Str.ofString "__getitem__") ht.typeIs PyProof.Rows.slot_tuple_getitem
    (wpAny_call_entry PyProof.Rows.slot_tuple_getitem ht.typeIs PyProof.Rows.entry_tuple_getitem ?_ (PyProof.Rows.args_tuple_getitem _ _)))
  show wpAny _ _ (Builtin.Tuple.tupleItemsOf (.ref t) >>= _) _ _ s
  refine wpAny_bind (tupleItemsOf_ ht ?_)
  refine wpAny_bind (wpAny_typeOf hTs ?_)
  rw [if_pos (by decide)]
  refine wpAny_bind (applied_rev hs pl pu ps ?_)
  have hno : ¬ ((((items.size : Int) - 1) == 0 && (-1 : Int) == 1 && items.size == items.size) = true) := by
    intro q
    rw [Bool.and_eq_true, Bool.and_eq_true] at q
    exact absurd q.1.2 (by decide)
  show wpAny _ _ (if (((items.size : Int) - 1) == 0 && (-1 : Int) == 1 && items.size == items.size) = true then _ else _) _ _ s
  rw [if_neg hno, pick_rev]
  first
    | exact wpAny_bind (m := Builtin.Tuple.tupleExact _) (wpAny_newObj_type (wpAny_pure ⟨_, rfl, wpAny_pure h⟩) htake)
    | exact wpAny_bind (m := Builtin.Tuple.tupleExact _) (wpAny_newObj_type (wpAny_bind (wpAny_pure (wpAny_pure ⟨_, rfl, wpAny_pure h⟩))) htake)
    | exact wpAny_bind (wpAny_bind (m := Builtin.Tuple.tupleExact _) (wpAny_newObj_type (wpAny_pure (wpAny_pure ⟨_, rfl, wpAny_pure h⟩)) htake))
    | exact wpAny_bind (wpAny_bind (m := Builtin.Tuple.tupleExact _) (wpAny_newObj_type (wpAny_pure ⟨_, rfl, wpAny_pure h⟩) htake))
def tRevT (K : PySem.W.Frag) (te : TE) : TE := fun σ H Q => te σ H fun x H1 => ∃ a xs, x = .ref a ∧ SqT K H1 a xs ∧ ∀ p, H1 p = none → Q (.ref p) (upd H1 p (.tup xs.reverse))
theorem pe_revT {X : Cx} {e : Expr} {te : TE} {k : Nat} {p1 p2 p3 pos : Pos} (he : PE X e te) : PE X (.Subscript e (.Slice none none (some (.UnaryOp .USub (.Constant (.int 1) k p1) p2)) p3) pos) (tRevT X.K te) := by
  refine ⟨fun pins s σ H Q I h => ?_⟩
  refine Subscript_ (thn (he.run pins s σ H _ I h) fun v s1 ⟨x, H1, I1, r1, q1⟩ => ?_)
  obtain ⟨a, xs, ex, hx, q⟩ := q1
  subst ex
  cases r1
  have hst : PO X (some (.UnaryOp .USub (.Constant (.int 1) k p1) p2)) (tPart (tUn (rU fun i => .int (-i)) (tC (.int 1)))) := po_some (pe_un un_neg pe_int)
  refine wpAny_Slice (thn (po_none.run pins s1 σ H1 (fun o H2 => o = none ∧ H2 = H1) I1 ⟨rfl, rfl⟩) fun vl s2 ⟨l, H2, I2, pl, el, e2⟩ => ?_)
  subst el e2
  refine thn (po_none.run pins s2 σ H2 (fun o H3 => o = none ∧ H3 = H2) I2 ⟨rfl, rfl⟩) fun vu s3 ⟨u, H3, I3, pu, eu, e3⟩ => ?_
  subst eu e3
  refine thn (hst.run pins s3 σ H3 (fun o H4 => o = some (-1) ∧ H4 = H3) I3 ⟨1, rfl, -1, rfl, rfl, rfl⟩) fun vs s4 ⟨o, H4, I4, ps, eo, e4⟩ => ?_
  subst eo e4
  have I5 : Inv X pins σ H4 { s4 with heap := s4.heap.push { cls := .type "slice", data := .fields #[vl, vu, vs] } } := I4.kept (t' := s4.toks) fun b ob q => Heap.get?_push_of_some _ q
  obtain ⟨its, r, ht, hz⟩ := I5.tuple hx
  have hlen := r.length
  show wpAny (model X.prog X.w) X.A (subscriptTail e (.Slice none none (some (.UnaryOp .USub (.Constant (.int 1) k p1) p2)) p3) (.ref a) (.ref s4.heap.objs.size)) (EP X pins σ Q) X.xe { s4 with heap := s4.heap.push { cls := .type "slice", data := .fields #[vl, vu, vs] } }
  refine tail_any (ops := [.ref a, .ref s4.heap.objs.size]) ht.typeIs (PyProof.Rows.slot_tuple_getitem.lookup) ?_ (by with_unfolding_all rfl)
  refine getItem_tuple_rev ht (Heap.IsSliceOf.new _ vl vu vs) pl pu ps ?_ (by rw [List.size_toArray]; omega)
  refine ⟨.ref _, _, I5.laid (t' := s4.toks) (o := .tup xs.reverse) (fun b ob q => Heap.get?_push_of_some _ q) (Nat.le_refl _) ?_, rfl, q _ (I5.hok.fresh (Nat.le_refl _))⟩
  exact ⟨by rw [List.length_reverse]; exact hz, _, r.reverse, IsTup.new _ _⟩
/-! ### max(xs, default=d) of a list of ints -/
def rMaxDef (K : PySem.W.Frag) : List V → List V → Hp → VK → Prop := fun vs zs H Q => ∃ (a : Addr) (ns : List Int) (d : V), vs = [.ref a] ∧ zs = [d] ∧ SqL K H a (ns.map V.int) ∧ (ns = [] → Q d H) ∧ (ns ≠ [] → ∀ m, m ∈ ns → (∀ y ∈ ns, y ≤ m) → Q (.int m) H)
theorem cr_maxDef {X : Cx} (hc : X.calm = true) : CallRK X (.builtin "max") [Str.ofString "default"] (rMaxDef X.K) := by
  intro pins s σ H vs zs us ws Q I r rz h
  obtain ⟨a, ns, d, rfl, rfl, hs, q0, q1⟩ := h
  obtain rfl := Vals.ref1 r
  obtain ⟨w1, rfl, e1⟩ := vals1 rz
  obtain ⟨its, rv, hl, _⟩ := I.list hs
  have hi := rv.ints
  have hh : X.A.handled = none := I.ok.hd hc
  obtain ⟨xs, e⟩ := hi.allInts.items
  have hn : numsOf (intItems xs).toList = ns := by rw [← e]; exact hi.numsOf
  rw [nums_intItems] at hn
  have hl2 := hl.isList
  rw [e] at hl2
  refine PySem.call_max_walkD (PySem.W.iter_listW (A := X.A.in1) hh hl2 fun s₂ e2 W st hfp hw hk => ?_)
  refine ⟨_, _, _, _, _, _, _, s.heap, (fun i j => decide (numAt xs i > numAt xs j)), rfl, W, st, hfp, hw, hk, fun hz s' m => ?_, fun hp => ⟨fun i j vi vj s3 Q3 E3 _ hi hj h3 => CmpOf.ints_gt (numAt xs) (fun _ _ => intItems_at) i j vi vj s3 Q3 E3 hi hj h3, fun v s' hP m => ?_⟩⟩
  · obtain ⟨h', tk, rfl, hk'⟩ := PySem.W.moved_old e2 rfl m
    refine ⟨d, H, I.kept hk', e1, q0 ?_⟩
    rw [← hn]
    have : xs.size = 0 := by simpa [intItems] using hz
    rw [Array.eq_empty_of_size_eq_zero this]; rfl
  · obtain ⟨h', tk, rfl, hk'⟩ := PySem.W.moved_old e2 rfl m
    have hp2 : 0 < xs.size := by simpa [intItems] using hp
    have hsz : (intItems xs).size = xs.size := by simp [intItems]
    rw [hsz] at hP
    obtain ⟨t, rfl⟩ := intItems_at hP
    obtain ⟨h1, h2⟩ := argBest_gt (numAt xs) (xs.size - 1)
    refine ⟨.int _, H, I.kept hk', ⟨_, rfl⟩, q1 ?_ _ ?_ fun y hy => ?_⟩
    · intro z
      rw [← hn] at z
      have := congrArg List.length z
      rw [List.length_map, Array.length_toList, List.length_nil] at this
      omega
    · rw [← hn, numAt_eq]; exact PySem.getD_mem (by rw [List.length_map, Array.length_toList]; omega)
    · rw [← hn] at hy
      obtain ⟨j, hj, rfl⟩ := mem_getD hy
      rw [List.length_map, Array.length_toList] at hj
      rw [← numAt_eq]; exact h2 j (by omega)
end LX

namespace LX
open PySem PySem.Spec PyProof.Rows L2
/-! ### list(zip(xs, ys)) of two lists -/
theorem nolen_zip : typeLookup (.type "zip") "__len__" = pure none := by rw [typeLookup_type, builtinLookup_eq_fast]; kernel_rfl
theorem nohint_zip : typeLookup (.type "zip") "__length_hint__" = pure none := by rw [typeLookup_type, builtinLookup_eq_fast]; kernel_rfl
def ZSt (z TI TO i1 i2 l1 l2 S : Addr) (h : Heap) (j : Nat) : Prop := IsPair h TI (.ref i1) (.ref i2) ∧ h.IsListIter i1 l1 j ∧ h.IsListIter i2 l2 j ∧
  ((IsZip h z TI TO .none ∧ ∃ a b, IsPair h TO a b) ∨ ∃ T f oT, IsZipHeld h z TI TO T f ∧ h.get? T = some oT ∧ T ≠ z ∧ T ≠ i1 ∧ T ≠ i2 ∧ T ≠ S)
theorem ZSt.at {z TI TO i1 i2 l1 l2 S : Addr} {h h' : Heap} {j : Nat} (x : ZSt z TI TO i1 i2 l1 l2 S h j) (hS : S ≠ z ∧ S ≠ TI ∧ S ≠ TO ∧ S ≠ i1 ∧ S ≠ i2) (k : ∀ b o, b ≠ S → h.get? b = some o → h'.get? b = some o) : ZSt z TI TO i1 i2 l1 l2 S h' j := by
  obtain ⟨a, b, c, d⟩ := x
  refine ⟨k _ _ hS.2.1.symm a, b.at fun o e => k _ o hS.2.2.2.1.symm e, c.at fun o e => k _ o hS.2.2.2.2.symm e, ?_⟩
  rcases d with ⟨d, u, v, e⟩ | ⟨T, f, oT, d, e, n1, n2, n3, n4⟩
  · exact .inl ⟨k _ _ hS.1.symm d, u, v, k _ _ hS.2.2.1.symm e⟩
  · exact .inr ⟨T, f, oT, k _ _ hS.1.symm d, k _ _ n4 e, n1, n2, n3, n4⟩
/-- the tuples made so far -/
def Zd (H1 H : Hp) (xs ys : List V) (Ts : List Addr) : Prop := ∀ (i : Nat) T x y, Ts[i]? = some T → xs[i]? = some x → ys[i]? = some y → H1 T = none ∧ H T = some (.tup [x, y])
section
variable {X : Cx} {pins : List (Addr × Obj)} {σ : L2.St} {z TI TO i1 i2 l1 l2 S : Addr} {H1 : Hp} {xs ys : List V} {A : Around} {R : Result → Shared → Prop} {res : Value}
theorem zip_loop (hh : A.handled = none) (D : ZipApart z TI TO i1 i2 l1 l2) (hS : S ≠ z ∧ S ≠ TI ∧ S ≠ TO ∧ S ≠ i1 ∧ S ≠ i2) (hl : xs.length = ys.length) (hz : xs.length ≤ 1000) (q1 : SqL X.K H1 l1 xs) (q2 : SqL X.K H1 l2 ys) (hS0 : H1 S = none) :
    ∀ (k j : Nat) (s : Shared) (H : Hp) (Ts : List Addr), xs.length - j = k → j ≤ xs.length → Inv X pins σ H s → (∀ b ∈ [z, TI, TO, i1, i2], FpOk X pins H b) → ZSt z TI TO i1 i2 l1 l2 S s.heap j → (∀ b ∈ [z, TI, TO, i1, i2], b < s.heap.objs.size) →
    Same H1 H → H S = some (.lst (Ts.map V.ref)) → Ts.length = j → Zd H1 H xs ys Ts →
    (∀ (s' : Shared) (H' : Hp) (Us : List Addr), Inv X pins σ H' s' → Same H1 H' → H' S = some (.lst (Us.map V.ref)) → Us.length = xs.length → Zd H1 H' xs ys Us → R (.ok (.ret res)) s') →
    codeAny (model X.prog X.w) A (.builtin "list.extend.loop" ⟨[.ref S, .ref z, res], []⟩) R s := by
  intro k
  induction k with
  | zero =>
    intro j s H Ts hk hj I hf st lt sm hHS hT zd fin
    have hj2 : j = xs.length := by omega
    obtain ⟨its, rv, p1, _⟩ := I.list (sm.seq q1)
    obtain ⟨its2, rv2, p2, _⟩ := I.list (sm.seq q2)
    have e1 := rv.length
    have hend : its.toArray[j]? = none ∨ its2.toArray[j]? = none := .inl (Array.getElem?_eq_none (by rw [List.size_toArray]; omega))
    refine codeAny_builtin F.entry_extend_loop ?_
    rw [Around.under_plainId F.plain_extend_loop _]
    show wpAny _ A.in1 (pyNext (.ref z) >>= _) _ _ s
    obtain ⟨s1, s2, s3, s4⟩ := st
    rcases s4 with ⟨g1, a, b, g2⟩ | ⟨T, f, oT, g1, g2, n1, n2, n3, n4⟩
    · refine wpAny_bind (wpAny_pyNext_zip_end (A := A.in1) hh D g1 s1 g2 s2 s3 p1.isList p2.isList hend fun h' hk' => ?_)
      refine wpAny_pure (fin _ H Ts (I.turnedL (ch := [z, TI, TO, i1, i2]) (t' := s.toks) (fun c o nb q => hk' c o (fun e => nb (by simp [e])) (fun e => nb (by simp [e])) (fun e => nb (by simp [e])) (fun e => nb (by simp [e])) q) hf) sm hHS (by omega) zd)
    · refine wpAny_bind (wpAny_pyNext_zip_end_held (A := A.in1) hh D g1 g2 s1 s2 s3 p1.isList p2.isList hend fun h' hk' => ?_)
      refine wpAny_pure (fin _ H Ts (I.turnedL (ch := [z, TI, TO, i1, i2]) (t' := s.toks) (fun c o nb q => hk' c o (fun e => nb (by simp [e])) (fun e => nb (by simp [e])) (fun e => nb (by simp [e])) q) hf) sm hHS (by omega) zd)
  | succ k ih =>
    intro j s H Ts hk hj I hf st lt sm hHS hT zd fin
    have hlt : j < xs.length := by omega
    obtain ⟨its, rv, p1, _⟩ := I.list (sm.seq q1)
    obtain ⟨its2, rv2, p2, _⟩ := I.list (sm.seq q2)
    have ex := List.getElem?_eq_getElem hlt
    have ey := List.getElem?_eq_getElem (l := ys) (i := j) (by omega)
    generalize xs[j] = x at ex
    generalize ys[j]'(by omega) = y at ey
    obtain ⟨u, hu, ru⟩ := rv.get ex
    obtain ⟨u2, hu2, ru2⟩ := rv2.get ey
    have hu' : its.toArray[j]? = some u := by simpa using hu
    have hu2' : its2.toArray[j]? = some u2 := by simpa using hu2
    refine codeAny_builtin F.entry_extend_loop ?_
    rw [Around.under_plainId F.plain_extend_loop _]
    show wpAny _ A.in1 (pyNext (.ref z) >>= _) _ _ s
    have hTn : H s.heap.objs.size = none := I.hok.fresh (Nat.le_refl _)
    have tail : ∀ (h' : Heap), IsPair h' s.heap.objs.size u u2 → h'.objs.size = s.heap.objs.size + 1 → ZSt z TI TO i1 i2 l1 l2 S h' (j + 1) → (∀ c o, c ∉ [z, TI, TO, i1, i2] → s.heap.get? c = some o → h'.get? c = some o) →
        wpAny (model X.prog X.w) A.in1 (do let x ← pure (some (Value.ref s.heap.objs.size)); match x with
          | none => ret res
          | some x => do Builtin.List.listUpdate (.ref S) (·.push x); again (.builtin "list.extend.loop" ⟨[.ref S, .ref z, res], []⟩)) (fun fin s' => match fin with | .done f => R (.ok f) s' | .again c' => c'.quiet = true ∧ codeAny (model X.prog X.w) A c' R s') (fun e s' => R (.error e) s') { s with heap := h' } := by
      intro h' pr sz st' kp
      have ob : ObjOk X.prog X.w (upd H s.heap.objs.size (.tup [x, y])) h' s.heap.objs.size (.tup [x, y]) :=
        ⟨by show 2 ≤ sizeLine; decide, [u, u2], .cons ru (.cons ru2 .nil), ⟨_, pr, rfl, _, rfl⟩⟩
      have J : Inv X pins σ (upd H s.heap.objs.size (.tup [x, y])) { s with heap := h', toks := s.toks } := I.turnedNew (ch := [z, TI, TO, i1, i2]) kp hf (Nat.le_refl _) ob
      have hST : S ≠ s.heap.objs.size := ne_of_none hHS hTn
      have hH2 : (upd H s.heap.objs.size (.tup [x, y])) S = some (.lst (Ts.map V.ref)) := by rw [upd_ne hST]; exact hHS
      obtain ⟨z0, itS, n, rS, lS, eS⟩ := J.lstM hH2
      rw [List.length_map] at lS
      have J2 := J.lset (its' := itS ++ [.ref s.heap.objs.size]) (ys := Ts.map V.ref ++ [V.ref s.heap.objs.size]) (f := fun a => a.push (.ref s.heap.objs.size)) (t' := s.toks) hH2 eS (by simp) (rS.append (.cons (show L2.RelV (V.ref s.heap.objs.size) (.ref s.heap.objs.size) from rfl) .nil)) (by
        rw [List.length_append, List.length_map]
        exact Nat.le_of_lt (small1000 (by show Ts.length + 1 ≤ 1000; omega)))
      refine wpAny_bind (wpAny_pure ?_)
      show wpAny _ A.in1 (updateSeq S (·.push (.ref s.heap.objs.size)) >>= _) _ _ _
      refine wpAny_bind (wpAny_updateSeq eS rfl (wpAny_pure ⟨plainId_quiet F.plain_extend_loop _, ?_⟩) (by rw [List.size_toArray]; exact Nat.le_of_lt (small1000 (by omega))) (by
        rw [Array.size_push, List.size_toArray]
        exact Nat.le_succ_of_le (Nat.le_of_lt (small1000 (by omega)))))
      refine ih (j + 1) _ _ (Ts ++ [s.heap.objs.size]) (by omega) hlt J2 (fun b hb => ?_) (st'.at hS fun b o hb e => (Heap.get?_update_other _ _ (Ne.symm hb)).trans e) (fun b hb => ?_) ?_ (by rw [upd_same, List.map_append]; rfl) (by rw [List.length_append, hT]; rfl) ?_ fin
      · have q := hf b hb
        refine ⟨?_, q.2⟩
        have nb : b ≠ S := fun e => by
          have q0 := q.1
          rw [e, hHS] at q0; cases q0
        rw [upd_ne nb, upd_ne (Nat.ne_of_lt (lt b hb))]
        exact q.1
      · have l0 := lt b hb
        show b < (h'.update S _).objs.size
        rw [Heap.size_update, sz]
        exact Nat.lt_succ_of_lt l0
      · intro b o hb
        rw [upd_ne (ne_of_none hb hS0), upd_ne (ne_of_none (sm _ _ hb) hTn)]
        exact sm _ _ hb
      · intro i T a b e1 e2 e3
        by_cases c : i < Ts.length
        · rw [List.getElem?_append_left c] at e1
          obtain ⟨w1, w2⟩ := zd i T a b e1 e2 e3
          have nT : T ≠ S := fun e => by rw [e, hHS] at w2; cases w2
          exact ⟨w1, by rw [upd_ne nT, upd_ne (ne_of_none w2 hTn)]; exact w2⟩
        · rw [List.getElem?_append_right (by omega)] at e1
          cases w : i - Ts.length with
          | zero =>
            rw [w] at e1
            cases e1
            have ij : i = j := by
              have c2 : Ts.length ≤ i := Nat.le_of_not_lt c
              have w2 : i - Ts.length = 0 := w
              omega
            subst ij
            rw [ex] at e2
            rw [ey] at e3
            cases e2; cases e3
            exact ⟨sm.free hTn, by rw [upd_ne hST.symm, upd_same]⟩
          | succ m => rw [w] at e1; simp at e1
    obtain ⟨s1, s2, s3, s4⟩ := st
    rcases s4 with ⟨g1, a, b, g2⟩ | ⟨T, f, oT, g1, g2, n1, n2, n3, n4⟩
    · refine wpAny_bind (wpAny_pyNext_zip_item (A := A.in1) D g1 s1 g2 s2 s3 p1.isList p2.isList hu' hu2' fun h' a1 a2 a3 a4 a5 a6 hk' => ?_)
      have n0 : s.heap.objs.size ≠ S := (ne_of_none hHS hTn).symm
      refine tail h' a5 a6 ⟨hk' _ _ D.TIz D.TITO D.TIi1 D.TIi2 s1, a3, a4, .inr ⟨_, false, _, a1, a5, Nat.ne_of_gt (lt z (by simp)), Nat.ne_of_gt (lt i1 (by simp)), Nat.ne_of_gt (lt i2 (by simp)), n0⟩⟩ fun c o nb q => hk' c o (fun e => nb (by simp [e])) (fun e => nb (by simp [e])) (fun e => nb (by simp [e])) (fun e => nb (by simp [e])) q
    · refine wpAny_bind (wpAny_pyNext_zip_item_held (A := A.in1) D g1 g2 s1 s2 s3 p1.isList p2.isList hu' hu2' fun h' a1 a3 a4 a5 a6 hk' => ?_)
      refine tail h' a5 a6 ⟨hk' _ _ D.TIz D.TIi1 D.TIi2 s1, a3, a4, .inr ⟨T, true, oT, a1, hk' _ _ n1 n2 n3 g2, n1, n2, n3, n4⟩⟩ fun c o nb q => hk' c o (fun e => nb (by simp [e])) (fun e => nb (by simp [e])) (fun e => nb (by simp [e])) q
theorem list_zip_call (hh : A.handled = none) {s : Shared} {H : Hp} {Q : Value → Shared → Prop} {E : Value → Shared → Prop} (I : Inv X pins σ H s) (D : ZipApart z TI TO i1 i2 l1 l2) (hl : xs.length = ys.length) (hz : xs.length ≤ 1000) (q1 : SqL X.K H l1 xs) (q2 : SqL X.K H l2 ys)
    (hf : ∀ b ∈ [z, TI, TO, i1, i2], FpOk X pins H b) (hZ : IsZip s.heap z TI TO .none) (hTI : IsPair s.heap TI (.ref i1) (.ref i2)) (hTO : ∃ a b, IsPair s.heap TO a b) (h1 : s.heap.IsListIter i1 l1 0) (h2 : s.heap.IsListIter i2 l2 0)
    (fin : ∀ (s' : Shared) (H' : Hp) (S : Addr) (Us : List Addr), Inv X pins σ H' s' → Same H H' → H S = none → H' S = some (.lst (Us.map V.ref)) → Us.length = xs.length → Zd H H' xs ys Us → Q (.ref S) s') :
    wpAny (model X.prog X.w) A (call (.type "list") [.ref z]) Q E s := by
  refine callType_codes (Q₁ := fun obj s₁ => obj = .ref s.heap.objs.size ∧ s₁ = { s with heap := s.heap.push { cls := .type "list", data := .seq #[] } }) PySem.F.called_list (PySem.F.typeCall_list_1 _) PySem.F.entry_list_init
    (code_list_new _ ⟨rfl, rfl⟩) fun obj s₁ h₁ => ?_
  obtain ⟨rfl, rfl⟩ := h₁
  have hS : (s.heap.push { cls := .type "list", data := .seq #[] }).get? s.heap.objs.size = some { cls := .type "list", data := .seq #[] } := Heap.get?_push_size _ rfl
  refine ⟨⟨_, hS, rfl⟩, PySem.F.args_list_init_2 _ _, ?_⟩
  have sz0 : (s.heap.push { cls := .type "list", data := .seq #[] }).objs.size = s.heap.objs.size + 1 := Heap.size_push ..
  have hSn : H s.heap.objs.size = none := I.hok.fresh (Nat.le_refl _)
  have ltz : z < s.heap.objs.size := Heap.lt_size hZ
  have lTI : TI < s.heap.objs.size := Heap.lt_size hTI
  have lTO : TO < s.heap.objs.size := let ⟨_, _, q⟩ := hTO; Heap.lt_size q
  have li1 : i1 < s.heap.objs.size := let ⟨_, q, _⟩ := h1; Heap.lt_size q
  have li2 : i2 < s.heap.objs.size := let ⟨_, q, _⟩ := h2; Heap.lt_size q
  have I1 : Inv X pins σ (upd H s.heap.objs.size (.lst [])) { s with heap := s.heap.push { cls := .type "list", data := .seq #[] }, toks := s.toks } := I.lnew (its := []) .nil (by decide)
  have hHS : (upd H s.heap.objs.size (.lst [])) s.heap.objs.size = some (.lst []) := upd_same
  show wpAny _ _ (do let old ← Builtin.List.listItems (.ref s.heap.objs.size); Builtin.List.listUpdate (.ref s.heap.objs.size) (fun _ => #[]); letGo old.toList.reverse; Builtin.List.listExtendWith (.ref s.heap.objs.size) (.ref z) .none) _ _ _
  refine wpAny_bind ?_
  unfold Builtin.List.listItems
  refine wpAny_bind (wpAny_seqItems hS rfl (wpAny_pure ?_))
  show wpAny _ _ (updateSeq s.heap.objs.size (fun _ => #[]) >>= fun _ => letGo (#[] : Array Value).toList.reverse >>= fun _ => Builtin.List.listExtendWith (.ref s.heap.objs.size) (.ref z) .none) _ _ _
  refine wpAny_bind (wpAny_updateSeq hS rfl ?_)
  have hS₂ := Heap.get?_update_self (Obj.mapSeq (fun _ => (#[] : Array Value))) hS rfl
  have I2 := I1.lset (its' := []) (ys := []) (f := fun _ => #[]) (t' := s.toks) hHS hS rfl .nil (by decide)
  rw [upd_upd] at I2
  have k2 : ∀ b o, b ≠ s.heap.objs.size → s.heap.get? b = some o → ((s.heap.push { cls := .type "list", data := .seq #[] }).update s.heap.objs.size (Obj.mapSeq (fun _ => (#[] : Array Value)))).get? b = some o := fun b o hb e => (Heap.get?_update_other _ _ (Ne.symm hb)).trans (Heap.get?_push_of_some _ e)
  have sz2 : ((s.heap.push { cls := .type "list", data := .seq #[] }).update s.heap.objs.size (Obj.mapSeq (fun _ => (#[] : Array Value)))).objs.size = s.heap.objs.size + 1 := by rw [Heap.size_update, sz0]
  generalize ((s.heap.push { cls := .type "list", data := .seq #[] }).update s.heap.objs.size (Obj.mapSeq (fun _ => (#[] : Array Value)))) = h2' at hS₂ I2 k2 sz2
  refine wpAny_bind (wpAny_letGo ?_)
  unfold Builtin.List.listExtendWith
  have hT2 : Shared.TypeIs { s with heap := h2' } (.ref z) "zip" := ⟨_, k2 _ _ (Nat.ne_of_lt ltz) hZ, rfl⟩
  refine wpAny_bind (wpAny_typeOf hT2 ?_)
  have e1 : Builtin.List.listSameRef (.ref s.heap.objs.size) (.ref z) = false := by simp [Builtin.List.listSameRef, Nat.ne_of_gt ltz]
  simp only [e1, show (Value.type "zip" == Value.type "list") = false by decide, show (Value.type "zip" == Value.type "tuple") = false by decide, Bool.or_false, Bool.false_eq_true, if_false]
  refine wpAny_bind (wpAny_pyIter_zip (k2 _ _ (Nat.ne_of_lt ltz) hZ) ?_)
  refine wpAny_bind (wpAny_holding ?_)
  unfold Builtin.List.listLengthHint
  refine wpAny_bind (wpAny_specialOf hT2 nolen_zip ?_)
  show wpAny _ _ (specialOf (Value.ref z) (Str.ofString "__length_hint__") >>= _) _ _ _
  refine wpAny_bind (wpAny_specialOf hT2 nohint_zip ?_)
  refine wpAny_pure ?_
  show wpAny _ _ (rule "list.extend.makes-room" >>= fun _ => Builtin.List.listTouch (.ref s.heap.objs.size) >>= fun _ =>
    again (.builtin "list.extend.loop" ⟨[.ref s.heap.objs.size, .ref z, .none], []⟩)) _ _ _
  refine wpAny_bind (wpAny_rule ?_)
  refine wpAny_bind ?_
  show wpAny _ _ (updateSeq s.heap.objs.size (·.push .none) >>= fun _ => updateSeq s.heap.objs.size (·.pop)) _ _ _
  refine wpAny_bind (wpAny_updateSeq hS₂ rfl ?_)
  have hS₃ := Heap.get?_update_self (Obj.mapSeq (·.push Value.none)) hS₂ rfl
  refine wpAny_updateSeq hS₃ rfl ?_
  have I4 := I2.lset (its' := []) (ys := []) (f := fun a => (a.push Value.none).pop) (t' := s.toks) upd_same hS₂ rfl .nil (by decide)
  have eqU : (h2'.update s.heap.objs.size (Obj.mapSeq (·.push Value.none))).update s.heap.objs.size (Obj.mapSeq (·.pop)) = (h2'.update s.heap.objs.size (Obj.mapSeq (·.push Value.none))).update s.heap.objs.size (Obj.mapSeq (·.pop)) := rfl
  have J4 : Inv X pins σ (upd H s.heap.objs.size (.lst [])) { s with heap := (h2'.update s.heap.objs.size (Obj.mapSeq (·.push Value.none))).update s.heap.objs.size (Obj.mapSeq (·.pop)), toks := s.toks } := by
    have z := I2.write (x := s.heap.objs.size) (e := s.heap.objs.size) (o := .lst []) (h' := (h2'.update s.heap.objs.size (Obj.mapSeq (·.push Value.none))).update s.heap.objs.size (Obj.mapSeq (·.pop))) (t' := s.toks) (by rw [upd_same]; exact trivial) (.inl rfl)
      (fun b u hb hu => (Heap.get?_update_other _ _ (Ne.symm hb)).trans ((Heap.get?_update_other _ _ (Ne.symm hb)).trans hu)) ⟨_, Heap.get?_update_self _ hS₃ rfl⟩ ⟨by decide, [], _, .nil, Heap.get?_update_self _ hS₃ rfl⟩
    rw [upd_upd] at z
    exact z
  have sm : Same H (upd H s.heap.objs.size (.lst [])) := fun b x e => by rw [upd_ne (ne_of_none e hSn)]; exact e
  have k4 : ∀ b o, b ≠ s.heap.objs.size → s.heap.get? b = some o → ((h2'.update s.heap.objs.size (Obj.mapSeq (·.push Value.none))).update s.heap.objs.size (Obj.mapSeq (·.pop))).get? b = some o := fun b o hb e => (Heap.get?_update_other _ _ (Ne.symm hb)).trans ((Heap.get?_update_other _ _ (Ne.symm hb)).trans (k2 b o hb e))
  refine wpAny_pure ⟨plainId_quiet F.plain_extend_loop _, zip_loop (A := A.in1) (S := s.heap.objs.size) hh D ⟨Nat.ne_of_gt ltz, Nat.ne_of_gt lTI, Nat.ne_of_gt lTO, Nat.ne_of_gt li1, Nat.ne_of_gt li2⟩ hl hz q1 q2 hSn _ 0 _ _ [] rfl (Nat.zero_le _) J4 (fun b hb => ?_) ?_ (fun b hb => ?_) sm upd_same rfl (fun i T x y e => by simp at e) fun s' H' Us J sm2 hU lU zd => ?_⟩
  · have q := hf b hb
    refine ⟨?_, q.2⟩
    have nb : b ≠ s.heap.objs.size := by
      simp only [List.mem_cons, List.not_mem_nil, or_false] at hb
      rcases hb with rfl | rfl | rfl | rfl | rfl
      · exact Nat.ne_of_lt ltz
      · exact Nat.ne_of_lt lTI
      · exact Nat.ne_of_lt lTO
      · exact Nat.ne_of_lt li1
      · exact Nat.ne_of_lt li2
    rw [upd_ne nb]
    exact q.1
  · obtain ⟨a, b, hTO⟩ := hTO
    exact ⟨k4 _ _ (Nat.ne_of_lt lTI) hTI, h1.at fun o e => k4 _ o (Nat.ne_of_lt li1) e, h2.at fun o e => k4 _ o (Nat.ne_of_lt li2) e, .inl ⟨k4 _ _ (Nat.ne_of_lt ltz) hZ, a, b, k4 _ _ (Nat.ne_of_lt lTO) hTO⟩⟩
  · have lt2 : b < s.heap.objs.size := by
      simp only [List.mem_cons, List.not_mem_nil, or_false] at hb
      rcases hb with rfl | rfl | rfl | rfl | rfl <;> assumption
    show b < ((h2'.update s.heap.objs.size (Obj.mapSeq (·.push Value.none))).update s.heap.objs.size (Obj.mapSeq (·.pop))).objs.size
    rw [Heap.size_update, Heap.size_update, sz2]
    exact Nat.lt_succ_of_lt lt2
  · exact ⟨rfl, fin s' H' _ Us J sm2 hSn hU lU zd⟩
end
/-- what list(zip(e, f)) asks: two lists of one length; behind it a new list of new pairs -/
def tListZip (K : PySem.W.Frag) (ta : TA) : TE := fun σ H Q => ta σ H fun vs H1 => ∃ (a b : Addr) (xs ys : List V), vs = [.ref a, .ref b] ∧ SqL K H1 a xs ∧ SqL K H1 b ys ∧ xs.length = ys.length ∧ xs.length ≤ 1000 ∧
  ∀ (H2 : Hp) (p : Addr) (Us : List Addr), Same H1 H2 → H1 p = none → H2 p = some (.lst (Us.map V.ref)) → Us.length = xs.length → Zd H1 H2 xs ys Us → Q (.ref p) H2
theorem pe_listZip {X : Cx} {e e2 : Expr} {ta : TA} {p p2 pos pos2 : Pos} (hc : X.calm = true) (hg : Gl X "list") (hm : X.mg "list" = none) (hg2 : Gl X "zip") (hm2 : X.mg "zip" = none) (ha : PA X [e, e2] ta)
    (hs : starEach [e, e2] X.env = (false, eval e X.env) :: starEach [e2] X.env := by rfl) (hpl : (backTo pos2 (starEach [e2] X.env)).any (·.1) = false := by rfl)
    (na : starEach [.Call (.Name "zip" p2) [e, e2] [] pos2] X.env = (false, eval (.Call (.Name "zip" p2) [e, e2] [] pos2) X.env) :: starEach [] X.env := by rfl) :
    PE X (.Call (.Name "list" p) [.Call (.Name "zip" p2) [e, e2] [] pos2] [] pos) (tListZip X.K ta) := by
  refine ⟨fun pins s σ H Q I want => ?_⟩
  refine Call_ (ld_blt I hg hm boot_list (PyProof.Rows.callWith_type1 (args_cons (Q := fun us s1 => wpAny (model X.prog X.w) X.A (call (.type "list") us) (EP X pins σ Q) X.xe s1) ?_ na) na))
  refine Call_ (ld_blt I hg2 hm2 PyProof.Rows.boot_zip (PyProof.Rows.callWith_type1 (thn (ha.run pos2 pins s σ H _ I want) ?_) hs hpl))
  rintro us s1 ⟨vs, H1, J, rel, a, b, xs, ys, rfl, qx, qy, hl, hz, q⟩
  obtain ⟨u1, u2, rfl, r1, r2⟩ := vals2 rel
  cases r1
  cases r2
  obtain ⟨its, rv, p1, _⟩ := J.list qx
  obtain ⟨its2, rv2, p3, _⟩ := J.list qy
  have la : a < s1.heap.objs.size := p1.lt
  refine zip_begins2 (begins_list a its.toArray) (begins_list b its2.toArray) p1.isList p3.isList fun h' hz2 hTI hTO g1 g2 sz keep => args_nil ?_
  have J2 : Inv X pins σ H1 { s1 with heap := h' } := J.kept (t' := s1.toks) keep
  refine list_zip_call (J.ok.hd hc) J2 (PySem.W.ktu_apart s1.heap.objs.size a b la p3.lt) hl hz qx qy (fun c hc2 => ?_) hz2 hTI ⟨_, _, hTO⟩ ⟨_, g1, rfl, rfl⟩ ⟨_, g2, rfl, rfl⟩ fun s' H' S Us I' sm n0 hU lU zd => ⟨.ref S, H', I', rfl, q H' S Us sm n0 hU lU zd⟩
  have le : s1.heap.objs.size ≤ c := by
    simp only [List.mem_cons, List.not_mem_nil, or_false] at hc2
    rcases hc2 with rfl | rfl | rfl | rfl | rfl <;> omega
  exact J.fpOk le (J.hok.fresh le)
end LX

namespace LX
open PySem PySem.Spec PyProof.Rows L2
variable {X : Cx}
/-- name = {k: v for ..} on one line, the name a local -/
theorem ps_setDc {i : Nat} {y : Str} {py : Pos} {kx vx tg iter : Expr} {ifs : List Expr} {scope : Scope} {own : List (Str × Nat)} {pos spos : Pos} {wi : TI} {g : TG} {tt : TT} {tk tv : TE} (hc : X.calm = true) (hN : X.N.Nodup) (hy : X.N[i]? = some y) (hyl : X.env.scope.names.lookup y = some .local)
    (hsw : swapsWith (.DictComp kx vx [⟨tg, iter, ifs, 0⟩] scope pos) (some (.Name y py)) spos.line X.env = pure true) (hi : PI X tg iter wi) (ok : BlkOk X.N X.env.scope scope own)
    (hg : ∀ (s : Shared) (H : Hp) (C : Addr) (cl : List (Str × Addr)) (fp : List Addr), PG (X.blk s H scope (compEnvC scope cl C X.env) fp) tg g) (ht : ∀ (s : Shared) (H : Hp) (C : Addr) (cl : List (Str × Addr)) (fp : List Addr), PTs (X.blk s H scope (compEnvC scope cl C X.env) fp) ifs tt)
    (hk : ∀ (s : Shared) (H : Hp) (C : Addr) (cl : List (Str × Addr)) (fp : List Addr), PE (X.blk s H scope (compEnvC scope cl C X.env) fp) kx tk)
    (he : ∀ (s : Shared) (H : Hp) (C : Addr) (cl : List (Str × Addr)) (fp : List Addr), PE (X.blk s H scope (compEnvC scope cl C X.env) fp) vx tv) (hs : ∀ x, foldedSetIterable iter X.env x = pure x := by intro _; rfl) :
    PS X (.Assign [.Name y py] (.DictComp kx vx [⟨tg, iter, ifs, 0⟩] scope pos) spos) (tAsg (tDc wi g tt tk tv (own.map (·.2))) (gName i)) := by
  refine ⟨fun pins s σ H D I h => ?_⟩
  rw [exec_Assign_Name_used _ _ _ _ hsw]
  refine wpAny_bind (wpAny_standAt (wpAny_bind ?_))
  show wpAny _ X.A (do let _ ← comprehension (.DictComp kx vx [⟨tg, iter, ifs, 0⟩] scope pos) scope X.env (firstIterPos [⟨tg, iter, ifs, 0⟩] pos) newDict false (eval iter X.env) (some (assign (.Name y py) X.env))) _ _ s
  have h : tDc wi g tt tk tv (own.map (·.2)) σ H (fun x H1 => gName i x σ H1 D.nx) := h
  refine wpAny_bind (thn (dc_core (Qf := fun _ s' => SP X pins D .next s') hc hN I hi ok hg ht hk he hs h fun L C s' m H' I' q hn f => ?_) fun _ s' hq => wpAny_pure (wpAny_pure hq))
  show wpAny _ _ (assign (.Name y py) X.env (.ref L)) _ _ _
  refine wpAny_assign_Name (store_ok2 (v := V.ref L) I' hN hy (.inl hyl) rfl (fun s2 I2 ⟨a, sb, ha⟩ => ?_) (.inr hyl))
  obtain ⟨f0, f1, f2, f3, f4, f5⟩ := f
  have haC : C ≠ a := by
    rcases ha with z | z
    · rw [z]; exact f1
    · exact fun e => f4 y a z e.symm
  refine ⟨m, hn.sameBut sb haC, fun h3 sb3 => ?_⟩
  exact ⟨_, H', I2.turned (t' := s2.toks) (fun b o hb e => (sb3.2 b hb).trans e) f0 f1 f3 f4 f5, q⟩
theorem sw_trueD {kx vx : Expr} {gs : List Comprehension} {scope : Scope} {pos py : Pos} {y : Str} {l : Nat} {env : Env} (hk : env.scope.kind = .function) (hy : env.scope.names.lookup y = some .local) (hl : (py.line == pos.line) = true)
    (ha : (scope.names.any fun (n, k) => n == y && (k == .local || k == .cell)) = false) : swapsWith (.DictComp kx vx gs scope pos) (some (.Name y py)) l env = pure true := by
  have ky : env.kindOf y = some .local := hy
  have hb : env.blockKind = .function := by unfold Env.blockKind; rw [hk]; rfl
  unfold swapsWith
  simp only [hb, ky, ha, Expr.pos, hl]
  rfl
end LX


namespace LP
open PySem L2 LT LG LQ LH LC LX
def topS (i : Nat) : Stmt := PySem.Challenge.pw_leftreturn_k05_whole_schedules_and_pairs.main.body.getD i (.Pass ⟨0, 0, 0, 0⟩)
abbrev s_is_whole : Stmt := topS 14
abbrev s_is_listed : Stmt := topS 15
abbrev s_check_size : Stmt := topS 16
abbrev s_is_place : Stmt := topS 17
abbrev s_is_place_list : Stmt := topS 18
abbrev s_check_places : Stmt := topS 19
abbrev s_check_same_places : Stmt := topS 20
abbrev s_check_pair : Stmt := topS 21
abbrev s_is_pattern : Stmt := topS 22
abbrev s_check_pattern_for : Stmt := topS 23
abbrev s_Shelf_init : Stmt := inClass (topS 26) 0
abbrev s_Shelf_can_take : Stmt := inClass (topS 26) 1
abbrev s_Shelf_can_return : Stmt := inClass (topS 26) 2
abbrev s_Shelf_take_from : Stmt := inClass (topS 26) 4
abbrev s_Shelf_first_gap : Stmt := inClass (topS 26) 3
abbrev s_Shelf_put_back : Stmt := inClass (topS 26) 5
abbrev s_can_perform : Stmt := topS 27
abbrev s_run_schedule : Stmt := topS 28
abbrev s_is_schedule : Stmt := topS 29
abbrev s_books_after : Stmt := topS 30
abbrev s_books_out : Stmt := topS 31
abbrev s_places_filled : Stmt := topS 32
abbrev s_most_out : Stmt := topS 33
abbrev s_numbers_by_place : Stmt := topS 35
abbrev s_fill_times : Stmt := topS 36
abbrev s_fills_by : Stmt := topS 37
abbrev s_is_two : Stmt := topS 38
abbrev s_is_three : Stmt := topS 39
abbrev s_first_two : Stmt := topS 40
abbrev s_last_fill_between : Stmt := topS 41
abbrev s_first_three : Stmt := topS 42
abbrev s_obstruction : Stmt := topS 43
abbrev s_is_possible : Stmt := topS 44
abbrev s_is_result : Stmt := topS 45
abbrev s__law_bag : Stmt := topS 47
abbrev s__law_stir : Stmt := topS 48
abbrev s__law_draw : Stmt := topS 49
abbrev s__law_shuffled : Stmt := topS 50
abbrev s__law_pattern : Stmt := topS 51
abbrev s__law_followed : Stmt := topS 52
abbrev s__law_late : Stmt := topS 53
abbrev s__law_most : Stmt := topS 54
abbrev s__law_right : Stmt := topS 55
abbrev s_law : Stmt := topS 56
theorem sc_is_whole : FnScope ["value"] ["value"] (defScope s_is_whole) := ⟨rfl, rfl, rfl, by decide +kernel, rfl, by decide +kernel, by decide +kernel⟩
theorem sc_is_listed : FnScope ["value"] ["value"] (defScope s_is_listed) := ⟨rfl, rfl, rfl, by decide +kernel, rfl, by decide +kernel, by decide +kernel⟩
theorem sc_check_size : FnScope ["size"] ["size"] (defScope s_check_size) := ⟨rfl, rfl, rfl, by decide +kernel, rfl, by decide +kernel, by decide +kernel⟩
theorem sc_is_place : FnScope ["value"] ["value"] (defScope s_is_place) := ⟨rfl, rfl, rfl, by decide +kernel, rfl, by decide +kernel, by decide +kernel⟩
theorem sc_is_place_list : FnScope ["value", "item"] ["value"] (defScope s_is_place_list) := ⟨rfl, rfl, rfl, by decide +kernel, rfl, by decide +kernel, by decide +kernel⟩
theorem sc_check_places : FnScope ["value"] ["value"] (defScope s_check_places) := ⟨rfl, rfl, rfl, by decide +kernel, rfl, by decide +kernel, by decide +kernel⟩
theorem sc_check_same_places : FnScope ["first", "second"] ["first", "second"] (defScope s_check_same_places) := ⟨rfl, rfl, rfl, by decide +kernel, rfl, by decide +kernel, by decide +kernel⟩
theorem sc_check_pair : FnScope ["takes", "fills"] ["takes", "fills"] (defScope s_check_pair) := ⟨rfl, rfl, rfl, by decide +kernel, rfl, by decide +kernel, by decide +kernel⟩
theorem sc_is_pattern : FnScope ["value", "out", "letter"] ["value"] (defScope s_is_pattern) := ⟨rfl, rfl, rfl, by decide +kernel, rfl, by decide +kernel, by decide +kernel⟩
theorem sc_check_pattern_for : FnScope ["takes", "pattern"] ["takes", "pattern"] (defScope s_check_pattern_for) := ⟨rfl, rfl, rfl, by decide +kernel, rfl, by decide +kernel, by decide +kernel⟩
theorem sc_Shelf_init : FnScope ["self", "size"] ["self", "size"] (defScope s_Shelf_init) := ⟨rfl, rfl, rfl, by decide +kernel, rfl, by decide +kernel, by decide +kernel⟩
theorem sc_Shelf_can_take : FnScope ["self", "place"] ["self", "place"] (defScope s_Shelf_can_take) := ⟨rfl, rfl, rfl, by decide +kernel, rfl, by decide +kernel, by decide +kernel⟩
theorem sc_Shelf_can_return : FnScope ["self", "book"] ["self", "book"] (defScope s_Shelf_can_return) := ⟨rfl, rfl, rfl, by decide +kernel, rfl, by decide +kernel, by decide +kernel⟩
theorem sc_Shelf_take_from : FnScope ["self", "place", "book"] ["self", "place"] (defScope s_Shelf_take_from) := ⟨rfl, rfl, rfl, by decide +kernel, rfl, by decide +kernel, by decide +kernel⟩
theorem sc_Shelf_first_gap : FnScope ["self"] ["self"] (defScope s_Shelf_first_gap) := ⟨rfl, rfl, rfl, by decide +kernel, rfl, by decide +kernel, by decide +kernel⟩
theorem sc_Shelf_put_back : FnScope ["self", "book", "place"] ["self", "book"] (defScope s_Shelf_put_back) := ⟨rfl, rfl, rfl, by decide +kernel, rfl, by decide +kernel, by decide +kernel⟩
theorem sc_can_perform : FnScope ["shelf", "value", "word", "number"] ["shelf", "value"] (defScope s_can_perform) := ⟨rfl, rfl, rfl, by decide +kernel, rfl, by decide +kernel, by decide +kernel⟩
theorem sc_run_schedule : FnScope ["size", "schedule", "shelf", "filled", "most", "index", "operation", "word", "number"] ["size", "schedule"] (defScope s_run_schedule) := ⟨rfl, rfl, rfl, by decide +kernel, rfl, by decide +kernel, by decide +kernel⟩
theorem sc_is_schedule : FnScope ["size", "value"] ["size", "value"] (defScope s_is_schedule) := ⟨rfl, rfl, rfl, by decide +kernel, rfl, by decide +kernel, by decide +kernel⟩
theorem sc_books_after : FnScope ["size", "schedule", "shelf", "_"] ["size", "schedule"] (defScope s_books_after) := ⟨rfl, rfl, rfl, by decide +kernel, rfl, by decide +kernel, by decide +kernel⟩
theorem sc_books_out : FnScope ["size", "schedule", "shelf", "_"] ["size", "schedule"] (defScope s_books_out) := ⟨rfl, rfl, rfl, by decide +kernel, rfl, by decide +kernel, by decide +kernel⟩
theorem sc_places_filled : FnScope ["size", "schedule", "_", "filled"] ["size", "schedule"] (defScope s_places_filled) := ⟨rfl, rfl, rfl, by decide +kernel, rfl, by decide +kernel, by decide +kernel⟩
theorem sc_most_out : FnScope ["size", "schedule", "_", "most"] ["size", "schedule"] (defScope s_most_out) := ⟨rfl, rfl, rfl, by decide +kernel, rfl, by decide +kernel, by decide +kernel⟩
theorem sc_numbers_by_place : FnScope ["places", "number", "place"] ["places"] (defScope s_numbers_by_place) := ⟨rfl, rfl, rfl, by decide +kernel, rfl, by decide +kernel, by decide +kernel⟩
theorem sc_fill_times : FnScope ["pattern", "times", "taken", "letter"] ["pattern"] (defScope s_fill_times) := ⟨rfl, rfl, rfl, by decide +kernel, rfl, by decide +kernel, by decide +kernel⟩
theorem sc_fills_by : FnScope ["takes", "pattern", "gaps", "fills", "taken", "letter"] ["takes", "pattern"] (defScope s_fills_by) := ⟨rfl, rfl, rfl, by decide +kernel, rfl, by decide +kernel, by decide +kernel⟩
theorem sc_is_two : FnScope ["taken", "filled", "a", "b"] ["taken", "filled", "a", "b"] (defScope s_is_two) := ⟨rfl, rfl, rfl, by decide +kernel, rfl, by decide +kernel, by decide +kernel⟩
theorem sc_is_three : FnScope ["taken", "filled", "a", "b", "c"] ["taken", "filled", "a", "b", "c"] (defScope s_is_three) := ⟨rfl, rfl, rfl, by decide +kernel, rfl, by decide +kernel, by decide +kernel⟩
theorem sc_first_two : FnScope ["taken", "filled", "a", "b"] ["taken", "filled"] (defScope s_first_two) := ⟨rfl, rfl, rfl, by decide +kernel, rfl, by decide +kernel, by decide +kernel⟩
theorem sc_last_fill_between : FnScope ["taken", "filled", "b", "fills", "c"] ["taken", "filled", "b"] (defScope s_last_fill_between) := ⟨rfl, rfl, rfl, by decide +kernel, rfl, by decide +kernel, by decide +kernel⟩
theorem sc_first_three : FnScope ["taken", "filled", "places", "last", "a", "b", "c"] ["taken", "filled"] (defScope s_first_three) := ⟨rfl, rfl, rfl, by decide +kernel, rfl, by decide +kernel, by decide +kernel⟩
theorem sc_obstruction : FnScope ["takes", "fills", "taken", "filled", "found"] ["takes", "fills"] (defScope s_obstruction) := ⟨rfl, rfl, rfl, by decide +kernel, rfl, by decide +kernel, by decide +kernel⟩
theorem sc_is_possible : FnScope ["takes", "fills"] ["takes", "fills"] (defScope s_is_possible) := ⟨rfl, rfl, rfl, by decide +kernel, rfl, by decide +kernel, by decide +kernel⟩
theorem sc_is_result : FnScope ["takes", "pattern", "books", "taken", "book", "time"] ["takes", "pattern", "books"] (defScope s_is_result) := ⟨rfl, rfl, rfl, by decide +kernel, rfl, by decide +kernel, by decide +kernel⟩
theorem sc__law_bag : FnScope ["script", "total", "cell"] ["script"] (defScope s__law_bag) := ⟨rfl, rfl, rfl, by decide +kernel, rfl, by decide +kernel, by decide +kernel⟩
theorem sc__law_stir : FnScope ["number", "place", "one", "two"] ["number", "place"] (defScope s__law_stir) := ⟨rfl, rfl, rfl, by decide +kernel, rfl, by decide +kernel, by decide +kernel⟩
theorem sc__law_draw : FnScope ["bag", "bound", "cell", "found"] ["bag", "bound"] (defScope s__law_draw) := ⟨rfl, rfl, rfl, by decide +kernel, rfl, by decide +kernel, by decide +kernel⟩
theorem sc__law_shuffled : FnScope ["bag", "items", "left", "step"] ["bag", "items"] (defScope s__law_shuffled) := ⟨rfl, rfl, rfl, by decide +kernel, rfl, by decide +kernel, by decide +kernel⟩
theorem sc__law_pattern : FnScope ["bag", "count", "found", "left", "out", "share", "step"] ["bag", "count"] (defScope s__law_pattern) := ⟨rfl, rfl, rfl, by decide +kernel, rfl, by decide +kernel, by decide +kernel⟩
theorem sc__law_followed : FnScope ["bag", "takes", "pattern", "way", "out", "found", "at", "letter", "spot"] ["bag", "takes", "pattern", "way"] (defScope s__law_followed) := ⟨rfl, rfl, rfl, by decide +kernel, rfl, by decide +kernel, by decide +kernel⟩
theorem sc__law_late : FnScope ["takes", "pattern"] ["takes", "pattern"] (defScope s__law_late) := ⟨rfl, rfl, rfl, by decide +kernel, rfl, by decide +kernel, by decide +kernel⟩
theorem sc__law_most : FnScope ["pattern", "out", "found", "letter"] ["pattern"] (defScope s__law_most) := ⟨rfl, rfl, rfl, by decide +kernel, rfl, by decide +kernel, by decide +kernel⟩
theorem sc__law_right : FnScope ["bag", "count", "takes", "pattern", "fills", "way", "rows", "books", "place"] ["bag", "count"] (defScope s__law_right) := ⟨rfl, rfl, rfl, by decide +kernel, rfl, by decide +kernel, by decide +kernel⟩
theorem sc_law : FnScope ["script", "bag", "turn", "count"] ["script"] (defScope s_law) := ⟨rfl, rfl, rfl, by decide +kernel, rfl, by decide +kernel, by decide +kernel⟩
structure Env (K : PySem.W.Frag) (mg : Str → Option Value) where
  n_len : mg "len" = none
  n_range : mg "range" = none
  n_list : mg "list" = none
  n_tuple : mg "tuple" = none
  n_int : mg "int" = none
  n_bool : mg "bool" = none
  n_str : mg "str" = none
  n_isinstance : mg "isinstance" = none
  n_min : mg "min" = none
  n_max : mg "max" = none
  n_sorted : mg "sorted" = none
  n_set : mg "set" = none
  n_all : mg "all" = none
  n_enumerate : mg "enumerate" = none
  n_zip : mg "zip" = none
  t_MOST_SIZE : Tok
  g_MOST_SIZE : mg "MOST_SIZE" = some (.int 200 t_MOST_SIZE)
  t_MOST_OPERATIONS : Tok
  g_MOST_OPERATIONS : mg "MOST_OPERATIONS" = some (.int 400 t_MOST_OPERATIONS)
  t_MOST_PLACES : Tok
  g_MOST_PLACES : mg "MOST_PLACES" = some (.int 200 t_MOST_PLACES)
  t_GREATEST_PLACE : Tok
  g_GREATEST_PLACE : mg "GREATEST_PLACE" = some (.int 1000000000000000000000000000000 t_GREATEST_PLACE)
  g_heappush : mg "heappush" = some (.builtin "_heapq.heappush")
  g_heappop : mg "heappop" = some (.builtin "_heapq.heappop")
  g_combinations : mg "combinations" = some (.type "itertools.combinations")
  C_Shelf : Addr
  g_Shelf : mg "Shelf" = some (.ref C_Shelf)
  cl_Shelf : Cls K C_Shelf
  nA_Shelf_books : NoAttr K C_Shelf "books"
  nA_Shelf_out : NoAttr K C_Shelf "out"
  a_is_whole : Addr
  d_is_whole : FuncData
  f_is_whole : Fun K "is_whole" "is_whole" s_is_whole a_is_whole d_is_whole
  b_is_whole : Binds K d_is_whole ["value"] []
  g_is_whole : mg "is_whole" = some (.ref a_is_whole)
  a_is_listed : Addr
  d_is_listed : FuncData
  f_is_listed : Fun K "is_listed" "is_listed" s_is_listed a_is_listed d_is_listed
  b_is_listed : Binds K d_is_listed ["value"] []
  g_is_listed : mg "is_listed" = some (.ref a_is_listed)
  a_check_size : Addr
  d_check_size : FuncData
  f_check_size : Fun K "check_size" "check_size" s_check_size a_check_size d_check_size
  b_check_size : Binds K d_check_size ["size"] []
  g_check_size : mg "check_size" = some (.ref a_check_size)
  a_is_place : Addr
  d_is_place : FuncData
  f_is_place : Fun K "is_place" "is_place" s_is_place a_is_place d_is_place
  b_is_place : Binds K d_is_place ["value"] []
  g_is_place : mg "is_place" = some (.ref a_is_place)
  a_is_place_list : Addr
  d_is_place_list : FuncData
  f_is_place_list : Fun K "is_place_list" "is_place_list" s_is_place_list a_is_place_list d_is_place_list
  b_is_place_list : Binds K d_is_place_list ["value"] []
  g_is_place_list : mg "is_place_list" = some (.ref a_is_place_list)
  a_check_places : Addr
  d_check_places : FuncData
  f_check_places : Fun K "check_places" "check_places" s_check_places a_check_places d_check_places
  b_check_places : Binds K d_check_places ["value"] []
  g_check_places : mg "check_places" = some (.ref a_check_places)
  a_check_same_places : Addr
  d_check_same_places : FuncData
  f_check_same_places : Fun K "check_same_places" "check_same_places" s_check_same_places a_check_same_places d_check_same_places
  b_check_same_places : Binds K d_check_same_places ["first", "second"] []
  g_check_same_places : mg "check_same_places" = some (.ref a_check_same_places)
  a_check_pair : Addr
  d_check_pair : FuncData
  f_check_pair : Fun K "check_pair" "check_pair" s_check_pair a_check_pair d_check_pair
  b_check_pair : Binds K d_check_pair ["takes", "fills"] []
  g_check_pair : mg "check_pair" = some (.ref a_check_pair)
  a_is_pattern : Addr
  d_is_pattern : FuncData
  f_is_pattern : Fun K "is_pattern" "is_pattern" s_is_pattern a_is_pattern d_is_pattern
  b_is_pattern : Binds K d_is_pattern ["value"] []
  g_is_pattern : mg "is_pattern" = some (.ref a_is_pattern)
  a_check_pattern_for : Addr
  d_check_pattern_for : FuncData
  f_check_pattern_for : Fun K "check_pattern_for" "check_pattern_for" s_check_pattern_for a_check_pattern_for d_check_pattern_for
  b_check_pattern_for : Binds K d_check_pattern_for ["takes", "pattern"] []
  g_check_pattern_for : mg "check_pattern_for" = some (.ref a_check_pattern_for)
  a_Shelf_init : Addr
  d_Shelf_init : FuncData
  f_Shelf_init : Fun K "__init__" "Shelf.__init__" s_Shelf_init a_Shelf_init d_Shelf_init
  b_Shelf_init : Binds K d_Shelf_init ["self", "size"] []
  mk_Shelf : Mk K C_Shelf a_Shelf_init
  a_Shelf_can_take : Addr
  d_Shelf_can_take : FuncData
  f_Shelf_can_take : Fun K "can_take" "Shelf.can_take" s_Shelf_can_take a_Shelf_can_take d_Shelf_can_take
  b_Shelf_can_take : Binds K d_Shelf_can_take ["self", "place"] []
  m_Shelf_can_take : Meth K C_Shelf "can_take" a_Shelf_can_take
  a_Shelf_can_return : Addr
  d_Shelf_can_return : FuncData
  f_Shelf_can_return : Fun K "can_return" "Shelf.can_return" s_Shelf_can_return a_Shelf_can_return d_Shelf_can_return
  b_Shelf_can_return : Binds K d_Shelf_can_return ["self", "book"] []
  m_Shelf_can_return : Meth K C_Shelf "can_return" a_Shelf_can_return
  a_Shelf_take_from : Addr
  d_Shelf_take_from : FuncData
  f_Shelf_take_from : Fun K "take_from" "Shelf.take_from" s_Shelf_take_from a_Shelf_take_from d_Shelf_take_from
  b_Shelf_take_from : Binds K d_Shelf_take_from ["self", "place"] []
  m_Shelf_take_from : Meth K C_Shelf "take_from" a_Shelf_take_from
  a_Shelf_first_gap : Addr
  d_Shelf_first_gap : FuncData
  f_Shelf_first_gap : Fun K "first_gap" "Shelf.first_gap" s_Shelf_first_gap a_Shelf_first_gap d_Shelf_first_gap
  b_Shelf_first_gap : Binds K d_Shelf_first_gap ["self"] []
  m_Shelf_first_gap : Meth K C_Shelf "first_gap" a_Shelf_first_gap
  a_Shelf_put_back : Addr
  d_Shelf_put_back : FuncData
  f_Shelf_put_back : Fun K "put_back" "Shelf.put_back" s_Shelf_put_back a_Shelf_put_back d_Shelf_put_back
  b_Shelf_put_back : Binds K d_Shelf_put_back ["self", "book"] []
  m_Shelf_put_back : Meth K C_Shelf "put_back" a_Shelf_put_back
  a_can_perform : Addr
  d_can_perform : FuncData
  f_can_perform : Fun K "can_perform" "can_perform" s_can_perform a_can_perform d_can_perform
  b_can_perform : Binds K d_can_perform ["shelf", "value"] []
  g_can_perform : mg "can_perform" = some (.ref a_can_perform)
  a_run_schedule : Addr
  d_run_schedule : FuncData
  f_run_schedule : Fun K "run_schedule" "run_schedule" s_run_schedule a_run_schedule d_run_schedule
  b_run_schedule : Binds K d_run_schedule ["size", "schedule"] []
  g_run_schedule : mg "run_schedule" = some (.ref a_run_schedule)
  a_is_schedule : Addr
  d_is_schedule : FuncData
  f_is_schedule : Fun K "is_schedule" "is_schedule" s_is_schedule a_is_schedule d_is_schedule
  b_is_schedule : Binds K d_is_schedule ["size", "value"] []
  g_is_schedule : mg "is_schedule" = some (.ref a_is_schedule)
  a_books_after : Addr
  d_books_after : FuncData
  f_books_after : Fun K "books_after" "books_after" s_books_after a_books_after d_books_after
  b_books_after : Binds K d_books_after ["size", "schedule"] []
  g_books_after : mg "books_after" = some (.ref a_books_after)
  a_books_out : Addr
  d_books_out : FuncData
  f_books_out : Fun K "books_out" "books_out" s_books_out a_books_out d_books_out
  b_books_out : Binds K d_books_out ["size", "schedule"] []
  g_books_out : mg "books_out" = some (.ref a_books_out)
  a_places_filled : Addr
  d_places_filled : FuncData
  f_places_filled : Fun K "places_filled" "places_filled" s_places_filled a_places_filled d_places_filled
  b_places_filled : Binds K d_places_filled ["size", "schedule"] []
  g_places_filled : mg "places_filled" = some (.ref a_places_filled)
  a_most_out : Addr
  d_most_out : FuncData
  f_most_out : Fun K "most_out" "most_out" s_most_out a_most_out d_most_out
  b_most_out : Binds K d_most_out ["size", "schedule"] []
  g_most_out : mg "most_out" = some (.ref a_most_out)
  a_numbers_by_place : Addr
  d_numbers_by_place : FuncData
  f_numbers_by_place : Fun K "numbers_by_place" "numbers_by_place" s_numbers_by_place a_numbers_by_place d_numbers_by_place
  b_numbers_by_place : Binds K d_numbers_by_place ["places"] []
  g_numbers_by_place : mg "numbers_by_place" = some (.ref a_numbers_by_place)
  a_fill_times : Addr
  d_fill_times : FuncData
  f_fill_times : Fun K "fill_times" "fill_times" s_fill_times a_fill_times d_fill_times
  b_fill_times : Binds K d_fill_times ["pattern"] []
  g_fill_times : mg "fill_times" = some (.ref a_fill_times)
  a_fills_by : Addr
  d_fills_by : FuncData
  f_fills_by : Fun K "fills_by" "fills_by" s_fills_by a_fills_by d_fills_by
  b_fills_by : Binds K d_fills_by ["takes", "pattern"] []
  g_fills_by : mg "fills_by" = some (.ref a_fills_by)
  a_is_two : Addr
  d_is_two : FuncData
  f_is_two : Fun K "is_two" "is_two" s_is_two a_is_two d_is_two
  b_is_two : Binds K d_is_two ["taken", "filled", "a", "b"] []
  g_is_two : mg "is_two" = some (.ref a_is_two)
  a_is_three : Addr
  d_is_three : FuncData
  f_is_three : Fun K "is_three" "is_three" s_is_three a_is_three d_is_three
  b_is_three : Binds K d_is_three ["taken", "filled", "a", "b", "c"] []
  g_is_three : mg "is_three" = some (.ref a_is_three)
  a_first_two : Addr
  d_first_two : FuncData
  f_first_two : Fun K "first_two" "first_two" s_first_two a_first_two d_first_two
  b_first_two : Binds K d_first_two ["taken", "filled"] []
  g_first_two : mg "first_two" = some (.ref a_first_two)
  a_last_fill_between : Addr
  d_last_fill_between : FuncData
  f_last_fill_between : Fun K "last_fill_between" "last_fill_between" s_last_fill_between a_last_fill_between d_last_fill_between
  b_last_fill_between : Binds K d_last_fill_between ["taken", "filled", "b"] []
  g_last_fill_between : mg "last_fill_between" = some (.ref a_last_fill_between)
  a_first_three : Addr
  d_first_three : FuncData
  f_first_three : Fun K "first_three" "first_three" s_first_three a_first_three d_first_three
  b_first_three : Binds K d_first_three ["taken", "filled"] []
  g_first_three : mg "first_three" = some (.ref a_first_three)
  a_obstruction : Addr
  d_obstruction : FuncData
  f_obstruction : Fun K "obstruction" "obstruction" s_obstruction a_obstruction d_obstruction
  b_obstruction : Binds K d_obstruction ["takes", "fills"] []
  g_obstruction : mg "obstruction" = some (.ref a_obstruction)
  a_is_possible : Addr
  d_is_possible : FuncData
  f_is_possible : Fun K "is_possible" "is_possible" s_is_possible a_is_possible d_is_possible
  b_is_possible : Binds K d_is_possible ["takes", "fills"] []
  g_is_possible : mg "is_possible" = some (.ref a_is_possible)
  a_is_result : Addr
  d_is_result : FuncData
  f_is_result : Fun K "is_result" "is_result" s_is_result a_is_result d_is_result
  b_is_result : Binds K d_is_result ["takes", "pattern", "books"] []
  g_is_result : mg "is_result" = some (.ref a_is_result)
  a__law_bag : Addr
  d__law_bag : FuncData
  f__law_bag : Fun K "_law_bag" "_law_bag" s__law_bag a__law_bag d__law_bag
  b__law_bag : Binds K d__law_bag ["script"] []
  g__law_bag : mg "_law_bag" = some (.ref a__law_bag)
  a__law_stir : Addr
  d__law_stir : FuncData
  f__law_stir : Fun K "_law_stir" "_law_stir" s__law_stir a__law_stir d__law_stir
  b__law_stir : Binds K d__law_stir ["number", "place"] []
  g__law_stir : mg "_law_stir" = some (.ref a__law_stir)
  a__law_draw : Addr
  d__law_draw : FuncData
  f__law_draw : Fun K "_law_draw" "_law_draw" s__law_draw a__law_draw d__law_draw
  b__law_draw : Binds K d__law_draw ["bag", "bound"] []
  g__law_draw : mg "_law_draw" = some (.ref a__law_draw)
  a__law_shuffled : Addr
  d__law_shuffled : FuncData
  f__law_shuffled : Fun K "_law_shuffled" "_law_shuffled" s__law_shuffled a__law_shuffled d__law_shuffled
  b__law_shuffled : Binds K d__law_shuffled ["bag", "items"] []
  g__law_shuffled : mg "_law_shuffled" = some (.ref a__law_shuffled)
  a__law_pattern : Addr
  d__law_pattern : FuncData
  f__law_pattern : Fun K "_law_pattern" "_law_pattern" s__law_pattern a__law_pattern d__law_pattern
  b__law_pattern : Binds K d__law_pattern ["bag", "count"] []
  g__law_pattern : mg "_law_pattern" = some (.ref a__law_pattern)
  a__law_followed : Addr
  d__law_followed : FuncData
  f__law_followed : Fun K "_law_followed" "_law_followed" s__law_followed a__law_followed d__law_followed
  b__law_followed : Binds K d__law_followed ["bag", "takes", "pattern", "way"] []
  g__law_followed : mg "_law_followed" = some (.ref a__law_followed)
  a__law_late : Addr
  d__law_late : FuncData
  f__law_late : Fun K "_law_late" "_law_late" s__law_late a__law_late d__law_late
  b__law_late : Binds K d__law_late ["takes", "pattern"] []
  g__law_late : mg "_law_late" = some (.ref a__law_late)
  a__law_most : Addr
  d__law_most : FuncData
  f__law_most : Fun K "_law_most" "_law_most" s__law_most a__law_most d__law_most
  b__law_most : Binds K d__law_most ["pattern"] []
  g__law_most : mg "_law_most" = some (.ref a__law_most)
  a__law_right : Addr
  d__law_right : FuncData
  f__law_right : Fun K "_law_right" "_law_right" s__law_right a__law_right d__law_right
  b__law_right : Binds K d__law_right ["bag", "count"] []
  g__law_right : mg "_law_right" = some (.ref a__law_right)
  a_law : Addr
  d_law : FuncData
  f_law : Fun K "law" "law" s_law a_law d_law
  b_law : Binds K d_law ["script"] []
  g_law : mg "law" = some (.ref a_law)
end LP
namespace LP
open PySem L2 LT LG LR
/-! values -/
def vo : Option Int → V
  | some i => .int i
  | none => .non
def opv (o : Op) : List V := [.str (if o.1 = true then "take" else "return"), .int o.2]
def OpAt (H : Hp) (a : Addr) (o : Op) : Prop := H a = some (.tup (opv o))
def dvo : Option Int → PyData
  | some i => .int i
  | none => .none
theorem dp_vo {K : PySem.W.Frag} {H : Hp} : ∀ l : List (Option Int), DpAll K H (l.map vo) (l.map dvo)
  | [] => .nil
  | none :: r => .cons .non (dp_vo r)
  | some i :: r => .cons (.int i) (dp_vo r)
theorem canLay_vo : ∀ l : List (Option Int), PyData.canLayAll0 (l.map dvo) = true
  | [] => rfl
  | none :: r => by simp [PyData.canLayAll0, PyData.canLay0, dvo, canLay_vo r]
  | some i :: r => by simp [PyData.canLayAll0, PyData.canLay0, dvo, canLay_vo r]
theorem depth_vo : ∀ l : List (Option Int), PyData.depthAll (l.map dvo) = 0
  | [] => rfl
  | none :: r => by simp [PyData.depthAll, PyData.depth, dvo, depth_vo r]
  | some i :: r => by simp [PyData.depthAll, PyData.depth, dvo, depth_vo r]
theorem shaped_vo (l : List (Option Int)) : SeqAt.shaped (.list (l.map dvo)) = true := by
  simp [SeqAt.shaped, PyData.canLay0, PyData.depth, canLay_vo, depth_vo]
theorem eqvAll_vo : ∀ l m : List (Option Int), PyData.eqvAll (l.map dvo) (m.map dvo) = decide (l = m)
  | [], [] => by simp [PyData.eqvAll]
  | [], _ :: _ => by simp [PyData.eqvAll]
  | _ :: _, [] => by simp [PyData.eqvAll]
  | a :: r, b :: t => by
    simp only [List.map_cons, PyData.eqvAll, eqvAll_vo r t]
    cases a with
    | none =>
      cases b with
      | none => simp [dvo, PyData.eqv]
      | some j => simp [dvo, PyData.eqv]
    | some i =>
      cases b with
      | none => simp [dvo, PyData.eqv]
      | some j =>
        by_cases h : i = j <;> by_cases h' : r = t <;> simp [dvo, PyData.eqv, h, h']
theorem eqv_vo (l m : List (Option Int)) : PyData.eqv (.list (l.map dvo)) (.list (m.map dvo)) = decide (l = m) := by
  simp only [PyData.eqv]; exact eqvAll_vo l m
theorem ints_vo (l : List Int) : l.map V.int = (l.map some).map vo := by
  rw [List.map_map]; rfl
structure OpsAt (H : Hp) (as : List Addr) (ops : List Op) : Prop where
  len : as.length = ops.length
  at_ : ∀ (i : Nat) a o, as[i]? = some a → ops[i]? = some o → OpAt H a o
def RowsAt (K : PySem.W.Frag) (H : Hp) (l : Addr) (ops : List Op) : Prop := ∃ as : List Addr, SqL K H l (as.map V.ref) ∧ OpsAt H as ops
def RowsLst (H : Hp) (l : Addr) (ops : List Op) : Prop := ∃ as : List Addr, H l = some (.lst (as.map V.ref)) ∧ OpsAt H as ops
theorem RowsLst.rows {K : PySem.W.Frag} {H : Hp} {l : Addr} {ops : List Op} (r : RowsLst H l ops) : RowsAt K H l ops := let ⟨as, h, o⟩ := r; ⟨as, SqL.of h, o⟩
theorem OpsAt.same {H H' : Hp} {as : List Addr} {ops : List Op} (o : OpsAt H as ops) (s : Same H H') : OpsAt H' as ops := ⟨o.len, fun i a p h1 h2 => s _ _ (o.at_ i a p h1 h2)⟩
theorem RowsAt.same {K : PySem.W.Frag} {H H' : Hp} {l : Addr} {ops : List Op} (r : RowsAt K H l ops) (s : Same H H') : RowsAt K H' l ops := let ⟨as, h, o⟩ := r; ⟨as, s.seq h, o.same s⟩
/-- a Shelf's attributes -/
def shf (bl ol : Addr) : List (Str × V) := putF "out" (.ref ol) (putF "books" (.ref bl) [])
theorem shf_ne : ¬ (("books" : Str) = "out") := by decide +kernel
theorem shf_eq (bl ol : Addr) : shf bl ol = ([("books", V.ref bl), ("out", V.ref ol)] : List (Str × V)) := by
  show (if ("books" : Str) = "out" then [(("books" : Str), V.ref ol)] else (("books" : Str), V.ref bl) :: putF "out" (V.ref ol) []) = _
  rw [if_neg shf_ne]
  all_goals rfl
theorem shf_books (bl ol : Addr) : (shf bl ol).lookup ("books" : Str) = some (.ref bl) := by
  unfold shf
  rw [lookup_putF, if_neg shf_ne, lookup_putF, if_pos rfl]
theorem shf_out (bl ol : Addr) : (shf bl ol).lookup ("out" : Str) = some (.ref ol) := by
  unfold shf
  rw [lookup_putF, if_pos rfl]
theorem shf_no (bl ol : Addr) {m : Str} (h1 : ¬ m = "out") (h2 : ¬ m = "books") : (shf bl ol).lookup m = none := by
  unfold shf
  rw [lookup_putF, if_neg h1, lookup_putF, if_neg h2]
  all_goals rfl
structure SimAt (C : Addr) (H : Hp) (sh bl ol : Addr) (s : Sim) : Prop where
  ob : ∃ dx, H sh = some (.ins C dx (shf bl ol))
  bk : H bl = some (.lst (s.books.map vo))
  ot : H ol = some (.lst (s.out.map V.int))
  ne : bl ≠ ol
/-! ### the promises -/
section
variable (K : PySem.W.Frag) (C : Addr)
def sp_check_size : Sp := fun vs H Q _ => ∃ n : Int, vs = [.int n] ∧ 1 ≤ n ∧ n ≤ 200 ∧ Q .non H
def sp_Shelf_init : Sp := fun vs H Q _ => ∃ (p dx : Addr) (n : Nat), vs = [.ref p, .int n] ∧ n ≤ 300 ∧ H p = some (.ins C dx []) ∧
  ∀ (H' : Hp) (bl ol : Addr), SimAt C H' p bl ol (simInit n) → H bl = none → H ol = none → (∀ b o, H b = some o → b ≠ p → H' b = some o) → Q .non H'
def sp_Shelf_can_take : Sp := fun vs H Q _ => ∃ (sh bl ol : Addr) (s : Sim) (p : Int), vs = [.ref sh, .int p] ∧ SimAt C H sh bl ol s ∧ Q (.bl (stp s (true, p)).isSome) H
def sp_Shelf_can_return : Sp := fun vs H Q _ => ∃ (sh bl ol : Addr) (s : Sim) (p : Int), vs = [.ref sh, .int p] ∧ SimAt C H sh bl ol s ∧ Q (.bl (stp s (false, p)).isSome) H
def sp_Shelf_take_from : Sp := fun vs H Q _ => ∃ (sh bl ol : Addr) (s : Sim) (p b : Int), vs = [.ref sh, .int p] ∧ SimAt C H sh bl ol s ∧ 0 ≤ p ∧ s.books[p.toNat]? = some (some b) ∧ s.out.length ≤ 300 ∧
  ∀ H' : Hp, (∀ u : Sim, u.books = s.books.set p.toNat none → u.out = s.out ++ [b] → SimAt C H' sh bl ol u) → (∀ c o, H c = some o → c ≠ bl → c ≠ ol → H' c = some o) → Q (.int b) H'
def sp_Shelf_first_gap : Sp := fun vs H Q _ => ∃ (sh bl ol : Addr) (s : Sim), vs = [.ref sh] ∧ SimAt C H sh bl ol s ∧ none ∈ s.books ∧ Q (.int (gap s.books : Nat)) H
def sp_Shelf_put_back : Sp := fun vs H Q _ => ∃ (sh bl ol : Addr) (s : Sim) (b : Int), vs = [.ref sh, .int b] ∧ SimAt C H sh bl ol s ∧ b ∈ s.out ∧ none ∈ s.books ∧
  ∀ H' : Hp, (∀ u : Sim, u.books = s.books.set (gap s.books) (some b) → u.out = s.out.erase b → SimAt C H' sh bl ol u) → (∀ c o, H c = some o → c ≠ bl → c ≠ ol → H' c = some o) → Q (.int (gap s.books)) H'
def sp_can_perform : Sp := fun vs H Q _ => ∃ (sh bl ol a : Addr) (s : Sim) (o : Op), vs = [.ref sh, .ref a] ∧ SimAt C H sh bl ol s ∧ OpAt H a o ∧ ∀ H', Same H H' → Q (.bl (stp s o).isSome) H'
/-- a schedule that is one, with what it leaves -/
def Runs (H : Hp) (n : Nat) (l : Addr) (ops : List Op) (e : Sim) : Prop := 1 ≤ n ∧ n ≤ 200 ∧ RowsAt K H l ops ∧ ops.length ≤ 400 ∧ run (simInit n) ops = some e
def sp_run_schedule : Sp := fun vs H Q _ => ∃ (n : Nat) (l : Addr) (ops : List Op) (e : Sim), vs = [.int n, .ref l] ∧ Runs K H n l ops e ∧
  ∀ (H' : Hp) (t sh bl ol fl : Addr), Same H H' → H' t = some (.tup [.ref sh, .ref fl, .int e.most]) → SimAt C H' sh bl ol e → H' fl = some (.lst (e.filled.map V.int)) → H bl = none → H ol = none → H fl = none → H sh = none → Q (.ref t) H'
def sp_is_schedule : Sp := fun vs H Q _ => ∃ (n : Nat) (l : Addr) (ops : List Op) (e : Sim), vs = [.int n, .ref l] ∧ Runs K H n l ops e ∧ ∀ H', Same H H' → Q (.bl true) H'
def sp_books_after : Sp := fun vs H Q _ => ∃ (n : Nat) (l : Addr) (ops : List Op) (e : Sim), vs = [.int n, .ref l] ∧ Runs K H n l ops e ∧ ∀ (H' : Hp) (p : Addr), Same H H' → H p = none → H' p = some (.lst (e.books.map vo)) → Q (.ref p) H'
def sp_books_out : Sp := fun vs H Q _ => ∃ (n : Nat) (l : Addr) (ops : List Op) (e : Sim), vs = [.int n, .ref l] ∧ Runs K H n l ops e ∧ ∀ (H' : Hp) (p : Addr) (zs : List Int), Same H H' → H p = none → zs.Perm e.out → zs.Pairwise (· ≤ ·) → H' p = some (.lst (zs.map V.int)) → Q (.ref p) H'
def sp_places_filled : Sp := fun vs H Q _ => ∃ (n : Nat) (l : Addr) (ops : List Op) (e : Sim), vs = [.int n, .ref l] ∧ Runs K H n l ops e ∧ ∀ (H' : Hp) (p : Addr), Same H H' → H p = none → H' p = some (.lst (e.filled.map V.int)) → Q (.ref p) H'
def sp_most_out : Sp := fun vs H Q _ => ∃ (n : Nat) (l : Addr) (ops : List Op) (e : Sim), vs = [.int n, .ref l] ∧ Runs K H n l ops e ∧ ∀ H', Same H H' → Q (.int e.most) H'
end
end LP
namespace LP
open PySem L2 LT LG LQ LH LC LX
def G30 : Int := 1000000000000000000000000000000
/-- a place list of these places -/
structure Pl (ns : List Int) : Prop where
  nd : ns.Nodup
  rg : ∀ x ∈ ns, 0 ≤ x ∧ x ≤ G30
  le : ns.length ≤ 200
theorem Pl.perm {ns ms : List Int} (p : Pl ns) (h : ms.Perm ns) : Pl ms := ⟨h.nodup_iff.mpr p.nd, fun x hx => p.rg x (h.subset hx), by rw [h.length_eq]; exact p.le⟩
section
variable (K : PySem.W.Frag)
abbrev Is (H : Hp) (a : Addr) (ns : List Int) : Prop := SqE K H a (ns.map V.int)
def sp_is_whole : Sp := fun vs H Q _ => ∃ n : Int, vs = [.int n] ∧ Q (.bl true) H
def sp_is_listed : Sp := fun vs H Q _ => ∃ (a : Addr) (xs : List V), vs = [.ref a] ∧ SqE K H a xs ∧ ∀ H', Same H H' → Q (.bl true) H'
def sp_is_place : Sp := fun vs H Q _ => ∃ n : Int, vs = [.int n] ∧ 0 ≤ n ∧ n ≤ G30 ∧ Q (.bl true) H
def sp_is_place_list : Sp := fun vs H Q _ => ∃ (a : Addr) (ns : List Int), vs = [.ref a] ∧ Is K H a ns ∧ Pl ns ∧ ∀ H', Same H H' → Q (.bl true) H'
def sp_check_places : Sp := fun vs H Q _ => ∃ (a : Addr) (ns : List Int), vs = [.ref a] ∧ Is K H a ns ∧ Pl ns ∧ ∀ H', Same H H' → Q .non H'
def sp_check_same_places : Sp := fun vs H Q _ => ∃ (a b : Addr) (ns ms : List Int), vs = [.ref a, .ref b] ∧ Is K H a ns ∧ Is K H b ms ∧ ns.Perm ms ∧ ∀ H', Same H H' → Q .non H'
def sp_is_pattern : Sp := fun vs H Q _ => ∃ l : Pat, vs = [.str (pstr l)] ∧ Good l ∧ tks l ≤ 200 ∧ Q (.bl true) H
def sp_check_pattern_for : Sp := fun vs H Q _ => ∃ (a : Addr) (ns : List Int) (l : Pat), vs = [.ref a, .str (pstr l)] ∧ Is K H a ns ∧ Good l ∧ tks l = ns.length ∧ ns.length ≤ 200 ∧ Q .non H
def sp_numbers_by_place : Sp := fun vs H Q _ => ∃ (a : Addr) (ns : List Int), vs = [.ref a] ∧ Is K H a ns ∧ Pl ns ∧ ∀ (H' : Hp) (d : Addr), Same H H' → H d = none → H' d = some (.dK (numK ns)) → Q (.ref d) H'
/-! the law's own -/
def sp__law_shuffled : Sp := fun vs H Q _ => ∃ (b l : Addr) (ns : List Int) (d : Nat) (p : Addr) (xs : List Int), vs = [.ref b, .ref p] ∧ Bag H b l ns d ∧ d < 900000 ∧ ns.length ≤ 63 ∧ SqL K H p (xs.map V.int) ∧ xs.length ≤ 400 ∧ p ≠ b ∧
  ∀ (H' : Hp) (q : Addr) (ys : List Int), Bag H' b l ns (d + xs.length) → Fr H H' b → H q = none → ys.Perm xs → H' q = some (.lst (ys.map V.int)) → Q (.ref q) H'
def sp__law_pattern : Sp := fun vs H Q _ => ∃ (b l : Addr) (ns : List Int) (d n : Nat), vs = [.ref b, .int n] ∧ Bag H b l ns d ∧ d < 900000 ∧ ns.length ≤ 63 ∧ n ≤ 200 ∧
  ∀ (H' : Hp) (t : Pat), Bag H' b l ns (d + 401) → Fr H H' b → Good t → tks t = n → Q (.str (pstr t)) H'
def sp_fills_by : Sp := fun vs H Q _ => ∃ (a : Addr) (ns : List Int) (l : Pat), vs = [.ref a, .str (pstr l)] ∧ Is K H a ns ∧ Pl ns ∧ Good l ∧ tks l = ns.length ∧ ∀ (H' : Hp) (p : Addr), Same H H' → H p = none → H' p = some (.lst ((fillsOf ns l).map V.int)) → Q (.ref p) H'
/-- a dict with the numbers of these places -/
abbrev Nm (H : Hp) (d : Addr) (ns : List Int) : Prop := H d = some (.dK (numK ns))
def sp_check_pair : Sp := fun vs H Q _ => ∃ (a b : Addr) (ns ms : List Int), vs = [.ref a, .ref b] ∧ Is K H a ns ∧ Is K H b ms ∧ Pl ns ∧ ms.Perm ns ∧ ∀ H', Same H H' → Q .non H'
def sp_is_two : Sp := fun vs H Q _ => ∃ (t f : Addr) (tk fs : List Int) (a b : Int), vs = [.ref t, .ref f, .int a, .int b] ∧ Nm H t tk ∧ Nm H f fs ∧ tk.Nodup ∧ fs.Nodup ∧ a ∈ tk ∧ b ∈ tk ∧ a ∈ fs ∧ b ∈ fs ∧
  Q (.bl (decide (a < b ∧ ix tk a < ix tk b ∧ ix fs b < ix fs a))) H
def sp_is_three : Sp := fun vs H Q _ => ∃ (t f : Addr) (tk fs : List Int) (a b c : Int), vs = [.ref t, .ref f, .int a, .int b, .int c] ∧ Nm H t tk ∧ Nm H f fs ∧ tk.Nodup ∧ fs.Nodup ∧ a ∈ tk ∧ b ∈ tk ∧ c ∈ tk ∧ a ∈ fs ∧ b ∈ fs ∧ c ∈ fs ∧
  Q (.bl (decide ((a < b ∧ b < c) ∧ (ix tk c < ix tk b ∧ ix tk b < ix tk a) ∧ ix fs a < ix fs c ∧ ix fs c < ix fs b))) H
/-- where there is no obstruction -/
def sp_first_two : Sp := fun vs H Q _ => ∃ (t f : Addr) (tk fs : List Int), vs = [.ref t, .ref f] ∧ Nm H t tk ∧ Nm H f fs ∧ tk.Nodup ∧ tk.length ≤ 200 ∧ fs.Perm tk ∧ NoObs tk fs ∧ ∀ H', Same H H' → Q .non H'
def sp_last_fill_between : Sp := fun vs H Q _ => ∃ (t f : Addr) (tk fs : List Int) (b : Int), vs = [.ref t, .ref f, .int b] ∧ Nm H t tk ∧ Nm H f fs ∧ t ≠ f ∧ tk.Nodup ∧ tk.length ≤ 200 ∧ fs.Perm tk ∧ b ∈ tk ∧
  ∀ (H' : Hp) (r : Int), Same H H' → (r = -1 ∨ ∃ c ∈ tk, c > b ∧ ix tk c < ix tk b ∧ ix fs c < ix fs b ∧ r = (ix fs c : Nat)) → Q (.int r) H'
def sp_first_three : Sp := fun vs H Q _ => ∃ (t f : Addr) (tk fs : List Int), vs = [.ref t, .ref f] ∧ Nm H t tk ∧ Nm H f fs ∧ t ≠ f ∧ tk.Nodup ∧ tk.length ≤ 200 ∧ fs.Perm tk ∧ NoObs tk fs ∧ ∀ H', Same H H' → Q .non H'
def sp_obstruction : Sp := fun vs H Q _ => ∃ (a b : Addr) (tk fs : List Int), vs = [.ref a, .ref b] ∧ Is K H a tk ∧ Is K H b fs ∧ Pl tk ∧ fs.Perm tk ∧ NoObs tk fs ∧ ∀ H', Same H H' → Q .non H'
def sp_fill_times : Sp := fun vs H Q _ => ∃ l : Pat, vs = [.str (pstr l)] ∧ fls l ≤ 200 ∧ ∀ (H' : Hp) (p : Addr), Same H H' → H p = none → H' p = some (.lst ((times l).map fun t : Nat => V.int t)) → Q (.ref p) H'
def sp_is_result : Sp := fun vs H Q _ => ∃ (a b : Addr) (ns ms : List Int) (l : Pat), vs = [.ref a, .str (pstr l), .ref b] ∧ Is K H a ns ∧ Is K H b ms ∧ Pl ns ∧ ms.Perm ns ∧ Good l ∧ tks l = ns.length ∧ ∀ H', Same H H' → Q (.bl (dueP ns (times l) ms)) H'
def sp_is_possible : Sp := fun vs H Q _ => ∃ (a b : Addr) (tk fs : List Int), vs = [.ref a, .ref b] ∧ Is K H a tk ∧ Is K H b fs ∧ Pl tk ∧ fs.Perm tk ∧ NoObs tk fs ∧ ∀ H', Same H H' → Q (.bl true) H'
def sp__law_followed : Sp := fun vs H Q _ => ∃ (b l : Addr) (ns : List Int) (d : Nat) (p : Addr) (tk : List Int) (t : Pat) (way : Nat), vs = [.ref b, .ref p, .str (pstr t), .int way] ∧ Bag H b l ns d ∧ d < 800000 ∧ ns.length ≤ 63 ∧ way < 3 ∧ SqL K H p (tk.map V.int) ∧ p ≠ b ∧ tk.length ≤ 200 ∧ Good t ∧ tks t = tk.length ∧
  ∀ (H' : Hp) (q : Addr) (ops : List LR.Op) (out : List Int), Bag H' b l ns (d + 400) → Fr H H' b → H q = none → RowsLst H' q ops → LS.Fol tk t ops out → Q (.ref q) H'
def sp__law_late : Sp := fun vs H Q _ => ∃ (p : Addr) (tk : List Int) (t : Pat), vs = [.ref p, .str (pstr t)] ∧ SqL K H p (tk.map V.int) ∧ tk.Nodup ∧ tk.length ≤ 200 ∧ tks t = tk.length ∧ ∀ H', Same H H' → Q (.bl true) H'
def sp__law_most : Sp := fun vs H Q _ => ∃ t : Pat, vs = [.str (pstr t)] ∧ t.length ≤ 400 ∧ ∀ H', Same H H' → Q (.int (LS.mostOf t).2) H'
def sp__law_right : Sp := fun vs H Q _ => ∃ (b l : Addr) (ns : List Int) (d n : Nat), vs = [.ref b, .int n] ∧ Bag H b l ns d ∧ d < 700000 ∧ ns.length ≤ 63 ∧ 1 ≤ n ∧ n ≤ 200 ∧
  ∀ H' : Hp, Bag H' b l ns (d + 2000) → Fr H H' b → Q (.bl true) H'
def sp_law : Sp := fun vs H Q _ => ∃ (a : Addr) (ns : List Int), vs = [.ref a] ∧ SqL K H a (ns.map V.int) ∧ ns.length ≤ 63 ∧ ∀ H', Q (.bl true) H'
end
end LP

namespace LP
open PySem L2 LT LG LQ LH LC LX
section
variable {P : Program} {w : World} {K : PySem.W.Frag} {mg : Str → Option Value} {base : Heap}
theorem ok_is_whole (e : Env K mg) : FnOk P w K mg base CX0 1 e.a_is_whole e.d_is_whole ["value"] (sp_is_whole) := by
  refine e.f_is_whole.ok sc_is_whole (fun vs H Q E h => ?_) (fun cdv A outer s H vs Q E hr h => ?_)
  · obtain ⟨n, rfl, _⟩ := h; rfl
  · obtain ⟨n, rfl, k⟩ := h
    refine ⟨_, (pss_one (ps_ret (pe_and (pe_callB call_isi (by rfl) e.n_isinstance (by decide +kernel) (pa_cons (pv 0) (pa_cons (pe_bltn (v := V.ty "int") (by rfl) e.n_int (by decide +kernel) rfl) pa_nil))) (pe_one (pe_not (pe_callB call_isi (by rfl) e.n_isinstance (by decide +kernel) (pa_cons (pv 0) (pa_cons (pe_bltn (v := V.ty "bool") (by rfl) e.n_bool (by decide +kernel) rfl) pa_nil)))))))), ?_⟩
    refine ⟨_, rfl, _, _, _, _, true, rfl, .ty "int", .base (.int n), kit_ty (by decide +kernel), _, rfl, iteT ?_⟩
    refine ⟨_, rfl, _, _, _, _, false, rfl, .ty "bool", .base (.int n), kit_ty (by decide +kernel), _, rfl, ?_⟩
    exact k
theorem ok_is_listed (e : Env K mg) : FnOk P w K mg base CX0 1 e.a_is_listed e.d_is_listed ["value"] (sp_is_listed K) := by
  refine e.f_is_listed.ok sc_is_listed (fun vs H Q E h => ?_) (fun cdv A outer s H vs Q E hr h => ?_)
  · obtain ⟨a, xs, rfl, _⟩ := h; rfl
  · obtain ⟨a, xs, rfl, hx, k⟩ := h
    refine ⟨_, (pss_one (ps_ret (pe_callB call_isiT (by rfl) e.n_isinstance (by decide +kernel) (pa_cons (pv 0) (pa_cons (pe_tup (pa_cons (pe_bltn (v := V.ty "list") (by rfl) e.n_list (by decide +kernel) rfl) (pa_cons (pe_bltn (v := V.ty "tuple") (by rfl) e.n_tuple (by decide +kernel) rfl) pa_nil))) pa_nil))))), ?_⟩
    refine ⟨_, rfl, (by show 2 ≤ sizeLine; decide), fun p hp => ?_⟩
    rcases ty_E (hx.same (same_upd hp)) with hx | hx
    · exact ⟨_, p, _, .type "list", [.type "list", .type "tuple"], true, rfl, upd_same, .cons (.ty _) (.cons (.ty _) .nil), hx, kit_lt, k _ (same_upd hp)⟩
    · exact ⟨_, p, _, .type "tuple", [.type "list", .type "tuple"], true, rfl, upd_same, .cons (.ty _) (.cons (.ty _) .nil), hx, kit_tt, k _ (same_upd hp)⟩
theorem ok_check_size (e : Env K mg) : FnOk P w K mg base CX0 2 e.a_check_size e.d_check_size ["size"] (sp_check_size) := by
  refine e.f_check_size.ok sc_check_size (fun vs H Q E h => ?_) (fun cdv A outer s H vs Q E hr h => ?_)
  · obtain ⟨n, rfl, _⟩ := h; rfl
  · obtain ⟨n, rfl, h1, h2, k⟩ := h
    refine ⟨_, (pss_one (ps_if (pt_not (PW.pt (pw_and (pt_val (pe_call ((ok_is_whole e).mono (by decide)) hr rfl e.g_is_whole e.f_is_whole.kp e.b_is_whole .nil pass0 (pa_cons (pv 0) pa_nil))) (pw_and1 (pt_chain op_le op_le pe_int (pv 0) (pe_glob (v := V.int 200) rfl e.g_MOST_SIZE ⟨_, rfl⟩))))))
        (pss_one ps_never)
        pss_nil)), ?_⟩
    refine ⟨_, rfl, n, rfl, _, rfl, iteT ?_⟩
    refine ⟨_, rfl, _, _, rfl, rfl, _, rfl, iteD h1 ?_⟩
    exact ⟨_, _, rfl, rfl, _, rfl, iteNS h2 k⟩
theorem ok_is_place (e : Env K mg) : FnOk P w K mg base CX0 2 e.a_is_place e.d_is_place ["value"] (sp_is_place) := by
  refine e.f_is_place.ok sc_is_place (fun vs H Q E h => ?_) (fun cdv A outer s H vs Q E hr h => ?_)
  · obtain ⟨n, rfl, _⟩ := h; rfl
  · obtain ⟨n, rfl, h1, h2, k⟩ := h
    refine ⟨_, (pss_one (ps_ret (pe_and (pe_call ((ok_is_whole e).mono (by decide)) hr rfl e.g_is_whole e.f_is_whole.kp e.b_is_whole .nil pass0 (pa_cons (pv 0) pa_nil)) (pe_one (pe_chain op_le op_le pe_int (pv 0) (pe_glob (v := V.int 1000000000000000000000000000000) rfl e.g_GREATEST_PLACE ⟨_, rfl⟩)))))), ?_⟩
    refine ⟨_, rfl, n, rfl, _, rfl, iteT ?_⟩
    refine ⟨_, rfl, _, _, rfl, rfl, _, rfl, iteD h1 ?_⟩
    refine ⟨_, _, rfl, rfl, ?_⟩
    show Q (V.bl (decide (n ≤ 1000000000000000000000000000000))) H
    rw [decide_eq_true (show n ≤ 1000000000000000000000000000000 from h2)]
    exact k
theorem all_bl {bs : List Bool} (h : ∀ b ∈ bs, b = true) : bs.all id = true := List.all_eq_true.mpr h
theorem ok_is_place_list (e : Env K mg) : FnOk P w K mg base CX0 3 e.a_is_place_list e.d_is_place_list ["value"] (sp_is_place_list K) := by
  refine e.f_is_place_list.ok sc_is_place_list (fun vs H Q E h => ?_) (fun cdv A outer s H vs Q E hr h => ?_)
  · obtain ⟨a, ns, rfl, _⟩ := h; rfl
  · obtain ⟨a, ns, rfl, hE, pl, k⟩ := h
    refine ⟨_, (pss_cons (ps_if (PW.pt (pw_or (pt_not (pt_val (pe_call ((ok_is_listed e).mono (by decide)) hr rfl e.g_is_listed e.f_is_listed.kp e.b_is_listed .nil pass0 (pa_cons (pv 0) pa_nil)))) (pw_or1 (pt_cmpR op_gt (pe_callB call_len_seq (by rfl) e.n_len PySem.boot_len (pa_cons (pv 0) pa_nil)) (pe_glob (v := V.int 200) rfl e.g_MOST_PLACES ⟨_, rfl⟩) (nomark _)))))
        (pss_one (ps_ret pe_bl))
        pss_nil)
      (pss_one (ps_ret (pe_and (pe_callB (cr_all rfl) (by rfl) e.n_all (by decide +kernel) (pa_cons (pe_lc (own := [("item", 1)]) rfl sc_is_place_list.nd (PI.or (pi_list (pv 0)) (pi_tup (pv 0))) (blkOk_by (N := ["value", "item"]) (sc := defScope s_is_place_list) (by decide +kernel)) (fun _ _ _ _ _ => (pg_name (i := 1) sc_is_place_list.nd rfl (by first | exact Or.inl rfl | exact Or.inr rfl))) (fun _ _ _ _ _ => pts_nil) (fun _ _ _ _ _ => (pe_call ((ok_is_place e).mono (by decide)) hr rfl e.g_is_place e.f_is_place.kp e.b_is_place .nil pass0 (pa_cons (pv 1) pa_nil)))) pa_nil)) (pe_one (pe_cmpR op_eq (pe_lenSetS (by rfl) e.n_len (by rfl) e.n_set (pv 0)) (pe_callB call_len_seq (by rfl) e.n_len PySem.boot_len (pa_cons (pv 0) pa_nil)) (nomark _))))))), ?_⟩
    refine ⟨_, rfl, a, _, rfl, hE, fun H1 s1 => ⟨true, rfl, iteNB rfl ?_⟩⟩
    have hE1 := hE.same s1
    have hle := pl.le
    refine ⟨_, rfl, a, _, rfl, hE1, _, _, rfl, rfl, _, rfl, iteX (by rw [List.length_map]; omega) ?_⟩
    refine or_E hE1 rfl fun J G wk hG D hD => ?_
    have sD : ∀ o, Same H1 (upd H1 D o) := fun o => same_upd hD
    refine lc_it wk (fun j H' => H' = upd H1 D (.lst (List.replicate j (V.bl true)))) rfl (fun j H' _ h => by subst h; exact hG _ (sD _)) ?_ ?_
    · rintro j x H2 H3 hj rfl ⟨rfl, hx⟩
      obtain ⟨n, hn, rfl⟩ := at_int hx
      obtain ⟨h0, h1⟩ := pl.rg n (List.mem_of_getElem? hn)
      rw [List.length_map] at hj
      refine ⟨rfl, _, rfl, n, rfl, h0, h1, _, upd_same, ?_, ?_⟩
      · rw [List.length_replicate]; exact small1000 (by omega)
      · rw [upd_upd, ← List.replicate_succ']
    · rintro H2 rfl
      have hb : List.replicate (List.map V.int ns).length (V.bl true) = (List.replicate ns.length true).map V.bl := by rw [List.length_map, List.map_replicate]
      refine ⟨D, List.replicate ns.length true, rfl, SqL.of (by rw [upd_same, hb]), true, ?_, iteT ?_⟩
      · rw [all_bl fun b hb => (List.mem_replicate.mp hb).2]
      have hE2 := hE1.same (sD (.lst (List.replicate (List.map V.int ns).length (V.bl true))))
      refine ⟨_, rfl, a, ns, rfl, hE2, pl.nd, by omega, ?_⟩
      refine ⟨_, rfl, a, _, rfl, hE2, rfl, ?_⟩
      rw [List.length_map, decide_eq_true rfl]
      have s2 : Same H (upd H1 D (.lst (List.replicate (List.map V.int ns).length (V.bl true)))) := s1.trans (sD _)
      rw [List.length_map] at s2
      exact k _ s2
theorem ok_check_places (e : Env K mg) : FnOk P w K mg base CX0 4 e.a_check_places e.d_check_places ["value"] (sp_check_places K) := by
  refine e.f_check_places.ok sc_check_places (fun vs H Q E h => ?_) (fun cdv A outer s H vs Q E hr h => ?_)
  · obtain ⟨a, ns, rfl, _⟩ := h; rfl
  · obtain ⟨a, ns, rfl, hE, pl, k⟩ := h
    refine ⟨_, (pss_one (ps_if (pt_not (pt_val (pe_call ((ok_is_place_list e).mono (by decide)) hr rfl e.g_is_place_list e.f_is_place_list.kp e.b_is_place_list .nil pass0 (pa_cons (pv 0) pa_nil))))
        (pss_one ps_never)
        pss_nil)), ?_⟩
    exact ⟨_, rfl, a, ns, rfl, hE, pl, fun H1 s1 => ⟨true, rfl, iteNB rfl (k _ s1)⟩⟩
theorem dp_ints {K : PySem.W.Frag} {H : Hp} : ∀ l : List Int, DpAll K H (l.map V.int) (l.map PyData.int)
  | [] => .nil
  | i :: r => .cons (.int i) (dp_ints r)
theorem canLay_ints : ∀ l : List Int, PyData.canLayAll0 (l.map PyData.int) = true
  | [] => rfl
  | i :: r => by simp [PyData.canLayAll0, PyData.canLay0, canLay_ints r]
theorem depth_ints : ∀ l : List Int, PyData.depthAll (l.map PyData.int) = 0
  | [] => rfl
  | i :: r => by simp [PyData.depthAll, PyData.depth, depth_ints r]
theorem shaped_ints (l : List Int) : SeqAt.shaped (.list (l.map PyData.int)) = true := by
  simp [SeqAt.shaped, PyData.canLay0, PyData.depth, canLay_ints, depth_ints]
theorem eqvAll_ints : ∀ l : List Int, PyData.eqvAll (l.map PyData.int) (l.map PyData.int) = true
  | [] => by simp [PyData.eqvAll]
  | a :: r => by
    simp only [List.map_cons, PyData.eqvAll, eqvAll_ints r]
    simp [PyData.eqv]
theorem sorted_eq {l m n : List Int} (h1 : l.Perm n) (h2 : m.Perm n) (h3 : l.Pairwise (· ≤ ·)) (h4 : m.Pairwise (· ≤ ·)) : l = m :=
  List.Perm.eq_of_pairwise (le := (· ≤ ·)) (fun a b _ _ h h' => Int.le_antisymm h h') h3 h4 (h1.trans h2.symm)
theorem ok_check_same_places (e : Env K mg) : FnOk P w K mg base CX0 1 e.a_check_same_places e.d_check_same_places ["first", "second"] (sp_check_same_places K) := by
  refine e.f_check_same_places.ok sc_check_same_places (fun vs H Q E h => ?_) (fun cdv A outer s H vs Q E hr h => ?_)
  · obtain ⟨a, b, ns, ms, rfl, _⟩ := h; rfl
  · obtain ⟨a, b, ns, ms, rfl, h1, h2, hp, k⟩ := h
    refine ⟨_, (pss_one (ps_if (pt_cmpR (op_neD hr.units) (pe_callB cr_sortedE (by rfl) e.n_sorted (by decide +kernel) (pa_cons (pv 0) pa_nil)) (pe_callB cr_sortedE (by rfl) e.n_sorted (by decide +kernel) (pa_cons (pv 1) pa_nil)) (nomark _))
        (pss_one ps_never)
        pss_nil)), ?_⟩
    refine ⟨_, rfl, a, ns, rfl, h1, fun ns' p p1 p2 hp1 => ?_⟩
    have s1 := same_upd (o := HO.lst (ns'.map V.int)) hp1
    refine ⟨_, rfl, b, ms, rfl, h2.same s1, fun ms' q q1 q2 hq1 => ?_⟩
    have s2 := same_upd (o := HO.lst (ms'.map V.int)) hq1
    have e : ns' = ms' := sorted_eq p1 (q1.trans hp.symm) p2 q2
    refine ⟨_, _, .lst (SqL.of (s2 _ _ upd_same)) (dp_ints ns'), .lst (SqL.of upd_same) (dp_ints ms'), shaped_ints _, shaped_ints _, _, rfl, ?_⟩
    subst e
    rw [show PyData.eqv (.list (ns'.map PyData.int)) (.list (ns'.map PyData.int)) = true by simp only [PyData.eqv]; exact eqvAll_ints ns']
    exact iteF (k _ (s1.trans s2))
end
end LP

namespace LP
open PySem L2 LT LG LQ LH LC LX
section
variable {P : Program} {w : World} {K : PySem.W.Frag} {mg : Str → Option Value} {base : Heap}
theorem pat_len (l : Pat) : (pstr l).cps.size = l.length := pstr_size l
theorem ok_is_pattern (e : Env K mg) : FnOk P w K mg base CX0 1 e.a_is_pattern e.d_is_pattern ["value"] (sp_is_pattern) := by
  refine e.f_is_pattern.ok sc_is_pattern (fun vs H Q E h => ?_) (fun cdv A outer s H vs Q E hr h => ?_)
  · obtain ⟨l, rfl, _⟩ := h; rfl
  · obtain ⟨l, rfl, g, hle, k⟩ := h
    refine ⟨_, (pss_cons (ps_if (PW.pt (pw_or (pt_not (pt_val (pe_callB call_isi (by rfl) e.n_isinstance (by decide +kernel) (pa_cons (pv 0) (pa_cons (pe_bltn (v := V.ty "str") (by rfl) e.n_str (by decide +kernel) rfl) pa_nil))))) (pw_or1 (pt_cmpR op_gt (pe_m1 PySem.F.slot_str_count PySem.F.type_str_count mt_count (pv 0) pe_str) (pe_glob (v := V.int 200) rfl e.g_MOST_PLACES ⟨_, rfl⟩) (nomark _)))))
        (pss_one (ps_ret pe_bl))
        pss_nil)
      (pss_cons (ps_set (i := 1) sc_is_pattern.nd rfl (by first | exact Or.inl rfl | exact Or.inr rfl) pe_int)
      (pss_cons (ps_for PassesOwn.never rfl (pi_str (pv 0)) (pg_name (i := 2) sc_is_pattern.nd rfl (by first | exact Or.inl rfl | exact Or.inr rfl))
      (pss_one (ps_if (pt_cmpR op_eq (pv 2) pe_str (nomark _))
        (pss_one (ps_aug (i := 1) sc_is_pattern.nd rfl (by first | exact Or.inl rfl | exact Or.inr rfl) pe_int ip_add))
        (pss_one (ps_if (PW.pt (pw_and (pt_cmpR op_eq (pv 2) pe_str (nomark _)) (pw_and1 (pt_cmpR op_gt (pv 1) pe_int (nomark _)))))
        (pss_one (ps_aug (i := 1) sc_is_pattern.nd rfl (by first | exact Or.inl rfl | exact Or.inr rfl) pe_int ip_sub))
        (pss_one (ps_ret pe_bl)))))))
      (pss_one (ps_ret (pe_cmpR op_eq (pv 1) pe_int (nomark _))))))), ?_⟩
    refine ⟨_, rfl, _, _, _, _, true, rfl, .ty "str", .base (.str _), kit_ty (by decide +kernel), _, rfl, iteNB rfl ?_⟩
    refine ⟨_, rfl, ⟨_, rfl⟩, _, _, rfl, rfl, _, _, rfl, rfl, _, rfl, iteX (by rw [count_T]; show ¬ ((tks l : Nat) : Int) > 200; omega) ?_⟩
    refine ⟨_, rfl, _, rfl, for_it walk_str (fun i σ H1 => H1 = H ∧ ∃ v2 : Option V, σ = [some (.str (pstr l)), some (.int ((tks (l.take i) : Nat) - (fls (l.take i) : Nat))), v2]) ⟨rfl, none, rfl⟩ (fun _ _ _ _ _ => trivial) ?_ ?_⟩
    · rintro i x σ H1 H2 hi ⟨rfl, v2, rfl⟩ ⟨rfl, c, hc, rfl⟩
      obtain ⟨b, hb, rfl⟩ := pstr_at hc
      have hp := g.1 (i + 1)
      rw [take_snoc hb] at hp
      cases b with
      | true =>
        refine ⟨_, rfl, rfl, _, rfl, iteD vsT ?_⟩
        have e : ((tks (l.take (i + 1)) : Nat) : Int) - (fls (l.take (i + 1)) : Nat) = (tks (l.take i) : Nat) - (fls (l.take i) : Nat) + 1 := by rw [take_snoc hb, tks_t, fls_t]; omega
        exact ⟨_, rfl, _, _, rfl, rfl, rfl, some (.str ⟨#[sgn true]⟩), by rw [e]; rfl⟩
      | false =>
        rw [tks_f, fls_f] at hp
        refine ⟨_, rfl, rfl, _, rfl, iteX vsR ?_⟩
        refine ⟨_, rfl, rfl, _, rfl, iteD vsRR ?_⟩
        refine ⟨_, rfl, _, _, rfl, rfl, _, rfl, iteD (by omega) ?_⟩
        have e : ((tks (l.take (i + 1)) : Nat) : Int) - (fls (l.take (i + 1)) : Nat) = (tks (l.take i) : Nat) - (fls (l.take i) : Nat) - 1 := by rw [take_snoc hb, tks_f, fls_f]; omega
        exact ⟨_, rfl, _, _, rfl, rfl, rfl, some (.str ⟨#[sgn false]⟩), by rw [e]; rfl⟩
    · rintro σ H1 ⟨rfl, v2, rfl⟩
      rw [pstr_size, List.take_length, g.2]
      refine ⟨_, rfl, rfl, ?_⟩
      have e : ((tks l : Nat) : Int) - (tks l : Nat) = 0 := by omega
      rw [e]
      exact k
theorem ok_check_pattern_for (e : Env K mg) : FnOk P w K mg base CX0 2 e.a_check_pattern_for e.d_check_pattern_for ["takes", "pattern"] (sp_check_pattern_for K) := by
  refine e.f_check_pattern_for.ok sc_check_pattern_for (fun vs H Q E h => ?_) (fun cdv A outer s H vs Q E hr h => ?_)
  · obtain ⟨a, ns, l, rfl, _⟩ := h; rfl
  · obtain ⟨a, ns, l, rfl, hE, g, hn, hle, k⟩ := h
    refine ⟨_, (pss_one (ps_if (PW.pt (pw_or (pt_not (pt_val (pe_call ((ok_is_pattern e).mono (by decide)) hr rfl e.g_is_pattern e.f_is_pattern.kp e.b_is_pattern .nil pass0 (pa_cons (pv 1) pa_nil)))) (pw_or1 (pt_cmpR op_ne (pe_m1 PySem.F.slot_str_count PySem.F.type_str_count mt_count (pv 1) pe_str) (pe_callB call_len_seq (by rfl) e.n_len PySem.boot_len (pa_cons (pv 0) pa_nil)) (nomark _)))))
        (pss_one ps_never)
        pss_nil)), ?_⟩
    refine ⟨_, rfl, l, rfl, g, by omega, true, rfl, iteNB rfl ?_⟩
    refine ⟨_, rfl, ⟨_, rfl⟩, _, _, rfl, rfl, _, rfl, a, _, rfl, hE, rfl, _, rfl, ?_⟩
    have e : V.int (Txt.count (pstr l) ("T" : Str)) = V.int ((ns.map V.int).length : Nat) := by
      rw [count_T, List.length_map]; exact congrArg V.int (by exact_mod_cast hn)
    rw [e, decide_eq_true rfl]
    exact iteF k
theorem ok_numbers_by_place (e : Env K mg) : FnOk P w K mg base CX0 1 e.a_numbers_by_place e.d_numbers_by_place ["places"] (sp_numbers_by_place K) := by
  refine e.f_numbers_by_place.ok sc_numbers_by_place (fun vs H Q E h => ?_) (fun cdv A outer s H vs Q E hr h => ?_)
  · obtain ⟨a, ns, rfl, _⟩ := h; rfl
  · obtain ⟨a, ns, rfl, hE, pl, k⟩ := h
    have hle := pl.le
    refine ⟨_, (pss_one (ps_ret (pe_dc (own := [("number", 1), ("place", 2)]) rfl sc_numbers_by_place.nd (PI.or (pi_enum (by rfl) e.n_enumerate (pa_cons (pv 0) pa_nil)) (pi_enumT (by rfl) e.n_enumerate (pa_cons (pv 0) pa_nil))) (blkOk_by (N := ["places", "number", "place"]) (sc := defScope s_numbers_by_place) (by decide +kernel)) (fun _ _ _ _ _ => (show PG _ _ (gTup K 2 _) from pg_tup (by rfl) (pgs_cons (pg_name (i := 1) sc_numbers_by_place.nd rfl (by first | exact Or.inl rfl | exact Or.inr rfl)) (pgs_cons (pg_name (i := 2) sc_numbers_by_place.nd rfl (by first | exact Or.inl rfl | exact Or.inr rfl)) pgs_nil)))) (fun _ _ _ _ _ => pts_nil) (fun _ _ _ _ _ => (pv 2)) (fun _ _ _ _ _ => (pv 1))))), ?_⟩
    refine or_enumE hE (fun Q q => ⟨_, rfl, q⟩) fun J G wk hG D hD => ?_
    refine dc_it wk (fun j H' => Same H H' ∧ H' D = some (.dK (numK (ns.take j)))) ⟨same_upd hD, upd_same⟩ (fun j H' _ h => hG _ h.1) ?_ ?_
    · rintro j x H2 H3 hj ⟨s2, hd⟩ ⟨T, x, y, rfl, hT, rfl, hx, hy⟩
      cases hx
      obtain ⟨n, hn, rfl⟩ := at_int hy
      rw [List.length_map] at hj
      have s3 := same_upd (o := HO.tup [.int (j : Nat), .int n]) hT
      refine ⟨_, _, rfl, SqT.of upd_same, rfl, _, _, rfl, _, _, rfl, rfl, rfl, _, rfl, _, rfl, numK (ns.take j), .inl n, rfl, s3 _ _ hd, ?_, ?_, ?_⟩
      · rw [numK_len, List.length_take]; exact small1000 (by omega)
      · intro b o hb
        rw [upd_ne (ne_of_none hb hD)]
        exact s3 _ _ (s2 _ _ hb)
      · have hnot : n ∉ ns.take j := fun q => by
          obtain ⟨i, hi, e⟩ := List.mem_take_iff_getElem.mp q
          obtain ⟨h1, h2⟩ := List.getElem?_eq_some_iff.mp hn
          have := (List.getElem_inj pl.nd).mp (e.trans h2.symm)
          omega
        rw [upd_same, take_snoc hn]
        have e := numK_put hnot
        rw [List.length_take, Nat.min_eq_left (by omega)] at e
        rw [e]
    · rintro H2 ⟨s2, hd⟩
      rw [List.length_map, List.take_length] at hd
      exact k _ D s2 hD hd
theorem ok_fill_times (e : Env K mg) : FnOk P w K mg base CX0 1 e.a_fill_times e.d_fill_times ["pattern"] (sp_fill_times) := by
  refine e.f_fill_times.ok sc_fill_times (fun vs H Q E h => ?_) (fun cdv A outer s H vs Q E hr h => ?_)
  · obtain ⟨l, rfl, _⟩ := h; rfl
  · obtain ⟨l, rfl, hle, k⟩ := h
    refine ⟨_, (pss_cons (ps_set (i := 1) sc_fill_times.nd rfl (by first | exact Or.inl rfl | exact Or.inr rfl) (pe_lst pa_nil))
      (pss_cons (ps_set (i := 2) sc_fill_times.nd rfl (by first | exact Or.inl rfl | exact Or.inr rfl) pe_int)
      (pss_cons (ps_for PassesOwn.never rfl (pi_str (pv 0)) (pg_name (i := 3) sc_fill_times.nd rfl (by first | exact Or.inl rfl | exact Or.inr rfl))
      (pss_one (ps_if (pt_cmpR op_eq (pv 3) pe_str (nomark _))
        (pss_one (ps_aug (i := 2) sc_fill_times.nd rfl (by first | exact Or.inl rfl | exact Or.inr rfl) pe_int ip_add))
        (pss_one (ps_expr (pe_bm PySem.F.plainAttrs_list PySem.F.slot_list_append PySem.F.type_list_append mt_append (pv 1) (pa_cons (pv 2) pa_nil)))))))
      (pss_one (ps_ret (pv 1)))))), ?_⟩
    refine ⟨by decide, fun p hp => ?_⟩
    refine ⟨_, rfl, _, rfl, for_it walk_str (fun i σ H1 => Same H H1 ∧ H1 p = some (.lst ((times (l.take i)).map fun t : Nat => V.int t)) ∧ ∃ v3 : Option V, σ = [some (.str (pstr l)), some (.ref p), some (.int (tks (l.take i) : Nat)), v3]) ⟨same_upd hp, upd_same, none, rfl⟩ (fun _ _ _ _ _ => trivial) ?_ ?_⟩
    · rintro i x σ H1 H2 hi ⟨s1, h1, v3, rfl⟩ ⟨rfl, c, hc, rfl⟩
      obtain ⟨b, hb, rfl⟩ := pstr_at hc
      cases b with
      | true =>
        refine ⟨_, rfl, rfl, _, rfl, iteD vsT ?_⟩
        refine ⟨_, rfl, _, _, rfl, rfl, s1, ?_, some (.str ⟨#[sgn true]⟩), ?_⟩
        · rw [take_snoc hb, times_t]; exact h1
        · rw [take_snoc hb, tks_t]; rfl
      | false =>
        refine ⟨_, rfl, rfl, _, rfl, iteX vsR ?_⟩
        have hl : (times (l.take i)).length ≤ 200 := by rw [times_len]; have := fls_take l i; omega
        refine ⟨_, rfl, .inl ⟨rfl, _, SqL.of h1⟩, _, rfl, p, _, _, rfl, rfl, h1, by rw [List.length_map]; exact small1000 (by omega), ?_, ?_, some (.str ⟨#[sgn false]⟩), ?_⟩
        · intro b o hb; rw [upd_ne (ne_of_none hb hp)]; exact s1 _ _ hb
        · rw [upd_same, take_snoc hb, times_f, List.map_append]; rfl
        · rw [take_snoc hb, tks_f]; rfl
    · rintro σ H1 ⟨s1, h1, v3, rfl⟩
      rw [pstr_size, List.take_length] at h1
      exact ⟨_, rfl, k _ p s1 hp h1⟩
end
end LP

namespace LP
open PySem L2 LT LG LQ LH LC LX
section
variable {P : Program} {w : World} {K : PySem.W.Frag} {mg : Str → Option Value} {base : Heap}
theorem ok_fills_by (e : Env K mg) : FnOk P w K mg base CX0 5 e.a_fills_by e.d_fills_by ["takes", "pattern"] (sp_fills_by K) := by
  refine e.f_fills_by.ok sc_fills_by (fun vs H Q E h => ?_) (fun cdv A outer s H vs Q E hr h => ?_)
  · obtain ⟨a, ns, l, rfl, _⟩ := h; rfl
  · obtain ⟨a, ns, l, rfl, hE, pl, g, hn, k⟩ := h
    have hle := pl.le
    refine ⟨_, (pss_cons (ps_expr (pe_call ((ok_check_places e).mono (by decide)) hr rfl e.g_check_places e.f_check_places.kp e.b_check_places .nil pass0 (pa_cons (pv 0) pa_nil)))
      (pss_cons (ps_expr (pe_call ((ok_check_pattern_for e).mono (by decide)) hr rfl e.g_check_pattern_for e.f_check_pattern_for.kp e.b_check_pattern_for .nil pass0 (pa_cons (pv 0) (pa_cons (pv 1) pa_nil))))
      (pss_cons (ps_set (i := 2) sc_fills_by.nd rfl (by first | exact Or.inl rfl | exact Or.inr rfl) (pe_lst pa_nil))
      (pss_cons (ps_set (i := 3) sc_fills_by.nd rfl (by first | exact Or.inl rfl | exact Or.inr rfl) (pe_lst pa_nil))
      (pss_cons (ps_set (i := 4) sc_fills_by.nd rfl (by first | exact Or.inl rfl | exact Or.inr rfl) pe_int)
      (pss_cons (ps_for PassesOwn.never rfl (pi_str (pv 1)) (pg_name (i := 5) sc_fills_by.nd rfl (by first | exact Or.inl rfl | exact Or.inr rfl))
      (pss_one (ps_if (pt_cmpR op_eq (pv 5) pe_str (nomark _))
        (pss_cons (ps_expr (pe_callBfun LH.cr_push (by rfl) e.g_heappush (pa_cons (pv 2) (pa_cons (PE.or (pe_ix ix_list (pv 0) (pv 4) (fun _ _ => rfl)) (pe_ix ix_tup (pv 0) (pv 4) (fun _ _ => rfl))) pa_nil))))
      (pss_one (ps_aug (i := 4) sc_fills_by.nd rfl (by first | exact Or.inl rfl | exact Or.inr rfl) pe_int ip_add)))
        (pss_one (ps_expr (pe_bm PySem.F.plainAttrs_list PySem.F.slot_list_append PySem.F.type_list_append mt_append (pv 3) (pa_cons (pe_callBfun LH.cr_pop (by rfl) e.g_heappop (pa_cons (pv 2) pa_nil)) pa_nil)))))))
      (pss_one (ps_ret (pv 3))))))))), ?_⟩
    refine ⟨_, rfl, a, ns, rfl, hE, pl, fun H1 s1 => ?_⟩
    refine ⟨_, rfl, _, rfl, a, ns, l, rfl, hE.same s1, g, hn, hle, ?_⟩
    refine ⟨by decide, fun gp hg => ⟨by decide, fun fp hf => ?_⟩⟩
    have sg := same_upd (o := HO.lst []) hg
    have sf := same_upd (o := HO.lst []) hf
    have hg0 : H gp = none := s1.free hg
    have hf0 : H fp = none := s1.free (sg.free hf)
    have ngf : gp ≠ fp := ne_of_none upd_same hf
    refine ⟨_, rfl, _, rfl, for_it walk_str (fun i σ H2 => ∃ (hs : List Int) (v5 : Option V), IsH hs ∧ hs.Perm (run ns (l.take i)).gaps ∧ Same H H2 ∧ H2 gp = some (.lst (hs.map V.int)) ∧ H2 fp = some (.lst ((run ns (l.take i)).fills.map V.int)) ∧
        σ = [some (.ref a), some (.str (pstr l)), some (.ref gp), some (.ref fp), some (.int (tks (l.take i) : Nat)), v5])
      ⟨[], none, heap_nil, List.Perm.refl _, s1.trans (sg.trans sf), sf _ _ upd_same, upd_same, rfl⟩ (fun _ _ _ _ _ => trivial) ?_ ?_⟩
    · rintro i x σ H2 H3 hi ⟨hs, v5, ih, pm, s2, h2, f2, rfl⟩ ⟨rfl, c, hc, rfl⟩
      obtain ⟨bb, hb, rfl⟩ := pstr_at hc
      have hil : i < l.length := (List.getElem?_eq_some_iff.mp hb).1
      obtain ⟨r1, r2, r3⟩ := run_ok g.1 (Nat.le_of_eq hn) i (by omega)
      have htk := tks_take l (i + 1)
      have hfk := fls_take l (i + 1)
      have hgl := g.2
      have hpl := r3.length_eq
      rw [List.length_append, List.length_take, r2] at hpl
      have hsl := pm.length_eq
      have kg : ∀ {H4 : Hp} {o : HO}, Same H H4 → Same H (upd H4 gp o) := fun s b u hb => by rw [upd_ne (ne_of_none hb hg0)]; exact s b u hb
      have kf : ∀ {H4 : Hp} {o : HO}, Same H H4 → Same H (upd H4 fp o) := fun s b u hb => by rw [upd_ne (ne_of_none hb hf0)]; exact s b u hb
      cases bb with
      | true =>
        rw [take_snoc hb, tks_t] at htk
        have hx := List.getElem?_eq_getElem (l := ns) (i := tks (l.take i)) (by omega)
        generalize ns[tks (l.take i)]'(by omega) = y at hx
        have e1 : run ns (l.take (i + 1)) = ⟨(run ns (l.take i)).at_ + 1, (run ns (l.take i)).gaps ++ [y], (run ns (l.take i)).fills⟩ := by
          rw [take_snoc hb, run_snoc]
          show (⟨_, _ ++ (ns[(run ns (l.take i)).at_]?).toList, _⟩ : Sh) = _
          rw [r1, hx]; rfl
        refine ⟨_, rfl, rfl, _, rfl, iteD vsT ?_⟩
        have fin : ∀ H4 : Hp, H4 = H3 → rPush [.ref gp, .int y] H4 (fun _ H5 => ∃ x : V, [some (V.ref a), some (.str (pstr l)), some (.ref gp), some (.ref fp), some (.int (tks (l.take i) : Nat)), some (.str ⟨#[sgn true]⟩)][4]? = some (some x) ∧ ∃ i' j', x = .int i' ∧ V.int 1 = .int j' ∧
            ∃ (hs : List Int) (v5 : Option V), IsH hs ∧ hs.Perm (run ns (l.take (i + 1))).gaps ∧ Same H H5 ∧ H5 gp = some (.lst (hs.map V.int)) ∧ H5 fp = some (.lst ((run ns (l.take (i + 1))).fills.map V.int)) ∧ [some (V.ref a), some (.str (pstr l)), some (.ref gp), some (.ref fp), some (.int (tks (l.take i) : Nat)), some (.str ⟨#[sgn true]⟩)].set 4 (some (.int (i' + j'))) = [some (.ref a), some (.str (pstr l)), some (.ref gp), some (.ref fp), some (.int (tks (l.take (i + 1)) : Nat)), v5]) := by
          rintro H4 rfl
          refine ⟨gp, hs, y, rfl, h2, ih, by omega, fun ms q1 q2 => ?_⟩
          refine ⟨_, rfl, _, _, rfl, rfl, ms, some (.str ⟨#[sgn true]⟩), q2, ?_, kg s2, upd_same, ?_, ?_⟩
          · rw [e1]; exact q1.trans (pm.append_right _)
          · rw [upd_ne ngf.symm, e1]; exact f2
          · rw [take_snoc hb, tks_t]; rfl
        rcases hE.same s2 with hS | hS
        · exact ⟨_, rfl, .inl ⟨_, rfl, _, rfl, a, _, _, _, rfl, rfl, hS, at_of rfl (int_at hx), fin _ rfl⟩⟩
        · exact ⟨_, rfl, .inr ⟨_, rfl, _, rfl, a, _, _, _, rfl, rfl, hS, at_of rfl (int_at hx), fin _ rfl⟩⟩
      | false =>
        have hpr := g.1 (i + 1)
        rw [take_snoc hb, fls_f] at hfk
        rw [take_snoc hb, fls_f, tks_f] at hpr
        have htk2 := tks_take l i
        have e1 : run ns (l.take (i + 1)) = ⟨(run ns (l.take i)).at_, (run ns (l.take i)).gaps.erase (mn (run ns (l.take i)).gaps), (run ns (l.take i)).fills ++ [mn (run ns (l.take i)).gaps]⟩ := by
          rw [take_snoc hb, run_snoc]; rfl
        have hne : hs ≠ [] := fun e => by rw [e] at hsl; simp at hsl; omega
        refine ⟨_, rfl, rfl, _, rfl, iteX vsR ?_⟩
        refine ⟨_, rfl, .inl ⟨rfl, _, SqL.of f2⟩, _, rfl, gp, hs, rfl, h2, ih, hne, by omega, fun m ms q1 q2 q3 => ?_⟩
        have em : m = mn (run ns (l.take i)).gaps := mn_eq (pm.subset (q1.subset List.mem_cons_self)) fun x hx => q2 x (pm.symm.subset hx)
        refine ⟨fp, _, _, rfl, rfl, (by rw [upd_ne ngf.symm]; exact f2), by rw [List.length_map, r2]; exact small1000 (by omega), ms, some (.str ⟨#[sgn false]⟩), q3, ?_, kf (kg s2), ?_, ?_, ?_⟩
        · rw [e1, ← em]
          have h1 := q1.trans pm
          have h3 := h1.trans (List.perm_cons_erase (a := m) (by rw [em]; exact (mn_ok (fun e => by rw [e] at hsl; exact hne (List.length_eq_zero_iff.mp hsl))).1))
          exact h3.cons_inv
        · rw [upd_ne ngf, upd_same]
        · rw [upd_same, e1, em, List.map_append]; rfl
        · rw [take_snoc hb, tks_f]; rfl
    · rintro σ H2 ⟨hs, v5, ih, pm, s2, h2, f2, rfl⟩
      rw [pstr_size, List.take_length] at f2
      exact ⟨_, rfl, k H2 fp s2 hf0 f2⟩
end
end LP

namespace LP
open PySem L2 LT LG LQ LH LC LX
section
variable {P : Program} {w : World} {K : PySem.W.Frag} {mg : Str → Option Value} {base : Heap}
theorem stir_total {t c : Int} (h : 0 ≤ t) (h2 : t < M61) : 0 ≤ (t * 1000003 + c % M61 + 1) % M61 ∧ (t * 1000003 + c % M61 + 1) % M61 < M61 := ⟨Int.emod_nonneg _ (by decide), Int.emod_lt_of_pos _ (by decide)⟩
theorem ok__law_bag (e : Env K mg) : FnOk P w K mg base CX0 1 e.a__law_bag e.d__law_bag ["script"] (sp__law_bag K) := by
  refine e.f__law_bag.ok sc__law_bag (fun vs H Q E h => ?_) (fun cdv A outer s H vs Q E hr h => ?_)
  · obtain ⟨a, ns, rfl, _⟩ := h; rfl
  · obtain ⟨a, ns, rfl, hS, hl, k⟩ := h
    refine ⟨_, (pss_cons (ps_set (i := 1) sc__law_bag.nd rfl (by first | exact Or.inl rfl | exact Or.inr rfl) pe_int)
      (pss_cons (ps_for PassesOwn.never rfl (pi_list (pv 0)) (pg_name (i := 2) sc__law_bag.nd rfl (by first | exact Or.inl rfl | exact Or.inr rfl))
      (pss_one (ps_set (i := 1) sc__law_bag.nd rfl (by first | exact Or.inl rfl | exact Or.inr rfl) (pe_op op_mod (pe_op op_add (pe_op op_add (pe_op op_mul (pv 1) pe_int) (pe_op op_mod (pv 2) pe_int)) pe_int) pe_int))))
      (pss_one (ps_ret (pe_lst (pa_cons (pe_callTy call_list_of (by rfl) e.n_list (by decide +kernel) (pa_cons (pv 0) pa_nil)) (pa_cons pe_int (pa_cons pe_int (pa_cons pe_int (pa_cons (pv 1) pa_nil)))))))))), ?_⟩
    refine ⟨_, rfl, a, rfl, ⟨_, hS⟩, for_it walk_list (fun i σ H1 => ∃ (t : Int) (v : Option V), 0 ≤ t ∧ t < M61 ∧ H1 = H ∧ σ = [some (.ref a), some (.int t), v])
      ⟨1, none, by decide, by decide, rfl, rfl⟩ (fun i σ H1 _ ⟨_, _, _, _, e1, _⟩ => by rw [e1]; exact hS) ?_ ?_⟩
    · rintro i x σ H1 H2 hi ⟨t, v, h0, h1, rfl, rfl⟩ ⟨rfl, hx⟩
      rw [List.getElem?_map] at hx
      cases q : ns[i]? with
      | none => rw [q] at hx; cases hx
      | some c =>
        rw [q] at hx; cases hx
        refine ⟨_, rfl, _, _, rfl, rfl, .inr ⟨by decide, by decide⟩, ?_⟩
        refine ⟨_, rfl, _, _, rfl, rfl, (by show (0 : Int) < M61; decide), _, _, rfl, rfl, _, _, rfl, rfl, _, _, rfl, rfl, (by show (0 : Int) < M61; decide), ?_⟩
        have z := stir_total (c := c) h0 h1
        exact ⟨_, _, z.1, z.2, rfl, rfl⟩
    · rintro σ H1 ⟨t, v, h0, h1, rfl, rfl⟩
      refine ⟨_, rfl, a, _, rfl, .inl hS, fun l hl' => ?_⟩
      refine ⟨_, rfl, (by show 5 ≤ sizeLine; decide), fun b hb => ?_⟩
      have hb0 := (same_upd hl').free hb
      have n1 : l ≠ b := ne_of_none upd_same hb
      refine k _ b l ((same_upd hl').trans (same_upd hb)) hb0 hl' ⟨⟨0, 0, 0, t, upd_same, by decide, by omega, by decide, by decide, h0, h1⟩, ?_, n1⟩
      rw [upd_ne n1, upd_same]
theorem ok__law_stir (e : Env K mg) : FnOk P w K mg base CX0 1 e.a__law_stir e.d__law_stir ["number", "place"] (sp__law_stir) := by
  refine e.f__law_stir.ok sc__law_stir (fun vs H Q E h => ?_) (fun cdv A outer s H vs Q E hr h => ?_)
  · obtain ⟨x, y, rfl, _⟩ := h; rfl
  · obtain ⟨x, y, rfl, h1, h2, h3, h4, k⟩ := h
    refine ⟨_, (pss_cons (ps_set (i := 2) sc__law_stir.nd rfl (by first | exact Or.inl rfl | exact Or.inr rfl) (pe_op op_mod (pe_op op_add (pe_op op_add (pe_op op_mul (pv 0) pe_int) (pe_op op_mul (pv 1) pe_int)) pe_int) pe_int))
      (pss_cons (ps_set (i := 3) sc__law_stir.nd rfl (by first | exact Or.inl rfl | exact Or.inr rfl) (pe_op op_mod (pe_op op_mul (pv 2) (pv 2)) pe_int))
      (pss_one (ps_ret (pe_op op_fdivW (pe_op op_mod (pe_op op_add (pe_op op_add (pe_op op_mul (pv 3) pe_int) (pe_op op_mul (pe_op op_mul (pv 1) (pv 1)) pe_int)) (pe_op op_fdivW (pv 2) pe_int)) pe_int) pe_int))))), ?_⟩
    refine ⟨_, rfl, _, _, rfl, rfl, .inr ⟨by decide, by decide⟩, _, rfl, _, _, rfl, rfl, .inr ⟨by decide, by decide⟩, _, _, rfl, rfl, _, _, rfl, rfl, _, _, rfl, rfl, (by show (0 : Int) < M61; decide), ?_⟩
    have o1 : 0 ≤ (x * 998244353 + y * 1000000007 + 5) % M61 := Int.emod_nonneg _ (by decide)
    have o2 : (x * 998244353 + y * 1000000007 + 5) % M61 < M61 := Int.emod_lt_of_pos _ (by decide)
    have m64 : M61 < 2 ^ 64 := by decide
    have m0 : -(2 ^ 64) < (0 : Int) := by decide
    refine ⟨_, rfl, _, rfl, _, _, rfl, rfl, .inl ⟨Int.lt_of_lt_of_le m0 o1, Int.lt_trans o2 m64⟩, _, _, rfl, rfl, (by show (0 : Int) < M61; decide), ?_⟩
    have y1 : -(2 ^ 64) < y := by omega
    have y2 : y < 2 ^ 64 := by omega
    refine ⟨_, rfl, _, _, rfl, rfl, .inr ⟨by decide, by decide⟩, _, rfl, _, rfl, _, _, rfl, rfl, .inl ⟨y1, y2⟩, _, _, rfl, rfl, .inr ⟨by decide, by decide⟩, _, _, rfl, rfl, _, rfl, _, _, rfl, rfl, ⟨by decide, by decide⟩, _, _, rfl, rfl, _, _, rfl, rfl, (by show (0 : Int) < 2305843009213693921; decide), _, _, rfl, rfl, ⟨by decide, by decide⟩, ?_⟩
    exact k _
theorem bag_get {K : PySem.W.Frag} {H : Hp} {b : Addr} {vs : List V} {j : Nat} {v : V} (h : H b = some (.lst vs)) (e : vs[j]? = some v) : ∃ (p : Addr) (xs : List V) (i : Int) (w : V), V.ref b = .ref p ∧ V.int j = .int i ∧ SqL K H p xs ∧ atI xs i = some w ∧ w = v := ⟨b, vs, j, v, rfl, rfl, SqL.of h, atI_nat e, rfl⟩
theorem ok__law_draw (e : Env K mg) : FnOk P w K mg base CX0 2 e.a__law_draw e.d__law_draw ["bag", "bound"] (sp__law_draw) := by
  refine e.f__law_draw.ok sc__law_draw (fun vs H Q E h => ?_) (fun cdv A outer s H vs Q E hr h => ?_)
  · obtain ⟨b, l, ns, d, n, rfl, _⟩ := h; rfl
  · obtain ⟨b, l, ns, d, n, rfl, G, hn, hn2, hd, hl, k⟩ := h
    refine ⟨_, (pss_cons (ps_if (pt_cmpR op_eq (pv 1) pe_int (nomark _))
        (pss_one (ps_ret pe_int))
        pss_nil)
      (pss_cons (ps_asg (pe_op op_add (pe_ix ix_list (pv 0) pe_int (fun _ _ => rfl)) pe_int) (pg_sub (pv 0) pe_int set_list))
      (pss_cons (ps_if (PW.pt (pw_and (pt_cmpR op_lt (pe_ix ix_list (pv 0) pe_int (fun _ _ => rfl)) pe_int (nomark _)) (pw_and1 (pt_cmpR op_eq (pe_ix ix_list (pv 0) pe_int (fun _ _ => rfl)) (pe_callB call_len_seq (by rfl) e.n_len PySem.boot_len (pa_cons (pe_ix ix_list (pv 0) pe_int (fun _ _ => rfl)) pa_nil)) (nomark _)))))
        (pss_one (ps_ret (pe_op op_mod (pe_call ((ok__law_stir e).mono (by decide)) hr rfl e.g__law_stir e.f__law_stir.kp e.b__law_stir .nil pass0 (pa_cons (pe_ix ix_list (pv 0) pe_int (fun _ _ => rfl)) (pa_cons (pe_ix ix_list (pv 0) pe_int (fun _ _ => rfl)) pa_nil))) (pv 1))))
        pss_nil)
      (pss_cons (ps_if (pt_cmpR op_lt (pe_ix ix_list (pv 0) pe_int (fun _ _ => rfl)) pe_int (nomark _))
        (pss_cons (ps_set (i := 2) sc__law_draw.nd rfl (by first | exact Or.inl rfl | exact Or.inr rfl) (pe_ix ix_list (pe_ix ix_list (pv 0) pe_int (fun _ _ => rfl)) (pe_ix ix_list (pv 0) pe_int (fun _ _ => rfl)) (fun _ _ => rfl)))
      (pss_cons (ps_asg (pe_op op_add (pe_ix ix_list (pv 0) pe_int (fun _ _ => rfl)) pe_int) (pg_sub (pv 0) pe_int set_list))
      (pss_cons (ps_if (pt_cmpR op_lt (pv 2) (pe_op op_pow pe_int pe_int) (nomark _))
        (pss_one (ps_ret (pe_op op_mod (pe_call ((ok__law_stir e).mono (by decide)) hr rfl e.g__law_stir e.f__law_stir.kp e.b__law_stir .nil pass0 (pa_cons (pe_op op_mod (pv 2) pe_int) (pa_cons (pe_ix ix_list (pv 0) pe_int (fun _ _ => rfl)) pa_nil))) (pv 1))))
        pss_nil)
      (pss_one (ps_asg (pe_op op_sub (pv 2) (pe_op op_pow pe_int pe_int)) (pg_sub (pv 0) pe_int set_list))))))
        pss_nil)
      (pss_cons (ps_set (i := 3) sc__law_draw.nd rfl (by first | exact Or.inl rfl | exact Or.inr rfl) (pe_op op_mod (pe_ix ix_list (pv 0) pe_int (fun _ _ => rfl)) (pv 1)))
      (pss_cons (ps_asg (pe_op op_fdivW (pe_ix ix_list (pv 0) pe_int (fun _ _ => rfl)) (pv 1)) (pg_sub (pv 0) pe_int set_list))
      (pss_one (ps_ret (pv 3))))))))), ?_⟩
    refine ⟨_, rfl, rfl, _, rfl, ite2d (fun h1 => ?_) fun h1 => ?_⟩
    · have e1 : n = 1 := V.int.inj h1
      exact k _ 0 (by decide) (by omega) (G.mono (by omega)) (Fr.refl _ _)
    · obtain ⟨⟨i, c, kk, t, hb, hi0, hi1, hk0, hk1, ht0, ht1⟩, hls, hne⟩ := id G
      refine ⟨_, rfl, b, _, _, _, rfl, rfl, SqL.of hb, rfl, _, _, rfl, rfl, _, rfl, b, _, _, 3, rfl, rfl, hb, rfl, ?_⟩
      have F : ∀ o, Fr H (upd H b o) b := fun o a x hx ha => by rw [upd_ne ha]; exact hx
      have hbb : ∀ o, upd H b o b = some o := fun o => upd_same
      have hll : ∀ o, upd H b o l = some (.lst (ns.map V.int)) := fun o => by rw [upd_ne hne]; exact hls
      have cl : ∀ c' : Int, Bag (upd H b (.lst [.ref l, .int i, .int c', .int (kk + 1), .int t])) b l ns (d + 1) := fun c' => ⟨⟨i, c', kk + 1, t, upd_same, hi0, hi1, by omega, by omega, ht0, ht1⟩, hll _, hne⟩
      have cl2 : ∀ (j c' : Int), 0 ≤ j → j ≤ ns.length → Bag (upd H b (.lst [.ref l, .int j, .int c', .int (kk + 1), .int t])) b l ns (d + 1) := fun j c' h0 h1 => ⟨⟨j, c', kk + 1, t, upd_same, h0, h1, by omega, by omega, ht0, ht1⟩, hll _, hne⟩
      have r0 : ∀ r : Int, 0 ≤ r % n := fun r => Int.emod_nonneg _ (by omega)
      have r1 : ∀ r : Int, r % n < n := fun r => Int.emod_lt_of_pos _ hn
      refine ⟨_, rfl, b, _, _, _, rfl, rfl, SqL.of upd_same, rfl, _, _, rfl, rfl, _, rfl, ite2d (fun hc => ?_) fun hc => ?_⟩
      · refine ⟨_, rfl, b, _, _, _, rfl, rfl, SqL.of upd_same, rfl, _, rfl, b, _, _, _, rfl, rfl, SqL.of upd_same, rfl, l, _, rfl, .inl (SqL.of (hll _)), rfl, _, rfl, ite2d (fun hi => ?_) fun hi => ?_⟩
        · refine ⟨_, rfl, b, _, _, _, rfl, rfl, SqL.of upd_same, rfl, _, rfl, b, _, _, _, rfl, rfl, SqL.of upd_same, rfl, t, kk + 1, rfl, ht0, ht1, by omega, by omega, fun r => ⟨_, rfl, _, _, rfl, rfl, hn, ?_⟩⟩
          exact k _ (r % n) (r0 r) (r1 r) (cl c) (F _)
        · refine ⟨_, rfl, b, _, _, _, rfl, rfl, SqL.of upd_same, rfl, _, _, rfl, rfl, _, rfl, iteD hc ?_⟩
          have hi2 : i ≠ ns.length := fun q => hi (by rw [q, List.length_map])
          have hi3 : i.toNat < ns.length := by omega
          refine ⟨_, rfl, b, _, _, _, rfl, rfl, SqL.of upd_same, rfl, _, rfl, b, _, _, _, rfl, rfl, SqL.of upd_same, rfl, _, _, _, _, rfl, rfl, SqL.of (hll _), at_of (j := i.toNat) (v := V.int ns[i.toNat]) (by omega) (by rw [List.getElem?_map, List.getElem?_eq_getElem hi3]; rfl), ?_⟩
          refine ⟨_, rfl, b, _, _, _, rfl, rfl, SqL.of upd_same, rfl, _, _, rfl, rfl, _, rfl, b, _, _, 1, rfl, rfl, upd_same, rfl, ?_⟩
          rw [upd_upd]
          generalize ns[i.toNat] = cell
          refine ⟨_, rfl, _, _, rfl, rfl, ⟨by decide, by decide, by decide⟩, _, _, rfl, rfl, _, rfl, ite2d (fun hq => ?_) fun hq => ?_⟩
          · refine ⟨_, rfl, _, _, rfl, rfl, (by show (0 : Int) < M61; decide), _, rfl, b, _, _, _, rfl, rfl, SqL.of upd_same, rfl, cell % M61, kk + 1, rfl, Int.emod_nonneg _ (by decide), Int.emod_lt_of_pos _ (by decide), by omega, by omega, fun r => ⟨_, rfl, _, _, rfl, rfl, hn, ?_⟩⟩
            exact k _ (r % n) (r0 r) (r1 r) (cl2 (i + 1) c (by omega) (by omega)) (F _)
          · refine ⟨_, rfl, _, _, rfl, rfl, ⟨by decide, by decide, by decide⟩, _, _, rfl, rfl, _, rfl, b, _, _, 2, rfl, rfl, upd_same, rfl, ?_⟩
            rw [upd_upd]
            refine ⟨_, rfl, b, _, _, _, rfl, rfl, SqL.of upd_same, rfl, _, rfl, _, _, rfl, rfl, hn, _, rfl, b, _, _, _, rfl, rfl, SqL.of upd_same, rfl, _, rfl, _, _, rfl, rfl, ⟨hn, hn2⟩, _, rfl, b, _, _, 2, rfl, rfl, upd_same, rfl, ?_⟩
            rw [upd_upd]
            exact ⟨_, rfl, k _ _ (r0 _) (r1 _) (cl2 (i + 1) _ (by omega) (by omega)) (F _)⟩
      · refine iteF ?_
        refine ⟨_, rfl, b, _, _, _, rfl, rfl, SqL.of upd_same, rfl, _, _, rfl, rfl, _, rfl, iteX hc ?_⟩
        refine ⟨_, rfl, b, _, _, _, rfl, rfl, SqL.of upd_same, rfl, _, rfl, _, _, rfl, rfl, hn, _, rfl, b, _, _, _, rfl, rfl, SqL.of upd_same, rfl, _, rfl, _, _, rfl, rfl, ⟨hn, hn2⟩, _, rfl, b, _, _, 2, rfl, rfl, upd_same, rfl, ?_⟩
        rw [upd_upd]
        exact ⟨_, rfl, k _ _ (r0 _) (r1 _) (cl _) (F _)⟩
end
end LP

namespace LP
open PySem L2 LT LG LQ LH LC LX
section
variable {P : Program} {w : World} {K : PySem.W.Frag} {mg : Str → Option Value} {base : Heap}
theorem get_erase {α : Type} : ∀ {l : List α} {i : Nat} {x : α}, l[i]? = some x → (x :: l.eraseIdx i).Perm l
  | [], i, x, h => by simp at h
  | a :: r, 0, x, h => by
    have e : a = x := Option.some.inj h
    subst e; exact List.Perm.refl _
  | a :: r, i + 1, x, h => by
    have ih := get_erase (l := r) (i := i) (x := x) h
    exact (List.Perm.swap a x (r.eraseIdx i)).trans (ih.cons a)
theorem pop_perm {lf dn xs : List Int} {i : Nat} {x : Int} (h : (lf ++ dn).Perm xs) (hx : lf[i]? = some x) : (lf.eraseIdx i ++ (dn ++ [x])).Perm xs := by
  refine List.Perm.trans ?_ h
  have p : (x :: lf.eraseIdx i).Perm lf := get_erase hx
  have q : (lf.eraseIdx i ++ (dn ++ [x])).Perm (x :: (lf.eraseIdx i ++ dn)) := by
    rw [← List.append_assoc]
    exact List.perm_append_singleton _ _
  exact q.trans ((List.perm_append_right_iff dn).mpr p)
theorem ok__law_shuffled (e : Env K mg) : FnOk P w K mg base CX0 3 e.a__law_shuffled e.d__law_shuffled ["bag", "items"] (sp__law_shuffled K) := by
  refine e.f__law_shuffled.ok sc__law_shuffled (fun vs H Q E h => ?_) (fun cdv A outer s H vs Q E hr h => ?_)
  · obtain ⟨b, l, ns, d, p, xs, rfl, _⟩ := h; rfl
  · obtain ⟨b, l, ns, d, p, xs, rfl, G, hd, hl, hS, hx, hpb, k⟩ := h
    refine ⟨_, (pss_cons (ps_set (i := 2) sc__law_shuffled.nd rfl (by first | exact Or.inl rfl | exact Or.inr rfl) (pe_callTy call_list_of (by rfl) e.n_list (by decide +kernel) (pa_cons (pv 1) pa_nil)))
      (pss_one (ps_ret (pe_lc (own := [("step", 3)]) rfl sc__law_shuffled.nd (pi_range1 (by rfl) e.n_range (pa_cons (pe_callB call_len_seq (by rfl) e.n_len PySem.boot_len (pa_cons (pv 1) pa_nil)) pa_nil)) (blkOk_by (N := ["bag", "items", "left", "step"]) (sc := defScope s__law_shuffled) (by decide +kernel)) (fun _ _ _ _ _ => (pg_name (i := 3) sc__law_shuffled.nd rfl (by first | exact Or.inl rfl | exact Or.inr rfl))) (fun _ _ _ _ _ => pts_nil) (fun _ _ _ _ _ => (show PE _ _ (tBM K "list" _ _ _) from pe_bm PySem.F.plainAttrs_list PySem.F.slot_list_pop PySem.F.type_list_pop mt_popAt (pv 2) (pa_cons (pe_call ((ok__law_draw e).mono (by decide)) hr rfl e.g__law_draw e.f__law_draw.kp e.b__law_draw .nil pass0 (pa_cons (pv 0) (pa_cons (pe_callB (show CallR _ _ (rLenS K) from call_len_seq) (by rfl) e.n_len PySem.boot_len (pa_cons (pv 2) pa_nil)) pa_nil))) pa_nil))))))), ?_⟩
    refine ⟨_, rfl, p, _, rfl, .inl hS, fun L hL => ?_⟩
    have sL := same_upd (o := HO.lst (xs.map V.int)) hL
    have nLb : L ≠ b := G.ne_new hL
    refine ⟨_, rfl, p, _, rfl, .inl (sL.seq hS), _, rfl, by rw [List.length_map]; omega, by rw [List.length_map]; omega, fun D hD => ?_⟩
    have sD := same_upd (o := HO.lst []) hD
    have nDb : D ≠ b := (G.same sL).ne_new hD
    have nLD : L ≠ D := ne_of_none upd_same hD
    refine lc_it walk_range (fun j H' => ∃ lf dn : List Int, (lf ++ dn).Perm xs ∧ dn.length = j ∧ Bag H' b l ns (d + j) ∧ Fr H H' b ∧ H' L = some (.lst (lf.map V.int)) ∧ H' D = some (.lst (dn.map V.int)))
      ⟨xs, [], by rw [List.append_nil], rfl, (G.same sL).same sD, Fr.of (sL.trans sD), sD _ _ upd_same, upd_same⟩ (fun _ _ _ _ => trivial) ?_ ?_
    · rintro j x H2 H3 hj ⟨lf, dn, pm, dl, G2, F2, hL2, hD2⟩ ⟨rfl, rfl⟩
      replace hj : j < (xs.map V.int).length := hj
      rw [List.length_map] at hj
      have hlen := pm.length_eq
      rw [List.length_append] at hlen
      refine ⟨rfl, _, rfl, .inl ⟨rfl, _, SqL.of hL2⟩, _, rfl, _, rfl, L, _, rfl, .inl (SqL.of hL2), b, l, ns, _, _, rfl, G2, by rw [List.length_map]; omega, by rw [List.length_map]; exact log_small (by omega), by omega, hl, fun H4 r r0 r1 G4 F4 => ?_⟩
      rw [List.length_map] at r1
      have hr : r.toNat < lf.length := by omega
      have hg := List.getElem?_eq_getElem hr
      have hL4 := F4 _ _ hL2 nLb
      have hD4 := F4 _ _ hD2 nDb
      refine ⟨L, _, r, r.toNat, .int lf[r.toNat], rfl, rfl, hL4, by omega, by omega, by rw [List.length_map]; exact seq_int r0 hr, int_at hg, _, (by rw [upd_ne nLD.symm]; exact hD4), by rw [List.length_map]; exact small1000 (by omega), ?_⟩
      have hLn : ∀ o, Fr H4 (upd H4 L o) L := fun o a x ha hne => by rw [upd_ne hne]; exact ha
      refine ⟨lf.eraseIdx r.toNat, dn ++ [lf[r.toNat]], pop_perm pm hg, by rw [List.length_append, dl]; rfl, ?_, ?_, ?_, ?_⟩
      · obtain ⟨⟨i, c, k, t, h1, h2⟩, ls, ne⟩ := G4
        have e1 : l ≠ L := fun q => by
          have := sL.free (show upd H L (.lst (xs.map V.int)) D = none from hD)
          rw [q] at ls
          have z := G.ls
          rw [q, hL] at z; cases z
        have e2 : l ≠ D := fun q => by
          have z := (G.same sL).ls
          rw [q, hD] at z; cases z
        exact ⟨⟨i, c, k, t, by rw [upd_ne nDb.symm, upd_ne nLb.symm]; exact h1, h2.1, h2.2.1, h2.2.2.1, by have := h2.2.2.2.1; omega, h2.2.2.2.2⟩, by rw [upd_ne e2, upd_ne e1]; exact ls, ne⟩
      · intro a o ha hne
        rw [upd_ne (ne_of_none (sL _ _ ha) hD), upd_ne (ne_of_none ha hL)]
        exact F4 _ _ (F2 _ _ ha hne) hne
      · rw [upd_ne nLD, upd_same, erase_map]
      · rw [upd_same, List.map_append]; rfl
    · rintro H2 ⟨lf, dn, pm, dl, G2, F2, hL2, hD2⟩
      replace dl : dn.length = (xs.map V.int).length := dl
      rw [List.length_map] at dl
      have hlen := pm.length_eq
      rw [List.length_append] at hlen
      have e : lf = [] := List.length_eq_zero_iff.mp (by omega)
      subst e
      exact k H2 D dn (by rw [← dl]; exact (by have z := G2; rw [show ((xs.map V.int).length : Int).toNat = dn.length by rw [List.length_map]; omega] at z; exact z)) F2 (sL.free hD) pm hD2
end
end LP

namespace LP
open PySem L2 LT LG LQ LH LC LX
section
variable {P : Program} {w : World} {K : PySem.W.Frag} {mg : Str → Option Value} {base : Heap}
theorem ok__law_pattern (e : Env K mg) : FnOk P w K mg base CX0 3 e.a__law_pattern e.d__law_pattern ["bag", "count"] (sp__law_pattern) := by
  refine e.f__law_pattern.ok sc__law_pattern (fun vs H Q E h => ?_) (fun cdv A outer s H vs Q E hr h => ?_)
  · obtain ⟨b, l, ns, d, n, rfl, _⟩ := h; rfl
  · obtain ⟨b, l, ns, d, n, rfl, G, hd, hl, hn, k⟩ := h
    refine ⟨_, (pss_cons (ps_asg (pe_tup (pa_cons pe_str (pa_cons (pv 1) (pa_cons pe_int (pa_cons (pe_op op_add pe_int (pe_call ((ok__law_draw e).mono (by decide)) hr rfl e.g__law_draw e.f__law_draw.kp e.b__law_draw .nil pass0 (pa_cons (pv 0) (pa_cons pe_int pa_nil)))) pa_nil))))) (pg_tup (by rfl) (pgs_cons (pg_name (i := 2) sc__law_pattern.nd rfl (by first | exact Or.inl rfl | exact Or.inr rfl)) (pgs_cons (pg_name (i := 3) sc__law_pattern.nd rfl (by first | exact Or.inl rfl | exact Or.inr rfl)) (pgs_cons (pg_name (i := 4) sc__law_pattern.nd rfl (by first | exact Or.inl rfl | exact Or.inr rfl)) (pgs_cons (pg_name (i := 5) sc__law_pattern.nd rfl (by first | exact Or.inl rfl | exact Or.inr rfl)) pgs_nil))))))
      (pss_cons (ps_for PassesOwn.never rfl (pi_range1 (by rfl) e.n_range (pa_cons (pe_op op_mul pe_int (pv 1)) pa_nil)) (pg_name (i := 6) sc__law_pattern.nd rfl (by first | exact Or.inl rfl | exact Or.inr rfl))
      (pss_one (ps_if (PW.pt (pw_and (pt_cmpR op_gt (pv 3) pe_int (nomark _)) (pw_and1 (PW.pt (pw_or (pt_cmpR op_eq (pv 4) pe_int (nomark _)) (pw_or1 (pt_cmpR op_lt (pe_call ((ok__law_draw e).mono (by decide)) hr rfl e.g__law_draw e.f__law_draw.kp e.b__law_draw .nil pass0 (pa_cons (pv 0) (pa_cons pe_int pa_nil))) (pv 5) (nomark _))))))))
        (pss_one (ps_par3 (i := 2) (j := 3) (l := 4) (by rfl) sc__law_pattern.nd rfl rfl rfl (by decide) (by decide) (by decide) rfl rfl rfl (pa_cons (pe_op op_add_str (pv 2) pe_str) (pa_cons (pe_op op_sub (pv 3) pe_int) (pa_cons (pe_op op_add (pv 4) pe_int) pa_nil))) (by rfl)))
        (pss_one (ps_par (i := 2) (j := 4) (by rfl) sc__law_pattern.nd rfl rfl (by decide) rfl rfl (pa_cons (pe_op op_add_str (pv 2) pe_str) (pa_cons (pe_op op_sub (pv 4) pe_int) pa_nil)) (by rfl))))))
      (pss_one (ps_ret (pv 2))))), ?_⟩
    refine ⟨_, rfl, _, rfl, b, l, ns, d, 5, rfl, G, by decide, by decide +kernel, by omega, hl, fun H1 r1 a1 b1 G1 F1 => ?_⟩
    refine ⟨_, _, rfl, rfl, (by show 4 ≤ sizeLine; decide), fun tp htp => ?_⟩
    have st := same_upd (o := HO.tup [.str "", .int n, .int 0, .int (1 + r1)]) htp
    refine ⟨_, _, rfl, SqT.of upd_same, rfl, _, _, rfl, _, _, rfl, _, _, rfl, _, _, rfl, rfl, ?_⟩
    refine ⟨_, rfl, _, _, rfl, rfl, .inl ⟨by decide, by decide⟩, _, rfl, by omega, by omega, for_it walk_range (fun i σ H2 => ∃ (t : Pat) (v6 : Option V), t.length = i ∧ Pre t ∧ tks t ≤ n ∧
        σ = [some (.ref b), some (.int n), some (.str (pstr t)), some (.int ((n : Int) - (tks t : Nat))), some (.int (((tks t : Nat) : Int) - (fls t : Nat))), some (.int (1 + r1)), v6] ∧ Bag H2 b l ns (d + 1 + i) ∧ Fr H H2 b)
      ⟨[], none, rfl, Pre.nil, Nat.zero_le _, by rw [pstr_nil]; show _ = [_, _, _, some (V.int ((n : Int) - 0)), _, _, _]; rw [Int.sub_zero]; rfl, (G1.same st).mono (by omega), F1.trans (Fr.of st)⟩ (fun _ _ _ _ _ => trivial) ?_ ?_⟩
    · rintro i x σ Hq H2 hi ⟨t, v6, tl, pt, tn, rfl, G2, F2⟩ ⟨rfl, rfl⟩
      replace hi : i < (2 * (n : Int)).toNat := hi
      have hlp := len_pat t
      have hpa := pt.all
      have sz : (pstr t).length + (1 : Nat) ≤ sizeLine := by
        show (pstr t).cps.size + 1 ≤ sizeLine
        rw [pstr_size]; exact Nat.le_of_lt (small1000 (by omega))
      have finT : ∀ H3, Bag H3 b l ns (d + 1 + (i + 1)) → Fr H H3 b → (n : Int) - (tks t : Nat) > 0 → ∃ (t2 : Pat) (v6 : Option V), t2.length = i + 1 ∧ Pre t2 ∧ tks t2 ≤ n ∧
          [some (V.ref b), some (.int n), some (.str (pstr t ++ ("T" : Str))), some (.int ((n : Int) - (tks t : Nat) - 1)), some (.int (((tks t : Nat) : Int) - (fls t : Nat) + 1)), some (.int (1 + r1)), some (.int (0 + (i : Nat)))] = [some (.ref b), some (.int n), some (.str (pstr t2)), some (.int ((n : Int) - (tks t2 : Nat))), some (.int (((tks t2 : Nat) : Int) - (fls t2 : Nat))), some (.int (1 + r1)), v6] ∧ Bag H3 b l ns (d + 1 + (i + 1)) ∧ Fr H H3 b := fun H3 G3 F3 h => by
        refine ⟨t ++ [true], some (.int (0 + (i : Nat))), by rw [List.length_append, tl]; rfl, pt.snoc (by rw [tks_t, fls_t]; omega), by rw [tks_t]; omega, ?_, G3, F3⟩
        have e1 : (n : Int) - ((tks t + 1 : Nat) : Int) = (n : Int) - (tks t : Nat) - 1 := by omega
        have e2 : ((tks t + 1 : Nat) : Int) - (fls t : Nat) = ((tks t : Nat) : Int) - (fls t : Nat) + 1 := by omega
        rw [pstr_T, tks_t, fls_t, e1, e2]
      have finR : ∀ H3, Bag H3 b l ns (d + 1 + (i + 1)) → Fr H H3 b → fls t < tks t → ∃ (t2 : Pat) (v6 : Option V), t2.length = i + 1 ∧ Pre t2 ∧ tks t2 ≤ n ∧
          [some (V.ref b), some (.int n), some (.str (pstr t ++ ("R" : Str))), some (.int ((n : Int) - (tks t : Nat))), some (.int (((tks t : Nat) : Int) - (fls t : Nat) - 1)), some (.int (1 + r1)), some (.int (0 + (i : Nat)))] = [some (.ref b), some (.int n), some (.str (pstr t2)), some (.int ((n : Int) - (tks t2 : Nat))), some (.int (((tks t2 : Nat) : Int) - (fls t2 : Nat))), some (.int (1 + r1)), v6] ∧ Bag H3 b l ns (d + 1 + (i + 1)) ∧ Fr H H3 b := fun H3 G3 F3 h => by
        refine ⟨t ++ [false], some (.int (0 + (i : Nat))), by rw [List.length_append, tl]; rfl, pt.snoc (by rw [tks_f, fls_f]; omega), by rw [tks_f]; omega, ?_, G3, F3⟩
        have e2 : ((tks t : Nat) : Int) - ((fls t + 1 : Nat) : Int) = ((tks t : Nat) : Int) - (fls t : Nat) - 1 := by omega
        rw [pstr_R, tks_f, fls_f, e2]
      refine ⟨_, rfl, _, _, rfl, rfl, _, rfl, ite2d (fun h1 => ?_) fun h1 => ?_⟩
      · refine ⟨_, rfl, rfl, _, rfl, ite2d (fun h2 => ?_) fun h2 => ?_⟩
        · refine iteT ?_
          exact ⟨_, rfl, _, _, rfl, rfl, sz, _, rfl, _, _, rfl, rfl, _, rfl, _, _, rfl, rfl, _, _, _, rfl, finT _ (G2.mono (by omega)) F2 h1⟩
        · refine ⟨_, rfl, b, l, ns, _, 6, rfl, G2, by decide, by decide +kernel, by omega, hl, fun H3 r r0 r2 G3 F3 => ?_⟩
          refine ⟨_, rfl, _, _, rfl, rfl, _, rfl, ite2d (fun h3 => ?_) fun h3 => ?_⟩
          · exact ⟨_, rfl, _, _, rfl, rfl, sz, _, rfl, _, _, rfl, rfl, _, rfl, _, _, rfl, rfl, _, _, _, rfl, finT _ G3 (F2.trans F3) h1⟩
          · have hlt : fls t < tks t := by
              rcases Nat.lt_or_ge (fls t) (tks t) with q | q
              · exact q
              · exact absurd (congrArg V.int (show ((tks t : Nat) : Int) - (fls t : Nat) = 0 by omega)) h2
            exact ⟨_, rfl, _, _, rfl, rfl, sz, _, rfl, _, _, rfl, rfl, _, _, rfl, finR _ G3 (F2.trans F3) hlt⟩
      · refine iteF ?_
        exact ⟨_, rfl, _, _, rfl, rfl, sz, _, rfl, _, _, rfl, rfl, _, _, rfl, finR _ (G2.mono (by omega)) F2 (by omega)⟩
    · rintro σ H2 ⟨t, v6, tl, pt, tn, rfl, G2, F2⟩
      have hlp := len_pat t
      have hpa := pt.all
      refine ⟨_, rfl, k H2 t (G2.mono (by omega)) F2 ⟨pt, by omega⟩ (by omega)⟩
end
end LP

namespace LP
open PySem L2 LT LG LQ LH LC LX
section
variable {P : Program} {w : World} {K : PySem.W.Frag} {mg : Str → Option Value} {base : Heap}
theorem nm_get {H : Hp} {d : Addr} {ns : List Int} {x : Int} (h : Rd H d (.dK (numK ns))) (nd : ns.Nodup) (hx : x ∈ ns) : DGet H d (.int x) (some (.int (ix ns x : Nat))) :=
  .inl ⟨numK ns, .inl x, h, rfl, (numK_val nd (at_ix hx)).symm⟩
theorem nat_lt (a b : Nat) : decide (((a : Nat) : Int) < (b : Nat)) = decide (a < b) := decide_eq_decide.mpr (by omega)
theorem ok_check_pair (e : Env K mg) : FnOk P w K mg base CX0 5 e.a_check_pair e.d_check_pair ["takes", "fills"] (sp_check_pair K) := by
  refine e.f_check_pair.ok sc_check_pair (fun vs H Q E h => ?_) (fun cdv A outer s H vs Q E hr h => ?_)
  · obtain ⟨a, b, ns, ms, rfl, _⟩ := h; rfl
  · obtain ⟨a, b, ns, ms, rfl, hE, hF, pl, p, k⟩ := h
    refine ⟨_, (pss_cons (ps_expr (pe_call ((ok_check_places e).mono (by decide)) hr rfl e.g_check_places e.f_check_places.kp e.b_check_places .nil pass0 (pa_cons (pv 0) pa_nil)))
      (pss_cons (ps_expr (pe_call ((ok_check_places e).mono (by decide)) hr rfl e.g_check_places e.f_check_places.kp e.b_check_places .nil pass0 (pa_cons (pv 1) pa_nil)))
      (pss_one (ps_expr (pe_call ((ok_check_same_places e).mono (by decide)) hr rfl e.g_check_same_places e.f_check_same_places.kp e.b_check_same_places .nil pass0 (pa_cons (pv 0) (pa_cons (pv 1) pa_nil))))))), ?_⟩
    refine ⟨_, rfl, a, ns, rfl, hE, pl, fun H1 s1 => ?_⟩
    refine ⟨_, rfl, b, ms, rfl, hF.same s1, pl.perm p, fun H2 s2 => ?_⟩
    exact ⟨_, rfl, _, rfl, a, b, ns, ms, rfl, hE.same (s1.trans s2), hF.same (s1.trans s2), p.symm, fun H3 s3 => k _ ((s1.trans s2).trans s3)⟩
theorem ok_is_two (e : Env K mg) : FnOk P w K mg base CX0 1 e.a_is_two e.d_is_two ["taken", "filled", "a", "b"] (sp_is_two) := by
  refine e.f_is_two.ok sc_is_two (fun vs H Q E h => ?_) (fun cdv A outer s H vs Q E hr h => ?_)
  · obtain ⟨t, f, tk, fs, a, b, rfl, _⟩ := h; rfl
  · obtain ⟨t, f, tk, fs, a, b, rfl, ht, hf, nd, nf, ha, hb, ga, gb, k⟩ := h
    refine ⟨_, (pss_one (ps_ret (pe_and (pe_cmpR op_lt (pv 2) (pv 3) (nomark _)) (pe_and (pe_cmpR op_lt (pe_dget (u1 hr) (pv 0) (pv 2) (fun _ _ => rfl)) (pe_dget (u1 hr) (pv 0) (pv 3) (fun _ _ => rfl)) (nomark _)) (pe_one (pe_cmpR op_lt (pe_dget (u1 hr) (pv 1) (pv 3) (fun _ _ => rfl)) (pe_dget (u1 hr) (pv 1) (pv 2) (fun _ _ => rfl)) (nomark _))))))), ?_⟩
    refine ⟨_, rfl, _, rfl, _, _, rfl, rfl, _, rfl, ?_⟩
    by_cases c1 : a < b
    · refine iteD c1 ?_
      refine ⟨_, rfl, _, rfl, t, _, rfl, nm_get (.inl ht) nd ha, _, rfl, _, rfl, t, _, rfl, nm_get (.inl ht) nd hb, _, _, rfl, rfl, _, rfl, ?_⟩
      by_cases c2 : ix tk a < ix tk b
      · refine iteD (by omega) ?_
        refine ⟨_, rfl, _, rfl, f, _, rfl, nm_get (.inl hf) nf gb, _, rfl, _, rfl, f, _, rfl, nm_get (.inl hf) nf ga, _, _, rfl, rfl, ?_⟩
        show Q (V.bl (decide (((ix fs b : Nat) : Int) < (ix fs a : Nat)))) H
        rw [nat_lt]
        have e : decide (a < b ∧ ix tk a < ix tk b ∧ ix fs b < ix fs a) = decide (ix fs b < ix fs a) := decide_eq_decide.mpr ⟨fun z => z.2.2, fun z => ⟨c1, c2, z⟩⟩
        rw [← e]; exact k
      · refine iteX (by omega) ?_
        rw [decide_eq_false fun z => c2 z.2.1] at k
        exact k
    · refine iteX c1 ?_
      rw [decide_eq_false fun z => c1 z.1] at k
      exact k
/-- a < b < c of three ints -/
theorem chain_lt {σ : L2.St} {H : Hp} {Q : VK} {ta tb tc : TE} {a b c : Int} (ha : ∀ R : VK, R (.int a) H → ta σ H R) (hb : ∀ R : VK, R (.int b) H → tb σ H R) (hc : ∀ R : VK, R (.int c) H → tc σ H R) (k : Q (.bl (decide (a < b ∧ b < c))) H) :
    tChain (rI0 fun i j => V.bl (decide (i < j))) (rI0 fun i j => V.bl (decide (i < j))) ta tb tc σ H Q := by
  refine ha _ (hb _ ⟨_, _, rfl, rfl, _, rfl, ?_⟩)
  by_cases c1 : a < b
  · refine iteD c1 (hc _ ⟨_, _, rfl, rfl, ?_⟩)
    have e : decide (a < b ∧ b < c) = decide (b < c) := decide_eq_decide.mpr ⟨fun z => z.2, fun z => ⟨c1, z⟩⟩
    rw [e] at k; exact k
  · refine iteX c1 ?_
    rw [decide_eq_false fun z => c1 z.1] at k
    exact k
theorem ok_is_three (e : Env K mg) : FnOk P w K mg base CX0 1 e.a_is_three e.d_is_three ["taken", "filled", "a", "b", "c"] (sp_is_three) := by
  refine e.f_is_three.ok sc_is_three (fun vs H Q E h => ?_) (fun cdv A outer s H vs Q E hr h => ?_)
  · obtain ⟨t, f, tk, fs, a, b, c, rfl, _⟩ := h; rfl
  · obtain ⟨t, f, tk, fs, a, b, c, rfl, ht, hf, nd, nf, ha, hb, hc, ga, gb, gc, k⟩ := h
    refine ⟨_, (pss_one (ps_ret (pe_and (pe_chain op_lt op_lt (pv 2) (pv 3) (pv 4)) (pe_and (pe_chain op_lt op_lt (pe_dget (u1 hr) (pv 0) (pv 4) (fun _ _ => rfl)) (pe_dget (u1 hr) (pv 0) (pv 3) (fun _ _ => rfl)) (pe_dget (u1 hr) (pv 0) (pv 2) (fun _ _ => rfl))) (pe_one (pe_chain op_lt op_lt (pe_dget (u1 hr) (pv 1) (pv 2) (fun _ _ => rfl)) (pe_dget (u1 hr) (pv 1) (pv 4) (fun _ _ => rfl)) (pe_dget (u1 hr) (pv 1) (pv 3) (fun _ _ => rfl)))))))), ?_⟩
    have dv : ∀ {d : Addr} {ns : List Int} {x : Int} {i j : Nat}, Nm H d ns → ns.Nodup → x ∈ ns → (start ["taken", "filled", "a", "b", "c"] [V.ref t, V.ref f, V.int a, V.int b, V.int c])[i]? = some (some (V.ref d)) → (start ["taken", "filled", "a", "b", "c"] [V.ref t, V.ref f, V.int a, V.int b, V.int c])[j]? = some (some (V.int x)) →
        ∀ R : VK, R (.int (ix ns x : Nat)) H → tDGet (tVar i) (tVar j) (start ["taken", "filled", "a", "b", "c"] [V.ref t, V.ref f, V.int a, V.int b, V.int c]) H R := fun h1 h2 h3 e1 e2 R r => ⟨_, e1, _, e2, _, _, rfl, nm_get (.inl h1) h2 h3, r⟩
    refine chain_lt (a := a) (b := b) (c := c) (fun R r => ⟨_, rfl, r⟩) (fun R r => ⟨_, rfl, r⟩) (fun R r => ⟨_, rfl, r⟩) ⟨_, rfl, ?_⟩
    by_cases C1 : a < b ∧ b < c
    · refine iteD C1 ?_
      refine chain_lt (a := (ix tk c : Nat)) (b := (ix tk b : Nat)) (c := (ix tk a : Nat)) (dv ht nd hc rfl rfl) (dv ht nd hb rfl rfl) (dv ht nd ha rfl rfl) ⟨_, rfl, ?_⟩
      by_cases C2 : ix tk c < ix tk b ∧ ix tk b < ix tk a
      · refine iteD (by omega) ?_
        refine chain_lt (a := (ix fs a : Nat)) (b := (ix fs c : Nat)) (c := (ix fs b : Nat)) (dv hf nf ga rfl rfl) (dv hf nf gc rfl rfl) (dv hf nf gb rfl rfl) ?_
        have e : decide ((a < b ∧ b < c) ∧ (ix tk c < ix tk b ∧ ix tk b < ix tk a) ∧ ix fs a < ix fs c ∧ ix fs c < ix fs b) = decide (((ix fs a : Nat) : Int) < (ix fs c : Nat) ∧ ((ix fs c : Nat) : Int) < (ix fs b : Nat)) := decide_eq_decide.mpr ⟨fun z => by omega, fun z => ⟨C1, C2, by omega⟩⟩
        rw [e] at k; exact k
      · refine iteX (by omega) ?_
        rw [decide_eq_false fun z => C2 z.2.1] at k
        exact k
    · refine iteX C1 ?_
      rw [decide_eq_false fun z => C1 z.1] at k
      exact k
/-- two places in order -/
theorem pair_of {xs : List V} {ns : List Int} (e : xs = ns.map V.int) {q : Nat × Nat} {x y : V} (h1 : xs[q.1]? = some x) (h2 : xs[q.2]? = some y) : ∃ a b, ns[q.1]? = some a ∧ ns[q.2]? = some b ∧ x = .int a ∧ y = .int b := by
  subst e
  obtain ⟨a, ha, rfl⟩ := at_int h1
  obtain ⟨b, hb, rfl⟩ := at_int h2
  exact ⟨a, b, ha, hb, rfl, rfl⟩
theorem keys_nm (ns : List Int) : (numK ns).map (·.1) = ns.map Sum.inl := by
  unfold numK
  rw [List.map_map]
  conv => rhs; rw [← List.zipIdx_map_fst 0 ns, List.map_map]
  rfl
theorem ok_first_two (e : Env K mg) : FnOk P w K mg base CX0 2 e.a_first_two e.d_first_two ["taken", "filled"] (sp_first_two) := by
  refine e.f_first_two.ok sc_first_two (fun vs H Q E h => ?_) (fun cdv A outer s H vs Q E hr h => ?_)
  · obtain ⟨t, f, tk, fs, rfl, _⟩ := h; rfl
  · obtain ⟨t, f, tk, fs, rfl, ht, hf, nd, le, p, no, k⟩ := h
    have nf : fs.Nodup := p.nodup_iff.mpr nd
    refine ⟨_, (pss_cons (ps_for PassesOwn.never rfl (LC.pi_co (by rfl) e.g_combinations (pa_cons (pe_callB (cr_sortedK rfl) (by rfl) e.n_sorted (by decide +kernel) (pa_cons (pv 0) pa_nil)) (pa_cons pe_int pa_nil))) (pg_tup (by rfl) (pgs_cons (pg_name (i := 2) sc_first_two.nd rfl (by first | exact Or.inl rfl | exact Or.inr rfl)) (pgs_cons (pg_name (i := 3) sc_first_two.nd rfl (by first | exact Or.inl rfl | exact Or.inr rfl)) pgs_nil)))
      (pss_one (ps_if (pt_val (pe_call ((ok_is_two e).mono (by decide)) hr rfl e.g_is_two e.f_is_two.kp e.b_is_two .nil pass0 (pa_cons (pv 0) (pa_cons (pv 1) (pa_cons (pv 2) (pa_cons (pv 3) pa_nil))))))
        (pss_one (ps_ret (pe_tup (pa_cons pe_str (pa_cons (pv 2) (pa_cons (pv 3) pa_nil))))))
        pss_nil)))
      (pss_one (ps_ret pe_non))), ?_⟩
    refine ⟨_, rfl, t, numK tk, tk, rfl, .inl ht, keys_nm tk, by omega, fun ys L p1 p2 hL => ⟨L, _, rfl, SqL.of upd_same, by rw [List.length_map, p1.length_eq]; omega, ?_⟩⟩
    have sL := same_upd (o := HO.lst (ys.map V.int)) hL
    refine for_it walk_co (fun i σ H1 => Same H H1 ∧ ∃ v2 v3 : Option V, σ = [some (.ref t), some (.ref f), v2, v3]) ⟨sL, none, none, rfl⟩ (fun _ _ _ _ _ => trivial) ?_ ?_
    · rintro i x σ H1 H2 hi ⟨s1, v2, v3, rfl⟩ ⟨T, q, x, y, rfl, hT, rfl, hq, hx, hy⟩
      obtain ⟨a, b, ha, hb, rfl, rfl⟩ := pair_of rfl hx hy
      have sT := same_upd (o := HO.tup [.int a, .int b]) hT
      have s2 := s1.trans sT
      have ma := p1.subset (List.mem_of_getElem? ha)
      have mb := p1.subset (List.mem_of_getElem? hb)
      refine ⟨_, _, rfl, SqT.of upd_same, rfl, _, _, rfl, _, _, rfl, rfl, ?_⟩
      refine ⟨_, rfl, _, rfl, _, rfl, _, rfl, t, f, tk, fs, a, b, rfl, s2 _ _ ht, s2 _ _ hf, nd, nf, ma, mb, p.symm.subset ma, p.symm.subset mb, _, rfl, ?_⟩
      refine iteX (fun z => no.two a b ma mb z.1 z.2.1 z.2.2) ?_
      exact ⟨s2, _, _, rfl⟩
    · rintro σ H1 ⟨s1, v2, v3, rfl⟩
      exact k _ s1
end
end LP

namespace LP
open PySem L2 LT LG LQ LH LC LX
section
variable {P : Program} {w : World} {K : PySem.W.Frag} {mg : Str → Option Value} {base : Heap}
def goodC (tk fs : List Int) (b c : Int) : Bool := decide (c > b ∧ ix tk c < ix tk b ∧ ix fs c < ix fs b)
def fillC (tk fs : List Int) (b : Int) (l : List Int) : List Int := (l.filter (goodC tk fs b)).map fun c => ((ix fs c : Nat) : Int)
theorem fillC_snoc (tk fs : List Int) (b : Int) {l : List Int} {j : Nat} {c : Int} (h : l[j]? = some c) : fillC tk fs b (l.take (j + 1)) = fillC tk fs b (l.take j) ++ if goodC tk fs b c = true then [((ix fs c : Nat) : Int)] else [] := by
  unfold fillC
  rw [take_snoc h, List.filter_append, List.map_append]
  congr 1
  by_cases q : goodC tk fs b c = true
  · rw [if_pos q, List.filter_cons, if_pos q]; rfl
  · rw [if_neg q, List.filter_cons, if_neg q]; rfl
theorem fillC_len (tk fs : List Int) (b : Int) (l : List Int) : (fillC tk fs b l).length ≤ l.length := by
  unfold fillC; rw [List.length_map]; exact List.length_filter_le _ _
theorem numK_at {ns : List Int} {i : Nat} {k : Key} {v : V} (h : (numK ns)[i]? = some (k, v)) : ∃ x, ns[i]? = some x ∧ k = .inl x := by
  unfold numK at h
  rw [List.getElem?_map, List.getElem?_zipIdx] at h
  cases q : ns[i]? with
  | none => rw [q] at h; cases h
  | some x => rw [q] at h; cases h; exact ⟨x, rfl, rfl⟩
theorem ok_last_fill_between (e : Env K mg) : FnOk P w K mg base CX0 1 e.a_last_fill_between e.d_last_fill_between ["taken", "filled", "b"] (sp_last_fill_between) := by
  refine e.f_last_fill_between.ok sc_last_fill_between (fun vs H Q E h => ?_) (fun cdv A outer s H vs Q E hr h => ?_)
  · obtain ⟨t, f, tk, fs, b, rfl, _⟩ := h; rfl
  · obtain ⟨t, f, tk, fs, b, rfl, ht, hf, ntf, nd, le, p, hb, k⟩ := h
    have nf : fs.Nodup := p.nodup_iff.mpr nd
    have hbf := p.symm.subset hb
    refine ⟨_, (pss_cons (ps_lock (ps_setLc (i := 3) (own := [("c", 4)]) rfl sc_last_fill_between.nd rfl rfl (sw_true rfl rfl rfl (by decide +kernel)) (pi_keys (pv 0)) (blkOk_by (N := ["taken", "filled", "b", "fills", "c"]) (sc := defScope s_last_fill_between) (by decide +kernel)) (fun _ _ _ _ _ => (pg_name (i := 4) sc_last_fill_between.nd rfl (by first | exact Or.inl rfl | exact Or.inr rfl))) (fun _ _ _ _ _ => pts_one (PW.pt (pw_and (pt_cmpR op_gt (pv 4) (pv 2) (nomark _)) (pw_and (pt_cmpR op_lt (pe_dget (u1 hr) (pv 0) (pv 4) (fun _ _ => rfl)) (pe_dget (u1 hr) (pv 0) (pv 2) (fun _ _ => rfl)) (nomark _)) (pw_and1 (pt_cmpR op_lt (pe_dget (u1 hr) (pv 1) (pv 4) (fun _ _ => rfl)) (pe_dget (u1 hr) (pv 1) (pv 2) (fun _ _ => rfl)) (nomark _))))))) (fun _ _ _ _ _ => (pe_dget (u1 hr) (pv 1) (pv 4) (fun _ _ => rfl)))))
      (pss_one (ps_ret (pe_callBK (LX.cr_maxDef rfl) (by rfl) e.n_max (by decide +kernel) (pa_cons (pv 3) pa_nil) (pk_cons (pe_un un_neg pe_int) pk_nil))))), ?_⟩
    refine ⟨t, _, ht, trivial, fun od => ?_⟩
    have ht0 : (upd H t (.frz od (.dK (numK tk)))) t = some (.frz od (.dK (numK tk))) := upd_same
    have hf0 : (upd H t (.frz od (.dK (numK tk)))) f = some (.dK (numK fs)) := by rw [upd_ne ntf.symm]; exact hf
    refine ⟨_, rfl, t, od, rfl, .inl ⟨_, ht0, fun D hD => ?_⟩⟩
    have sD := fun o => same_upd (o := o) hD
    refine lc_it walk_keys (fun j H' => H' = upd (upd H t (.frz od (.dK (numK tk)))) D (.lst ((fillC tk fs b (tk.take j)).map V.int))) rfl (fun j H' _ h => by subst h; exact sD _ _ _ ht0) ?_ ?_
    · rintro j x H2 H3 hj rfl ⟨rfl, kk, v, hkv, rfl⟩
      rw [numK_len] at hj
      obtain ⟨c, hc, rfl⟩ := numK_at hkv
      have mc := List.mem_of_getElem? hc
      have mcf := p.symm.subset mc
      have htD := sD (.lst ((fillC tk fs b (tk.take j)).map V.int)) _ _ ht0
      have hfD := sD (.lst ((fillC tk fs b (tk.take j)).map V.int)) _ _ hf0
      have fl := fillC_len tk fs b (tk.take j)
      rw [List.length_take] at fl
      have skip : ¬ goodC tk fs b c = true → upd (upd H t (.frz od (.dK (numK tk)))) D (.lst ((fillC tk fs b (tk.take j)).map V.int)) = upd (upd H t (.frz od (.dK (numK tk)))) D (.lst ((fillC tk fs b (tk.take (j + 1))).map V.int)) := fun q => by
        rw [fillC_snoc tk fs b hc, if_neg q, List.append_nil]
      refine ⟨rfl, _, rfl, _, rfl, _, _, rfl, rfl, _, rfl, ?_⟩
      by_cases c1 : c > b
      · refine iteD c1 ?_
        refine ⟨_, rfl, _, rfl, t, _, rfl, nm_get (.inr ⟨_, htD⟩) nd mc, _, rfl, _, rfl, t, _, rfl, nm_get (.inr ⟨_, htD⟩) nd hb, _, _, rfl, rfl, _, rfl, ?_⟩
        by_cases c2 : ix tk c < ix tk b
        · refine iteD (by omega) ?_
          refine ⟨_, rfl, _, rfl, f, _, rfl, nm_get (.inl hfD) nf mcf, _, rfl, _, rfl, f, _, rfl, nm_get (.inl hfD) nf hbf, _, _, rfl, rfl, _, rfl, ?_⟩
          by_cases c3 : ix fs c < ix fs b
          · refine iteD (by omega) ?_
            have q : goodC tk fs b c = true := decide_eq_true ⟨c1, c2, c3⟩
            refine ⟨_, rfl, _, rfl, f, _, rfl, nm_get (.inl hfD) nf mcf, _, upd_same, ?_, ?_⟩
            · rw [List.length_map]; exact small1000 (by omega)
            · rw [upd_upd, fillC_snoc tk fs b hc, if_pos q, List.map_append]; rfl
          · refine iteX (by omega) ?_
            exact skip fun z => c3 (of_decide_eq_true z).2.2
        · refine iteX (by omega) ?_
          exact skip fun z => c2 (of_decide_eq_true z).2.1
      · refine iteX c1 ?_
        exact skip fun z => c1 (of_decide_eq_true z).1
    · rintro H2 rfl
      rw [numK_len, List.take_length]
      refine ⟨?_, ?_⟩
      · exact sD _ _ _ ht0
      have htH : ∀ o : HO, (upd (upd H t (.frz od (.dK (numK tk)))) D o) = upd (upd H D o) t (.frz od (.dK (numK tk))) := fun o => by
        have ntD : t ≠ D := ne_of_none ht0 hD
        funext x
        unfold upd
        by_cases h1 : x = D
        · subst h1
          rw [if_pos rfl, if_neg (fun z => ntD z.symm), if_pos rfl]
        · rw [if_neg h1]
          by_cases h2 : x = t
          · rw [if_pos h2, if_pos h2]
          · rw [if_neg h2, if_neg h2, if_neg h1]
      have hD0 : H D = none := by
        have ntD : t ≠ D := ne_of_none ht0 hD
        rw [upd_ne ntD.symm] at hD; exact hD
      have ntD : t ≠ D := ne_of_none ht0 hD
      rw [htH, upd_upd]
      have hback : upd (upd H D (.lst ((fillC tk fs b tk).map V.int))) t (.dK (numK tk)) = upd H D (.lst ((fillC tk fs b tk).map V.int)) := by
        funext x
        by_cases h2 : x = t
        · subst h2; rw [upd_same, upd_ne ntD]; exact ht.symm
        · rw [upd_ne h2]
      rw [hback]
      have sF := same_upd (o := HO.lst ((fillC tk fs b tk).map V.int)) hD0
      refine ⟨_, rfl, _, rfl, D, fillC tk fs b tk, _, rfl, rfl, SqL.of upd_same, fun e => ?_, fun e m hm hmax => ?_⟩
      · exact k _ (-1) sF (.inl rfl)
      · obtain ⟨c, hc, rfl⟩ := List.mem_map.mp hm
        obtain ⟨mc, gc⟩ := List.mem_filter.mp hc
        obtain ⟨g1, g2, g3⟩ := of_decide_eq_true gc
        exact k _ _ sF (.inr ⟨c, mc, g1, g2, g3, rfl⟩)
/-- a dict with these values at these keys -/
def zipK (ys rs : List Int) : List (Key × V) := (ys.zip rs).map fun p => (.inl p.1, .int p.2)
theorem zipK_len {ys rs : List Int} (h : rs.length ≤ ys.length) : (zipK ys rs).length = rs.length := by
  unfold zipK; rw [List.length_map, List.length_zip]; omega
theorem zipK_put {ys rs : List Int} {x r : Int} (hl : ys.length = rs.length) (h : x ∉ ys) : putK (zipK ys rs) (.inl x) (.int r) = zipK (ys ++ [x]) (rs ++ [r]) := by
  rw [putK_new]
  · unfold zipK
    rw [List.zip_append hl, List.map_append]; rfl
  · intro q hq e
    obtain ⟨⟨a, b⟩, hp, rfl⟩ := List.mem_map.mp hq
    cases e
    exact h (List.of_mem_zip hp).1
theorem zipK_val : ∀ {ys rs : List Int}, ys.Nodup → ∀ {i : Nat} {x r : Int}, ys[i]? = some x → rs[i]? = some r → valV (zipK ys rs) (.inl x) = some (.int r)
  | [], _, _, i, x, r, h, _ => by simp at h
  | _ :: _, [], _, i, x, r, _, h => by simp at h
  | y :: ys, q :: rs, nd, 0, x, r, h1, h2 => by
    cases h1; cases h2
    unfold valV zipK
    rw [List.zip_cons_cons, List.map_cons, List.find?_cons]
    simp
  | y :: ys, q :: rs, nd, i + 1, x, r, h1, h2 => by
    have ih := zipK_val (List.nodup_cons.mp nd).2 (i := i) (x := x) (r := r) h1 h2
    unfold valV at ih ⊢
    have ne : ¬ ((Sum.inl y : Key) = .inl x) := fun e => by
      cases e
      exact (List.nodup_cons.mp nd).1 (List.mem_of_getElem? h1)
    show ((zipK (y :: ys) (q :: rs)).find? _).map _ = _
    have e : zipK (y :: ys) (q :: rs) = (.inl y, .int q) :: zipK ys rs := rfl
    rw [e, List.find?_cons, decide_eq_false ne]
    exact ih
theorem ok_first_three (e : Env K mg) : FnOk P w K mg base CX0 2 e.a_first_three e.d_first_three ["taken", "filled"] (sp_first_three) := by
  refine e.f_first_three.ok sc_first_three (fun vs H Q E h => ?_) (fun cdv A outer s H vs Q E hr h => ?_)
  · obtain ⟨t, f, tk, fs, rfl, _⟩ := h; rfl
  · obtain ⟨t, f, tk, fs, rfl, ht, hf, ntf, nd, le, p, no, k⟩ := h
    have nf : fs.Nodup := p.nodup_iff.mpr nd
    refine ⟨_, (pss_cons (ps_set (i := 2) sc_first_three.nd rfl (by first | exact Or.inl rfl | exact Or.inr rfl) (pe_callB (cr_sortedK rfl) (by rfl) e.n_sorted (by decide +kernel) (pa_cons (pv 0) pa_nil)))
      (pss_cons (LX.ps_setDc (i := 3) (own := [("b", 5)]) rfl sc_first_three.nd rfl rfl (LX.sw_trueD rfl rfl rfl (by decide +kernel)) (pi_list (pv 2)) (blkOk_by (N := ["taken", "filled", "places", "last", "a", "b", "c"]) (sc := defScope s_first_three) (by decide +kernel)) (fun _ _ _ _ _ => (pg_name (i := 5) sc_first_three.nd rfl (by first | exact Or.inl rfl | exact Or.inr rfl))) (fun _ _ _ _ _ => pts_nil) (fun _ _ _ _ _ => (pv 5)) (fun _ _ _ _ _ => (pe_call ((ok_last_fill_between e).mono (by decide)) hr rfl e.g_last_fill_between e.f_last_fill_between.kp e.b_last_fill_between .nil pass0 (pa_cons (pv 0) (pa_cons (pv 1) (pa_cons (pv 5) pa_nil))))))
      (pss_cons (ps_for PassesOwn.never rfl (LC.pi_co (by rfl) e.g_combinations (pa_cons (pv 2) (pa_cons pe_int pa_nil))) (pg_tup (by rfl) (pgs_cons (pg_name (i := 4) sc_first_three.nd rfl (by first | exact Or.inl rfl | exact Or.inr rfl)) (pgs_cons (pg_name (i := 5) sc_first_three.nd rfl (by first | exact Or.inl rfl | exact Or.inr rfl)) pgs_nil)))
      (pss_one (ps_if (PW.pt (pw_and (pt_cmpR op_lt (pe_dget (u1 hr) (pv 0) (pv 5) (fun _ _ => rfl)) (pe_dget (u1 hr) (pv 0) (pv 4) (fun _ _ => rfl)) (nomark _)) (pw_and1 (pt_cmpR op_lt (pe_dget (u1 hr) (pv 1) (pv 4) (fun _ _ => rfl)) (pe_dget (u1 hr) (pv 3) (pv 5) (fun _ _ => rfl)) (nomark _)))))
        (pss_one (ps_ret (pe_tup (pa_cons pe_str (pa_cons (pv 4) (pa_cons (pv 5) (pa_cons (pe_callB (cr_min rfl) (by rfl) e.n_min (by decide +kernel) (pa_cons (pe_lc (own := [("c", 6)]) rfl sc_first_three.nd (pi_list (pv 2)) (blkOk_by (N := ["taken", "filled", "places", "last", "a", "b", "c"]) (sc := defScope s_first_three) (by decide +kernel)) (fun _ _ _ _ _ => (pg_name (i := 6) sc_first_three.nd rfl (by first | exact Or.inl rfl | exact Or.inr rfl))) (fun _ _ _ _ _ => pts_one (pt_val (pe_call ((ok_is_three e).mono (by decide)) hr rfl e.g_is_three e.f_is_three.kp e.b_is_three .nil pass0 (pa_cons (pv 0) (pa_cons (pv 1) (pa_cons (pv 4) (pa_cons (pv 5) (pa_cons (pv 6) pa_nil)))))))) (fun _ _ _ _ _ => (pv 6))) pa_nil)) pa_nil)))))))
        pss_nil)))
      (pss_one (ps_ret pe_non))))), ?_⟩
    refine ⟨_, rfl, t, numK tk, tk, rfl, .inl ht, keys_nm tk, by omega, fun ys L p1 p2 hL => ?_⟩
    have sL := same_upd (o := HO.lst (ys.map V.int)) hL
    have yl := p1.length_eq
    have yd : ys.Nodup := p1.nodup_iff.mpr nd
    have hL1 : (upd H L (.lst (ys.map V.int))) L = some (.lst (ys.map V.int)) := upd_same
    generalize upd H L (.lst (ys.map V.int)) = H1 at sL hL1
    refine ⟨_, rfl, L, rfl, ⟨_, SqL.of hL1⟩, fun D hD => ?_⟩
    have sD := fun o => same_upd (o := o) hD
    refine dc_it walk_list (fun j H' => ∃ rs : List Int, rs.length = j ∧ Same H1 H' ∧ H' D = some (.dK (zipK (ys.take j) rs)) ∧ ∀ (i : Nat) (y r : Int), ys[i]? = some y → rs[i]? = some r → (r = -1 ∨ ∃ c ∈ tk, c > y ∧ ix tk c < ix tk y ∧ ix fs c < ix fs y ∧ r = (ix fs c : Nat))) ⟨[], rfl, sD _, by rw [upd_same]; rfl, fun i y r _ h => by simp at h⟩ (fun j H' _ ⟨_, _, s, _⟩ => s.seq (SqL.of hL1)) ?_ ?_
    · rintro j x H2 H3 hj ⟨rs, rl, s2, hd, hr⟩ ⟨rfl, hx⟩
      rw [List.length_map] at hj
      obtain ⟨y, hy, rfl⟩ := at_int hx
      have my := p1.subset (List.mem_of_getElem? hy)
      refine ⟨rfl, _, rfl, _, rfl, _, rfl, _, rfl, t, f, tk, fs, y, rfl, s2 _ _ (sL _ _ ht), s2 _ _ (sL _ _ hf), ntf, nd, le, p, my, fun H4 r s4 hr4 => ?_⟩
      refine ⟨zipK (ys.take j) rs, .inl y, rfl, s4 _ _ hd, by rw [zipK_len (by rw [List.length_take]; omega)]; exact small1000 (by omega), rs ++ [r], by rw [List.length_append, rl]; rfl, ?_, ?_, ?_⟩
      · intro b o hb; rw [upd_ne (ne_of_none hb hD)]; exact s4 _ _ (s2 _ _ hb)
      · rw [upd_same, zipK_put (by rw [List.length_take]; omega) (not_take yd hy (Nat.le_refl _)), take_snoc hy]
      · intro i a q h1 h2
        by_cases c : i < rs.length
        · rw [List.getElem?_append_left c] at h2; exact hr i a q h1 h2
        · rw [List.getElem?_append_right (by omega)] at h2
          cases z : i - rs.length with
          | zero =>
            rw [z] at h2; cases h2
            have : i = j := by omega
            subst this
            rw [hy] at h1; cases h1
            exact hr4
          | succ m => rw [z] at h2; simp at h2
    · rintro H2 ⟨rs, rl, s2, hd, hr⟩
      replace rl : rs.length = (ys.map V.int).length := rl
      rw [List.length_map] at rl
      rw [List.length_map, List.take_length] at hd
      have hL2 := s2 _ _ hL1
      refine ⟨_, rfl, L, _, rfl, SqL.of hL2, by rw [List.length_map]; omega, ?_⟩
      refine for_it walk_co (fun i σ H' => Same H2 H' ∧ ∃ v2 v3 v6 : Option V, σ = [some (.ref t), some (.ref f), some (.ref L), some (.ref D), v2, v3, v6]) ⟨Same.refl _, none, none, none, rfl⟩ (fun _ _ _ _ _ => trivial) ?_ ?_
      · rintro i x σ H3 H4 hi ⟨s3, v2, v3, v6, rfl⟩ ⟨T, q, x, y, rfl, hT, rfl, hq, hx, hy⟩
        obtain ⟨a, b, ha, hb, rfl, rfl⟩ := pair_of rfl hx hy
        have sT := same_upd (o := HO.tup [.int a, .int b]) hT
        have s4 := s3.trans sT
        have ma := p1.subset (List.mem_of_getElem? ha)
        have mb := p1.subset (List.mem_of_getElem? hb)
        have hab : a < b := by
          have hq2 := (prs_step hq).1
          have h1 := List.getElem?_eq_some_iff.mp ha
          have h2 := List.getElem?_eq_some_iff.mp hb
          obtain ⟨l1, e1⟩ := h1
          obtain ⟨l2, e2⟩ := h2
          have le2 := List.pairwise_iff_getElem.mp p2 _ _ l1 l2 hq2
          rw [e1, e2] at le2
          have ne : a ≠ b := fun z => by
            have := (List.getElem_inj yd).mp (e1.trans (z.trans e2.symm))
            omega
          omega
        have ht4 := s4 _ _ (s2 _ _ (sL _ _ ht))
        have hf4 := s4 _ _ (s2 _ _ (sL _ _ hf))
        have hd4 := s4 _ _ hd
        refine ⟨_, _, rfl, SqT.of upd_same, rfl, _, _, rfl, _, _, rfl, rfl, ?_⟩
        refine ⟨_, rfl, _, rfl, t, _, rfl, nm_get (.inl ht4) nd mb, _, rfl, _, rfl, t, _, rfl, nm_get (.inl ht4) nd ma, _, _, rfl, rfl, _, rfl, ?_⟩
        by_cases c1 : ix tk b < ix tk a
        · refine iteD (by omega) ?_
          have hrb : rs[q.2]? = some (rs[q.2]'(by have := (List.getElem?_eq_some_iff.mp hb).1; omega)) := List.getElem?_eq_getElem _
          generalize rs[q.2]'(by have := (List.getElem?_eq_some_iff.mp hb).1; omega) = r at hrb
          have hv := zipK_val yd hb hrb
          have hg : DGet (upd H3 T (.tup [.int a, .int b])) D (.int b) (some (.int r)) := .inl ⟨zipK ys rs, .inl b, .inl hd4, rfl, hv.symm⟩
          refine ⟨_, rfl, _, rfl, f, _, rfl, nm_get (.inl hf4) nf (p.symm.subset ma), _, rfl, _, rfl, D, _, rfl, hg, _, _, rfl, rfl, _, rfl, ?_⟩
          refine iteX (fun z => ?_) ⟨s4, _, _, _, rfl⟩
          rcases hr _ _ _ hb hrb with rfl | ⟨c, mc, g1, g2, g3, rfl⟩
          · omega
          · exact no.three a b c ma mb mc hab g1 g2 c1 (by omega) g3
        · refine iteX (by omega) ?_
          exact iteF ⟨s4, _, _, _, rfl⟩
      · rintro σ H3 ⟨s3, v2, v3, v6, rfl⟩
        exact k _ ((sL.trans s2).trans s3)
theorem ok_obstruction (e : Env K mg) : FnOk P w K mg base CX0 6 e.a_obstruction e.d_obstruction ["takes", "fills"] (sp_obstruction K) := by
  refine e.f_obstruction.ok sc_obstruction (fun vs H Q E h => ?_) (fun cdv A outer s H vs Q E hr h => ?_)
  · obtain ⟨a, b, tk, fs, rfl, _⟩ := h; rfl
  · obtain ⟨a, b, tk, fs, rfl, hE, hF, pl, p, no, k⟩ := h
    have nd := pl.nd
    refine ⟨_, (pss_cons (ps_expr (pe_call ((ok_check_pair e).mono (by decide)) hr rfl e.g_check_pair e.f_check_pair.kp e.b_check_pair .nil pass0 (pa_cons (pv 0) (pa_cons (pv 1) pa_nil))))
      (pss_cons (ps_set (i := 2) sc_obstruction.nd rfl (by first | exact Or.inl rfl | exact Or.inr rfl) (pe_call ((ok_numbers_by_place e).mono (by decide)) hr rfl e.g_numbers_by_place e.f_numbers_by_place.kp e.b_numbers_by_place .nil pass0 (pa_cons (pv 0) pa_nil)))
      (pss_cons (ps_set (i := 3) sc_obstruction.nd rfl (by first | exact Or.inl rfl | exact Or.inr rfl) (pe_call ((ok_numbers_by_place e).mono (by decide)) hr rfl e.g_numbers_by_place e.f_numbers_by_place.kp e.b_numbers_by_place .nil pass0 (pa_cons (pv 1) pa_nil)))
      (pss_cons (ps_set (i := 4) sc_obstruction.nd rfl (by first | exact Or.inl rfl | exact Or.inr rfl) (pe_call ((ok_first_two e).mono (by decide)) hr rfl e.g_first_two e.f_first_two.kp e.b_first_two .nil pass0 (pa_cons (pv 2) (pa_cons (pv 3) pa_nil))))
      (pss_cons (ps_if (pt_cmpR op_isN (pv 4) pe_non (nomark _))
        (pss_one (ps_set (i := 4) sc_obstruction.nd rfl (by first | exact Or.inl rfl | exact Or.inr rfl) (pe_call ((ok_first_three e).mono (by decide)) hr rfl e.g_first_three e.f_first_three.kp e.b_first_three .nil pass0 (pa_cons (pv 2) (pa_cons (pv 3) pa_nil)))))
        pss_nil)
      (pss_one (ps_ret (pv 4)))))))), ?_⟩
    refine ⟨_, rfl, _, rfl, a, b, tk, fs, rfl, hE, hF, pl, p, fun H1 s1 => ?_⟩
    refine ⟨_, rfl, a, tk, rfl, hE.same s1, pl, fun H2 d s2 nd2 hd => ?_⟩
    have t2 := s1.trans s2
    refine ⟨_, rfl, b, fs, rfl, hF.same t2, pl.perm p, fun H3 e s3 ne he => ?_⟩
    have t3 := t2.trans s3
    have hd3 := s3 _ _ hd
    have nde : d ≠ e := ne_of_none hd ne
    refine ⟨_, rfl, _, rfl, d, e, tk, fs, rfl, hd3, he, nd, pl.le, p, no, fun H4 s4 => ?_⟩
    refine ⟨_, rfl, rfl, _, rfl, iteD rfl ?_⟩
    refine ⟨_, rfl, _, rfl, d, e, tk, fs, rfl, s4 _ _ hd3, s4 _ _ he, nde, nd, pl.le, p, no, fun H5 s5 => ?_⟩
    exact ⟨_, rfl, k _ ((t3.trans s4).trans s5)⟩
theorem ok_is_possible (e : Env K mg) : FnOk P w K mg base CX0 7 e.a_is_possible e.d_is_possible ["takes", "fills"] (sp_is_possible K) := by
  refine e.f_is_possible.ok sc_is_possible (fun vs H Q E h => ?_) (fun cdv A outer s H vs Q E hr h => ?_)
  · obtain ⟨a, b, tk, fs, rfl, _⟩ := h; rfl
  · obtain ⟨a, b, tk, fs, rfl, hE, hF, pl, p, no, k⟩ := h
    refine ⟨_, (pss_one (ps_ret (pe_cmpR op_isN (pe_call ((ok_obstruction e).mono (by decide)) hr rfl e.g_obstruction e.f_obstruction.kp e.b_obstruction .nil pass0 (pa_cons (pv 0) (pa_cons (pv 1) pa_nil))) pe_non (nomark _)))), ?_⟩
    exact ⟨_, rfl, _, rfl, a, b, tk, fs, rfl, hE, hF, pl, p, no, fun H1 s1 => ⟨rfl, k _ s1⟩⟩
end
end LP

namespace LP
open PySem L2 LT LG LR
section
variable {P : Program} {w : World} {K : PySem.W.Frag} {mg : Str → Option Value} {base : Heap}

theorem init_books (n : Nat) : (simInit n).books.map vo = rgV 0 n := by
  unfold simInit rgV rangeI
  simp only [List.map_map]
  have e : ((n : Int) - 0).toNat = n := by omega
  rw [e]
  refine List.map_congr_left fun k hk => ?_
  show V.int (k : Int) = V.int (0 + (k : Int))
  rw [Int.zero_add]
theorem ok_Shelf_init (e : Env K mg) : FnOk P w K mg base CX0 1 e.a_Shelf_init e.d_Shelf_init ["self", "size"] (sp_Shelf_init e.C_Shelf) := by
  refine e.f_Shelf_init.ok sc_Shelf_init (fun vs H Q E h => ?_) (fun cdv A outer s H vs Q E hr h => ?_)
  · obtain ⟨p, dx, n, rfl, _⟩ := h; rfl
  · obtain ⟨p, dx, n, rfl, h1, hp, k⟩ := h
    refine ⟨_, (pss_cons (ps_fld (pv 0) (pe_listRg rfl (by rfl) e.n_list (prg_1 (by rfl) e.n_range (pv 1))) rfl)
      (pss_one (ps_fld (pv 0) (pe_lst pa_nil) rfl))), ?_⟩
    refine ⟨_, rfl, _, rfl, RgOk.of_le (by decide) (by omega) (by decide) (by omega), fun bl hb => ?_⟩
    have n1 : p ≠ bl := ne_of_none hp hb
    refine ⟨_, rfl, p, e.C_Shelf, dx, [], rfl, (by rw [upd_ne n1]; exact hp), e.cl_Shelf, e.nA_Shelf_books, (by show 0 < 1000; decide), (by decide), fun ol ho => ?_⟩
    have n2 : p ≠ ol := ne_of_none (o := .ins e.C_Shelf dx (putF "books" (.ref bl) [])) upd_same ho
    have n3 : bl ≠ ol := ne_of_none (o := .lst (rgV 0 n)) (by rw [upd_ne n1.symm, upd_same]) ho
    refine ⟨_, rfl, p, e.C_Shelf, dx, _, rfl, (by rw [upd_ne n2, upd_same]), e.cl_Shelf, e.nA_Shelf_out, (by show 1 < 1000; decide), ?_⟩
    have ho' : H ol = none := by rw [upd_ne n2.symm, upd_ne n3.symm] at ho; exact ho
    refine k _ bl ol ⟨⟨dx, upd_same⟩, ?_, ?_, n3⟩ hb ho' fun b o hb' hne => ?_
    · rw [upd_ne n1.symm, upd_ne n3, upd_ne n1.symm, upd_same, init_books]
    · rw [upd_ne n2.symm, upd_same]; rfl
    · rw [upd_ne hne, upd_ne (ne_of_none hb' ho'), upd_ne hne, upd_ne (ne_of_none hb' hb)]; exact hb'
theorem ok_Shelf_can_take (e : Env K mg) : FnOk P w K mg base CX0 2 e.a_Shelf_can_take e.d_Shelf_can_take ["self", "place"] (sp_Shelf_can_take e.C_Shelf) := by
  refine e.f_Shelf_can_take.ok sc_Shelf_can_take (fun vs H Q E h => ?_) (fun cdv A outer s H vs Q E hr h => ?_)
  · obtain ⟨sh, bl, ol, s, p, rfl, _⟩ := h; rfl
  · obtain ⟨sh, bl, ol, s, p, rfl, S, k⟩ := h
    refine ⟨_, (pss_one (ps_ret (pe_and (pe_call ((ok_is_whole e).mono (by decide)) hr rfl e.g_is_whole e.f_is_whole.kp e.b_is_whole .nil pass0 (pa_cons (pv 1) pa_nil)) (pe_and (pe_chain op_le op_lt pe_int (pv 1) (pe_callB call_len_seq (by rfl) e.n_len PySem.boot_len (pa_cons (pe_fld (pv 0) rfl) pa_nil))) (pe_one (pe_cmpR op_notN (pe_ix ix_list (pe_fld (pv 0) rfl) (pv 1) (fun _ _ => rfl)) pe_non (nomark _))))))), ?_⟩
    refine ⟨_, rfl, _, rfl, _, rfl, iteT ?_⟩
    refine ⟨_, rfl, _, _, rfl, rfl, _, rfl, ?_⟩
    obtain ⟨dx, ho⟩ := S.ob
    refine ite2d (fun h0 => ?_) fun h0 => ?_
    · refine ⟨_, rfl, _, _, _, _, _, rfl, ho, e.cl_Shelf, e.nA_Shelf_books, shf_books _ _, _, _, rfl, .inl (SqL.of S.bk), _, _, rfl, rfl, _, rfl, ite2d (fun h1 => ?_) fun h1 => ?_⟩
      · rw [List.length_map] at h1
        have h2 : p.toNat < s.books.length := by omega
        have e1 := List.getElem?_eq_getElem h2
        refine ⟨_, rfl, _, _, _, _, _, rfl, ho, e.cl_Shelf, e.nA_Shelf_books, shf_books _ _, _, rfl, _, _, _, _, rfl, rfl, SqL.of S.bk, at_of (j := p.toNat) (v := vo s.books[p.toNat]) (by omega) (by rw [List.getElem?_map, e1]; rfl), rfl, ?_⟩
        have e2 : (!decide (vo s.books[p.toNat] = V.non)) = (stp s (true, p)).isSome := by
          unfold stp
          rw [if_pos rfl, if_pos (show 0 ≤ ((true, p) : Op).2 from h0)]
          dsimp only
          rw [e1]
          cases s.books[p.toNat] with
          | none => rfl
          | some b => rfl
        show Q (V.bl (!decide (vo s.books[p.toNat] = V.non))) H
        rw [e2]; exact k
      · rw [List.length_map] at h1
        have e2 : (stp s (true, p)).isSome = false := by
          unfold stp
          rw [if_pos rfl, if_pos (show 0 ≤ ((true, p) : Op).2 from h0)]
          dsimp only
          rw [List.getElem?_eq_none (by omega)]; rfl
        rw [e2] at k; exact k
    · have e2 : (stp s (true, p)).isSome = false := by
        unfold stp
        rw [if_pos rfl, if_neg (show ¬ 0 ≤ ((true, p) : Op).2 from h0)]; rfl
      rw [e2] at k
      exact ⟨_, rfl, iteF k⟩
theorem ok_Shelf_can_return (e : Env K mg) : FnOk P w K mg base CX0 2 e.a_Shelf_can_return e.d_Shelf_can_return ["self", "book"] (sp_Shelf_can_return e.C_Shelf) := by
  refine e.f_Shelf_can_return.ok sc_Shelf_can_return (fun vs H Q E h => ?_) (fun cdv A outer s H vs Q E hr h => ?_)
  · obtain ⟨sh, bl, ol, s, p, rfl, _⟩ := h; rfl
  · obtain ⟨sh, bl, ol, s, p, rfl, S, k⟩ := h
    refine ⟨_, (pss_one (ps_ret (pe_and (pe_call ((ok_is_whole e).mono (by decide)) hr rfl e.g_is_whole e.f_is_whole.kp e.b_is_whole .nil pass0 (pa_cons (pv 1) pa_nil)) (pe_one (pe_cmpR op_in_seq (pv 1) (pe_fld (pv 0) rfl) (by rfl)))))), ?_⟩
    refine ⟨_, rfl, _, rfl, _, rfl, iteT ?_⟩
    obtain ⟨dx, ho⟩ := S.ob
    refine ⟨_, rfl, _, rfl, _, _, _, _, _, rfl, ho, e.cl_Shelf, e.nA_Shelf_out, shf_out _ _, _, _, rfl, .inl (SqL.of S.ot), rfl, flat_ints _, ?_⟩
    show Q (V.bl (inV (V.int p) (List.map V.int s.out))) H
    have e2 : decide (p ∈ s.out) = (stp s (false, p)).isSome := by
      unfold stp
      rw [if_neg (show ¬ ((false, p) : Op).1 = true from Bool.false_ne_true)]
      by_cases hb : p ∈ s.out
      · rw [if_pos (show ((false, p) : Op).2 ∈ s.out from hb), decide_eq_true hb]; rfl
      · rw [if_neg (show ¬ ((false, p) : Op).2 ∈ s.out from hb), decide_eq_false hb]; rfl
    rw [in_ints, e2]; exact k
theorem ok_Shelf_take_from (e : Env K mg) : FnOk P w K mg base CX0 1 e.a_Shelf_take_from e.d_Shelf_take_from ["self", "place"] (sp_Shelf_take_from e.C_Shelf) := by
  refine e.f_Shelf_take_from.ok sc_Shelf_take_from (fun vs H Q E h => ?_) (fun cdv A outer s H vs Q E hr h => ?_)
  · obtain ⟨sh, bl, ol, s, p, b, rfl, _⟩ := h; rfl
  · obtain ⟨sh, bl, ol, s, p, b, rfl, S, hp, hb, hl, k⟩ := h
    refine ⟨_, (pss_cons (ps_set (i := 2) sc_Shelf_take_from.nd rfl (by first | exact Or.inl rfl | exact Or.inr rfl) (pe_ix ix_list (pe_fld (pv 0) rfl) (pv 1) (fun _ _ => rfl)))
      (pss_cons (ps_asg pe_non (pg_sub (pe_fld (pv 0) rfl) (pv 1) set_list))
      (pss_cons (ps_expr (pe_bm PySem.F.plainAttrs_list PySem.F.slot_list_append PySem.F.type_list_append mt_append (pe_fld (pv 0) rfl) (pa_cons (pv 2) pa_nil)))
      (pss_one (ps_ret (pv 2)))))), ?_⟩
    obtain ⟨dx, ho⟩ := S.ob
    have n1 : sh ≠ bl := ne_of ho S.bk (by intro q; cases q)
    have n2 : sh ≠ ol := ne_of ho S.ot (by intro q; cases q)
    refine ⟨_, rfl, _, _, _, _, _, rfl, ho, e.cl_Shelf, e.nA_Shelf_books, shf_books _ _, _, rfl, _, _, _, _, rfl, rfl, SqL.of S.bk, at_of (j := p.toNat) (v := V.int b) (by omega) (by rw [List.getElem?_map, hb]; rfl), ?_⟩
    refine ⟨_, rfl, _, _, _, _, _, rfl, ho, e.cl_Shelf, e.nA_Shelf_books, shf_books _ _, _, rfl, _, _, _, p.toNat, rfl, rfl, S.bk, ?_, ?_⟩
    · have := (List.getElem?_eq_some_iff.mp hb).1
      unfold ixN
      rw [if_pos hp, if_pos (by rw [List.length_map]; omega)]
    refine ⟨_, rfl, _, _, _, _, _, rfl, (by rw [upd_ne n1]; exact ho), e.cl_Shelf, e.nA_Shelf_out, shf_out _ _, .inl ⟨rfl, _, SqL.of (by rw [upd_ne S.ne.symm]; exact S.ot)⟩, ?_⟩
    refine ⟨_, rfl, _, _, _, rfl, rfl, (by rw [upd_ne S.ne.symm]; exact S.ot), (by rw [List.length_map]; exact small1000 (by omega)), ?_⟩
    refine ⟨_, rfl, k _ (fun u e1 e2 => ⟨⟨dx, by rw [upd_ne n2, upd_ne n1]; exact ho⟩, ?_, ?_, S.ne⟩) fun c o hc c1 c2 => by rw [upd_ne c2, upd_ne c1]; exact hc⟩
    · rw [upd_ne S.ne, upd_same, e1, List.map_set]; rfl
    · rw [upd_same, e2, List.map_append]; rfl
theorem ok_Shelf_first_gap (e : Env K mg) : FnOk P w K mg base CX0 1 e.a_Shelf_first_gap e.d_Shelf_first_gap ["self"] (sp_Shelf_first_gap e.C_Shelf) := by
  refine e.f_Shelf_first_gap.ok sc_Shelf_first_gap (fun vs H Q E h => ?_) (fun cdv A outer s H vs Q E hr h => ?_)
  · obtain ⟨sh, bl, ol, s, rfl, _⟩ := h; rfl
  · obtain ⟨sh, bl, ol, s, rfl, S, hg, k⟩ := h
    refine ⟨_, (pss_one (ps_ret (pe_bm PySem.F.plainAttrs_list PySem.F.slot_list_index PySem.F.type_list_index mt_index (pe_fld (pv 0) rfl) (pa_cons pe_non pa_nil)))), ?_⟩
    obtain ⟨dx, ho⟩ := S.ob
    refine ⟨_, rfl, _, _, _, _, _, rfl, ho, e.cl_Shelf, e.nA_Shelf_books, shf_books _ _, .inl ⟨rfl, _, SqL.of S.bk⟩, ?_⟩
    refine ⟨_, _, _, gap s.books, V.non, rfl, rfl, SqL.of S.bk, rfl, ?_, ?_, rfl, ?_, ?_⟩
    · rw [List.all_eq_true]; intro v hv; obtain ⟨i, _, rfl⟩ := List.mem_map.mp hv; cases i <;> rfl
    · rw [List.getElem?_map, gap_get hg]; rfl
    · intro m z hm hz
      rw [List.getElem?_map] at hz
      cases q : s.books[m]? with
      | none => rw [q] at hz; cases hz
      | some x =>
        rw [q] at hz
        have hx := gap_before hm q
        cases x with
        | none => exact absurd rfl hx
        | some i => cases hz; rfl
    exact k
theorem ok_Shelf_put_back (e : Env K mg) : FnOk P w K mg base CX0 2 e.a_Shelf_put_back e.d_Shelf_put_back ["self", "book"] (sp_Shelf_put_back e.C_Shelf) := by
  refine e.f_Shelf_put_back.ok sc_Shelf_put_back (fun vs H Q E h => ?_) (fun cdv A outer s H vs Q E hr h => ?_)
  · obtain ⟨sh, bl, ol, s, b, rfl, _⟩ := h; rfl
  · obtain ⟨sh, bl, ol, s, b, rfl, S, hb, hg, k⟩ := h
    refine ⟨_, (pss_cons (ps_set (i := 2) sc_Shelf_put_back.nd rfl (by first | exact Or.inl rfl | exact Or.inr rfl) (pe_meth0 (pv 0) e.cl_Shelf e.m_Shelf_first_gap ((ok_Shelf_first_gap e).mono (by decide)) hr e.b_Shelf_first_gap .nil pass0))
      (pss_cons (ps_asg (pv 1) (pg_sub (pe_fld (pv 0) rfl) (pv 2) set_list))
      (pss_cons (ps_expr (pe_bm PySem.F.plainAttrs_list PySem.F.slot_list_remove PySem.F.type_list_remove mt_remove (pe_fld (pv 0) rfl) (pa_cons (pv 1) pa_nil)))
      (pss_one (ps_ret (pv 2)))))), ?_⟩
    obtain ⟨dx, ho⟩ := S.ob
    have n1 : sh ≠ bl := ne_of ho S.bk (by intro q; cases q)
    have n2 : sh ≠ ol := ne_of ho S.ot (by intro q; cases q)
    refine ⟨_, rfl, _, _, _, rfl, ho, shf_no _ _ (by decide +kernel) (by decide +kernel), _, _, _, _, rfl, S, hg, ?_⟩
    have hgl : gap s.books < (s.books.map vo).length := by rw [List.length_map]; exact gap_lt hg
    refine ⟨_, rfl, _, rfl, _, _, _, _, _, rfl, ho, e.cl_Shelf, e.nA_Shelf_books, shf_books _ _, _, rfl, _, _, _, gap s.books, rfl, rfl, S.bk, ?_, ?_⟩
    · unfold ixN
      rw [if_pos (by omega), if_pos (by omega)]
      congr 1
    refine ⟨_, rfl, _, _, _, _, _, rfl, (by rw [upd_ne n1]; exact ho), e.cl_Shelf, e.nA_Shelf_out, shf_out _ _, .inl ⟨rfl, _, SqL.of (by rw [upd_ne S.ne.symm]; exact S.ot)⟩, ?_⟩
    refine ⟨_, rfl, _, _, _, s.out.idxOf b, rfl, rfl, (by rw [upd_ne S.ne.symm]; exact S.ot), idx_get hb, fun m hm => idx_before hm, ?_⟩
    refine ⟨_, rfl, k _ (fun u e1 e2 => ⟨⟨dx, by rw [upd_ne n2, upd_ne n1]; exact ho⟩, ?_, ?_, S.ne⟩) fun c o hc c1 c2 => by rw [upd_ne c2, upd_ne c1]; exact hc⟩
    · rw [upd_ne S.ne, upd_same, e1, List.map_set]; rfl
    · rw [upd_same, e2, List.erase_eq_eraseIdx_of_idxOf rfl]
end
end LP

namespace LP
open PySem L2 LT LG LR
section
variable {P : Program} {w : World} {K : PySem.W.Frag} {mg : Str → Option Value} {base : Heap}



theorem ne_w {x : Int} : V.str (if ((false, x) : Op).1 = true then ("take" : Str) else "return") ≠ V.str "take" := by
  intro q
  have h : ("return" : Str) = "take" := V.str.inj q
  exact absurd h (by decide +kernel)
theorem ok_can_perform (e : Env K mg) : FnOk P w K mg base CX0 3 e.a_can_perform e.d_can_perform ["shelf", "value"] (sp_can_perform e.C_Shelf) := by
  refine e.f_can_perform.ok sc_can_perform (fun vs H Q E h => ?_) (fun cdv A outer s H vs Q E hr h => ?_)
  · obtain ⟨sh, bl, ol, a, s, o, rfl, _⟩ := h; rfl
  · obtain ⟨sh, bl, ol, a, s, o, rfl, S, ha, k⟩ := h
    refine ⟨_, (pss_cons (ps_if (PW.pt (pw_or (pt_not (pt_val (pe_call ((ok_is_listed e).mono (by decide)) hr rfl e.g_is_listed e.f_is_listed.kp e.b_is_listed .nil pass0 (pa_cons (pv 1) pa_nil)))) (pw_or (pt_cmpR op_ne (pe_callB call_len_seq (by rfl) e.n_len PySem.boot_len (pa_cons (pv 1) pa_nil)) pe_int (nomark _)) (pw_or1 (pt_not (pt_val (pe_callB call_isi (by rfl) e.n_isinstance (by decide +kernel) (pa_cons (pe_ix ix_tup (pv 1) pe_int (fun _ _ => rfl)) (pa_cons (pe_bltn (v := V.ty "str") (by rfl) e.n_str (by decide +kernel) rfl) pa_nil)))))))))
        (pss_one (ps_ret pe_bl))
        pss_nil)
      (pss_cons (ps_asg (pv 1) (pg_tup (by rfl) (pgs_cons (pg_name (i := 2) sc_can_perform.nd rfl (by first | exact Or.inl rfl | exact Or.inr rfl)) (pgs_cons (pg_name (i := 3) sc_can_perform.nd rfl (by first | exact Or.inl rfl | exact Or.inr rfl)) pgs_nil))))
      (pss_cons (ps_if (pt_cmpR op_eq (pv 2) pe_str (nomark _))
        (pss_one (ps_ret (pe_meth (pv 0) e.cl_Shelf e.m_Shelf_can_take ((ok_Shelf_can_take e).mono (by decide)) hr e.b_Shelf_can_take .nil pass0 (pa_cons (pv 3) pa_nil))))
        pss_nil)
      (pss_one (ps_ret (pe_and (pe_cmpR op_eq (pv 2) pe_str (nomark _)) (pe_one (pe_meth (pv 0) e.cl_Shelf e.m_Shelf_can_return ((ok_Shelf_can_return e).mono (by decide)) hr e.b_Shelf_can_return .nil pass0 (pa_cons (pv 3) pa_nil))))))))), ?_⟩
    refine ⟨_, rfl, a, _, rfl, .inr (SqT.of ha), fun H1 s1 => ⟨true, rfl, iteNB rfl ?_⟩⟩
    have ha1 : H1 a = some (.tup (opv o)) := s1 _ _ ha
    have S1 : SimAt e.C_Shelf H1 sh bl ol s := ⟨let ⟨dx, h⟩ := S.ob; ⟨dx, s1 _ _ h⟩, s1 _ _ S.bk, s1 _ _ S.ot, S.ne⟩
    obtain ⟨dx, ho⟩ := S1.ob
    refine ⟨_, rfl, _, _, rfl, .inr (SqT.of ha1), rfl, _, rfl, iteF ?_⟩
    refine ⟨_, rfl, _, _, _, _, rfl, rfl, SqT.of ha1, rfl, _, _, _, _, true, rfl, .ty "str", .base (.str _), kit_ty (by decide +kernel), _, rfl, iteNB rfl ?_⟩
    refine ⟨_, rfl, _, _, rfl, SqT.of ha1, rfl, _, _, rfl, _, _, rfl, rfl, ?_⟩
    obtain ⟨w, x⟩ := o
    cases w with
    | true =>
      refine ⟨_, rfl, rfl, _, rfl, iteD rfl ?_⟩
      refine ⟨_, rfl, sh, dx, _, rfl, ho, shf_no _ _ (by decide +kernel) (by decide +kernel), _, rfl, ?_⟩
      exact ⟨sh, bl, ol, s, x, rfl, S1, k _ s1⟩
    | false =>
      refine ⟨_, rfl, rfl, _, rfl, iteX ne_w ?_⟩
      refine ⟨_, rfl, rfl, _, rfl, iteD rfl ?_⟩
      refine ⟨_, rfl, sh, dx, _, rfl, ho, shf_no _ _ (by decide +kernel) (by decide +kernel), _, rfl, ?_⟩
      exact ⟨sh, bl, ol, s, x, rfl, S1, k _ s1⟩
theorem ok_run_schedule (e : Env K mg) : FnOk P w K mg base CX0 5 e.a_run_schedule e.d_run_schedule ["size", "schedule"] (sp_run_schedule K e.C_Shelf) := by
  refine e.f_run_schedule.ok sc_run_schedule (fun vs H Q E h => ?_) (fun cdv A outer s H vs Q E hr h => ?_)
  · obtain ⟨n, l, ops, f, rfl, _⟩ := h; rfl
  · obtain ⟨n, l, ops, f, rfl, R, k⟩ := h
    obtain ⟨hn1, hn2, ⟨as, hS, hO⟩, hlen, hrun⟩ := R
    refine ⟨_, (pss_cons (ps_expr (pe_call ((ok_check_size e).mono (by decide)) hr rfl e.g_check_size e.f_check_size.kp e.b_check_size .nil pass0 (pa_cons (pv 0) pa_nil)))
      (pss_cons (ps_if (PW.pt (pw_or (pt_not (pt_val (pe_call ((ok_is_listed e).mono (by decide)) hr rfl e.g_is_listed e.f_is_listed.kp e.b_is_listed .nil pass0 (pa_cons (pv 1) pa_nil)))) (pw_or1 (pt_cmpR op_gt (pe_callB call_len_seq (by rfl) e.n_len PySem.boot_len (pa_cons (pv 1) pa_nil)) (pe_glob (v := V.int 400) rfl e.g_MOST_OPERATIONS ⟨_, rfl⟩) (nomark _)))))
        (pss_one ps_never)
        pss_nil)
      (pss_cons (ps_set (i := 2) sc_run_schedule.nd rfl (by first | exact Or.inl rfl | exact Or.inr rfl) (pe_make e.mk_Shelf ((ok_Shelf_init e).mono (by decide)) hr rfl e.g_Shelf e.b_Shelf_init .nil pass0 (pa_cons (pv 0) pa_nil)))
      (pss_cons (ps_set (i := 3) sc_run_schedule.nd rfl (by first | exact Or.inl rfl | exact Or.inr rfl) (pe_lst pa_nil))
      (pss_cons (ps_set (i := 4) sc_run_schedule.nd rfl (by first | exact Or.inl rfl | exact Or.inr rfl) pe_int)
      (pss_cons (ps_for PassesOwn.never rfl (pi_enum (by rfl) e.n_enumerate (pa_cons (pv 1) pa_nil)) (pg_tup (by rfl) (pgs_cons (pg_name (i := 5) sc_run_schedule.nd rfl (by first | exact Or.inl rfl | exact Or.inr rfl)) (pgs_cons (pg_name (i := 6) sc_run_schedule.nd rfl (by first | exact Or.inl rfl | exact Or.inr rfl)) pgs_nil)))
      (pss_cons (ps_if (pt_not (pt_val (pe_call ((ok_can_perform e).mono (by decide)) hr rfl e.g_can_perform e.f_can_perform.kp e.b_can_perform .nil pass0 (pa_cons (pv 2) (pa_cons (pv 6) pa_nil)))))
        (pss_one ps_never)
        pss_nil)
      (pss_cons (ps_asg (pv 6) (pg_tup (by rfl) (pgs_cons (pg_name (i := 7) sc_run_schedule.nd rfl (by first | exact Or.inl rfl | exact Or.inr rfl)) (pgs_cons (pg_name (i := 8) sc_run_schedule.nd rfl (by first | exact Or.inl rfl | exact Or.inr rfl)) pgs_nil))))
      (pss_cons (ps_if (pt_cmpR op_eq (pv 7) pe_str (nomark _))
        (pss_one (ps_expr (pe_meth (pv 2) e.cl_Shelf e.m_Shelf_take_from ((ok_Shelf_take_from e).mono (by decide)) hr e.b_Shelf_take_from .nil pass0 (pa_cons (pv 8) pa_nil))))
        (pss_one (ps_expr (pe_bm PySem.F.plainAttrs_list PySem.F.slot_list_append PySem.F.type_list_append mt_append (pv 3) (pa_cons (pe_meth (pv 2) e.cl_Shelf e.m_Shelf_put_back ((ok_Shelf_put_back e).mono (by decide)) hr e.b_Shelf_put_back .nil pass0 (pa_cons (pv 8) pa_nil)) pa_nil)))))
      (pss_one (ps_set (i := 4) sc_run_schedule.nd rfl (by first | exact Or.inl rfl | exact Or.inr rfl) (pe_callB (call_max2 rfl) (by rfl) e.n_max (by decide +kernel) (pa_cons (pv 4) (pa_cons (pe_callB call_len_seq (by rfl) e.n_len PySem.boot_len (pa_cons (pe_fld (pv 2) rfl) pa_nil)) pa_nil)))))))))
      (pss_one (ps_ret (pe_tup (pa_cons (pv 2) (pa_cons (pv 3) (pa_cons (pv 4) pa_nil)))))))))))), ?_⟩
    refine ⟨_, rfl, n, rfl, by omega, by omega, ?_⟩
    refine ⟨_, rfl, l, _, rfl, .inl hS, fun H1 s1 => ⟨true, rfl, iteNB rfl ?_⟩⟩
    have hS1 := s1.seq hS
    have hasl : as.length = ops.length := hO.len
    refine ⟨_, rfl, _, _, rfl, .inl hS1, _, _, rfl, rfl, _, rfl, iteX (by rw [List.length_map]; omega) ?_⟩
    refine ⟨_, rfl, fun sh dx nx ndx nex => ?_⟩
    refine ⟨sh, dx, n, rfl, by omega, upd_same, fun H2 bl ol S2 nb no kp => ⟨rfl, ?_⟩⟩
    have s12 : Same H1 H2 := Same.made nx ndx kp
    have nb1 : H1 bl = none := by
      have z := nb; rw [upd_ne (show bl ≠ sh from fun q => by rw [q, upd_same] at z; cases z)] at z
      rw [upd_ne (show bl ≠ dx from fun q => by rw [q, upd_same] at z; cases z)] at z; exact z
    have no1 : H1 ol = none := by
      have z := no; rw [upd_ne (show ol ≠ sh from fun q => by rw [q, upd_same] at z; cases z)] at z
      rw [upd_ne (show ol ≠ dx from fun q => by rw [q, upd_same] at z; cases z)] at z; exact z
    have s02 : Same H H2 := s1.trans s12
    have nsh : H sh = none := s1.free nx
    have nbl : H bl = none := s1.free nb1
    have nol : H ol = none := s1.free no1
    refine ⟨by decide, fun fl nf => ?_⟩
    have nfl : H fl = none := s02.free nf
    obtain ⟨dx2, ho2⟩ := S2.ob
    have f1 : sh ≠ fl := ne_of_none ho2 nf
    have f2 : bl ≠ fl := ne_of_none S2.bk nf
    have f3 : ol ≠ fl := ne_of_none S2.ot nf
    have hS2 : SqL K (upd H2 fl (.lst [])) l (as.map V.ref) := (same_upd nf).seq (s12.seq hS1)
    refine ⟨_, rfl, l, _, rfl, hS2, for_it walk_enum (fun i σ H3 => ∃ (s : Sim) (v5 v6 v7 v8 : Option V), LR.run (simInit n) (ops.take i) = some s ∧ σ = [some (.int n), some (.ref l), some (.ref sh), some (.ref fl), some (.int s.most), v5, v6, v7, v8] ∧
        Same H H3 ∧ SimAt e.C_Shelf H3 sh bl ol s ∧ H3 fl = some (.lst (s.filled.map V.int)))
      ⟨simInit n, none, none, none, none, rfl, rfl, s02.trans (same_upd nf), ⟨⟨dx2, by rw [upd_ne f1]; exact ho2⟩, by rw [upd_ne f2]; exact S2.bk, by rw [upd_ne f3]; exact S2.ot, S2.ne⟩, upd_same⟩
      (fun i σ H3 _ ⟨_, _, _, _, _, _, _, s3, _, _⟩ => s3.seq hS) ?_ ?_⟩
    · rintro i x σ H3 H4 hi ⟨s, v5, v6, v7, v8, hr1, rfl, s3, S3, hf3⟩ ⟨T, x1, y1, rfl, hT, rfl, hx, hy⟩
      cases hx
      rw [List.length_map] at hi
      have hi2 : i < ops.length := by omega
      have ea := List.getElem?_eq_getElem hi
      have eo := List.getElem?_eq_getElem hi2
      replace hy : (as.map V.ref)[i]? = some y1 := hy
      rw [List.getElem?_map, ea] at hy
      cases hy
      obtain ⟨t, u, ht, hu, hr2⟩ := run_stp hrun eo
      have : t = s := Option.some.inj (ht.symm.trans hr1)
      subst this
      have g := good_run (good_init n) hr1
      refine ⟨_, _, rfl, SqT.of upd_same, rfl, _, _, rfl, _, _, rfl, rfl, ?_⟩
      have s34 := same_upd (o := HO.tup [.int (i : Nat), .ref as[i]]) hT
      have s4 := s3.trans s34
      have S4 : SimAt e.C_Shelf _ sh bl ol t := ⟨let ⟨dx, h⟩ := S3.ob; ⟨dx, s34 _ _ h⟩, s34 _ _ S3.bk, s34 _ _ S3.ot, S3.ne⟩
      have hop : OpAt _ as[i] ops[i] := s4 _ _ (hO.at_ i _ _ ea eo)
      refine ⟨_, rfl, _, rfl, sh, bl, ol, as[i], t, ops[i], rfl, S4, hop, fun H5 s45 => ⟨_, rfl, iteNB (by rw [hu]; rfl) ?_⟩⟩
      have s5 := s4.trans s45
      have S5 : SimAt e.C_Shelf H5 sh bl ol t := ⟨let ⟨dx, h⟩ := S4.ob; ⟨dx, s45 _ _ h⟩, s45 _ _ S4.bk, s45 _ _ S4.ot, S4.ne⟩
      obtain ⟨dx5, ho5⟩ := S5.ob
      have hop5 : H5 as[i] = some (.tup (opv ops[i])) := s45 _ _ hop
      have hf5 : H5 fl = some (.lst (t.filled.map V.int)) := s45 _ _ (s34 _ _ hf3)
      have outl : t.out.length ≤ 200 := by
        have := g.perm.length_eq
        rw [List.length_append, rangeI_length] at this; omega
      refine ⟨_, rfl, _, _, rfl, SqT.of hop5, rfl, _, _, rfl, _, _, rfl, rfl, ?_⟩
      clear hop hop5 hO
      generalize ops[i] = o at hu
      obtain ⟨wd, x⟩ := o
      cases wd with
      | true =>
        obtain ⟨hp, b, eb, rfl⟩ := stp_take hu
        refine ⟨_, rfl, rfl, _, rfl, iteD rfl ?_⟩
        refine ⟨_, rfl, sh, dx5, _, rfl, ho5, shf_no _ _ (by decide +kernel) (by decide +kernel), _, rfl, ?_⟩
        refine ⟨sh, bl, ol, t, x, b, rfl, S5, hp, eb, by omega, fun H6 hS6 kp6 => ?_⟩
        have S6 := hS6 ⟨t.books.set x.toNat none, t.out ++ [b], t.filled, mx t.most ((t.out ++ [b]).length : Nat)⟩ rfl rfl
        obtain ⟨dx6, ho6⟩ := S6.ob
        have s6 : Same H H6 := fun c o hc => kp6 c o (s5 c o hc) (ne_of_none hc nbl) (ne_of_none hc nol)
        refine ⟨_, rfl, _, rfl, sh, e.C_Shelf, dx6, _, _, rfl, ho6, e.cl_Shelf, e.nA_Shelf_out, shf_out _ _, ol, _, rfl, .inl (SqL.of S6.ot), _, _, rfl, ?_⟩
        refine ⟨_, some (.int (i : Nat)), some (.ref as[i]), some (.str (if ((true, x) : Op).1 = true then "take" else "return")), some (.int x), hr2, ?_, s6, S6, kp6 _ _ hf5 f2.symm f3.symm⟩
        rw [List.length_map]; rfl
      | false =>
        obtain ⟨hb, rfl⟩ := stp_ret hu
        refine ⟨_, rfl, rfl, _, rfl, iteX ne_w ?_⟩
        have fll : t.filled.length ≤ 400 := by
          obtain ⟨⟨m, e1, e2⟩, _⟩ := run_grow hr1
          have e3 : t.filled = m := by rw [e1]; rfl
          rw [e3, e2]
          unfold rets
          refine Nat.le_trans (List.length_filter_le _ _) ?_
          rw [List.length_take]; omega
        refine ⟨_, rfl, .inl ⟨rfl, _, SqL.of hf5⟩, _, rfl, sh, dx5, _, rfl, ho5, shf_no _ _ (by decide +kernel) (by decide +kernel), _, rfl, ?_⟩
        refine ⟨sh, bl, ol, t, x, rfl, S5, hb, g.gap hb, fun H6 hS6 kp6 => ?_⟩
        have S6 := hS6 ⟨t.books.set (gap t.books) (some x), t.out.erase x, t.filled ++ [(gap t.books : Int)], mx t.most ((t.out.erase x).length : Nat)⟩ rfl rfl
        obtain ⟨dx6, ho6⟩ := S6.ob
        have s6 : Same H H6 := fun c o hc => kp6 c o (s5 c o hc) (ne_of_none hc nbl) (ne_of_none hc nol)
        have hf6 := kp6 _ _ hf5 f2.symm f3.symm
        refine ⟨fl, _, _, rfl, rfl, hf6, (by rw [List.length_map]; exact small1000 (by omega)), ?_⟩
        have s7 : Same H (upd H6 fl (.lst (t.filled.map V.int ++ [V.int (gap t.books)]))) := fun c o hc => by
          rw [upd_ne (ne_of_none hc nfl)]; exact s6 c o hc
        refine ⟨_, rfl, _, rfl, sh, e.C_Shelf, dx6, _, _, rfl, (by rw [upd_ne f1]; exact ho6), e.cl_Shelf, e.nA_Shelf_out, shf_out _ _, ol, _, rfl, .inl (SqL.of (by rw [upd_ne f3]; exact S6.ot)), _, _, rfl, ?_⟩
        refine ⟨_, some (.int (i : Nat)), some (.ref as[i]), some (.str (if ((false, x) : Op).1 = true then "take" else "return")), some (.int x), hr2, ?_, s7, ⟨⟨dx6, by rw [upd_ne f1]; exact ho6⟩, by rw [upd_ne f2]; exact S6.bk, by rw [upd_ne f3]; exact S6.ot, S6.ne⟩, ?_⟩
        · rw [List.length_map]; rfl
        · rw [upd_same, List.map_append]; rfl
    · rintro σ H3 ⟨s, v5, v6, v7, v8, hr1, rfl, s3, S3, hf3⟩
      rw [List.length_map, hasl, List.take_length, hrun] at hr1
      cases hr1
      refine ⟨_, rfl, _, rfl, _, rfl, (by show 3 ≤ sizeLine; decide), fun t ht => ?_⟩
      have st := same_upd (o := HO.tup [.ref sh, .ref fl, .int f.most]) ht
      exact k _ t sh bl ol fl (s3.trans st) upd_same ⟨let ⟨dx, h⟩ := S3.ob; ⟨dx, st _ _ h⟩, st _ _ S3.bk, st _ _ S3.ot, S3.ne⟩ (st _ _ hf3) nbl nol nfl nsh
theorem ok_is_schedule (e : Env K mg) : FnOk P w K mg base CX0 6 e.a_is_schedule e.d_is_schedule ["size", "value"] (sp_is_schedule K) := by
  refine e.f_is_schedule.ok sc_is_schedule (fun vs H Q E h => ?_) (fun cdv A outer s H vs Q E hr h => ?_)
  · obtain ⟨n, l, ops, f, rfl, _⟩ := h; rfl
  · obtain ⟨n, l, ops, f, rfl, R, k⟩ := h
    refine ⟨_, (pss_cons (ps_try_thru0 (pss_one (ps_expr (pe_call ((ok_run_schedule e).mono (by decide)) hr rfl e.g_run_schedule e.f_run_schedule.kp e.b_run_schedule .nil pass0 (pa_cons (pv 0) (pa_cons (pv 1) pa_nil))))))
      (pss_one (ps_ret pe_bl))), ?_⟩
    exact ⟨_, rfl, _, rfl, n, l, ops, f, rfl, R, fun H' t sh bl ol fl s1 h1 h2 h3 h4 h5 h6 h7 => k _ s1⟩
theorem ok_books_after (e : Env K mg) : FnOk P w K mg base CX0 6 e.a_books_after e.d_books_after ["size", "schedule"] (sp_books_after K) := by
  refine e.f_books_after.ok sc_books_after (fun vs H Q E h => ?_) (fun cdv A outer s H vs Q E hr h => ?_)
  · obtain ⟨n, l, ops, f, rfl, _⟩ := h; rfl
  · obtain ⟨n, l, ops, f, rfl, R, k⟩ := h
    refine ⟨_, (pss_cons (ps_asg (pe_call ((ok_run_schedule e).mono (by decide)) hr rfl e.g_run_schedule e.f_run_schedule.kp e.b_run_schedule .nil pass0 (pa_cons (pv 0) (pa_cons (pv 1) pa_nil))) (pg_tup (by rfl) (pgs_cons (pg_name (i := 2) sc_books_after.nd rfl (by first | exact Or.inl rfl | exact Or.inr rfl)) (pgs_cons (pg_name (i := 3) sc_books_after.nd rfl (by first | exact Or.inl rfl | exact Or.inr rfl)) (pgs_cons (pg_name (i := 3) sc_books_after.nd rfl (by first | exact Or.inl rfl | exact Or.inr rfl)) pgs_nil)))))
      (pss_one (ps_ret (pe_fld (pv 2) rfl)))), ?_⟩
    refine ⟨_, rfl, _, rfl, n, l, ops, f, rfl, R, fun H' t sh bl ol fl s1 h1 h2 h3 h4 h5 h6 h7 => ?_⟩
    obtain ⟨dx, ho⟩ := h2.ob
    refine ⟨_, _, rfl, SqT.of h1, rfl, _, _, rfl, _, _, rfl, _, _, rfl, rfl, ?_⟩
    exact ⟨_, rfl, sh, e.C_Shelf, dx, _, _, rfl, ho, e.cl_Shelf, e.nA_Shelf_books, shf_books _ _, k _ bl s1 h4 h2.bk⟩
theorem ok_books_out (e : Env K mg) : FnOk P w K mg base CX0 6 e.a_books_out e.d_books_out ["size", "schedule"] (sp_books_out K) := by
  refine e.f_books_out.ok sc_books_out (fun vs H Q E h => ?_) (fun cdv A outer s H vs Q E hr h => ?_)
  · obtain ⟨n, l, ops, f, rfl, _⟩ := h; rfl
  · obtain ⟨n, l, ops, f, rfl, R, k⟩ := h
    refine ⟨_, (pss_cons (ps_asg (pe_call ((ok_run_schedule e).mono (by decide)) hr rfl e.g_run_schedule e.f_run_schedule.kp e.b_run_schedule .nil pass0 (pa_cons (pv 0) (pa_cons (pv 1) pa_nil))) (pg_tup (by rfl) (pgs_cons (pg_name (i := 2) sc_books_out.nd rfl (by first | exact Or.inl rfl | exact Or.inr rfl)) (pgs_cons (pg_name (i := 3) sc_books_out.nd rfl (by first | exact Or.inl rfl | exact Or.inr rfl)) (pgs_cons (pg_name (i := 3) sc_books_out.nd rfl (by first | exact Or.inl rfl | exact Or.inr rfl)) pgs_nil)))))
      (pss_one (ps_ret (pe_callB cr_sortedE (by rfl) e.n_sorted (by decide +kernel) (pa_cons (pe_fld (pv 2) rfl) pa_nil))))), ?_⟩
    refine ⟨_, rfl, _, rfl, n, l, ops, f, rfl, R, fun H' t sh bl ol fl s1 h1 h2 h3 h4 h5 h6 h7 => ?_⟩
    obtain ⟨dx, ho⟩ := h2.ob
    refine ⟨_, _, rfl, SqT.of h1, rfl, _, _, rfl, _, _, rfl, _, _, rfl, rfl, ?_⟩
    refine ⟨_, rfl, sh, e.C_Shelf, dx, _, _, rfl, ho, e.cl_Shelf, e.nA_Shelf_out, shf_out _ _, ol, _, rfl, .inl (SqL.of h2.ot), fun ns' p hp1 hp2 np => ?_⟩
    exact k _ p ns' (s1.trans (same_upd np)) (s1.free np) hp1 hp2 upd_same
theorem ok_places_filled (e : Env K mg) : FnOk P w K mg base CX0 6 e.a_places_filled e.d_places_filled ["size", "schedule"] (sp_places_filled K) := by
  refine e.f_places_filled.ok sc_places_filled (fun vs H Q E h => ?_) (fun cdv A outer s H vs Q E hr h => ?_)
  · obtain ⟨n, l, ops, f, rfl, _⟩ := h; rfl
  · obtain ⟨n, l, ops, f, rfl, R, k⟩ := h
    refine ⟨_, (pss_cons (ps_asg (pe_call ((ok_run_schedule e).mono (by decide)) hr rfl e.g_run_schedule e.f_run_schedule.kp e.b_run_schedule .nil pass0 (pa_cons (pv 0) (pa_cons (pv 1) pa_nil))) (pg_tup (by rfl) (pgs_cons (pg_name (i := 2) sc_places_filled.nd rfl (by first | exact Or.inl rfl | exact Or.inr rfl)) (pgs_cons (pg_name (i := 3) sc_places_filled.nd rfl (by first | exact Or.inl rfl | exact Or.inr rfl)) (pgs_cons (pg_name (i := 2) sc_places_filled.nd rfl (by first | exact Or.inl rfl | exact Or.inr rfl)) pgs_nil)))))
      (pss_one (ps_ret (pv 3)))), ?_⟩
    refine ⟨_, rfl, _, rfl, n, l, ops, f, rfl, R, fun H' t sh bl ol fl s1 h1 h2 h3 h4 h5 h6 h7 => ?_⟩
    refine ⟨_, _, rfl, SqT.of h1, rfl, _, _, rfl, _, _, rfl, _, _, rfl, rfl, ?_⟩
    exact ⟨_, rfl, k _ fl s1 h6 h3⟩
theorem ok_most_out (e : Env K mg) : FnOk P w K mg base CX0 6 e.a_most_out e.d_most_out ["size", "schedule"] (sp_most_out K) := by
  refine e.f_most_out.ok sc_most_out (fun vs H Q E h => ?_) (fun cdv A outer s H vs Q E hr h => ?_)
  · obtain ⟨n, l, ops, f, rfl, _⟩ := h; rfl
  · obtain ⟨n, l, ops, f, rfl, R, k⟩ := h
    refine ⟨_, (pss_cons (ps_asg (pe_call ((ok_run_schedule e).mono (by decide)) hr rfl e.g_run_schedule e.f_run_schedule.kp e.b_run_schedule .nil pass0 (pa_cons (pv 0) (pa_cons (pv 1) pa_nil))) (pg_tup (by rfl) (pgs_cons (pg_name (i := 2) sc_most_out.nd rfl (by first | exact Or.inl rfl | exact Or.inr rfl)) (pgs_cons (pg_name (i := 2) sc_most_out.nd rfl (by first | exact Or.inl rfl | exact Or.inr rfl)) (pgs_cons (pg_name (i := 3) sc_most_out.nd rfl (by first | exact Or.inl rfl | exact Or.inr rfl)) pgs_nil)))))
      (pss_one (ps_ret (pv 3)))), ?_⟩
    refine ⟨_, rfl, _, rfl, n, l, ops, f, rfl, R, fun H' t sh bl ol fl s1 h1 h2 h3 h4 h5 h6 h7 => ?_⟩
    refine ⟨_, _, rfl, SqT.of h1, rfl, _, _, rfl, _, _, rfl, _, _, rfl, rfl, ?_⟩
    exact ⟨_, rfl, k _ s1⟩
end
end LP

namespace LP
open PySem L2 LT LG LQ LH LC LX
section
variable {P : Program} {w : World} {K : PySem.W.Frag} {mg : Str → Option Value} {base : Heap}
theorem nat_at {ts : List Nat} {j : Nat} {v : V} (h : (ts.map fun t : Nat => V.int t)[j]? = some v) : ∃ t, ts[j]? = some t ∧ v = .int (t : Nat) := by
  rw [List.getElem?_map] at h
  cases q : ts[j]? with
  | none => rw [q] at h; cases h
  | some x => rw [q] at h; cases h; exact ⟨x, rfl, rfl⟩
theorem ok_is_result (e : Env K mg) : FnOk P w K mg base CX0 5 e.a_is_result e.d_is_result ["takes", "pattern", "books"] (sp_is_result K) := by
  refine e.f_is_result.ok sc_is_result (fun vs H Q E h => ?_) (fun cdv A outer s H vs Q E hr h => ?_)
  · obtain ⟨a, b, ns, ms, l, rfl, _⟩ := h; rfl
  · obtain ⟨a, b, ns, ms, l, rfl, hE, hF, pl, hp, g, hn, k⟩ := h
    have hle := pl.le
    have hf : fls l ≤ 200 := by rw [g.2, hn]; exact hle
    have tl : (times l).length = ns.length := by rw [times_len, g.2, hn]
    refine ⟨_, (pss_cons (ps_expr (pe_call ((ok_check_places e).mono (by decide)) hr rfl e.g_check_places e.f_check_places.kp e.b_check_places .nil pass0 (pa_cons (pv 0) pa_nil)))
      (pss_cons (ps_expr (pe_call ((ok_check_pattern_for e).mono (by decide)) hr rfl e.g_check_pattern_for e.f_check_pattern_for.kp e.b_check_pattern_for .nil pass0 (pa_cons (pv 0) (pa_cons (pv 1) pa_nil))))
      (pss_cons (ps_if (pt_not (pt_val (pe_call ((ok_is_place_list e).mono (by decide)) hr rfl e.g_is_place_list e.f_is_place_list.kp e.b_is_place_list .nil pass0 (pa_cons (pv 2) pa_nil))))
        (pss_one ps_never)
        pss_nil)
      (pss_cons (ps_expr (pe_call ((ok_check_same_places e).mono (by decide)) hr rfl e.g_check_same_places e.f_check_same_places.kp e.b_check_same_places .nil pass0 (pa_cons (pv 0) (pa_cons (pv 2) pa_nil))))
      (pss_cons (ps_set (i := 3) sc_is_result.nd rfl (by first | exact Or.inl rfl | exact Or.inr rfl) (pe_call ((ok_numbers_by_place e).mono (by decide)) hr rfl e.g_numbers_by_place e.f_numbers_by_place.kp e.b_numbers_by_place .nil pass0 (pa_cons (pv 0) pa_nil)))
      (pss_one (ps_ret (pe_callB (cr_all rfl) (by rfl) e.n_all (by decide +kernel) (pa_cons (pe_lc (own := [("book", 4), ("time", 5)]) rfl sc_is_result.nd (PI.or (pi_zip (by rfl) e.n_zip (pa_cons (pv 2) (pa_cons (pe_call ((ok_fill_times e).mono (by decide)) hr rfl e.g_fill_times e.f_fill_times.kp e.b_fill_times .nil pass0 (pa_cons (pv 1) pa_nil)) pa_nil))) (pi_zipTL (by rfl) e.n_zip (pa_cons (pv 2) (pa_cons (pe_call ((ok_fill_times e).mono (by decide)) hr rfl e.g_fill_times e.f_fill_times.kp e.b_fill_times .nil pass0 (pa_cons (pv 1) pa_nil)) pa_nil)))) (blkOk_by (N := ["takes", "pattern", "books", "taken", "book", "time"]) (sc := defScope s_is_result) (by decide +kernel)) (fun _ _ _ _ _ => (show PG _ _ (gTup K 2 _) from pg_tup (by rfl) (pgs_cons (pg_name (i := 4) sc_is_result.nd rfl (by first | exact Or.inl rfl | exact Or.inr rfl)) (pgs_cons (pg_name (i := 5) sc_is_result.nd rfl (by first | exact Or.inl rfl | exact Or.inr rfl)) pgs_nil)))) (fun _ _ _ _ _ => pts_nil) (fun _ _ _ _ _ => (pe_cmpR op_lt (pe_dget (u1 hr) (pv 3) (pv 4) (fun _ _ => rfl)) (pv 5) (nomark _)))) pa_nil))))))))), ?_⟩
    refine ⟨_, rfl, a, ns, rfl, hE, pl, fun H1 s1 => ?_⟩
    refine ⟨_, rfl, _, rfl, a, ns, l, rfl, hE.same s1, g, hn, hle, ?_⟩
    refine ⟨_, rfl, b, ms, rfl, hF.same s1, pl.perm hp, fun H2 s2 => ⟨true, rfl, iteNB rfl ?_⟩⟩
    have t2 := s1.trans s2
    refine ⟨_, rfl, _, rfl, a, b, ns, ms, rfl, hE.same t2, hF.same t2, hp.symm, fun H3 s3 => ?_⟩
    have t3 := t2.trans s3
    refine ⟨_, rfl, a, ns, rfl, hE.same t3, pl, fun H4 d s4 nd hd => ?_⟩
    have t4 := t3.trans s4
    refine or_zipE (hF.same t4) (ys := (times l).map fun t : Nat => V.int t) (by rw [List.length_map, List.length_map, tl, hp.length_eq]) (fun Q q => ⟨_, rfl, _, rfl, l, rfl, hf, fun H5 p s5 np hp => q _ _ s5 np hp⟩) fun H5 p J G s5 np hp5 wk hG D hD => ?_
    have hd5 := s5 _ _ hd
    have t5 := t4.trans s5
    refine lc_it wk (fun j H' => Same H5 H' ∧ H' D = some (.lst ((((ms.zip (times l)).map fun p => decide (p.1 ∈ ns.take p.2)).take j).map V.bl))) ⟨same_upd hD, upd_same⟩ (fun j H' _ h => hG _ h.1) ?_ ?_
    · rintro j x H6 H7 hj ⟨s6, h6⟩ ⟨T, x1, y1, rfl, hT, rfl, hx, hy⟩
      obtain ⟨n, hn1, rfl⟩ := at_int hx
      obtain ⟨t, ht, rfl⟩ := nat_at hy
      obtain ⟨h1, h2⟩ := (times_all g.1).1 j t ht
      rw [List.length_map] at hj
      have hmem : n ∈ ns := hp.subset (List.mem_of_getElem? hn1)
      have hidx : ns[ns.idxOf n]? = some n := idx_get hmem
      have s7 := same_upd (o := HO.tup [.int n, .int (t : Nat)]) hT
      have hg := DGet.k (k := .inl n) (s7 _ _ (s6 _ _ hd5))
      rw [numK_val pl.nd hidx] at hg
      have hz : ((ms.zip (times l)).map fun p => decide (p.1 ∈ ns.take p.2))[j]? = some (decide (n ∈ ns.take t)) := by
        rw [List.getElem?_map, List.getElem?_zip_eq_some.mpr (show ms[j]? = some (n, t).1 ∧ (times l)[j]? = some (n, t).2 from ⟨hn1, ht⟩)]; rfl
      refine ⟨_, _, rfl, SqT.of upd_same, rfl, _, _, rfl, _, _, rfl, rfl, rfl, _, rfl, _, rfl, d, _, rfl, hg, _, rfl, _, _, rfl, rfl, _, s7 _ _ h6, ?_, ?_, ?_⟩
      · rw [List.length_map, List.length_take]; exact small1000 (by have := hp.length_eq; omega)
      · intro c o hc; rw [upd_ne (ne_of_none hc hD)]; exact s7 _ _ (s6 _ _ hc)
      · rw [upd_same, take_snoc hz, List.map_append]
        have e : decide (((ns.idxOf n : Nat) : Int) < (t : Nat)) = decide (n ∈ ns.take t) := by
          rw [← idx_take (by omega)]
          exact decide_eq_decide.mpr (by omega)
        show some (HO.lst (_ ++ [V.bl (decide (((ns.idxOf n : Nat) : Int) < (t : Nat)))])) = _
        rw [e]; rfl
    · rintro H6 ⟨s6, h6⟩
      rw [List.length_map, List.take_of_length_le (by rw [List.length_map, List.length_zip]; omega)] at h6
      refine ⟨D, _, rfl, SqL.of h6, ?_⟩
      rw [List.all_map]
      exact k _ (t5.trans s6)
end
end LP

namespace LP
open PySem L2 LT LG LQ LH LC LX
section
variable {P : Program} {w : World} {K : PySem.W.Frag} {mg : Str → Option Value} {base : Heap}
theorem fol_len {tk : List Int} {l : Pat} {ops : List LR.Op} {out : List Int} (f : LS.Fol tk l ops out) : out.length + fls l = tks l ∧ ops.length = l.length := by
  induction f with
  | nil => exact ⟨rfl, rfl⟩
  | take f hx ih => rw [fls_t, tks_t, List.length_append, List.length_append, List.length_append, ih.2]; exact ⟨by have := ih.1; simp; omega, rfl⟩
  | ret f hk ih =>
    have := (List.getElem?_eq_some_iff.mp hk).1
    rw [fls_f, tks_f, List.length_eraseIdx_of_lt this, List.length_append, List.length_append, ih.2]
    exact ⟨by have := ih.1; omega, rfl⟩
theorem OpsAt.snoc {H : Hp} {as : List Addr} {ops : List LR.Op} {a : Addr} {o : LR.Op} (h : OpsAt H as ops) (h2 : OpAt H a o) : OpsAt H (as ++ [a]) (ops ++ [o]) := by
  have hl := h.len
  refine ⟨by rw [List.length_append, List.length_append, hl]; rfl, fun i b u e1 e2 => ?_⟩
  by_cases c : i < as.length
  · rw [List.getElem?_append_left c] at e1
    rw [List.getElem?_append_left (by omega)] at e2
    exact h.at_ i b u e1 e2
  · rw [List.getElem?_append_right (by omega)] at e1
    rw [List.getElem?_append_right (by omega), ← hl] at e2
    cases z : i - as.length with
    | zero => rw [z] at e1 e2; cases e1; cases e2; exact h2
    | succ m => rw [z] at e1; simp at e1
theorem OpsAt.keep {H H' : Hp} {as : List Addr} {ops : List LR.Op} (h : OpsAt H as ops) (s : ∀ T x, H T = some (.tup x) → H' T = some (.tup x)) : OpsAt H' as ops := ⟨h.len, fun i a o h1 h2 => s _ _ (h.at_ i a o h1 h2)⟩
theorem sql_keep {K : PySem.W.Frag} {H H' : Hp} {a : Addr} {xs : List V} (h : SqL K H a xs) (f : ∀ o, H a = some o → H' a = some o) : SqL K H' a xs := by
  rcases h with (h | ⟨o, h⟩) | h
  · exact .inl (.inl (f _ h))
  · exact .inl (.inr ⟨o, f _ h⟩)
  · exact .inr h
theorem Bag.wr {H : Hp} {b l x : Addr} {ns : List Int} {d : Nat} {o : HO} (g : Bag H b l ns d) (hb : x ≠ b) (hl : x ≠ l) : Bag (upd H x o) b l ns d := by
  obtain ⟨⟨i, c, kk, t, h1, h2⟩, ls, ne⟩ := g
  exact ⟨⟨i, c, kk, t, by rw [upd_ne hb.symm]; exact h1, h2⟩, by rw [upd_ne hl.symm]; exact ls, ne⟩
theorem ok__law_followed (e : Env K mg) : FnOk P w K mg base CX0 3 e.a__law_followed e.d__law_followed ["bag", "takes", "pattern", "way"] (sp__law_followed K) := by
  refine e.f__law_followed.ok sc__law_followed (fun vs H Q E h => ?_) (fun cdv A outer s H vs Q E hr h => ?_)
  · obtain ⟨b, l, ns, d, p, tk, t, way, rfl, _⟩ := h; rfl
  · obtain ⟨b, l, ns, d, p, tk, t, way, rfl, G, hd, hl, hw, hS, hpb, le, g, ht, k⟩ := h
    refine ⟨_, (pss_cons (ps_par3 (i := 4) (j := 5) (l := 6) (by rfl) sc__law_followed.nd rfl rfl rfl (by decide) (by decide) (by decide) rfl rfl rfl (pa_cons (pe_lst pa_nil) (pa_cons (pe_lst pa_nil) (pa_cons pe_int pa_nil))) (by rfl))
      (pss_cons (ps_for PassesOwn.never rfl (pi_str (pv 2)) (pg_name (i := 7) sc__law_followed.nd rfl (by first | exact Or.inl rfl | exact Or.inr rfl))
      (pss_one (ps_if (pt_cmpR op_eq (pv 7) pe_str (nomark _))
        (pss_cons (ps_expr (pe_bm PySem.F.plainAttrs_list PySem.F.slot_list_append PySem.F.type_list_append mt_append (pv 4) (pa_cons (pe_ix ix_list (pv 1) (pv 6) (fun _ _ => rfl)) pa_nil)))
      (pss_cons (ps_expr (pe_bm PySem.F.plainAttrs_list PySem.F.slot_list_append PySem.F.type_list_append mt_append (pv 5) (pa_cons (pe_tup (pa_cons pe_str (pa_cons (pe_ix ix_list (pv 1) (pv 6) (fun _ _ => rfl)) pa_nil))) pa_nil)))
      (pss_one (ps_set (i := 6) sc__law_followed.nd rfl (by first | exact Or.inl rfl | exact Or.inr rfl) (pe_op op_add (pv 6) pe_int)))))
        (pss_cons (ps_set (i := 8) sc__law_followed.nd rfl (by first | exact Or.inl rfl | exact Or.inr rfl) (pe_ix ix_list (pe_lst (pa_cons (pe_call ((ok__law_draw e).mono (by decide)) hr rfl e.g__law_draw e.f__law_draw.kp e.b__law_draw .nil pass0 (pa_cons (pv 0) (pa_cons (pe_callB call_len_seq (by rfl) e.n_len PySem.boot_len (pa_cons (pv 4) pa_nil)) pa_nil))) (pa_cons pe_int (pa_cons (pe_op op_sub (pe_callB call_len_seq (by rfl) e.n_len PySem.boot_len (pa_cons (pv 4) pa_nil)) pe_int) pa_nil)))) (pv 3) (fun _ _ => rfl)))
      (pss_one (ps_expr (pe_bm PySem.F.plainAttrs_list PySem.F.slot_list_append PySem.F.type_list_append mt_append (pv 5) (pa_cons (pe_tup (pa_cons pe_str (pa_cons (pe_bm PySem.F.plainAttrs_list PySem.F.slot_list_pop PySem.F.type_list_pop mt_popAt (pv 4) (pa_cons (pv 8) pa_nil)) pa_nil))) pa_nil))))))))
      (pss_one (ps_ret (pv 5))))), ?_⟩
    refine ⟨by decide, fun op hop => ⟨by decide, fun fp hfp => ⟨_, _, _, rfl, ?_⟩⟩⟩
    have so := same_upd (o := HO.lst []) hop
    have sf := same_upd (o := HO.lst []) hfp
    have nfb : fp ≠ b := (G.same so).ne_new hfp
    have nfl : fp ≠ l := ((G.same so).l_ne hfp).symm
    have nob : op ≠ b := G.ne_new hop
    have nol : op ≠ l := (G.l_ne hop).symm
    have nof : op ≠ fp := ne_of_none upd_same hfp
    have fp0 : H fp = none := so.free hfp
    refine ⟨_, rfl, _, rfl, for_it walk_str (fun i σ H' => ∃ (ops : List LR.Op) (out : List Int) (as : List Addr) (v7 v8 : Option V), LS.Fol tk (t.take i) ops out ∧ Bag H' b l ns (d + i) ∧ (∀ c o, H c = some o → c ≠ b → H' c = some o) ∧ H' op = some (.lst (out.map V.int)) ∧ H' fp = some (.lst (as.map V.ref)) ∧ OpsAt H' as ops ∧
        σ = [some (.ref b), some (.ref p), some (.str (pstr t)), some (.int way), some (.ref op), some (.ref fp), some (.int (tks (t.take i) : Nat)), v7, v8])
      ⟨[], [], [], none, none, by rw [List.take_zero]; exact .nil, (G.same so).same sf, fun c o hc _ => sf _ _ (so _ _ hc), sf _ _ upd_same, upd_same, ⟨rfl, fun i a o e => by simp at e⟩, rfl⟩ (fun _ _ _ _ _ => trivial) ?_ ?_⟩
    · rintro i x σ Hq H2 hi ⟨ops, out, as, v7, v8, fo, G2, s2, ho2, hf2, oa, rfl⟩ ⟨rfl, c, hc, rfl⟩
      obtain ⟨bb, hb, rfl⟩ := pstr_at hc
      have hil : i < t.length := (List.getElem?_eq_some_iff.mp hb).1
      have lt := len_pat t
      have lg := g.2
      obtain ⟨l1, l2⟩ := fol_len fo
      have oal := oa.len
      have hS2 : SqL K H2 p (tk.map V.int) := sql_keep hS fun o h => s2 _ _ h hpb
      have tks1 := tks_take t (i + 1)
      have lti : (t.take i).length = i := by rw [List.length_take]; omega
      have lpi := len_pat (t.take i)
      cases bb with
      | true =>
        rw [take_snoc hb, tks_t] at tks1
        have hx := List.getElem?_eq_getElem (l := tk) (i := tks (t.take i)) (by omega)
        generalize tk[tks (t.take i)]'(by omega) = y at hx
        refine ⟨_, rfl, rfl, _, rfl, iteD vsT ?_⟩
        refine ⟨_, rfl, .inl ⟨rfl, _, SqL.of ho2⟩, _, rfl, _, rfl, rd_ix hS2 (int_at hx) rfl ⟨op, _, _, rfl, rfl, ho2, by rw [List.length_map]; exact small1000 (by omega), ?_⟩⟩
        have hf3 : (upd H2 op (.lst (out.map V.int ++ [V.int y]))) fp = some (.lst (as.map V.ref)) := by rw [upd_ne nof.symm]; exact hf2
        have hS3 : SqL K (upd H2 op (.lst (out.map V.int ++ [V.int y]))) p (tk.map V.int) := sql_keep hS fun o h => by rw [upd_ne (ne_of_none h hop)]; exact s2 _ _ h hpb
        refine ⟨_, rfl, .inl ⟨rfl, _, SqL.of hf3⟩, _, rfl, _, rfl, rd_ix hS3 (int_at hx) rfl ⟨(by show 2 ≤ sizeLine; decide), fun T hT => ?_⟩⟩
        have sT := same_upd (o := HO.tup [.str "take", .int y]) hT
        have ho3 : (upd H2 op (.lst (out.map V.int ++ [V.int y]))) op = some (.lst ((out ++ [y]).map V.int)) := by rw [upd_same, List.map_append]; rfl
        refine ⟨fp, _, _, rfl, rfl, sT _ _ hf3, by rw [List.length_map]; exact small1000 (by omega), ?_⟩
        refine ⟨_, rfl, _, _, rfl, rfl, ops ++ [(true, y)], out ++ [y], as ++ [T], some (.str ⟨#[sgn true]⟩), v8, ?_, ?_, ?_, ?_, ?_, ?_, ?_⟩
        · rw [take_snoc hb]; exact fo.take hx
        · exact ((((G2.wr nob nol).same sT).wr nfb nfl)).mono (by omega)
        · intro c o hc hcb
          rw [upd_ne (ne_of_none hc fp0)]
          refine sT _ _ ?_
          rw [upd_ne (ne_of_none hc hop)]
          exact s2 _ _ hc hcb
        · rw [upd_ne nof]; exact sT _ _ ho3
        · rw [upd_same, List.map_append]; rfl
        · have o1 : OpsAt (upd H2 op (.lst (out.map V.int ++ [V.int y]))) as ops := oa.keep fun U x e => by rw [upd_ne (fun q => by subst q; rw [ho2] at e; cases e)]; exact e
          refine ((o1.keep fun U x e => sT _ _ e).snoc (a := T) (o := (true, y)) upd_same).keep fun U x e => ?_
          · rw [upd_ne (fun q => by subst q; rw [sT _ _ hf3] at e; cases e)]; exact e
        · rw [take_snoc hb, tks_t]; rfl
      | false =>
        have hpr := g.1 (i + 1)
        rw [take_snoc hb, tks_f] at tks1
        rw [take_snoc hb, fls_f, tks_f] at hpr
        refine ⟨_, rfl, rfl, _, rfl, iteX vsR ?_⟩
        refine ⟨_, rfl, _, rfl, op, _, rfl, .inl (SqL.of ho2), b, l, ns, _, _, rfl, G2, by rw [List.length_map]; omega, by rw [List.length_map]; exact log_small (by omega), by omega, hl, fun H3 r r0 r1 G3 F3 => ?_⟩
        rw [List.length_map] at r1
        have ho3 := F3 _ _ ho2 nob
        have hf3 := F3 _ _ hf2 nfb
        refine ⟨_, rfl, op, _, rfl, .inl (SqL.of ho3), _, _, rfl, rfl, (by show 3 ≤ sizeLine; decide), fun m hm => ?_⟩
        rw [List.length_map]
        have sm := same_upd (o := HO.lst [V.int r, V.int 0, V.int ((out.length : Int) - 1)]) hm
        have pos : 0 < out.length := by omega
        obtain ⟨k, hk, hat⟩ : ∃ k : Nat, k < out.length ∧ atI [V.int r, V.int 0, V.int ((out.length : Int) - 1)] (way : Int) = some (V.int (k : Nat)) := by
          obtain rfl | rfl | rfl : way = 0 ∨ way = 1 ∨ way = 2 := by omega
          · exact ⟨r.toNat, by omega, at_of (j := 0) rfl (congrArg some (congrArg V.int (show r = ((r.toNat : Nat) : Int) by omega)))⟩
          · exact ⟨0, pos, at_of (j := 1) rfl rfl⟩
          · exact ⟨out.length - 1, by omega, at_of (j := 2) rfl (congrArg some (congrArg V.int (show (out.length : Int) - 1 = ((out.length - 1 : Nat) : Int) by omega)))⟩
        refine ⟨_, rfl, m, _, _, _, rfl, rfl, SqL.of upd_same, hat, ?_⟩
        have ho4 := sm _ _ ho3
        have hf4 := sm _ _ hf3
        have G4 := G3.same sm
        have s4 : ∀ c o, H c = some o → c ≠ b → (upd H3 m (.lst [V.int r, V.int 0, V.int ((out.length : Int) - 1)])) c = some o := fun c o hc hcb => sm _ _ (F3 _ _ (s2 _ _ hc hcb) hcb)
        have oa4 : OpsAt (upd H3 m (.lst [V.int r, V.int 0, V.int ((out.length : Int) - 1)])) as ops := oa.keep fun U x e => sm _ _ (F3 _ _ e (fun q => by
          subst q
          obtain ⟨⟨_, _, _, _, hbb, _⟩, _, _⟩ := G2
          rw [hbb] at e; cases e))
        generalize upd H3 m (.lst [V.int r, V.int 0, V.int ((out.length : Int) - 1)]) = H4 at ho4 hf4 G4 s4 oa4
        have hgk := List.getElem?_eq_getElem hk
        generalize out[k] = y at hgk
        refine ⟨_, rfl, .inl ⟨rfl, _, SqL.of hf4⟩, ?_⟩
        refine ⟨_, rfl, .inl ⟨rfl, _, SqL.of ho4⟩, _, rfl, op, _, (k : Int), k, .int y, rfl, rfl, ho4, by omega, by omega, by rw [List.length_map]; exact seq_int (by omega) (by omega), int_at hgk, (by show 2 ≤ sizeLine; decide), fun T hT => ?_⟩
        rw [erase_map] at hT ⊢
        have sT := same_upd (o := HO.tup [.str "return", .int y]) hT
        have hf5 : (upd H4 op (.lst ((out.eraseIdx k).map V.int))) fp = some (.lst (as.map V.ref)) := by rw [upd_ne nof.symm]; exact hf4
        refine ⟨fp, _, _, rfl, rfl, sT _ _ hf5, by rw [List.length_map]; exact small1000 (by omega), ?_⟩
        refine ⟨ops ++ [(false, y)], out.eraseIdx k, as ++ [T], some (.str ⟨#[sgn false]⟩), some (.int (k : Nat)), ?_, ?_, ?_, ?_, ?_, ?_, ?_⟩
        · rw [take_snoc hb]; exact fo.ret hgk
        · exact ((((G4.wr nob nol).same sT).wr nfb nfl)).mono (by omega)
        · intro c o hc hcb
          rw [upd_ne (ne_of_none hc fp0)]
          refine sT _ _ ?_
          rw [upd_ne (ne_of_none hc hop)]
          exact s4 _ _ hc hcb
        · rw [upd_ne nof]; exact sT _ _ upd_same
        · rw [upd_same, List.map_append]; rfl
        · have o1 : OpsAt (upd H4 op (.lst ((out.eraseIdx k).map V.int))) as ops := oa4.keep fun U x e => by rw [upd_ne (fun q => by subst q; rw [ho4] at e; cases e)]; exact e
          refine ((o1.keep fun U x e => sT _ _ e).snoc (a := T) (o := (false, y)) upd_same).keep fun U x e => ?_
          · rw [upd_ne (fun q => by subst q; rw [sT _ _ hf5] at e; cases e)]; exact e
        · rw [take_snoc hb, tks_f]; rfl
    · rintro σ H2 ⟨ops, out, as, v7, v8, fo, G2, s2, ho2, hf2, oa, rfl⟩
      rw [pstr_size] at G2
      rw [pstr_size, List.take_length] at fo
      have lt := len_pat t
      have lg := g.2
      exact ⟨_, rfl, k H2 fp ops out (G2.mono (by omega)) s2 fp0 ⟨as, hf2, oa⟩ fo⟩
theorem ok__law_late (e : Env K mg) : FnOk P w K mg base CX0 1 e.a__law_late e.d__law_late ["takes", "pattern"] (sp__law_late K) := by
  refine e.f__law_late.ok sc__law_late (fun vs H Q E h => ?_) (fun cdv A outer s H vs Q E hr h => ?_)
  · obtain ⟨p, tk, t, rfl, _⟩ := h; rfl
  · obtain ⟨p, tk, t, rfl, hS, nd, le, ht, k⟩ := h
    refine ⟨_, (pss_one (ps_ret (pe_and (pe_cmpR op_eq (pe_lenSetS (by rfl) e.n_len (by rfl) e.n_set (pv 0)) (pe_callB call_len_seq (by rfl) e.n_len PySem.boot_len (pa_cons (pv 0) pa_nil)) (nomark _)) (pe_one (pe_cmpR op_eq (pe_m1 PySem.F.slot_str_count PySem.F.type_str_count mt_count (pv 1) pe_str) (pe_callB call_len_seq (by rfl) e.n_len PySem.boot_len (pa_cons (pv 0) pa_nil)) (nomark _)))))), ?_⟩
    refine ⟨_, rfl, p, tk, rfl, .inl hS, nd, by omega, ?_⟩
    refine ⟨_, rfl, p, _, rfl, .inl hS, rfl, _, rfl, ?_⟩
    rw [List.length_map]
    refine iteD rfl ?_
    refine ⟨_, rfl, ⟨_, rfl⟩, _, _, rfl, rfl, _, rfl, p, _, rfl, .inl hS, rfl, ?_⟩
    rw [count_T, List.length_map]
    have e : decide (V.int ((t.count true : Nat) : Int) = V.int (tk.length : Nat)) = true := by
      rw [← ht]; exact decide_eq_true rfl
    rw [e]
    exact k _ (Same.refl _)
theorem ok__law_most (e : Env K mg) : FnOk P w K mg base CX0 1 e.a__law_most e.d__law_most ["pattern"] (sp__law_most) := by
  refine e.f__law_most.ok sc__law_most (fun vs H Q E h => ?_) (fun cdv A outer s H vs Q E hr h => ?_)
  · obtain ⟨t, rfl, _⟩ := h; rfl
  · obtain ⟨t, rfl, hl, k⟩ := h
    refine ⟨_, (pss_cons (ps_asg (pe_tup (pa_cons pe_int (pa_cons pe_int pa_nil))) (pg_tup (by rfl) (pgs_cons (pg_name (i := 1) sc__law_most.nd rfl (by first | exact Or.inl rfl | exact Or.inr rfl)) (pgs_cons (pg_name (i := 2) sc__law_most.nd rfl (by first | exact Or.inl rfl | exact Or.inr rfl)) pgs_nil))))
      (pss_cons (ps_for PassesOwn.never rfl (pi_str (pv 0)) (pg_name (i := 3) sc__law_most.nd rfl (by first | exact Or.inl rfl | exact Or.inr rfl))
      (pss_cons (ps_set (i := 1) sc__law_most.nd rfl (by first | exact Or.inl rfl | exact Or.inr rfl) (pe_op op_add (pv 1) (pe_ix ix_list (pe_lst (pa_cons (pe_un un_neg pe_int) (pa_cons pe_int pa_nil))) (pe_callTy call_int1 (by rfl) e.n_int (by decide +kernel) (pa_cons (pe_cmpR op_eq (pv 3) pe_str (nomark _)) pa_nil)) (fun _ _ => rfl))))
      (pss_one (ps_set (i := 2) sc__law_most.nd rfl (by first | exact Or.inl rfl | exact Or.inr rfl) (pe_callB (call_max2 rfl) (by rfl) e.n_max (by decide +kernel) (pa_cons (pv 2) (pa_cons (pv 1) pa_nil)))))))
      (pss_one (ps_ret (pv 2))))), ?_⟩
    refine ⟨(by show 2 ≤ sizeLine; decide), fun tp htp => ?_⟩
    have st := same_upd (o := HO.tup [.int 0, .int 0]) htp
    refine ⟨_, _, rfl, SqT.of upd_same, rfl, _, _, rfl, _, _, rfl, rfl, ?_⟩
    refine ⟨_, rfl, _, rfl, for_it walk_str (fun i σ H' => ∃ v3 : Option V, Same H H' ∧ σ = [some (.str (pstr t)), some (.int (LS.mostOf (t.take i)).1), some (.int (LS.mostOf (t.take i)).2), v3]) ⟨none, st, by rw [List.take_zero]; rfl⟩ (fun _ _ _ _ _ => trivial) ?_ ?_⟩
    · rintro i x σ Hq H2 hi ⟨v3, s2, rfl⟩ ⟨rfl, c, hc, rfl⟩
      obtain ⟨bb, hb, rfl⟩ := pstr_at hc
      have ms := LS.most_snoc (t.take i) bb
      rw [← take_snoc hb] at ms
      refine ⟨_, rfl, _, rfl, (by show 2 ≤ sizeLine; decide), fun m hm => ?_⟩
      have sm := same_upd (o := HO.lst [V.int (-1), V.int 1]) hm
      refine ⟨_, rfl, rfl, ?_⟩
      cases bb with
      | true =>
        have e1 : (if decide (V.str ⟨#[sgn true]⟩ = V.str "T") = true then (1 : Int) else 0) = ((1 : Nat) : Int) := by rw [decide_eq_true vsT]; rfl
        refine .inr ⟨_, rfl, m, _, _, V.int 1, rfl, rfl, SqL.of upd_same, at_of e1 rfl, ?_⟩
        rw [if_pos rfl] at ms
        refine ⟨_, _, rfl, rfl, ?_⟩
        refine ⟨_, rfl, _, rfl, _, _, rfl, some (.str ⟨#[sgn true]⟩), s2.trans sm, ?_⟩
        rw [ms]
        rfl
      | false =>
        have e1 : (if decide (V.str ⟨#[sgn false]⟩ = V.str "T") = true then (1 : Int) else 0) = ((0 : Nat) : Int) := by rw [decide_eq_false vsR]; rfl
        refine .inr ⟨_, rfl, m, _, _, V.int (-1), rfl, rfl, SqL.of upd_same, at_of e1 rfl, ?_⟩
        rw [if_neg (by decide)] at ms
        refine ⟨_, _, rfl, rfl, ?_⟩
        refine ⟨_, rfl, _, rfl, _, _, rfl, some (.str ⟨#[sgn false]⟩), s2.trans sm, ?_⟩
        rw [ms]
        rfl
    · rintro σ H2 ⟨v3, s2, rfl⟩
      rw [pstr_size, List.take_length]
      exact ⟨_, rfl, k _ s2⟩
end
end LP

namespace LP
open PySem L2 LT LG LQ LH LC LX
section
variable {P : Program} {w : World} {K : PySem.W.Frag} {mg : Str → Option Value} {base : Heap}
theorem rg_ints (n : Nat) : rgV 0 (n : Int) = (LR.rangeI n).map V.int := by
  unfold rgV LR.rangeI
  rw [List.map_map]
  have e : ((n : Int) - 0).toNat = n := by omega
  rw [e]
  refine List.map_congr_left fun k hk => ?_
  show V.int (0 + (k : Int)) = V.int (k : Int)
  rw [Int.zero_add]
theorem pl_range {n : Nat} (hn : n ≤ 200) {tk : List Int} (p : tk.Perm (LR.rangeI n)) : Pl tk := by
  have h : Pl (LR.rangeI n) := ⟨LR.rangeI_nodup n, fun x hx => by
    have := LR.mem_rangeI.mp hx
    unfold G30; omega, by rw [LR.rangeI_length]; exact hn⟩
  exact h.perm p
theorem eqv_self (l : List Int) : PyData.eqv (.list (l.map PyData.int)) (.list (l.map PyData.int)) = true := by simp only [PyData.eqv]; exact eqvAll_ints l
theorem ok__law_right (e : Env K mg) : FnOk P w K mg base CX0 8 e.a__law_right e.d__law_right ["bag", "count"] (sp__law_right) := by
  refine e.f__law_right.ok sc__law_right (fun vs H Q E h => ?_) (fun cdv A outer s H vs Q E hr h => ?_)
  · obtain ⟨b, l, ns, d, n, rfl, _⟩ := h; rfl
  · obtain ⟨b, l, ns, d, n, rfl, G, hd, hl, hn1, hn2, k⟩ := h
    refine ⟨_, (pss_cons (ps_par (i := 2) (j := 3) (by rfl) sc__law_right.nd rfl rfl (by decide) rfl rfl (pa_cons (pe_call ((ok__law_shuffled e).mono (by decide)) hr rfl e.g__law_shuffled e.f__law_shuffled.kp e.b__law_shuffled .nil pass0 (pa_cons (pv 0) (pa_cons (pe_listRg rfl (by rfl) e.n_list (prg_1 (by rfl) e.n_range (pv 1))) pa_nil))) (pa_cons (pe_call ((ok__law_pattern e).mono (by decide)) hr rfl e.g__law_pattern e.f__law_pattern.kp e.b__law_pattern .nil pass0 (pa_cons (pv 0) (pa_cons (pv 1) pa_nil))) pa_nil)) (by rfl))
      (pss_cons (ps_if (pt_not (pt_val (pe_call ((ok__law_late e).mono (by decide)) hr rfl e.g__law_late e.f__law_late.kp e.b__law_late .nil pass0 (pa_cons (pv 2) (pa_cons (pv 3) pa_nil)))))
        (pss_one (ps_ret pe_bl))
        pss_nil)
      (pss_cons (ps_set (i := 4) sc__law_right.nd rfl (by first | exact Or.inl rfl | exact Or.inr rfl) (pe_call ((ok_fills_by e).mono (by decide)) hr rfl e.g_fills_by e.f_fills_by.kp e.b_fills_by .nil pass0 (pa_cons (pv 2) (pa_cons (pv 3) pa_nil))))
      (pss_cons (ps_if (pt_cmpR op_notBl (pe_call ((ok_is_possible e).mono (by decide)) hr rfl e.g_is_possible e.f_is_possible.kp e.b_is_possible .nil pass0 (pa_cons (pv 2) (pa_cons (pv 4) pa_nil))) pe_bl (nomark _))
        (pss_one (ps_ret pe_bl))
        pss_nil)
      (pss_cons (ps_for PassesOwn.never rfl (pi_range1 (by rfl) e.n_range (pa_cons pe_int pa_nil)) (pg_name (i := 5) sc__law_right.nd rfl (by first | exact Or.inl rfl | exact Or.inr rfl))
      (pss_cons (ps_set (i := 6) sc__law_right.nd rfl (by first | exact Or.inl rfl | exact Or.inr rfl) (pe_call ((ok__law_followed e).mono (by decide)) hr rfl e.g__law_followed e.f__law_followed.kp e.b__law_followed .nil pass0 (pa_cons (pv 0) (pa_cons (pv 2) (pa_cons (pv 3) (pa_cons (pv 5) pa_nil))))))
      (pss_cons (ps_if (PW.pt (pw_or (pt_cmpR op_notBl (pe_call ((ok_is_schedule e).mono (by decide)) hr rfl e.g_is_schedule e.f_is_schedule.kp e.b_is_schedule .nil pass0 (pa_cons (pv 1) (pa_cons (pv 6) pa_nil))) pe_bl (nomark _)) (pw_or (pt_cmpR (op_neD hr.units) (pe_call ((ok_places_filled e).mono (by decide)) hr rfl e.g_places_filled e.f_places_filled.kp e.b_places_filled .nil pass0 (pa_cons (pv 1) (pa_cons (pv 6) pa_nil))) (pv 4) (nomark _)) (pw_or1 (pt_cmpR (op_neD hr.units) (pe_call ((ok_books_out e).mono (by decide)) hr rfl e.g_books_out e.f_books_out.kp e.b_books_out .nil pass0 (pa_cons (pv 1) (pa_cons (pv 6) pa_nil))) (pe_lst pa_nil) (nomark _))))))
        (pss_one (ps_ret pe_bl))
        pss_nil)
      (pss_cons (ps_set (i := 7) sc__law_right.nd rfl (by first | exact Or.inl rfl | exact Or.inr rfl) (pe_call ((ok_books_after e).mono (by decide)) hr rfl e.g_books_after e.f_books_after.kp e.b_books_after .nil pass0 (pa_cons (pv 1) (pa_cons (pv 6) pa_nil))))
      (pss_cons (ps_if (PW.pt (pw_or (pt_cmpR (op_neD hr.units) (pe_callB cr_sortedE (by rfl) e.n_sorted (by decide +kernel) (pa_cons (pv 7) pa_nil)) (pe_listRg rfl (by rfl) e.n_list (prg_1 (by rfl) e.n_range (pv 1))) (nomark _)) (pw_or1 (pt_cmpR op_ne (pe_call ((ok_most_out e).mono (by decide)) hr rfl e.g_most_out e.f_most_out.kp e.b_most_out .nil pass0 (pa_cons (pv 1) (pa_cons (pv 6) pa_nil))) (pe_call ((ok__law_most e).mono (by decide)) hr rfl e.g__law_most e.f__law_most.kp e.b__law_most .nil pass0 (pa_cons (pv 3) pa_nil)) (nomark _)))))
        (pss_one (ps_ret pe_bl))
        pss_nil)
      (pss_one (ps_if (pt_cmpR op_notBl (pe_call ((ok_is_result e).mono (by decide)) hr rfl e.g_is_result e.f_is_result.kp e.b_is_result .nil pass0 (pa_cons (pv 2) (pa_cons (pv 3) (pa_cons (pe_lc (own := [("place", 8)]) rfl sc__law_right.nd (pi_list (pv 4)) (blkOk_by (N := ["bag", "count", "takes", "pattern", "fills", "way", "rows", "books", "place"]) (sc := defScope s__law_right) (by decide +kernel)) (fun _ _ _ _ _ => (pg_name (i := 8) sc__law_right.nd rfl (by first | exact Or.inl rfl | exact Or.inr rfl))) (fun _ _ _ _ _ => pts_nil) (fun _ _ _ _ _ => (pe_ix (show IxR _ (rIxL K) from ix_list) (pv 7) (pv 8) (fun _ _ => rfl)))) pa_nil)))) pe_bl (nomark _))
        (pss_one (ps_ret pe_bl))
        pss_nil)))))))
      (pss_one (ps_ret pe_bl))))))), ?_⟩
    refine ⟨_, rfl, _, rfl, _, rfl, RgOk.of_le (by decide) (by omega) (by decide) (by omega), fun q0 hq0 => ?_⟩
    rw [rg_ints]
    have s0 := same_upd (o := HO.lst ((LR.rangeI n).map V.int)) hq0
    have G0 := G.same s0
    have rl := LR.rangeI_length n
    refine ⟨b, l, ns, d, q0, LR.rangeI n, rfl, G0, by omega, hl, SqL.of upd_same, by omega, G.ne_new hq0, fun H1 p tk G1 F1 np pm hp => ?_⟩
    have npb : p ≠ b := G0.ne_new np
    have tl : tk.length = n := by rw [pm.length_eq, rl]
    have pl := pl_range hn2 pm
    refine ⟨_, rfl, _, rfl, b, l, ns, _, n, rfl, G1, by omega, hl, hn2, fun H2 t G2 F2 g ht => ⟨_, _, rfl, ?_⟩⟩
    have hp2 := F2 _ _ hp npb
    refine ⟨_, rfl, _, rfl, p, tk, t, rfl, SqL.of hp2, pl.nd, pl.le, by omega, fun H3 s3 => ⟨true, rfl, iteNB rfl ?_⟩⟩
    have hp3 := s3 _ _ hp2
    refine ⟨_, rfl, _, rfl, p, tk, t, rfl, SqE.l hp3, pl, g, by omega, fun H4 fp s4 nf hf => ?_⟩
    have hp4 := s4 _ _ hp3
    obtain ⟨pf, no, wi⟩ := pair_ok pl.nd g (show tks t = tk.length by omega)
    refine ⟨_, rfl, _, rfl, p, fp, tk, fillsOf tk t, rfl, SqE.l hp4, SqE.l hf, pl, pf, no, fun H5 s5 => ?_⟩
    refine ⟨true, true, rfl, rfl, _, rfl, iteNS rfl ?_⟩
    have hp5 := s5 _ _ hp4
    have hf5 := s5 _ _ hf
    have nfb : fp ≠ b := (G2.same s3).ne_new nf
    have G5 := ((G2.same s3).same s4).same s5
    have F05 : Fr H H5 b := (Fr.of s0).trans (F1.trans (F2.trans (Fr.of ((s3.trans s4).trans s5))))
    have hfl := pf.length_eq
    refine ⟨_, rfl, by decide, by decide, for_it walk_range (fun i σ H' => ∃ v5 v6 v7 : Option V, Bag H' b l ns (d + n + 401 + 400 * i) ∧ Fr H5 H' b ∧ σ = [some (.ref b), some (.int n), some (.ref p), some (.str (pstr t)), some (.ref fp), v5, v6, v7, none])
      ⟨none, none, none, by have z := G5; rw [rl] at z; exact z.mono (by omega), Fr.refl _ _, rfl⟩ (fun _ _ _ _ _ => trivial) ?_ ?_⟩
    · rintro i x σ Hq H6 hi ⟨v5, v6, v7, G6, F6, rfl⟩ ⟨rfl, rfl⟩
      replace hi : i < (3 : Int).toNat := hi
      have hi3 : i < 3 := by simpa using hi
      have hp6 := F6 _ _ hp5 npb
      have hf6 := F6 _ _ hf5 nfb
      have ei : V.int (0 + (i : Nat) : Int) = V.int ((i : Nat) : Int) := by rw [Int.zero_add]
      refine ⟨_, rfl, _, rfl, _, rfl, _, rfl, b, l, ns, _, p, tk, t, i, by show [V.ref b, V.ref p, V.str (pstr t), V.int (0 + (i : Nat) : Int)] ++ [] = _; rw [ei]; rfl, G6, by omega, hl, hi3, SqL.of hp6, npb, pl.le, g, by omega, fun H7 rp ops out G7 F7 nr hrw fo => ?_⟩
      obtain ⟨ol, eo, s, bs, bks, hr, so, sfil, smost, sb, bpm, bsp, hbk, hdue⟩ := LS.fol_end pm fo g (show tks t = n by omega)
      have hp7 := F7 _ _ hp6 npb
      have hf7 := F7 _ _ hf6 nfb
      have RN : ∀ {H' : Hp}, Same H7 H' → Runs K H' n rp ops s := fun s' => ⟨hn1, hn2, hrw.rows.same s', by omega, hr⟩
      refine ⟨_, rfl, _, rfl, n, rp, ops, s, rfl, RN (Same.refl _), fun H8 s8 => ⟨true, true, rfl, rfl, _, rfl, iteNS rfl ?_⟩⟩
      refine ⟨_, rfl, _, rfl, n, rp, ops, s, rfl, RN s8, fun H9 x9 s9 n9 h9 => ?_⟩
      have s89 := s8.trans s9
      rw [sfil] at h9
      refine ⟨_, rfl, _, _, .lst (SqL.of h9) (dp_ints _), .lst (SqL.of (s89 _ _ hf7)) (dp_ints _), shaped_ints _, shaped_ints _, _, rfl, ?_⟩
      rw [eqv_self]
      refine iteF ?_
      refine ⟨_, rfl, _, rfl, n, rp, ops, s, rfl, RN s89, fun Ha xa zs sa na zp zw ha => ⟨by decide, fun e1 he1 => ?_⟩⟩
      rw [so] at zp
      have ez : zs = [] := zp.eq_nil
      subst ez
      have s8a := s89.trans sa
      have se := same_upd (o := HO.lst []) he1
      refine ⟨_, _, .lst (SqL.of (se _ _ ha)) .nil, .lst (SqL.of upd_same) .nil, by decide, by decide, _, rfl, ?_⟩
      rw [show PyData.eqv (.list []) (.list []) = true from eqv_self []]
      refine iteF ?_
      have s8b := s8a.trans se
      generalize upd Ha e1 (.lst []) = Hb at se s8b
      refine ⟨_, rfl, _, rfl, n, rp, ops, s, rfl, RN s8b, fun Hc xc sc nc hc => ?_⟩
      have s8c := s8b.trans sc
      have ebk : s.books.map vo = bks.map V.int := by rw [sb, List.map_map]; rfl
      rw [ebk] at hc
      have G8 : Bag Hc b l ns (d + n + 401 + 400 * i + 400) := G7.same s8c
      refine ⟨_, rfl, xc, bks, rfl, .inl (SqL.of hc), fun ys yp p1 p2 np => ?_⟩
      have sy := same_upd (o := HO.lst (ys.map V.int)) np
      refine ⟨_, rfl, _, rfl, RgOk.of_le (by decide) (by omega) (by decide) (by omega), fun rq hrq => ?_⟩
      rw [rg_ints]
      have sr := same_upd (o := HO.lst ((LR.rangeI n).map V.int)) hrq
      have ey : ys = LR.rangeI n := LR.sorted_eq (p1.trans bpm) p2 (LR.rangeI_sorted n)
      refine ⟨_, _, .lst (SqL.of (sr _ _ upd_same)) (dp_ints _), .lst (SqL.of upd_same) (dp_ints _), shaped_ints _, shaped_ints _, _, rfl, ?_⟩
      rw [ey, eqv_self]
      refine iteF ?_
      rw [ey] at sy sr
      have sd := (s8c.trans sy).trans sr
      have hcd := sr _ _ (sy _ _ hc)
      have scd := sy.trans sr
      clear hrq ey
      generalize upd (upd Hc yp (.lst ((LR.rangeI n).map V.int))) rq (.lst ((LR.rangeI n).map V.int)) = Hd at sd hcd sr scd
      refine ⟨_, rfl, _, rfl, n, rp, ops, s, rfl, RN sd, fun He se2 => ⟨_, rfl, t, rfl, by have := len_pat t; have := g.2; omega, fun Hf sf => ⟨rfl, _, rfl, iteNS (by rw [smost]) ?_⟩⟩⟩
      have hcf := sf _ _ (se2 _ _ hcd)
      have s7f := (sd.trans se2).trans sf
      have hpf := s7f _ _ hp7
      have hff := s7f _ _ hf7
      have Gf := (G8.same scd).same (se2.trans sf)
      refine ⟨_, rfl, _, rfl, _, rfl, fp, rfl, ⟨_, SqL.of hff⟩, fun D hD => ?_⟩
      have sD := fun o => same_upd (o := o) hD
      have bl : bs.length = (fillsOf tk t).length := by rw [bsp.length_eq, hfl]
      refine lc_it walk_list (fun j H' => H' = upd Hf D (.lst ((bs.take j).map V.int))) rfl (fun j H' _ e => by subst e; exact SqL.of (sD _ _ _ hff)) ?_ ?_
      · rintro j x Hg Hh hj rfl ⟨rfl, hx⟩
        rw [List.length_map] at hj
        obtain ⟨f, hfj, rfl⟩ := at_int hx
        have hbj := List.getElem?_eq_getElem (l := bs) (i := j) (by omega)
        generalize bs[j]'(by omega) = y at hbj
        have hk := hbk j f y hfj hbj
        have f0 := (LR.mem_rangeI.mp (pm.subset (pf.subset (List.mem_of_getElem? hfj)))).1
        refine ⟨rfl, _, rfl, _, rfl, rd_ix (SqL.of (sD _ _ _ hcf)) (int_at hk) (show f = ((f.toNat : Nat) : Int) by omega) ⟨_, upd_same, by rw [List.length_map, List.length_take]; exact small1000 (by have := pl.le; omega), ?_⟩⟩
        rw [upd_upd, take_snoc hbj, List.map_append]; rfl
      · rintro Hg rfl
        rw [List.length_map, ← bl, List.take_length]
        have sD' := sD (.lst (bs.map V.int))
        refine ⟨p, D, tk, bs, t, rfl, SqE.l (sD' _ _ hpf), SqE.l upd_same, pl, bsp, g, by omega, fun Hh sh => ⟨_, true, rfl, rfl, _, rfl, iteNS hdue ?_⟩⟩
        have Gh := (Gf.same sD').same sh
        exact ⟨_, _, _, Gh.mono (by omega), F6.trans (F7.trans (Fr.of ((s7f.trans sD').trans sh))), rfl⟩
    · rintro σ H6 ⟨v5, v6, v7, G6, F6, rfl⟩
      refine k H6 (G6.mono ?_) (F05.trans F6)
      have : (3 : Int).toNat = 3 := rfl
      omega
end
end LP

namespace LP
open PySem L2 LT LG LQ LH LC LX
section
variable {P : Program} {w : World} {K : PySem.W.Frag} {mg : Str → Option Value} {base : Heap}
theorem ok_law (e : Env K mg) : FnOk P w K mg base CX0 9 e.a_law e.d_law ["script"] (sp_law K) := by
  refine e.f_law.ok sc_law (fun vs H Q E h => ?_) (fun cdv A outer s H vs Q E hr h => ?_)
  · obtain ⟨a, ns, rfl, _⟩ := h; rfl
  · obtain ⟨a, ns, rfl, hS, hl, k⟩ := h
    refine ⟨_, (pss_cons (ps_set (i := 1) sc_law.nd rfl (by first | exact Or.inl rfl | exact Or.inr rfl) (pe_call ((ok__law_bag e).mono (by decide)) hr rfl e.g__law_bag e.f__law_bag.kp e.b__law_bag .nil pass0 (pa_cons (pv 0) pa_nil)))
      (pss_cons (ps_for PassesOwn.never rfl (pi_range1 (by rfl) e.n_range (pa_cons (pe_op op_add pe_int (pe_callB (call_min2 rfl) (by rfl) e.n_min (by decide +kernel) (pa_cons pe_int (pa_cons (pe_callB call_len_seq (by rfl) e.n_len PySem.boot_len (pa_cons (pv 0) pa_nil)) pa_nil)))) pa_nil)) (pg_name (i := 2) sc_law.nd rfl (by first | exact Or.inl rfl | exact Or.inr rfl))
      (pss_cons (ps_set (i := 3) sc_law.nd rfl (by first | exact Or.inl rfl | exact Or.inr rfl) (pe_ifExp (pt_cmpR op_gt (pv 2) pe_int (nomark _)) (pe_op op_add pe_int (pe_call ((ok__law_draw e).mono (by decide)) hr rfl e.g__law_draw e.f__law_draw.kp e.b__law_draw .nil pass0 (pa_cons (pv 1) (pa_cons pe_int pa_nil)))) pe_int))
      (pss_one (ps_if (pt_not (pt_val (pe_call ((ok__law_right e).mono (by decide)) hr rfl e.g__law_right e.f__law_right.kp e.b__law_right .nil pass0 (pa_cons (pv 1) (pa_cons (pv 3) pa_nil)))))
        (pss_one (ps_ret pe_bl))
        pss_nil))))
      (pss_one (ps_ret pe_bl)))), ?_⟩
    refine ⟨_, rfl, a, ns, rfl, hS, hl, fun H1 b l s1 nb nl G1 => ?_⟩
    refine ⟨_, rfl, a, _, rfl, .inl (s1.seq hS), _, _, rfl, _, _, rfl, rfl, _, rfl, ?_⟩
    obtain ⟨c, ec, hc⟩ : ∃ c : Nat, (if ((ns.map V.int).length : Int) < 5 then ((ns.map V.int).length : Int) else 5) = (c : Int) ∧ c ≤ 5 := by
      by_cases h : ((ns.map V.int).length : Int) < 5
      · exact ⟨(ns.map V.int).length, if_pos h, by omega⟩
      · exact ⟨5, if_neg h, by omega⟩
    rw [ec]
    refine ⟨by omega, by omega, for_it walk_range (fun i σ H2 => ∃ v2 v3 : Option V, σ = [some (.ref a), some (.ref b), v2, v3] ∧ Bag H2 b l ns (3000 * i))
      ⟨none, none, rfl, G1⟩ (fun _ _ _ _ _ => trivial) ?_ ?_⟩
    · rintro i x σ Hq H2 hi ⟨v2, v3, rfl, G2⟩ ⟨rfl, rfl⟩
      have hi10 : i < 10 := by omega
      refine ⟨_, rfl, _, _, rfl, rfl, _, rfl, ite2d (fun h0 => ?_) fun h0 => ?_⟩
      · refine ⟨_, rfl, b, l, ns, _, 30, rfl, G2, by decide, by decide +kernel, by omega, hl, fun H3 r r0 r1 G3 F3 => ⟨_, _, rfl, rfl, ?_⟩⟩
        obtain ⟨m, rfl⟩ : ∃ m : Nat, r = (m : Int) := ⟨r.toNat, by omega⟩
        refine ⟨_, rfl, _, rfl, b, l, ns, _, 1 + m, (by show [V.ref b, V.int (1 + (m : Int))] ++ [] = [V.ref b, V.int ((1 + m : Nat) : Int)]; rw [Int.natCast_add]; rfl), G3, by omega, hl, by omega, by omega, fun H4 G4 F4 => ⟨true, rfl, iteNB rfl ?_⟩⟩
        exact ⟨_, _, rfl, G4.mono (by omega)⟩
      · refine ⟨_, rfl, _, rfl, b, l, ns, _, 200, rfl, G2, by omega, hl, by decide, by decide, fun H4 G4 F4 => ⟨true, rfl, iteNB rfl ?_⟩⟩
        exact ⟨_, _, rfl, G4.mono (by omega)⟩
    · rintro σ H2 ⟨v2, v3, rfl, G2⟩
      exact k _
end
end LP

namespace LP
open PySem L2 LT LG LQ LH LC LX
set_option maxHeartbeats 4000000 in
theorem all_mk {l : PySem.W.OpenLaw} {w : World} {K : PySem.W.Frag} {h : Heap} {mg : Str → Option Value} {fa : Addr} (X : K.In h) (G : h.Ns mainGlobals mg) (hfa : mg "law" = some (.ref fa))
    {t_MOST_SIZE : Tok}
    {t_MOST_OPERATIONS : Tok}
    {t_MOST_PLACES : Tok}
    {t_GREATEST_PLACE : Tok}
    {C_Shelf : Addr}
    {a_is_whole : Addr} {od_is_whole an_is_whole : Option Addr} {sl_is_whole : Array (Option Value)} {oc_is_whole kV_is_whole dc_is_whole pm_is_whole cd_is_whole ct_is_whole : Value}
    {a_is_listed : Addr} {od_is_listed an_is_listed : Option Addr} {sl_is_listed : Array (Option Value)} {oc_is_listed kV_is_listed dc_is_listed pm_is_listed cd_is_listed ct_is_listed : Value}
    {a_check_size : Addr} {od_check_size an_check_size : Option Addr} {sl_check_size : Array (Option Value)} {oc_check_size kV_check_size dc_check_size pm_check_size cd_check_size ct_check_size : Value}
    {a_is_place : Addr} {od_is_place an_is_place : Option Addr} {sl_is_place : Array (Option Value)} {oc_is_place kV_is_place dc_is_place pm_is_place cd_is_place ct_is_place : Value}
    {a_is_place_list : Addr} {od_is_place_list an_is_place_list : Option Addr} {sl_is_place_list : Array (Option Value)} {oc_is_place_list kV_is_place_list dc_is_place_list pm_is_place_list cd_is_place_list ct_is_place_list : Value}
    {a_check_places : Addr} {od_check_places an_check_places : Option Addr} {sl_check_places : Array (Option Value)} {oc_check_places kV_check_places dc_check_places pm_check_places cd_check_places ct_check_places : Value}
    {a_check_same_places : Addr} {od_check_same_places an_check_same_places : Option Addr} {sl_check_same_places : Array (Option Value)} {oc_check_same_places kV_check_same_places dc_check_same_places pm_check_same_places cd_check_same_places ct_check_same_places : Value}
    {a_check_pair : Addr} {od_check_pair an_check_pair : Option Addr} {sl_check_pair : Array (Option Value)} {oc_check_pair kV_check_pair dc_check_pair pm_check_pair cd_check_pair ct_check_pair : Value}
    {a_is_pattern : Addr} {od_is_pattern an_is_pattern : Option Addr} {sl_is_pattern : Array (Option Value)} {oc_is_pattern kV_is_pattern dc_is_pattern pm_is_pattern cd_is_pattern ct_is_pattern : Value}
    {a_check_pattern_for : Addr} {od_check_pattern_for an_check_pattern_for : Option Addr} {sl_check_pattern_for : Array (Option Value)} {oc_check_pattern_for kV_check_pattern_for dc_check_pattern_for pm_check_pattern_for cd_check_pattern_for ct_check_pattern_for : Value}
    {a_Shelf_init : Addr} {od_Shelf_init an_Shelf_init : Option Addr} {sl_Shelf_init : Array (Option Value)} {oc_Shelf_init kV_Shelf_init dc_Shelf_init pm_Shelf_init cd_Shelf_init ct_Shelf_init : Value}
    {a_Shelf_can_take : Addr} {od_Shelf_can_take an_Shelf_can_take : Option Addr} {sl_Shelf_can_take : Array (Option Value)} {oc_Shelf_can_take kV_Shelf_can_take dc_Shelf_can_take pm_Shelf_can_take cd_Shelf_can_take ct_Shelf_can_take : Value}
    {a_Shelf_can_return : Addr} {od_Shelf_can_return an_Shelf_can_return : Option Addr} {sl_Shelf_can_return : Array (Option Value)} {oc_Shelf_can_return kV_Shelf_can_return dc_Shelf_can_return pm_Shelf_can_return cd_Shelf_can_return ct_Shelf_can_return : Value}
    {a_Shelf_take_from : Addr} {od_Shelf_take_from an_Shelf_take_from : Option Addr} {sl_Shelf_take_from : Array (Option Value)} {oc_Shelf_take_from kV_Shelf_take_from dc_Shelf_take_from pm_Shelf_take_from cd_Shelf_take_from ct_Shelf_take_from : Value}
    {a_Shelf_first_gap : Addr} {od_Shelf_first_gap an_Shelf_first_gap : Option Addr} {sl_Shelf_first_gap : Array (Option Value)} {oc_Shelf_first_gap kV_Shelf_first_gap dc_Shelf_first_gap pm_Shelf_first_gap cd_Shelf_first_gap ct_Shelf_first_gap : Value}
    {a_Shelf_put_back : Addr} {od_Shelf_put_back an_Shelf_put_back : Option Addr} {sl_Shelf_put_back : Array (Option Value)} {oc_Shelf_put_back kV_Shelf_put_back dc_Shelf_put_back pm_Shelf_put_back cd_Shelf_put_back ct_Shelf_put_back : Value}
    {a_can_perform : Addr} {od_can_perform an_can_perform : Option Addr} {sl_can_perform : Array (Option Value)} {oc_can_perform kV_can_perform dc_can_perform pm_can_perform cd_can_perform ct_can_perform : Value}
    {a_run_schedule : Addr} {od_run_schedule an_run_schedule : Option Addr} {sl_run_schedule : Array (Option Value)} {oc_run_schedule kV_run_schedule dc_run_schedule pm_run_schedule cd_run_schedule ct_run_schedule : Value}
    {a_is_schedule : Addr} {od_is_schedule an_is_schedule : Option Addr} {sl_is_schedule : Array (Option Value)} {oc_is_schedule kV_is_schedule dc_is_schedule pm_is_schedule cd_is_schedule ct_is_schedule : Value}
    {a_books_after : Addr} {od_books_after an_books_after : Option Addr} {sl_books_after : Array (Option Value)} {oc_books_after kV_books_after dc_books_after pm_books_after cd_books_after ct_books_after : Value}
    {a_books_out : Addr} {od_books_out an_books_out : Option Addr} {sl_books_out : Array (Option Value)} {oc_books_out kV_books_out dc_books_out pm_books_out cd_books_out ct_books_out : Value}
    {a_places_filled : Addr} {od_places_filled an_places_filled : Option Addr} {sl_places_filled : Array (Option Value)} {oc_places_filled kV_places_filled dc_places_filled pm_places_filled cd_places_filled ct_places_filled : Value}
    {a_most_out : Addr} {od_most_out an_most_out : Option Addr} {sl_most_out : Array (Option Value)} {oc_most_out kV_most_out dc_most_out pm_most_out cd_most_out ct_most_out : Value}
    {a_numbers_by_place : Addr} {od_numbers_by_place an_numbers_by_place : Option Addr} {sl_numbers_by_place : Array (Option Value)} {oc_numbers_by_place kV_numbers_by_place dc_numbers_by_place pm_numbers_by_place cd_numbers_by_place ct_numbers_by_place : Value}
    {a_fill_times : Addr} {od_fill_times an_fill_times : Option Addr} {sl_fill_times : Array (Option Value)} {oc_fill_times kV_fill_times dc_fill_times pm_fill_times cd_fill_times ct_fill_times : Value}
    {a_fills_by : Addr} {od_fills_by an_fills_by : Option Addr} {sl_fills_by : Array (Option Value)} {oc_fills_by kV_fills_by dc_fills_by pm_fills_by cd_fills_by ct_fills_by : Value}
    {a_is_two : Addr} {od_is_two an_is_two : Option Addr} {sl_is_two : Array (Option Value)} {oc_is_two kV_is_two dc_is_two pm_is_two cd_is_two ct_is_two : Value}
    {a_is_three : Addr} {od_is_three an_is_three : Option Addr} {sl_is_three : Array (Option Value)} {oc_is_three kV_is_three dc_is_three pm_is_three cd_is_three ct_is_three : Value}
    {a_first_two : Addr} {od_first_two an_first_two : Option Addr} {sl_first_two : Array (Option Value)} {oc_first_two kV_first_two dc_first_two pm_first_two cd_first_two ct_first_two : Value}
    {a_last_fill_between : Addr} {od_last_fill_between an_last_fill_between : Option Addr} {sl_last_fill_between : Array (Option Value)} {oc_last_fill_between kV_last_fill_between dc_last_fill_between pm_last_fill_between cd_last_fill_between ct_last_fill_between : Value}
    {a_first_three : Addr} {od_first_three an_first_three : Option Addr} {sl_first_three : Array (Option Value)} {oc_first_three kV_first_three dc_first_three pm_first_three cd_first_three ct_first_three : Value}
    {a_obstruction : Addr} {od_obstruction an_obstruction : Option Addr} {sl_obstruction : Array (Option Value)} {oc_obstruction kV_obstruction dc_obstruction pm_obstruction cd_obstruction ct_obstruction : Value}
    {a_is_possible : Addr} {od_is_possible an_is_possible : Option Addr} {sl_is_possible : Array (Option Value)} {oc_is_possible kV_is_possible dc_is_possible pm_is_possible cd_is_possible ct_is_possible : Value}
    {a_is_result : Addr} {od_is_result an_is_result : Option Addr} {sl_is_result : Array (Option Value)} {oc_is_result kV_is_result dc_is_result pm_is_result cd_is_result ct_is_result : Value}
    {a__law_bag : Addr} {od__law_bag an__law_bag : Option Addr} {sl__law_bag : Array (Option Value)} {oc__law_bag kV__law_bag dc__law_bag pm__law_bag cd__law_bag ct__law_bag : Value}
    {a__law_stir : Addr} {od__law_stir an__law_stir : Option Addr} {sl__law_stir : Array (Option Value)} {oc__law_stir kV__law_stir dc__law_stir pm__law_stir cd__law_stir ct__law_stir : Value}
    {a__law_draw : Addr} {od__law_draw an__law_draw : Option Addr} {sl__law_draw : Array (Option Value)} {oc__law_draw kV__law_draw dc__law_draw pm__law_draw cd__law_draw ct__law_draw : Value}
    {a__law_shuffled : Addr} {od__law_shuffled an__law_shuffled : Option Addr} {sl__law_shuffled : Array (Option Value)} {oc__law_shuffled kV__law_shuffled dc__law_shuffled pm__law_shuffled cd__law_shuffled ct__law_shuffled : Value}
    {a__law_pattern : Addr} {od__law_pattern an__law_pattern : Option Addr} {sl__law_pattern : Array (Option Value)} {oc__law_pattern kV__law_pattern dc__law_pattern pm__law_pattern cd__law_pattern ct__law_pattern : Value}
    {a__law_followed : Addr} {od__law_followed an__law_followed : Option Addr} {sl__law_followed : Array (Option Value)} {oc__law_followed kV__law_followed dc__law_followed pm__law_followed cd__law_followed ct__law_followed : Value}
    {a__law_late : Addr} {od__law_late an__law_late : Option Addr} {sl__law_late : Array (Option Value)} {oc__law_late kV__law_late dc__law_late pm__law_late cd__law_late ct__law_late : Value}
    {a__law_most : Addr} {od__law_most an__law_most : Option Addr} {sl__law_most : Array (Option Value)} {oc__law_most kV__law_most dc__law_most pm__law_most cd__law_most ct__law_most : Value}
    {a__law_right : Addr} {od__law_right an__law_right : Option Addr} {sl__law_right : Array (Option Value)} {oc__law_right kV__law_right dc__law_right pm__law_right cd__law_right ct__law_right : Value}
    {a_law : Addr} {od_law an_law : Option Addr} {sl_law : Array (Option Value)} {oc_law kV_law dc_law pm_law cd_law ct_law : Value}
    (z_len : PySem.W.nsIn K mainGlobals "len" = some none)
    (z_range : PySem.W.nsIn K mainGlobals "range" = some none)
    (z_list : PySem.W.nsIn K mainGlobals "list" = some none)
    (z_tuple : PySem.W.nsIn K mainGlobals "tuple" = some none)
    (z_int : PySem.W.nsIn K mainGlobals "int" = some none)
    (z_bool : PySem.W.nsIn K mainGlobals "bool" = some none)
    (z_str : PySem.W.nsIn K mainGlobals "str" = some none)
    (z_isinstance : PySem.W.nsIn K mainGlobals "isinstance" = some none)
    (z_min : PySem.W.nsIn K mainGlobals "min" = some none)
    (z_max : PySem.W.nsIn K mainGlobals "max" = some none)
    (z_sorted : PySem.W.nsIn K mainGlobals "sorted" = some none)
    (z_set : PySem.W.nsIn K mainGlobals "set" = some none)
    (z_all : PySem.W.nsIn K mainGlobals "all" = some none)
    (z_enumerate : PySem.W.nsIn K mainGlobals "enumerate" = some none)
    (z_zip : PySem.W.nsIn K mainGlobals "zip" = some none)
    (z_MOST_SIZE : PySem.W.nsIn K mainGlobals "MOST_SIZE" = some (some (.int 200 t_MOST_SIZE)))
    (z_MOST_OPERATIONS : PySem.W.nsIn K mainGlobals "MOST_OPERATIONS" = some (some (.int 400 t_MOST_OPERATIONS)))
    (z_MOST_PLACES : PySem.W.nsIn K mainGlobals "MOST_PLACES" = some (some (.int 200 t_MOST_PLACES)))
    (z_GREATEST_PLACE : PySem.W.nsIn K mainGlobals "GREATEST_PLACE" = some (some (.int 1000000000000000000000000000000 t_GREATEST_PLACE)))
    (z_heappush : PySem.W.nsIn K mainGlobals "heappush" = some (some (.builtin "_heapq.heappush")))
    (z_heappop : PySem.W.nsIn K mainGlobals "heappop" = some (some (.builtin "_heapq.heappop")))
    (z_combinations : PySem.W.nsIn K mainGlobals "combinations" = some (some (.type "itertools.combinations")))
    (z_Shelf : PySem.W.nsIn K mainGlobals "Shelf" = some (some (.ref C_Shelf)))
    (pg_Shelf : PySem.W.plainGet K C_Shelf Str.empty = true)
    (hd_Shelf : PySem.W.hasDictIn K C_Shelf = true)
    (po_Shelf : PySem.W.plainOver K C_Shelf = true)
    (sa_Shelf : PySem.W.findIn K (.ref C_Shelf) "__setattr__" = some (some (.builtin "object.__setattr__")))
    (mk_Shelf : PySem.W.makesIn K C_Shelf = true)
    (kc_Shelf : PySem.W.keepIn K (.ref C_Shelf) = true)
    (nA_Shelf_books : PySem.W.findIn K (.ref C_Shelf) "books" = some none)
    (nA_Shelf_out : PySem.W.findIn K (.ref C_Shelf) "out" = some none)
    (z_is_whole : PySem.W.nsIn K mainGlobals "is_whole" = some (some (.ref a_is_whole)))
    (l_is_whole : K.lookup a_is_whole = some ⟨oc_is_whole, od_is_whole, .func (PySem.W.fnOf "is_whole" "is_whole" (defArgs s_is_whole) (defBody s_is_whole) (defScope s_is_whole) .none kV_is_whole dc_is_whole pm_is_whole an_is_whole cd_is_whole ct_is_whole), sl_is_whole⟩)
    (c_is_whole : PySem.W.codeIn K cd_is_whole "is_whole" = true)
    (k_is_whole : PySem.W.keepIn K (.ref a_is_whole) = true)
    (z_is_listed : PySem.W.nsIn K mainGlobals "is_listed" = some (some (.ref a_is_listed)))
    (l_is_listed : K.lookup a_is_listed = some ⟨oc_is_listed, od_is_listed, .func (PySem.W.fnOf "is_listed" "is_listed" (defArgs s_is_listed) (defBody s_is_listed) (defScope s_is_listed) .none kV_is_listed dc_is_listed pm_is_listed an_is_listed cd_is_listed ct_is_listed), sl_is_listed⟩)
    (c_is_listed : PySem.W.codeIn K cd_is_listed "is_listed" = true)
    (k_is_listed : PySem.W.keepIn K (.ref a_is_listed) = true)
    (z_check_size : PySem.W.nsIn K mainGlobals "check_size" = some (some (.ref a_check_size)))
    (l_check_size : K.lookup a_check_size = some ⟨oc_check_size, od_check_size, .func (PySem.W.fnOf "check_size" "check_size" (defArgs s_check_size) (defBody s_check_size) (defScope s_check_size) .none kV_check_size dc_check_size pm_check_size an_check_size cd_check_size ct_check_size), sl_check_size⟩)
    (c_check_size : PySem.W.codeIn K cd_check_size "check_size" = true)
    (k_check_size : PySem.W.keepIn K (.ref a_check_size) = true)
    (z_is_place : PySem.W.nsIn K mainGlobals "is_place" = some (some (.ref a_is_place)))
    (l_is_place : K.lookup a_is_place = some ⟨oc_is_place, od_is_place, .func (PySem.W.fnOf "is_place" "is_place" (defArgs s_is_place) (defBody s_is_place) (defScope s_is_place) .none kV_is_place dc_is_place pm_is_place an_is_place cd_is_place ct_is_place), sl_is_place⟩)
    (c_is_place : PySem.W.codeIn K cd_is_place "is_place" = true)
    (k_is_place : PySem.W.keepIn K (.ref a_is_place) = true)
    (z_is_place_list : PySem.W.nsIn K mainGlobals "is_place_list" = some (some (.ref a_is_place_list)))
    (l_is_place_list : K.lookup a_is_place_list = some ⟨oc_is_place_list, od_is_place_list, .func (PySem.W.fnOf "is_place_list" "is_place_list" (defArgs s_is_place_list) (defBody s_is_place_list) (defScope s_is_place_list) .none kV_is_place_list dc_is_place_list pm_is_place_list an_is_place_list cd_is_place_list ct_is_place_list), sl_is_place_list⟩)
    (c_is_place_list : PySem.W.codeIn K cd_is_place_list "is_place_list" = true)
    (k_is_place_list : PySem.W.keepIn K (.ref a_is_place_list) = true)
    (z_check_places : PySem.W.nsIn K mainGlobals "check_places" = some (some (.ref a_check_places)))
    (l_check_places : K.lookup a_check_places = some ⟨oc_check_places, od_check_places, .func (PySem.W.fnOf "check_places" "check_places" (defArgs s_check_places) (defBody s_check_places) (defScope s_check_places) .none kV_check_places dc_check_places pm_check_places an_check_places cd_check_places ct_check_places), sl_check_places⟩)
    (c_check_places : PySem.W.codeIn K cd_check_places "check_places" = true)
    (k_check_places : PySem.W.keepIn K (.ref a_check_places) = true)
    (z_check_same_places : PySem.W.nsIn K mainGlobals "check_same_places" = some (some (.ref a_check_same_places)))
    (l_check_same_places : K.lookup a_check_same_places = some ⟨oc_check_same_places, od_check_same_places, .func (PySem.W.fnOf "check_same_places" "check_same_places" (defArgs s_check_same_places) (defBody s_check_same_places) (defScope s_check_same_places) .none kV_check_same_places dc_check_same_places pm_check_same_places an_check_same_places cd_check_same_places ct_check_same_places), sl_check_same_places⟩)
    (c_check_same_places : PySem.W.codeIn K cd_check_same_places "check_same_places" = true)
    (k_check_same_places : PySem.W.keepIn K (.ref a_check_same_places) = true)
    (z_check_pair : PySem.W.nsIn K mainGlobals "check_pair" = some (some (.ref a_check_pair)))
    (l_check_pair : K.lookup a_check_pair = some ⟨oc_check_pair, od_check_pair, .func (PySem.W.fnOf "check_pair" "check_pair" (defArgs s_check_pair) (defBody s_check_pair) (defScope s_check_pair) .none kV_check_pair dc_check_pair pm_check_pair an_check_pair cd_check_pair ct_check_pair), sl_check_pair⟩)
    (c_check_pair : PySem.W.codeIn K cd_check_pair "check_pair" = true)
    (k_check_pair : PySem.W.keepIn K (.ref a_check_pair) = true)
    (z_is_pattern : PySem.W.nsIn K mainGlobals "is_pattern" = some (some (.ref a_is_pattern)))
    (l_is_pattern : K.lookup a_is_pattern = some ⟨oc_is_pattern, od_is_pattern, .func (PySem.W.fnOf "is_pattern" "is_pattern" (defArgs s_is_pattern) (defBody s_is_pattern) (defScope s_is_pattern) .none kV_is_pattern dc_is_pattern pm_is_pattern an_is_pattern cd_is_pattern ct_is_pattern), sl_is_pattern⟩)
    (c_is_pattern : PySem.W.codeIn K cd_is_pattern "is_pattern" = true)
    (k_is_pattern : PySem.W.keepIn K (.ref a_is_pattern) = true)
    (z_check_pattern_for : PySem.W.nsIn K mainGlobals "check_pattern_for" = some (some (.ref a_check_pattern_for)))
    (l_check_pattern_for : K.lookup a_check_pattern_for = some ⟨oc_check_pattern_for, od_check_pattern_for, .func (PySem.W.fnOf "check_pattern_for" "check_pattern_for" (defArgs s_check_pattern_for) (defBody s_check_pattern_for) (defScope s_check_pattern_for) .none kV_check_pattern_for dc_check_pattern_for pm_check_pattern_for an_check_pattern_for cd_check_pattern_for ct_check_pattern_for), sl_check_pattern_for⟩)
    (c_check_pattern_for : PySem.W.codeIn K cd_check_pattern_for "check_pattern_for" = true)
    (k_check_pattern_for : PySem.W.keepIn K (.ref a_check_pattern_for) = true)
    (z_Shelf_init : PySem.W.findIn K (.ref C_Shelf) "__init__" = some (some (.ref a_Shelf_init)))
    (i_Shelf_init : PySem.W.isFn K (.ref a_Shelf_init) = true)
    (l_Shelf_init : K.lookup a_Shelf_init = some ⟨oc_Shelf_init, od_Shelf_init, .func (PySem.W.fnOf "__init__" "Shelf.__init__" (defArgs s_Shelf_init) (defBody s_Shelf_init) (defScope s_Shelf_init) .none kV_Shelf_init dc_Shelf_init pm_Shelf_init an_Shelf_init cd_Shelf_init ct_Shelf_init), sl_Shelf_init⟩)
    (c_Shelf_init : PySem.W.codeIn K cd_Shelf_init "Shelf.__init__" = true)
    (k_Shelf_init : PySem.W.keepIn K (.ref a_Shelf_init) = true)
    (z_Shelf_can_take : PySem.W.findIn K (.ref C_Shelf) "can_take" = some (some (.ref a_Shelf_can_take)))
    (i_Shelf_can_take : PySem.W.isFn K (.ref a_Shelf_can_take) = true)
    (l_Shelf_can_take : K.lookup a_Shelf_can_take = some ⟨oc_Shelf_can_take, od_Shelf_can_take, .func (PySem.W.fnOf "can_take" "Shelf.can_take" (defArgs s_Shelf_can_take) (defBody s_Shelf_can_take) (defScope s_Shelf_can_take) .none kV_Shelf_can_take dc_Shelf_can_take pm_Shelf_can_take an_Shelf_can_take cd_Shelf_can_take ct_Shelf_can_take), sl_Shelf_can_take⟩)
    (c_Shelf_can_take : PySem.W.codeIn K cd_Shelf_can_take "Shelf.can_take" = true)
    (k_Shelf_can_take : PySem.W.keepIn K (.ref a_Shelf_can_take) = true)
    (z_Shelf_can_return : PySem.W.findIn K (.ref C_Shelf) "can_return" = some (some (.ref a_Shelf_can_return)))
    (i_Shelf_can_return : PySem.W.isFn K (.ref a_Shelf_can_return) = true)
    (l_Shelf_can_return : K.lookup a_Shelf_can_return = some ⟨oc_Shelf_can_return, od_Shelf_can_return, .func (PySem.W.fnOf "can_return" "Shelf.can_return" (defArgs s_Shelf_can_return) (defBody s_Shelf_can_return) (defScope s_Shelf_can_return) .none kV_Shelf_can_return dc_Shelf_can_return pm_Shelf_can_return an_Shelf_can_return cd_Shelf_can_return ct_Shelf_can_return), sl_Shelf_can_return⟩)
    (c_Shelf_can_return : PySem.W.codeIn K cd_Shelf_can_return "Shelf.can_return" = true)
    (k_Shelf_can_return : PySem.W.keepIn K (.ref a_Shelf_can_return) = true)
    (z_Shelf_take_from : PySem.W.findIn K (.ref C_Shelf) "take_from" = some (some (.ref a_Shelf_take_from)))
    (i_Shelf_take_from : PySem.W.isFn K (.ref a_Shelf_take_from) = true)
    (l_Shelf_take_from : K.lookup a_Shelf_take_from = some ⟨oc_Shelf_take_from, od_Shelf_take_from, .func (PySem.W.fnOf "take_from" "Shelf.take_from" (defArgs s_Shelf_take_from) (defBody s_Shelf_take_from) (defScope s_Shelf_take_from) .none kV_Shelf_take_from dc_Shelf_take_from pm_Shelf_take_from an_Shelf_take_from cd_Shelf_take_from ct_Shelf_take_from), sl_Shelf_take_from⟩)
    (c_Shelf_take_from : PySem.W.codeIn K cd_Shelf_take_from "Shelf.take_from" = true)
    (k_Shelf_take_from : PySem.W.keepIn K (.ref a_Shelf_take_from) = true)
    (z_Shelf_first_gap : PySem.W.findIn K (.ref C_Shelf) "first_gap" = some (some (.ref a_Shelf_first_gap)))
    (i_Shelf_first_gap : PySem.W.isFn K (.ref a_Shelf_first_gap) = true)
    (l_Shelf_first_gap : K.lookup a_Shelf_first_gap = some ⟨oc_Shelf_first_gap, od_Shelf_first_gap, .func (PySem.W.fnOf "first_gap" "Shelf.first_gap" (defArgs s_Shelf_first_gap) (defBody s_Shelf_first_gap) (defScope s_Shelf_first_gap) .none kV_Shelf_first_gap dc_Shelf_first_gap pm_Shelf_first_gap an_Shelf_first_gap cd_Shelf_first_gap ct_Shelf_first_gap), sl_Shelf_first_gap⟩)
    (c_Shelf_first_gap : PySem.W.codeIn K cd_Shelf_first_gap "Shelf.first_gap" = true)
    (k_Shelf_first_gap : PySem.W.keepIn K (.ref a_Shelf_first_gap) = true)
    (z_Shelf_put_back : PySem.W.findIn K (.ref C_Shelf) "put_back" = some (some (.ref a_Shelf_put_back)))
    (i_Shelf_put_back : PySem.W.isFn K (.ref a_Shelf_put_back) = true)
    (l_Shelf_put_back : K.lookup a_Shelf_put_back = some ⟨oc_Shelf_put_back, od_Shelf_put_back, .func (PySem.W.fnOf "put_back" "Shelf.put_back" (defArgs s_Shelf_put_back) (defBody s_Shelf_put_back) (defScope s_Shelf_put_back) .none kV_Shelf_put_back dc_Shelf_put_back pm_Shelf_put_back an_Shelf_put_back cd_Shelf_put_back ct_Shelf_put_back), sl_Shelf_put_back⟩)
    (c_Shelf_put_back : PySem.W.codeIn K cd_Shelf_put_back "Shelf.put_back" = true)
    (k_Shelf_put_back : PySem.W.keepIn K (.ref a_Shelf_put_back) = true)
    (z_can_perform : PySem.W.nsIn K mainGlobals "can_perform" = some (some (.ref a_can_perform)))
    (l_can_perform : K.lookup a_can_perform = some ⟨oc_can_perform, od_can_perform, .func (PySem.W.fnOf "can_perform" "can_perform" (defArgs s_can_perform) (defBody s_can_perform) (defScope s_can_perform) .none kV_can_perform dc_can_perform pm_can_perform an_can_perform cd_can_perform ct_can_perform), sl_can_perform⟩)
    (c_can_perform : PySem.W.codeIn K cd_can_perform "can_perform" = true)
    (k_can_perform : PySem.W.keepIn K (.ref a_can_perform) = true)
    (z_run_schedule : PySem.W.nsIn K mainGlobals "run_schedule" = some (some (.ref a_run_schedule)))
    (l_run_schedule : K.lookup a_run_schedule = some ⟨oc_run_schedule, od_run_schedule, .func (PySem.W.fnOf "run_schedule" "run_schedule" (defArgs s_run_schedule) (defBody s_run_schedule) (defScope s_run_schedule) .none kV_run_schedule dc_run_schedule pm_run_schedule an_run_schedule cd_run_schedule ct_run_schedule), sl_run_schedule⟩)
    (c_run_schedule : PySem.W.codeIn K cd_run_schedule "run_schedule" = true)
    (k_run_schedule : PySem.W.keepIn K (.ref a_run_schedule) = true)
    (z_is_schedule : PySem.W.nsIn K mainGlobals "is_schedule" = some (some (.ref a_is_schedule)))
    (l_is_schedule : K.lookup a_is_schedule = some ⟨oc_is_schedule, od_is_schedule, .func (PySem.W.fnOf "is_schedule" "is_schedule" (defArgs s_is_schedule) (defBody s_is_schedule) (defScope s_is_schedule) .none kV_is_schedule dc_is_schedule pm_is_schedule an_is_schedule cd_is_schedule ct_is_schedule), sl_is_schedule⟩)
    (c_is_schedule : PySem.W.codeIn K cd_is_schedule "is_schedule" = true)
    (k_is_schedule : PySem.W.keepIn K (.ref a_is_schedule) = true)
    (z_books_after : PySem.W.nsIn K mainGlobals "books_after" = some (some (.ref a_books_after)))
    (l_books_after : K.lookup a_books_after = some ⟨oc_books_after, od_books_after, .func (PySem.W.fnOf "books_after" "books_after" (defArgs s_books_after) (defBody s_books_after) (defScope s_books_after) .none kV_books_after dc_books_after pm_books_after an_books_after cd_books_after ct_books_after), sl_books_after⟩)
    (c_books_after : PySem.W.codeIn K cd_books_after "books_after" = true)
    (k_books_after : PySem.W.keepIn K (.ref a_books_after) = true)
    (z_books_out : PySem.W.nsIn K mainGlobals "books_out" = some (some (.ref a_books_out)))
    (l_books_out : K.lookup a_books_out = some ⟨oc_books_out, od_books_out, .func (PySem.W.fnOf "books_out" "books_out" (defArgs s_books_out) (defBody s_books_out) (defScope s_books_out) .none kV_books_out dc_books_out pm_books_out an_books_out cd_books_out ct_books_out), sl_books_out⟩)
    (c_books_out : PySem.W.codeIn K cd_books_out "books_out" = true)
    (k_books_out : PySem.W.keepIn K (.ref a_books_out) = true)
    (z_places_filled : PySem.W.nsIn K mainGlobals "places_filled" = some (some (.ref a_places_filled)))
    (l_places_filled : K.lookup a_places_filled = some ⟨oc_places_filled, od_places_filled, .func (PySem.W.fnOf "places_filled" "places_filled" (defArgs s_places_filled) (defBody s_places_filled) (defScope s_places_filled) .none kV_places_filled dc_places_filled pm_places_filled an_places_filled cd_places_filled ct_places_filled), sl_places_filled⟩)
    (c_places_filled : PySem.W.codeIn K cd_places_filled "places_filled" = true)
    (k_places_filled : PySem.W.keepIn K (.ref a_places_filled) = true)
    (z_most_out : PySem.W.nsIn K mainGlobals "most_out" = some (some (.ref a_most_out)))
    (l_most_out : K.lookup a_most_out = some ⟨oc_most_out, od_most_out, .func (PySem.W.fnOf "most_out" "most_out" (defArgs s_most_out) (defBody s_most_out) (defScope s_most_out) .none kV_most_out dc_most_out pm_most_out an_most_out cd_most_out ct_most_out), sl_most_out⟩)
    (c_most_out : PySem.W.codeIn K cd_most_out "most_out" = true)
    (k_most_out : PySem.W.keepIn K (.ref a_most_out) = true)
    (z_numbers_by_place : PySem.W.nsIn K mainGlobals "numbers_by_place" = some (some (.ref a_numbers_by_place)))
    (l_numbers_by_place : K.lookup a_numbers_by_place = some ⟨oc_numbers_by_place, od_numbers_by_place, .func (PySem.W.fnOf "numbers_by_place" "numbers_by_place" (defArgs s_numbers_by_place) (defBody s_numbers_by_place) (defScope s_numbers_by_place) .none kV_numbers_by_place dc_numbers_by_place pm_numbers_by_place an_numbers_by_place cd_numbers_by_place ct_numbers_by_place), sl_numbers_by_place⟩)
    (c_numbers_by_place : PySem.W.codeIn K cd_numbers_by_place "numbers_by_place" = true)
    (k_numbers_by_place : PySem.W.keepIn K (.ref a_numbers_by_place) = true)
    (z_fill_times : PySem.W.nsIn K mainGlobals "fill_times" = some (some (.ref a_fill_times)))
    (l_fill_times : K.lookup a_fill_times = some ⟨oc_fill_times, od_fill_times, .func (PySem.W.fnOf "fill_times" "fill_times" (defArgs s_fill_times) (defBody s_fill_times) (defScope s_fill_times) .none kV_fill_times dc_fill_times pm_fill_times an_fill_times cd_fill_times ct_fill_times), sl_fill_times⟩)
    (c_fill_times : PySem.W.codeIn K cd_fill_times "fill_times" = true)
    (k_fill_times : PySem.W.keepIn K (.ref a_fill_times) = true)
    (z_fills_by : PySem.W.nsIn K mainGlobals "fills_by" = some (some (.ref a_fills_by)))
    (l_fills_by : K.lookup a_fills_by = some ⟨oc_fills_by, od_fills_by, .func (PySem.W.fnOf "fills_by" "fills_by" (defArgs s_fills_by) (defBody s_fills_by) (defScope s_fills_by) .none kV_fills_by dc_fills_by pm_fills_by an_fills_by cd_fills_by ct_fills_by), sl_fills_by⟩)
    (c_fills_by : PySem.W.codeIn K cd_fills_by "fills_by" = true)
    (k_fills_by : PySem.W.keepIn K (.ref a_fills_by) = true)
    (z_is_two : PySem.W.nsIn K mainGlobals "is_two" = some (some (.ref a_is_two)))
    (l_is_two : K.lookup a_is_two = some ⟨oc_is_two, od_is_two, .func (PySem.W.fnOf "is_two" "is_two" (defArgs s_is_two) (defBody s_is_two) (defScope s_is_two) .none kV_is_two dc_is_two pm_is_two an_is_two cd_is_two ct_is_two), sl_is_two⟩)
    (c_is_two : PySem.W.codeIn K cd_is_two "is_two" = true)
    (k_is_two : PySem.W.keepIn K (.ref a_is_two) = true)
    (z_is_three : PySem.W.nsIn K mainGlobals "is_three" = some (some (.ref a_is_three)))
    (l_is_three : K.lookup a_is_three = some ⟨oc_is_three, od_is_three, .func (PySem.W.fnOf "is_three" "is_three" (defArgs s_is_three) (defBody s_is_three) (defScope s_is_three) .none kV_is_three dc_is_three pm_is_three an_is_three cd_is_three ct_is_three), sl_is_three⟩)
    (c_is_three : PySem.W.codeIn K cd_is_three "is_three" = true)
    (k_is_three : PySem.W.keepIn K (.ref a_is_three) = true)
    (z_first_two : PySem.W.nsIn K mainGlobals "first_two" = some (some (.ref a_first_two)))
    (l_first_two : K.lookup a_first_two = some ⟨oc_first_two, od_first_two, .func (PySem.W.fnOf "first_two" "first_two" (defArgs s_first_two) (defBody s_first_two) (defScope s_first_two) .none kV_first_two dc_first_two pm_first_two an_first_two cd_first_two ct_first_two), sl_first_two⟩)
    (c_first_two : PySem.W.codeIn K cd_first_two "first_two" = true)
    (k_first_two : PySem.W.keepIn K (.ref a_first_two) = true)
    (z_last_fill_between : PySem.W.nsIn K mainGlobals "last_fill_between" = some (some (.ref a_last_fill_between)))
    (l_last_fill_between : K.lookup a_last_fill_between = some ⟨oc_last_fill_between, od_last_fill_between, .func (PySem.W.fnOf "last_fill_between" "last_fill_between" (defArgs s_last_fill_between) (defBody s_last_fill_between) (defScope s_last_fill_between) .none kV_last_fill_between dc_last_fill_between pm_last_fill_between an_last_fill_between cd_last_fill_between ct_last_fill_between), sl_last_fill_between⟩)
    (c_last_fill_between : PySem.W.codeIn K cd_last_fill_between "last_fill_between" = true)
    (k_last_fill_between : PySem.W.keepIn K (.ref a_last_fill_between) = true)
    (z_first_three : PySem.W.nsIn K mainGlobals "first_three" = some (some (.ref a_first_three)))
    (l_first_three : K.lookup a_first_three = some ⟨oc_first_three, od_first_three, .func (PySem.W.fnOf "first_three" "first_three" (defArgs s_first_three) (defBody s_first_three) (defScope s_first_three) .none kV_first_three dc_first_three pm_first_three an_first_three cd_first_three ct_first_three), sl_first_three⟩)
    (c_first_three : PySem.W.codeIn K cd_first_three "first_three" = true)
    (k_first_three : PySem.W.keepIn K (.ref a_first_three) = true)
    (z_obstruction : PySem.W.nsIn K mainGlobals "obstruction" = some (some (.ref a_obstruction)))
    (l_obstruction : K.lookup a_obstruction = some ⟨oc_obstruction, od_obstruction, .func (PySem.W.fnOf "obstruction" "obstruction" (defArgs s_obstruction) (defBody s_obstruction) (defScope s_obstruction) .none kV_obstruction dc_obstruction pm_obstruction an_obstruction cd_obstruction ct_obstruction), sl_obstruction⟩)
    (c_obstruction : PySem.W.codeIn K cd_obstruction "obstruction" = true)
    (k_obstruction : PySem.W.keepIn K (.ref a_obstruction) = true)
    (z_is_possible : PySem.W.nsIn K mainGlobals "is_possible" = some (some (.ref a_is_possible)))
    (l_is_possible : K.lookup a_is_possible = some ⟨oc_is_possible, od_is_possible, .func (PySem.W.fnOf "is_possible" "is_possible" (defArgs s_is_possible) (defBody s_is_possible) (defScope s_is_possible) .none kV_is_possible dc_is_possible pm_is_possible an_is_possible cd_is_possible ct_is_possible), sl_is_possible⟩)
    (c_is_possible : PySem.W.codeIn K cd_is_possible "is_possible" = true)
    (k_is_possible : PySem.W.keepIn K (.ref a_is_possible) = true)
    (z_is_result : PySem.W.nsIn K mainGlobals "is_result" = some (some (.ref a_is_result)))
    (l_is_result : K.lookup a_is_result = some ⟨oc_is_result, od_is_result, .func (PySem.W.fnOf "is_result" "is_result" (defArgs s_is_result) (defBody s_is_result) (defScope s_is_result) .none kV_is_result dc_is_result pm_is_result an_is_result cd_is_result ct_is_result), sl_is_result⟩)
    (c_is_result : PySem.W.codeIn K cd_is_result "is_result" = true)
    (k_is_result : PySem.W.keepIn K (.ref a_is_result) = true)
    (z__law_bag : PySem.W.nsIn K mainGlobals "_law_bag" = some (some (.ref a__law_bag)))
    (l__law_bag : K.lookup a__law_bag = some ⟨oc__law_bag, od__law_bag, .func (PySem.W.fnOf "_law_bag" "_law_bag" (defArgs s__law_bag) (defBody s__law_bag) (defScope s__law_bag) .none kV__law_bag dc__law_bag pm__law_bag an__law_bag cd__law_bag ct__law_bag), sl__law_bag⟩)
    (c__law_bag : PySem.W.codeIn K cd__law_bag "_law_bag" = true)
    (k__law_bag : PySem.W.keepIn K (.ref a__law_bag) = true)
    (z__law_stir : PySem.W.nsIn K mainGlobals "_law_stir" = some (some (.ref a__law_stir)))
    (l__law_stir : K.lookup a__law_stir = some ⟨oc__law_stir, od__law_stir, .func (PySem.W.fnOf "_law_stir" "_law_stir" (defArgs s__law_stir) (defBody s__law_stir) (defScope s__law_stir) .none kV__law_stir dc__law_stir pm__law_stir an__law_stir cd__law_stir ct__law_stir), sl__law_stir⟩)
    (c__law_stir : PySem.W.codeIn K cd__law_stir "_law_stir" = true)
    (k__law_stir : PySem.W.keepIn K (.ref a__law_stir) = true)
    (z__law_draw : PySem.W.nsIn K mainGlobals "_law_draw" = some (some (.ref a__law_draw)))
    (l__law_draw : K.lookup a__law_draw = some ⟨oc__law_draw, od__law_draw, .func (PySem.W.fnOf "_law_draw" "_law_draw" (defArgs s__law_draw) (defBody s__law_draw) (defScope s__law_draw) .none kV__law_draw dc__law_draw pm__law_draw an__law_draw cd__law_draw ct__law_draw), sl__law_draw⟩)
    (c__law_draw : PySem.W.codeIn K cd__law_draw "_law_draw" = true)
    (k__law_draw : PySem.W.keepIn K (.ref a__law_draw) = true)
    (z__law_shuffled : PySem.W.nsIn K mainGlobals "_law_shuffled" = some (some (.ref a__law_shuffled)))
    (l__law_shuffled : K.lookup a__law_shuffled = some ⟨oc__law_shuffled, od__law_shuffled, .func (PySem.W.fnOf "_law_shuffled" "_law_shuffled" (defArgs s__law_shuffled) (defBody s__law_shuffled) (defScope s__law_shuffled) .none kV__law_shuffled dc__law_shuffled pm__law_shuffled an__law_shuffled cd__law_shuffled ct__law_shuffled), sl__law_shuffled⟩)
    (c__law_shuffled : PySem.W.codeIn K cd__law_shuffled "_law_shuffled" = true)
    (k__law_shuffled : PySem.W.keepIn K (.ref a__law_shuffled) = true)
    (z__law_pattern : PySem.W.nsIn K mainGlobals "_law_pattern" = some (some (.ref a__law_pattern)))
    (l__law_pattern : K.lookup a__law_pattern = some ⟨oc__law_pattern, od__law_pattern, .func (PySem.W.fnOf "_law_pattern" "_law_pattern" (defArgs s__law_pattern) (defBody s__law_pattern) (defScope s__law_pattern) .none kV__law_pattern dc__law_pattern pm__law_pattern an__law_pattern cd__law_pattern ct__law_pattern), sl__law_pattern⟩)
    (c__law_pattern : PySem.W.codeIn K cd__law_pattern "_law_pattern" = true)
    (k__law_pattern : PySem.W.keepIn K (.ref a__law_pattern) = true)
    (z__law_followed : PySem.W.nsIn K mainGlobals "_law_followed" = some (some (.ref a__law_followed)))
    (l__law_followed : K.lookup a__law_followed = some ⟨oc__law_followed, od__law_followed, .func (PySem.W.fnOf "_law_followed" "_law_followed" (defArgs s__law_followed) (defBody s__law_followed) (defScope s__law_followed) .none kV__law_followed dc__law_followed pm__law_followed an__law_followed cd__law_followed ct__law_followed), sl__law_followed⟩)
    (c__law_followed : PySem.W.codeIn K cd__law_followed "_law_followed" = true)
    (k__law_followed : PySem.W.keepIn K (.ref a__law_followed) = true)
    (z__law_late : PySem.W.nsIn K mainGlobals "_law_late" = some (some (.ref a__law_late)))
    (l__law_late : K.lookup a__law_late = some ⟨oc__law_late, od__law_late, .func (PySem.W.fnOf "_law_late" "_law_late" (defArgs s__law_late) (defBody s__law_late) (defScope s__law_late) .none kV__law_late dc__law_late pm__law_late an__law_late cd__law_late ct__law_late), sl__law_late⟩)
    (c__law_late : PySem.W.codeIn K cd__law_late "_law_late" = true)
    (k__law_late : PySem.W.keepIn K (.ref a__law_late) = true)
    (z__law_most : PySem.W.nsIn K mainGlobals "_law_most" = some (some (.ref a__law_most)))
    (l__law_most : K.lookup a__law_most = some ⟨oc__law_most, od__law_most, .func (PySem.W.fnOf "_law_most" "_law_most" (defArgs s__law_most) (defBody s__law_most) (defScope s__law_most) .none kV__law_most dc__law_most pm__law_most an__law_most cd__law_most ct__law_most), sl__law_most⟩)
    (c__law_most : PySem.W.codeIn K cd__law_most "_law_most" = true)
    (k__law_most : PySem.W.keepIn K (.ref a__law_most) = true)
    (z__law_right : PySem.W.nsIn K mainGlobals "_law_right" = some (some (.ref a__law_right)))
    (l__law_right : K.lookup a__law_right = some ⟨oc__law_right, od__law_right, .func (PySem.W.fnOf "_law_right" "_law_right" (defArgs s__law_right) (defBody s__law_right) (defScope s__law_right) .none kV__law_right dc__law_right pm__law_right an__law_right cd__law_right ct__law_right), sl__law_right⟩)
    (c__law_right : PySem.W.codeIn K cd__law_right "_law_right" = true)
    (k__law_right : PySem.W.keepIn K (.ref a__law_right) = true)
    (z_law : PySem.W.nsIn K mainGlobals "law" = some (some (.ref a_law)))
    (l_law : K.lookup a_law = some ⟨oc_law, od_law, .func (PySem.W.fnOf "law" "law" (defArgs s_law) (defBody s_law) (defScope s_law) .none kV_law dc_law pm_law an_law cd_law ct_law), sl_law⟩)
    (c_law : PySem.W.codeIn K cd_law "law" = true)
    (k_law : PySem.W.keepIn K (.ref a_law) = true) :
    ∃ fd : FuncData, (∀ (s : Shared) (v : Value), BindsTo s fd ⟨[v], []⟩ [("script", v)]) ∧ ∀ base : Heap, K.In base → base.Ns mainGlobals mg → FnOk l.prog w K mg base CX0 9 fa fd ["script"] (sp_law K) := by
  have e0 := hfa.symm.trans (PySem.W.mg_of X G z_law)
  cases e0
  have F_is_whole := fun_mk (st := s_is_whole) l_is_whole c_is_whole k_is_whole
  have B_is_whole := F_is_whole.binds (ps := ["value"]) fun _ _ _ _ _ _ us hl => match us, hl with | [_], _ => rfl
  have F_is_listed := fun_mk (st := s_is_listed) l_is_listed c_is_listed k_is_listed
  have B_is_listed := F_is_listed.binds (ps := ["value"]) fun _ _ _ _ _ _ us hl => match us, hl with | [_], _ => rfl
  have F_check_size := fun_mk (st := s_check_size) l_check_size c_check_size k_check_size
  have B_check_size := F_check_size.binds (ps := ["size"]) fun _ _ _ _ _ _ us hl => match us, hl with | [_], _ => rfl
  have F_is_place := fun_mk (st := s_is_place) l_is_place c_is_place k_is_place
  have B_is_place := F_is_place.binds (ps := ["value"]) fun _ _ _ _ _ _ us hl => match us, hl with | [_], _ => rfl
  have F_is_place_list := fun_mk (st := s_is_place_list) l_is_place_list c_is_place_list k_is_place_list
  have B_is_place_list := F_is_place_list.binds (ps := ["value"]) fun _ _ _ _ _ _ us hl => match us, hl with | [_], _ => rfl
  have F_check_places := fun_mk (st := s_check_places) l_check_places c_check_places k_check_places
  have B_check_places := F_check_places.binds (ps := ["value"]) fun _ _ _ _ _ _ us hl => match us, hl with | [_], _ => rfl
  have F_check_same_places := fun_mk (st := s_check_same_places) l_check_same_places c_check_same_places k_check_same_places
  have B_check_same_places := F_check_same_places.binds (ps := ["first", "second"]) fun _ _ _ _ _ _ us hl => match us, hl with | [_, _], _ => rfl
  have F_check_pair := fun_mk (st := s_check_pair) l_check_pair c_check_pair k_check_pair
  have B_check_pair := F_check_pair.binds (ps := ["takes", "fills"]) fun _ _ _ _ _ _ us hl => match us, hl with | [_, _], _ => rfl
  have F_is_pattern := fun_mk (st := s_is_pattern) l_is_pattern c_is_pattern k_is_pattern
  have B_is_pattern := F_is_pattern.binds (ps := ["value"]) fun _ _ _ _ _ _ us hl => match us, hl with | [_], _ => rfl
  have F_check_pattern_for := fun_mk (st := s_check_pattern_for) l_check_pattern_for c_check_pattern_for k_check_pattern_for
  have B_check_pattern_for := F_check_pattern_for.binds (ps := ["takes", "pattern"]) fun _ _ _ _ _ _ us hl => match us, hl with | [_, _], _ => rfl
  have F_Shelf_init := fun_mk (st := s_Shelf_init) l_Shelf_init c_Shelf_init k_Shelf_init
  have B_Shelf_init := F_Shelf_init.binds (ps := ["self", "size"]) fun _ _ _ _ _ _ us hl => match us, hl with | [_, _], _ => rfl
  have F_Shelf_can_take := fun_mk (st := s_Shelf_can_take) l_Shelf_can_take c_Shelf_can_take k_Shelf_can_take
  have B_Shelf_can_take := F_Shelf_can_take.binds (ps := ["self", "place"]) fun _ _ _ _ _ _ us hl => match us, hl with | [_, _], _ => rfl
  have F_Shelf_can_return := fun_mk (st := s_Shelf_can_return) l_Shelf_can_return c_Shelf_can_return k_Shelf_can_return
  have B_Shelf_can_return := F_Shelf_can_return.binds (ps := ["self", "book"]) fun _ _ _ _ _ _ us hl => match us, hl with | [_, _], _ => rfl
  have F_Shelf_take_from := fun_mk (st := s_Shelf_take_from) l_Shelf_take_from c_Shelf_take_from k_Shelf_take_from
  have B_Shelf_take_from := F_Shelf_take_from.binds (ps := ["self", "place"]) fun _ _ _ _ _ _ us hl => match us, hl with | [_, _], _ => rfl
  have F_Shelf_first_gap := fun_mk (st := s_Shelf_first_gap) l_Shelf_first_gap c_Shelf_first_gap k_Shelf_first_gap
  have B_Shelf_first_gap := F_Shelf_first_gap.binds (ps := ["self"]) fun _ _ _ _ _ _ us hl => match us, hl with | [_], _ => rfl
  have F_Shelf_put_back := fun_mk (st := s_Shelf_put_back) l_Shelf_put_back c_Shelf_put_back k_Shelf_put_back
  have B_Shelf_put_back := F_Shelf_put_back.binds (ps := ["self", "book"]) fun _ _ _ _ _ _ us hl => match us, hl with | [_, _], _ => rfl
  have F_can_perform := fun_mk (st := s_can_perform) l_can_perform c_can_perform k_can_perform
  have B_can_perform := F_can_perform.binds (ps := ["shelf", "value"]) fun _ _ _ _ _ _ us hl => match us, hl with | [_, _], _ => rfl
  have F_run_schedule := fun_mk (st := s_run_schedule) l_run_schedule c_run_schedule k_run_schedule
  have B_run_schedule := F_run_schedule.binds (ps := ["size", "schedule"]) fun _ _ _ _ _ _ us hl => match us, hl with | [_, _], _ => rfl
  have F_is_schedule := fun_mk (st := s_is_schedule) l_is_schedule c_is_schedule k_is_schedule
  have B_is_schedule := F_is_schedule.binds (ps := ["size", "value"]) fun _ _ _ _ _ _ us hl => match us, hl with | [_, _], _ => rfl
  have F_books_after := fun_mk (st := s_books_after) l_books_after c_books_after k_books_after
  have B_books_after := F_books_after.binds (ps := ["size", "schedule"]) fun _ _ _ _ _ _ us hl => match us, hl with | [_, _], _ => rfl
  have F_books_out := fun_mk (st := s_books_out) l_books_out c_books_out k_books_out
  have B_books_out := F_books_out.binds (ps := ["size", "schedule"]) fun _ _ _ _ _ _ us hl => match us, hl with | [_, _], _ => rfl
  have F_places_filled := fun_mk (st := s_places_filled) l_places_filled c_places_filled k_places_filled
  have B_places_filled := F_places_filled.binds (ps := ["size", "schedule"]) fun _ _ _ _ _ _ us hl => match us, hl with | [_, _], _ => rfl
  have F_most_out := fun_mk (st := s_most_out) l_most_out c_most_out k_most_out
  have B_most_out := F_most_out.binds (ps := ["size", "schedule"]) fun _ _ _ _ _ _ us hl => match us, hl with | [_, _], _ => rfl
  have F_numbers_by_place := fun_mk (st := s_numbers_by_place) l_numbers_by_place c_numbers_by_place k_numbers_by_place
  have B_numbers_by_place := F_numbers_by_place.binds (ps := ["places"]) fun _ _ _ _ _ _ us hl => match us, hl with | [_], _ => rfl
  have F_fill_times := fun_mk (st := s_fill_times) l_fill_times c_fill_times k_fill_times
  have B_fill_times := F_fill_times.binds (ps := ["pattern"]) fun _ _ _ _ _ _ us hl => match us, hl with | [_], _ => rfl
  have F_fills_by := fun_mk (st := s_fills_by) l_fills_by c_fills_by k_fills_by
  have B_fills_by := F_fills_by.binds (ps := ["takes", "pattern"]) fun _ _ _ _ _ _ us hl => match us, hl with | [_, _], _ => rfl
  have F_is_two := fun_mk (st := s_is_two) l_is_two c_is_two k_is_two
  have B_is_two := F_is_two.binds (ps := ["taken", "filled", "a", "b"]) fun _ _ _ _ _ _ us hl => match us, hl with | [_, _, _, _], _ => rfl
  have F_is_three := fun_mk (st := s_is_three) l_is_three c_is_three k_is_three
  have B_is_three := F_is_three.binds (ps := ["taken", "filled", "a", "b", "c"]) fun _ _ _ _ _ _ us hl => match us, hl with | [_, _, _, _, _], _ => rfl
  have F_first_two := fun_mk (st := s_first_two) l_first_two c_first_two k_first_two
  have B_first_two := F_first_two.binds (ps := ["taken", "filled"]) fun _ _ _ _ _ _ us hl => match us, hl with | [_, _], _ => rfl
  have F_last_fill_between := fun_mk (st := s_last_fill_between) l_last_fill_between c_last_fill_between k_last_fill_between
  have B_last_fill_between := F_last_fill_between.binds (ps := ["taken", "filled", "b"]) fun _ _ _ _ _ _ us hl => match us, hl with | [_, _, _], _ => rfl
  have F_first_three := fun_mk (st := s_first_three) l_first_three c_first_three k_first_three
  have B_first_three := F_first_three.binds (ps := ["taken", "filled"]) fun _ _ _ _ _ _ us hl => match us, hl with | [_, _], _ => rfl
  have F_obstruction := fun_mk (st := s_obstruction) l_obstruction c_obstruction k_obstruction
  have B_obstruction := F_obstruction.binds (ps := ["takes", "fills"]) fun _ _ _ _ _ _ us hl => match us, hl with | [_, _], _ => rfl
  have F_is_possible := fun_mk (st := s_is_possible) l_is_possible c_is_possible k_is_possible
  have B_is_possible := F_is_possible.binds (ps := ["takes", "fills"]) fun _ _ _ _ _ _ us hl => match us, hl with | [_, _], _ => rfl
  have F_is_result := fun_mk (st := s_is_result) l_is_result c_is_result k_is_result
  have B_is_result := F_is_result.binds (ps := ["takes", "pattern", "books"]) fun _ _ _ _ _ _ us hl => match us, hl with | [_, _, _], _ => rfl
  have F__law_bag := fun_mk (st := s__law_bag) l__law_bag c__law_bag k__law_bag
  have B__law_bag := F__law_bag.binds (ps := ["script"]) fun _ _ _ _ _ _ us hl => match us, hl with | [_], _ => rfl
  have F__law_stir := fun_mk (st := s__law_stir) l__law_stir c__law_stir k__law_stir
  have B__law_stir := F__law_stir.binds (ps := ["number", "place"]) fun _ _ _ _ _ _ us hl => match us, hl with | [_, _], _ => rfl
  have F__law_draw := fun_mk (st := s__law_draw) l__law_draw c__law_draw k__law_draw
  have B__law_draw := F__law_draw.binds (ps := ["bag", "bound"]) fun _ _ _ _ _ _ us hl => match us, hl with | [_, _], _ => rfl
  have F__law_shuffled := fun_mk (st := s__law_shuffled) l__law_shuffled c__law_shuffled k__law_shuffled
  have B__law_shuffled := F__law_shuffled.binds (ps := ["bag", "items"]) fun _ _ _ _ _ _ us hl => match us, hl with | [_, _], _ => rfl
  have F__law_pattern := fun_mk (st := s__law_pattern) l__law_pattern c__law_pattern k__law_pattern
  have B__law_pattern := F__law_pattern.binds (ps := ["bag", "count"]) fun _ _ _ _ _ _ us hl => match us, hl with | [_, _], _ => rfl
  have F__law_followed := fun_mk (st := s__law_followed) l__law_followed c__law_followed k__law_followed
  have B__law_followed := F__law_followed.binds (ps := ["bag", "takes", "pattern", "way"]) fun _ _ _ _ _ _ us hl => match us, hl with | [_, _, _, _], _ => rfl
  have F__law_late := fun_mk (st := s__law_late) l__law_late c__law_late k__law_late
  have B__law_late := F__law_late.binds (ps := ["takes", "pattern"]) fun _ _ _ _ _ _ us hl => match us, hl with | [_, _], _ => rfl
  have F__law_most := fun_mk (st := s__law_most) l__law_most c__law_most k__law_most
  have B__law_most := F__law_most.binds (ps := ["pattern"]) fun _ _ _ _ _ _ us hl => match us, hl with | [_], _ => rfl
  have F__law_right := fun_mk (st := s__law_right) l__law_right c__law_right k__law_right
  have B__law_right := F__law_right.binds (ps := ["bag", "count"]) fun _ _ _ _ _ _ us hl => match us, hl with | [_, _], _ => rfl
  have F_law := fun_mk (st := s_law) l_law c_law k_law
  have B_law := F_law.binds (ps := ["script"]) fun _ _ _ _ _ _ us hl => match us, hl with | [_], _ => rfl
  refine ⟨PySem.W.fnOf "law" "law" (defArgs s_law) (defBody s_law) (defScope s_law) .none kV_law dc_law pm_law an_law cd_law ct_law, fun s v => .of_eq rfl, fun base _ _ => ?_⟩
  exact ok_law (({
    n_len := PySem.W.mg_none_of X G z_len,
    n_range := PySem.W.mg_none_of X G z_range,
    n_list := PySem.W.mg_none_of X G z_list,
    n_tuple := PySem.W.mg_none_of X G z_tuple,
    n_int := PySem.W.mg_none_of X G z_int,
    n_bool := PySem.W.mg_none_of X G z_bool,
    n_str := PySem.W.mg_none_of X G z_str,
    n_isinstance := PySem.W.mg_none_of X G z_isinstance,
    n_min := PySem.W.mg_none_of X G z_min,
    n_max := PySem.W.mg_none_of X G z_max,
    n_sorted := PySem.W.mg_none_of X G z_sorted,
    n_set := PySem.W.mg_none_of X G z_set,
    n_all := PySem.W.mg_none_of X G z_all,
    n_enumerate := PySem.W.mg_none_of X G z_enumerate,
    n_zip := PySem.W.mg_none_of X G z_zip,
    t_MOST_SIZE := t_MOST_SIZE, g_MOST_SIZE := PySem.W.mg_of X G z_MOST_SIZE,
    t_MOST_OPERATIONS := t_MOST_OPERATIONS, g_MOST_OPERATIONS := PySem.W.mg_of X G z_MOST_OPERATIONS,
    t_MOST_PLACES := t_MOST_PLACES, g_MOST_PLACES := PySem.W.mg_of X G z_MOST_PLACES,
    t_GREATEST_PLACE := t_GREATEST_PLACE, g_GREATEST_PLACE := PySem.W.mg_of X G z_GREATEST_PLACE,
    g_heappush := PySem.W.mg_of X G z_heappush,
    g_heappop := PySem.W.mg_of X G z_heappop,
    g_combinations := PySem.W.mg_of X G z_combinations,
    nA_Shelf_books := nA_Shelf_books,
    nA_Shelf_out := nA_Shelf_out,
    C_Shelf := C_Shelf, g_Shelf := PySem.W.mg_of X G z_Shelf, cl_Shelf := ⟨pg_Shelf, hd_Shelf, po_Shelf, sa_Shelf⟩,
    a_is_whole := a_is_whole, d_is_whole := _, f_is_whole := F_is_whole, b_is_whole := B_is_whole, g_is_whole := PySem.W.mg_of X G z_is_whole,
    a_is_listed := a_is_listed, d_is_listed := _, f_is_listed := F_is_listed, b_is_listed := B_is_listed, g_is_listed := PySem.W.mg_of X G z_is_listed,
    a_check_size := a_check_size, d_check_size := _, f_check_size := F_check_size, b_check_size := B_check_size, g_check_size := PySem.W.mg_of X G z_check_size,
    a_is_place := a_is_place, d_is_place := _, f_is_place := F_is_place, b_is_place := B_is_place, g_is_place := PySem.W.mg_of X G z_is_place,
    a_is_place_list := a_is_place_list, d_is_place_list := _, f_is_place_list := F_is_place_list, b_is_place_list := B_is_place_list, g_is_place_list := PySem.W.mg_of X G z_is_place_list,
    a_check_places := a_check_places, d_check_places := _, f_check_places := F_check_places, b_check_places := B_check_places, g_check_places := PySem.W.mg_of X G z_check_places,
    a_check_same_places := a_check_same_places, d_check_same_places := _, f_check_same_places := F_check_same_places, b_check_same_places := B_check_same_places, g_check_same_places := PySem.W.mg_of X G z_check_same_places,
    a_check_pair := a_check_pair, d_check_pair := _, f_check_pair := F_check_pair, b_check_pair := B_check_pair, g_check_pair := PySem.W.mg_of X G z_check_pair,
    a_is_pattern := a_is_pattern, d_is_pattern := _, f_is_pattern := F_is_pattern, b_is_pattern := B_is_pattern, g_is_pattern := PySem.W.mg_of X G z_is_pattern,
    a_check_pattern_for := a_check_pattern_for, d_check_pattern_for := _, f_check_pattern_for := F_check_pattern_for, b_check_pattern_for := B_check_pattern_for, g_check_pattern_for := PySem.W.mg_of X G z_check_pattern_for,
    a_Shelf_init := a_Shelf_init, d_Shelf_init := _, f_Shelf_init := F_Shelf_init, b_Shelf_init := B_Shelf_init, mk_Shelf := ⟨mk_Shelf, z_Shelf_init, i_Shelf_init, kc_Shelf⟩,
    a_Shelf_can_take := a_Shelf_can_take, d_Shelf_can_take := _, f_Shelf_can_take := F_Shelf_can_take, b_Shelf_can_take := B_Shelf_can_take, m_Shelf_can_take := ⟨z_Shelf_can_take, i_Shelf_can_take, k_Shelf_can_take⟩,
    a_Shelf_can_return := a_Shelf_can_return, d_Shelf_can_return := _, f_Shelf_can_return := F_Shelf_can_return, b_Shelf_can_return := B_Shelf_can_return, m_Shelf_can_return := ⟨z_Shelf_can_return, i_Shelf_can_return, k_Shelf_can_return⟩,
    a_Shelf_take_from := a_Shelf_take_from, d_Shelf_take_from := _, f_Shelf_take_from := F_Shelf_take_from, b_Shelf_take_from := B_Shelf_take_from, m_Shelf_take_from := ⟨z_Shelf_take_from, i_Shelf_take_from, k_Shelf_take_from⟩,
    a_Shelf_first_gap := a_Shelf_first_gap, d_Shelf_first_gap := _, f_Shelf_first_gap := F_Shelf_first_gap, b_Shelf_first_gap := B_Shelf_first_gap, m_Shelf_first_gap := ⟨z_Shelf_first_gap, i_Shelf_first_gap, k_Shelf_first_gap⟩,
    a_Shelf_put_back := a_Shelf_put_back, d_Shelf_put_back := _, f_Shelf_put_back := F_Shelf_put_back, b_Shelf_put_back := B_Shelf_put_back, m_Shelf_put_back := ⟨z_Shelf_put_back, i_Shelf_put_back, k_Shelf_put_back⟩,
    a_can_perform := a_can_perform, d_can_perform := _, f_can_perform := F_can_perform, b_can_perform := B_can_perform, g_can_perform := PySem.W.mg_of X G z_can_perform,
    a_run_schedule := a_run_schedule, d_run_schedule := _, f_run_schedule := F_run_schedule, b_run_schedule := B_run_schedule, g_run_schedule := PySem.W.mg_of X G z_run_schedule,
    a_is_schedule := a_is_schedule, d_is_schedule := _, f_is_schedule := F_is_schedule, b_is_schedule := B_is_schedule, g_is_schedule := PySem.W.mg_of X G z_is_schedule,
    a_books_after := a_books_after, d_books_after := _, f_books_after := F_books_after, b_books_after := B_books_after, g_books_after := PySem.W.mg_of X G z_books_after,
    a_books_out := a_books_out, d_books_out := _, f_books_out := F_books_out, b_books_out := B_books_out, g_books_out := PySem.W.mg_of X G z_books_out,
    a_places_filled := a_places_filled, d_places_filled := _, f_places_filled := F_places_filled, b_places_filled := B_places_filled, g_places_filled := PySem.W.mg_of X G z_places_filled,
    a_most_out := a_most_out, d_most_out := _, f_most_out := F_most_out, b_most_out := B_most_out, g_most_out := PySem.W.mg_of X G z_most_out,
    a_numbers_by_place := a_numbers_by_place, d_numbers_by_place := _, f_numbers_by_place := F_numbers_by_place, b_numbers_by_place := B_numbers_by_place, g_numbers_by_place := PySem.W.mg_of X G z_numbers_by_place,
    a_fill_times := a_fill_times, d_fill_times := _, f_fill_times := F_fill_times, b_fill_times := B_fill_times, g_fill_times := PySem.W.mg_of X G z_fill_times,
    a_fills_by := a_fills_by, d_fills_by := _, f_fills_by := F_fills_by, b_fills_by := B_fills_by, g_fills_by := PySem.W.mg_of X G z_fills_by,
    a_is_two := a_is_two, d_is_two := _, f_is_two := F_is_two, b_is_two := B_is_two, g_is_two := PySem.W.mg_of X G z_is_two,
    a_is_three := a_is_three, d_is_three := _, f_is_three := F_is_three, b_is_three := B_is_three, g_is_three := PySem.W.mg_of X G z_is_three,
    a_first_two := a_first_two, d_first_two := _, f_first_two := F_first_two, b_first_two := B_first_two, g_first_two := PySem.W.mg_of X G z_first_two,
    a_last_fill_between := a_last_fill_between, d_last_fill_between := _, f_last_fill_between := F_last_fill_between, b_last_fill_between := B_last_fill_between, g_last_fill_between := PySem.W.mg_of X G z_last_fill_between,
    a_first_three := a_first_three, d_first_three := _, f_first_three := F_first_three, b_first_three := B_first_three, g_first_three := PySem.W.mg_of X G z_first_three,
    a_obstruction := a_obstruction, d_obstruction := _, f_obstruction := F_obstruction, b_obstruction := B_obstruction, g_obstruction := PySem.W.mg_of X G z_obstruction,
    a_is_possible := a_is_possible, d_is_possible := _, f_is_possible := F_is_possible, b_is_possible := B_is_possible, g_is_possible := PySem.W.mg_of X G z_is_possible,
    a_is_result := a_is_result, d_is_result := _, f_is_result := F_is_result, b_is_result := B_is_result, g_is_result := PySem.W.mg_of X G z_is_result,
    a__law_bag := a__law_bag, d__law_bag := _, f__law_bag := F__law_bag, b__law_bag := B__law_bag, g__law_bag := PySem.W.mg_of X G z__law_bag,
    a__law_stir := a__law_stir, d__law_stir := _, f__law_stir := F__law_stir, b__law_stir := B__law_stir, g__law_stir := PySem.W.mg_of X G z__law_stir,
    a__law_draw := a__law_draw, d__law_draw := _, f__law_draw := F__law_draw, b__law_draw := B__law_draw, g__law_draw := PySem.W.mg_of X G z__law_draw,
    a__law_shuffled := a__law_shuffled, d__law_shuffled := _, f__law_shuffled := F__law_shuffled, b__law_shuffled := B__law_shuffled, g__law_shuffled := PySem.W.mg_of X G z__law_shuffled,
    a__law_pattern := a__law_pattern, d__law_pattern := _, f__law_pattern := F__law_pattern, b__law_pattern := B__law_pattern, g__law_pattern := PySem.W.mg_of X G z__law_pattern,
    a__law_followed := a__law_followed, d__law_followed := _, f__law_followed := F__law_followed, b__law_followed := B__law_followed, g__law_followed := PySem.W.mg_of X G z__law_followed,
    a__law_late := a__law_late, d__law_late := _, f__law_late := F__law_late, b__law_late := B__law_late, g__law_late := PySem.W.mg_of X G z__law_late,
    a__law_most := a__law_most, d__law_most := _, f__law_most := F__law_most, b__law_most := B__law_most, g__law_most := PySem.W.mg_of X G z__law_most,
    a__law_right := a__law_right, d__law_right := _, f__law_right := F__law_right, b__law_right := B__law_right, g__law_right := PySem.W.mg_of X G z__law_right,
    a_law := fa, d_law := _, f_law := F_law, b_law := B_law, g_law := PySem.W.mg_of X G z_law } : Env K mg))
theorem walk {l : PySem.W.OpenLaw} {q : Program} {loose : List Str} {XP : (Str → Option Value) → Heap → Prop} {YP : World → Heap → Prop} {d : DefRec} {K : Params → PySem.W.Frag} (hn : l.most = some 63) (hdf : d.params.defaults = [])
    (hY : ∀ (w : World) (h : Heap), YP w h → (K w.params).In h)
    (F : ∀ (w : World) (mg : Str → Option Value) (fa : Addr) (h : Heap), (K w.params).In h → h.Ns mainGlobals mg → mg d.name = some (.ref fa) →
      ∃ fd : FuncData, (∀ (s : Shared) (u : Value), BindsTo s fd ⟨[u], []⟩ [("script", u)]) ∧ ∀ base : Heap, (K w.params).In base → base.Ns mainGlobals mg → FnOk l.prog w (K w.params) mg base CX0 9 fa fd ["script"] (sp_law (K w.params))) :
    PySem.W.WalkO q loose XP YP l.row.toRowW d [] (fun f vs => PySem.call f vs) :=
  L2.walk_of (n := 63) (k := 9) (x := "script") (CX := fun _ => CX0) (sp := fun w => sp_law (K w.params)) hn (by decide) hdf ⟨rfl, by decide, by decide⟩ hY F (fun _ _ a ns hl _ hS => ⟨a, ns, rfl, hS, hl, fun _ => rfl⟩) fun _ _ _ _ _ z => z
end LP
open PySem PySem.W PyProof.Rows
set_option maxRecDepth 100000 in
set_option maxHeartbeats 0 in
theorem PySem.Challenge.cw_leftreturn_k05_whole_schedules_and_pairs_holds : PySem.Challenge.rw_leftreturn_k05_whole_schedules_and_pairs.Holds := by
  w_on; o_law; k_head; (case hw => w_witness2)
  k_fill
  refine LP.walk (l := PySem.Challenge.rw_leftreturn_k05_whole_schedules_and_pairs) rfl rfl (fun w h Y => PySem.W.kIn_of Y) ?F
  case F =>
    intro w mg fa h KX G hmg
    refine' LP.all_mk KX G hmg ?z_len ?z_range ?z_list ?z_tuple ?z_int ?z_bool ?z_str ?z_isinstance ?z_min ?z_max ?z_sorted ?z_set ?z_all ?z_enumerate ?z_zip ?z_MOST_SIZE ?z_MOST_OPERATIONS ?z_MOST_PLACES ?z_GREATEST_PLACE ?z_heappush ?z_heappop ?z_combinations ?z_Shelf ?pg_Shelf ?hd_Shelf ?po_Shelf ?sa_Shelf ?mk_Shelf ?kc_Shelf ?nA_Shelf_books ?nA_Shelf_out ?z_is_whole ?l_is_whole ?c_is_whole ?k_is_whole ?z_is_listed ?l_is_listed ?c_is_listed ?k_is_listed ?z_check_size ?l_check_size ?c_check_size ?k_check_size ?z_is_place ?l_is_place ?c_is_place ?k_is_place ?z_is_place_list ?l_is_place_list ?c_is_place_list ?k_is_place_list ?z_check_places ?l_check_places ?c_check_places ?k_check_places ?z_check_same_places ?l_check_same_places ?c_check_same_places ?k_check_same_places ?z_check_pair ?l_check_pair ?c_check_pair ?k_check_pair ?z_is_pattern ?l_is_pattern ?c_is_pattern ?k_is_pattern ?z_check_pattern_for ?l_check_pattern_for ?c_check_pattern_for ?k_check_pattern_for ?z_Shelf_init ?i_Shelf_init ?l_Shelf_init ?c_Shelf_init ?k_Shelf_init ?z_Shelf_can_take ?i_Shelf_can_take ?l_Shelf_can_take ?c_Shelf_can_take ?k_Shelf_can_take ?z_Shelf_can_return ?i_Shelf_can_return ?l_Shelf_can_return ?c_Shelf_can_return ?k_Shelf_can_return ?z_Shelf_take_from ?i_Shelf_take_from ?l_Shelf_take_from ?c_Shelf_take_from ?k_Shelf_take_from ?z_Shelf_first_gap ?i_Shelf_first_gap ?l_Shelf_first_gap ?c_Shelf_first_gap ?k_Shelf_first_gap ?z_Shelf_put_back ?i_Shelf_put_back ?l_Shelf_put_back ?c_Shelf_put_back ?k_Shelf_put_back ?z_can_perform ?l_can_perform ?c_can_perform ?k_can_perform ?z_run_schedule ?l_run_schedule ?c_run_schedule ?k_run_schedule ?z_is_schedule ?l_is_schedule ?c_is_schedule ?k_is_schedule ?z_books_after ?l_books_after ?c_books_after ?k_books_after ?z_books_out ?l_books_out ?c_books_out ?k_books_out ?z_places_filled ?l_places_filled ?c_places_filled ?k_places_filled ?z_most_out ?l_most_out ?c_most_out ?k_most_out ?z_numbers_by_place ?l_numbers_by_place ?c_numbers_by_place ?k_numbers_by_place ?z_fill_times ?l_fill_times ?c_fill_times ?k_fill_times ?z_fills_by ?l_fills_by ?c_fills_by ?k_fills_by ?z_is_two ?l_is_two ?c_is_two ?k_is_two ?z_is_three ?l_is_three ?c_is_three ?k_is_three ?z_first_two ?l_first_two ?c_first_two ?k_first_two ?z_last_fill_between ?l_last_fill_between ?c_last_fill_between ?k_last_fill_between ?z_first_three ?l_first_three ?c_first_three ?k_first_three ?z_obstruction ?l_obstruction ?c_obstruction ?k_obstruction ?z_is_possible ?l_is_possible ?c_is_possible ?k_is_possible ?z_is_result ?l_is_result ?c_is_result ?k_is_result ?z__law_bag ?l__law_bag ?c__law_bag ?k__law_bag ?z__law_stir ?l__law_stir ?c__law_stir ?k__law_stir ?z__law_draw ?l__law_draw ?c__law_draw ?k__law_draw ?z__law_shuffled ?l__law_shuffled ?c__law_shuffled ?k__law_shuffled ?z__law_pattern ?l__law_pattern ?c__law_pattern ?k__law_pattern ?z__law_followed ?l__law_followed ?c__law_followed ?k__law_followed ?z__law_late ?l__law_late ?c__law_late ?k__law_late ?z__law_most ?l__law_most ?c__law_most ?k__law_most ?z__law_right ?l__law_right ?c__law_right ?k__law_right ?z_law ?l_law ?c_law ?k_law
    (case z_len => k_is)
    (case z_range => k_is)
    (case z_list => k_is)
    (case z_tuple => k_is)
    (case z_int => k_is)
    (case z_bool => k_is)
    (case z_str => k_is)
    (case z_isinstance => k_is)
    (case z_min => k_is)
    (case z_max => k_is)
    (case z_sorted => k_is)
    (case z_set => k_is)
    (case z_all => k_is)
    (case z_enumerate => k_is)
    (case z_zip => k_is)
    (case z_MOST_SIZE => k_is)
    (case z_MOST_OPERATIONS => k_is)
    (case z_MOST_PLACES => k_is)
    (case z_GREATEST_PLACE => k_is)
    (case z_heappush => k_is)
    (case z_heappop => k_is)
    (case z_combinations => k_is)
    (case z_Shelf => k_is)
    (case pg_Shelf => k_is)
    (case hd_Shelf => k_is)
    (case po_Shelf => k_is)
    (case sa_Shelf => k_is)
    (case mk_Shelf => k_is)
    (case kc_Shelf => k_is)
    (case nA_Shelf_books => k_is)
    (case nA_Shelf_out => k_is)
    (case z_is_whole => k_is)
    (case l_is_whole => k_is)
    (case c_is_whole => k_is)
    (case k_is_whole => k_is)
    (case z_is_listed => k_is)
    (case l_is_listed => k_is)
    (case c_is_listed => k_is)
    (case k_is_listed => k_is)
    (case z_check_size => k_is)
    (case l_check_size => k_is)
    (case c_check_size => k_is)
    (case k_check_size => k_is)
    (case z_is_place => k_is)
    (case l_is_place => k_is)
    (case c_is_place => k_is)
    (case k_is_place => k_is)
    (case z_is_place_list => k_is)
    (case l_is_place_list => k_is)
    (case c_is_place_list => k_is)
    (case k_is_place_list => k_is)
    (case z_check_places => k_is)
    (case l_check_places => k_is)
    (case c_check_places => k_is)
    (case k_check_places => k_is)
    (case z_check_same_places => k_is)
    (case l_check_same_places => k_is)
    (case c_check_same_places => k_is)
    (case k_check_same_places => k_is)
    (case z_check_pair => k_is)
    (case l_check_pair => k_is)
    (case c_check_pair => k_is)
    (case k_check_pair => k_is)
    (case z_is_pattern => k_is)
    (case l_is_pattern => k_is)
    (case c_is_pattern => k_is)
    (case k_is_pattern => k_is)
    (case z_check_pattern_for => k_is)
    (case l_check_pattern_for => k_is)
    (case c_check_pattern_for => k_is)
    (case k_check_pattern_for => k_is)
    (case z_Shelf_init => k_is)
    (case i_Shelf_init => k_is)
    (case l_Shelf_init => k_is)
    (case c_Shelf_init => k_is)
    (case k_Shelf_init => k_is)
    (case z_Shelf_can_take => k_is)
    (case i_Shelf_can_take => k_is)
    (case l_Shelf_can_take => k_is)
    (case c_Shelf_can_take => k_is)
    (case k_Shelf_can_take => k_is)
    (case z_Shelf_can_return => k_is)
    (case i_Shelf_can_return => k_is)
    (case l_Shelf_can_return => k_is)
    (case c_Shelf_can_return => k_is)
    (case k_Shelf_can_return => k_is)
    (case z_Shelf_take_from => k_is)
    (case i_Shelf_take_from => k_is)
    (case l_Shelf_take_from => k_is)
    (case c_Shelf_take_from => k_is)
    (case k_Shelf_take_from => k_is)
    (case z_Shelf_first_gap => k_is)
    (case i_Shelf_first_gap => k_is)
    (case l_Shelf_first_gap => k_is)
    (case c_Shelf_first_gap => k_is)
    (case k_Shelf_first_gap => k_is)
    (case z_Shelf_put_back => k_is)
    (case i_Shelf_put_back => k_is)
    (case l_Shelf_put_back => k_is)
    (case c_Shelf_put_back => k_is)
    (case k_Shelf_put_back => k_is)
    (case z_can_perform => k_is)
    (case l_can_perform => k_is)
    (case c_can_perform => k_is)
    (case k_can_perform => k_is)
    (case z_run_schedule => k_is)
    (case l_run_schedule => k_is)
    (case c_run_schedule => k_is)
    (case k_run_schedule => k_is)
    (case z_is_schedule => k_is)
    (case l_is_schedule => k_is)
    (case c_is_schedule => k_is)
    (case k_is_schedule => k_is)
    (case z_books_after => k_is)
    (case l_books_after => k_is)
    (case c_books_after => k_is)
    (case k_books_after => k_is)
    (case z_books_out => k_is)
    (case l_books_out => k_is)
    (case c_books_out => k_is)
    (case k_books_out => k_is)
    (case z_places_filled => k_is)
    (case l_places_filled => k_is)
    (case c_places_filled => k_is)
    (case k_places_filled => k_is)
    (case z_most_out => k_is)
    (case l_most_out => k_is)
    (case c_most_out => k_is)
    (case k_most_out => k_is)
    (case z_numbers_by_place => k_is)
    (case l_numbers_by_place => k_is)
    (case c_numbers_by_place => k_is)
    (case k_numbers_by_place => k_is)
    (case z_fill_times => k_is)
    (case l_fill_times => k_is)
    (case c_fill_times => k_is)
    (case k_fill_times => k_is)
    (case z_fills_by => k_is)
    (case l_fills_by => k_is)
    (case c_fills_by => k_is)
    (case k_fills_by => k_is)
    (case z_is_two => k_is)
    (case l_is_two => k_is)
    (case c_is_two => k_is)
    (case k_is_two => k_is)
    (case z_is_three => k_is)
    (case l_is_three => k_is)
    (case c_is_three => k_is)
    (case k_is_three => k_is)
    (case z_first_two => k_is)
    (case l_first_two => k_is)
    (case c_first_two => k_is)
    (case k_first_two => k_is)
    (case z_last_fill_between => k_is)
    (case l_last_fill_between => k_is)
    (case c_last_fill_between => k_is)
    (case k_last_fill_between => k_is)
    (case z_first_three => k_is)
    (case l_first_three => k_is)
    (case c_first_three => k_is)
    (case k_first_three => k_is)
    (case z_obstruction => k_is)
    (case l_obstruction => k_is)
    (case c_obstruction => k_is)
    (case k_obstruction => k_is)
    (case z_is_possible => k_is)
    (case l_is_possible => k_is)
    (case c_is_possible => k_is)
    (case k_is_possible => k_is)
    (case z_is_result => k_is)
    (case l_is_result => k_is)
    (case c_is_result => k_is)
    (case k_is_result => k_is)
    (case z__law_bag => k_is)
    (case l__law_bag => k_is)
    (case c__law_bag => k_is)
    (case k__law_bag => k_is)
    (case z__law_stir => k_is)
    (case l__law_stir => k_is)
    (case c__law_stir => k_is)
    (case k__law_stir => k_is)
    (case z__law_draw => k_is)
    (case l__law_draw => k_is)
    (case c__law_draw => k_is)
    (case k__law_draw => k_is)
    (case z__law_shuffled => k_is)
    (case l__law_shuffled => k_is)
    (case c__law_shuffled => k_is)
    (case k__law_shuffled => k_is)
    (case z__law_pattern => k_is)
    (case l__law_pattern => k_is)
    (case c__law_pattern => k_is)
    (case k__law_pattern => k_is)
    (case z__law_followed => k_is)
    (case l__law_followed => k_is)
    (case c__law_followed => k_is)
    (case k__law_followed => k_is)
    (case z__law_late => k_is)
    (case l__law_late => k_is)
    (case c__law_late => k_is)
    (case k__law_late => k_is)
    (case z__law_most => k_is)
    (case l__law_most => k_is)
    (case c__law_most => k_is)
    (case k__law_most => k_is)
    (case z__law_right => k_is)
    (case l__law_right => k_is)
    (case c__law_right => k_is)
    (case k__law_right => k_is)
    (case z_law => k_is)
    (case l_law => k_is)
    (case c_law => k_is)
    (case k_law => k_is)
