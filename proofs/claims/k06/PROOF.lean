import PyProof.Rows.All
import Wide.All
import OpenK.AllK
import Wide.FinOn
import HandS.ForMost
import HandS.IsInst
import HandS.Conv
import HandS.Style
import HandS.Wide
import HandS.SortInts
import HandS.ForExc
import HandS.SetFor
import HandS.Walk
import PyProof.ReprRoads
import PyProof.ReprLen
import KE.GoesMore
import KE.GoesZip
import HandS.Zip
import HandS.DictComp
import PyProof.TupleOfSeq
import HandS.RaiseMore
import HandS.Text
import HandS.Gcd
import PySem.Challenge.RW_leftreturn_k06_places_filled_by_patterns
set_option Elab.async false
set_option linter.all false
set_option maxRecDepth 100000
set_option maxHeartbeats 4000000
/-! patterns, times, orders: the mathematics -/
namespace LQ
abbrev Pat := List Bool
def tks (l : Pat) : Nat := l.count true
def fls (l : Pat) : Nat := l.count false
theorem tks_nil : tks [] = 0 := rfl
theorem fls_nil : fls [] = 0 := rfl
theorem tks_app (l m : Pat) : tks (l ++ m) = tks l + tks m := List.count_append
theorem fls_app (l m : Pat) : fls (l ++ m) = fls l + fls m := List.count_append
theorem tks_t (l : Pat) : tks (l ++ [true]) = tks l + 1 := tks_app l [true]
theorem tks_f (l : Pat) : tks (l ++ [false]) = tks l := tks_app l [false]
theorem fls_t (l : Pat) : fls (l ++ [true]) = fls l := fls_app l [true]
theorem fls_f (l : Pat) : fls (l ++ [false]) = fls l + 1 := fls_app l [false]
theorem len_pat : ∀ l : Pat, l.length = tks l + fls l
  | [] => rfl
  | true :: r => by have := len_pat r; simp [tks, fls] at *; omega
  | false :: r => by have := len_pat r; simp [tks, fls] at *; omega
theorem take_snoc {α : Type} {l : List α} {i : Nat} {b : α} (h : l[i]? = some b) : l.take (i + 1) = l.take i ++ [b] := by
  rw [List.take_add_one, h]; rfl
def Pre (l : Pat) : Prop := ∀ i, fls (l.take i) ≤ tks (l.take i)
theorem Pre.nil : Pre [] := fun i => by simp [tks, fls]
theorem Pre.snoc {l : Pat} {b : Bool} (h : Pre l) (hb : fls (l ++ [b]) ≤ tks (l ++ [b])) : Pre (l ++ [b]) := fun i => by
  by_cases c : i ≤ l.length
  · rw [List.take_append_of_le_length c]; exact h i
  · rw [List.take_of_length_le (by simp; omega)]; exact hb
theorem Pre.all {l : Pat} (h : Pre l) : fls l ≤ tks l := by
  have := h l.length
  rwa [List.take_length] at this
theorem tks_take (l : Pat) (i : Nat) : tks (l.take i) ≤ tks l := (List.take_sublist i l).count_le _
theorem fls_take (l : Pat) (i : Nat) : fls (l.take i) ≤ fls l := (List.take_sublist i l).count_le _
def Good (l : Pat) : Prop := Pre l ∧ fls l = tks l
def tm : Nat → Pat → List Nat
  | _, [] => []
  | t, true :: r => tm (t + 1) r
  | t, false :: r => t :: tm t r
theorem tm_app : ∀ (l m : Pat) (t : Nat), tm t (l ++ m) = tm t l ++ tm (t + tks l) m
  | [], m, t => by simp [tm, tks]
  | true :: r, m, t => by
    have := tm_app r m (t + 1)
    simp only [List.cons_append, tm, this]
    congr 2
    simp [tks]; omega
  | false :: r, m, t => by
    have := tm_app r m t
    simp only [List.cons_append, tm, this]
    congr 2
theorem tm_len : ∀ (l : Pat) (t : Nat), (tm t l).length = fls l
  | [], _ => rfl
  | true :: r, t => by rw [tm, tm_len r]; simp [fls]
  | false :: r, t => by rw [tm, List.length_cons, tm_len r]; simp [fls]
abbrev times (l : Pat) : List Nat := tm 0 l
theorem times_t (l : Pat) : times (l ++ [true]) = times l := by rw [times, tm_app]; simp [tm]
theorem times_f (l : Pat) : times (l ++ [false]) = times l ++ [tks l] := by rw [times, tm_app]; simp [tm]
theorem times_len (l : Pat) : (times l).length = fls l := tm_len l 0
theorem times_pre (l : Pat) (i : Nat) : ∃ m, times l = times (l.take i) ++ m := by
  refine ⟨tm (tks (l.take i)) (l.drop i), ?_⟩
  have h := tm_app (l.take i) (l.drop i) 0
  rw [List.take_append_drop, Nat.zero_add] at h
  exact h
/-- the time of the fill that stands at i -/
theorem times_at {l : Pat} {i : Nat} (h : l[i]? = some false) : (times l)[fls (l.take i)]? = some (tks (l.take i)) := by
  obtain ⟨m, e⟩ := times_pre l (i + 1)
  rw [e, take_snoc h, times_f, List.append_assoc, List.getElem?_append_right (by rw [times_len]; exact Nat.le_refl _), times_len, Nat.sub_self]
  rfl
theorem times_all {l : Pat} (h : Pre l) : (∀ j t, (times l)[j]? = some t → j < t ∧ t ≤ tks l) ∧ (times l).Pairwise (· ≤ ·) := by
  have H : ∀ i, i ≤ l.length → (∀ j t, (times (l.take i))[j]? = some t → j < t ∧ t ≤ tks (l.take i)) ∧ (times (l.take i)).Pairwise (· ≤ ·) := by
    intro i
    induction i with
    | zero => intro _; exact ⟨fun j t e => by simp [tm] at e, by simp [tm]⟩
    | succ i ih =>
      intro hi
      obtain ⟨ih1, ih2⟩ := ih (by omega)
      have hb : l[i]? = some l[i] := List.getElem?_eq_getElem (by omega)
      have hp := h (i + 1)
      rw [take_snoc hb] at hp ⊢
      generalize l[i] = b at hp hb
      cases b with
      | true =>
        rw [times_t, tks_t]
        exact ⟨fun j t e => let ⟨a, b⟩ := ih1 j t e; ⟨a, by omega⟩, ih2⟩
      | false =>
        rw [times_f, tks_f]
        rw [fls_f, tks_f] at hp
        refine ⟨fun j t e => ?_, ?_⟩
        · rw [List.getElem?_append] at e
          split at e
          · exact ih1 j t e
          · rename_i c
            rw [times_len] at c e
            cases q : j - fls (l.take i) with
            | zero => rw [q] at e; cases e; omega
            | succ k => rw [q] at e; simp at e
        · rw [List.pairwise_append]
          refine ⟨ih2, by simp, fun a ha b hb => ?_⟩
          rw [List.mem_singleton] at hb; subst hb
          obtain ⟨j, e⟩ := List.mem_iff_getElem?.mp ha
          exact (ih1 j a e).2
  have := H l.length (Nat.le_refl _)
  rwa [List.take_length] at this
def ways : Nat → List Nat → Int
  | _, [] => 1
  | j, t :: r => ((t : Int) - (j : Nat)) * ways (j + 1) r
theorem ways_snoc : ∀ (ts : List Nat) (j t : Nat), ways j (ts ++ [t]) = ways j ts * ((t : Int) - ((j + ts.length : Nat) : Int))
  | [], j, t => by simp [ways]
  | u :: r, j, t => by
    simp only [List.cons_append, ways, ways_snoc r (j + 1) t, List.length_cons]
    rw [show j + 1 + r.length = j + (r.length + 1) by omega, Int.mul_assoc]
theorem ways_bound : ∀ (ts : List Nat) (j n : Nat), (∀ i t, ts[i]? = some t → j + i < t ∧ t ≤ n) → 0 ≤ ways j ts ∧ ways j ts ≤ (n : Int) ^ ts.length
  | [], j, n, _ => by simp [ways]
  | t :: r, j, n, h => by
    have h0 := h 0 t rfl
    obtain ⟨a, b⟩ := ways_bound r (j + 1) n fun i u e => by have := h (i + 1) u e; omega
    rw [ways, List.length_cons, Int.pow_succ]
    refine ⟨Int.mul_nonneg (by omega) a, ?_⟩
    rw [Int.mul_comm ((n : Int) ^ r.length)]
    exact Int.mul_le_mul (by omega) b a (by omega)
/-! ### orders, and those that can be -/
def dueP (tk : List Int) (ts : List Nat) (bs : List Int) : Bool := (bs.zip ts).all fun p => decide (p.1 ∈ tk.take p.2)
def orders (items : List Int) : Nat → List (List Int)
  | 0 => [[]]
  | k + 1 => (orders items k).flatMap fun row => (items.filter fun x => decide (x ∉ row)).map fun x => row ++ [x]
theorem orders_mem {items : List Int} : ∀ {k : Nat} {r : List Int}, r ∈ orders items k → r.length = k ∧ r.Nodup ∧ ∀ x ∈ r, x ∈ items
  | 0, r, h => by
    rw [orders, List.mem_singleton] at h; subst h
    exact ⟨rfl, List.nodup_nil, fun x hx => by cases hx⟩
  | k + 1, r, h => by
    rw [orders, List.mem_flatMap] at h
    obtain ⟨row, h1, h2⟩ := h
    rw [List.mem_map] at h2
    obtain ⟨x, h3, rfl⟩ := h2
    rw [List.mem_filter, decide_eq_true_iff] at h3
    obtain ⟨a, b, c⟩ := orders_mem h1
    refine ⟨by simp [a], ?_, fun y hy => ?_⟩
    · rw [List.nodup_append]
      refine ⟨b, by simp, fun y hy z hz => ?_⟩
      rw [List.mem_singleton] at hz; subst hz
      rintro rfl; exact h3.2 hy
    · rw [List.mem_append, List.mem_singleton] at hy
      rcases hy with hy | rfl
      · exact c y hy
      · exact h3.1
theorem perm_of_subset {l m : List Int} (h1 : l.Nodup) (h2 : m.Nodup) (hs : ∀ x ∈ l, x ∈ m) (hl : l.length = m.length) : l.Perm m := by
  refine (List.perm_ext_iff_of_nodup h1 h2).mpr fun a => ⟨hs a, fun ha => ?_⟩
  by_cases q : a ∈ l
  · exact q
  · exfalso
    have hn : (a :: l).Nodup := List.nodup_cons.mpr ⟨q, h1⟩
    have := List.Nodup.length_le_of_subset hn (l₂ := m) (fun x hx => by
      rcases List.mem_cons.mp hx with rfl | hx
      · exact ha
      · exact hs x hx)
    rw [List.length_cons] at this; omega
theorem orders_perm {items : List Int} (nd : items.Nodup) {r : List Int} (h : r ∈ orders items items.length) : r.Perm items := by
  obtain ⟨a, b, c⟩ := orders_mem h
  exact perm_of_subset b nd c a
theorem sum_flat {α β : Type} (f : α → List β) (d : α → Bool) (c : Nat) : ∀ L : List α, (∀ r ∈ L, (f r).length = if d r = true then c else 0) → (L.flatMap f).length = c * (L.filter d).length
  | [], _ => by simp
  | r :: L, h => by
    rw [List.flatMap_cons, List.length_append, h r List.mem_cons_self, sum_flat f d c L fun r hr => h r (List.mem_cons_of_mem _ hr), List.filter_cons]
    by_cases q : d r = true
    · rw [if_pos q, if_pos q, List.length_cons, Nat.mul_succ]; omega
    · rw [if_neg q, if_neg q]; omega
theorem len_split {α : Type} (p : α → Bool) : ∀ l : List α, l.length = (l.filter p).length + (l.filter fun x => !p x).length
  | [] => rfl
  | a :: r => by
    have := len_split p r
    cases q : p a <;> simp [List.filter_cons, q] <;> omega
theorem filter_split {items row : List Int} {t : Nat} (nd : items.Nodup) (nr : row.Nodup) (ht : t ≤ items.length) (hr : ∀ x ∈ row, x ∈ items.take t) :
    ((items.filter fun x => decide (x ∉ row)).filter fun x => decide (x ∈ items.take t)).length = t - row.length := by
  rw [List.filter_filter]
  have e : items.filter (fun a => decide (a ∈ items.take t) && decide (a ∉ row)) = (items.take t).filter fun a => decide (a ∉ row) := by
    conv => lhs; rw [← List.take_append_drop t items]
    rw [List.filter_append]
    have nd2 := nd
    rw [← List.take_append_drop t items, List.nodup_append] at nd2
    have z : (items.drop t).filter (fun a => decide (a ∈ (items.take t ++ items.drop t).take t) && decide (a ∉ row)) = [] := by
      rw [List.filter_eq_nil_iff]
      intro a ha q
      rw [Bool.and_eq_true, decide_eq_true_iff, List.take_append_drop] at q
      exact nd2.2.2 a q.1 a ha rfl
    rw [z, List.append_nil]
    refine List.filter_congr fun a ha => ?_
    rw [List.take_append_drop, decide_eq_true ha, Bool.true_and]
  rw [e]
  have nt : (items.take t).Nodup := nd.sublist (List.take_sublist _ _)
  have p : ((items.take t).filter fun a => decide (a ∈ row)).Perm row := by
    refine (List.perm_ext_iff_of_nodup (nt.filter _) nr).mpr fun a => ?_
    rw [List.mem_filter, decide_eq_true_iff]
    exact ⟨fun q => q.2, fun q => ⟨hr a q, q⟩⟩
  have s := len_split (fun a => decide (a ∈ row)) (items.take t)
  rw [p.length_eq, List.length_take, Nat.min_eq_left ht] at s
  have e2 : ((items.take t).filter fun x => !decide (x ∈ row)) = (items.take t).filter fun a => decide (a ∉ row) := by
    refine List.filter_congr fun a _ => ?_
    by_cases q : a ∈ row <;> simp [q]
  rw [e2] at s
  omega
theorem dueP_snoc {tk : List Int} {ts : List Nat} {row : List Int} {x : Int} {t : Nat} (h : ts[row.length]? = some t) : dueP tk ts (row ++ [x]) = (dueP tk ts row && decide (x ∈ tk.take t)) := by
  unfold dueP
  have e : (row ++ [x]).zip ts = row.zip ts ++ [(x, t)] := by
    have hl := (List.getElem?_eq_some_iff.mp h).1
    have e1 : ts = ts.take row.length ++ t :: ts.drop (row.length + 1) := by
      conv => lhs; rw [← List.take_append_drop row.length ts]
      congr 1
      rw [List.drop_eq_getElem_cons hl]
      congr 1
      exact (List.getElem?_eq_some_iff.mp h).2
    conv => lhs; rw [e1]
    rw [List.zip_append (by rw [List.length_take]; omega)]
    have e3 : row.zip ts = row.zip (ts.take row.length) := by
      have q : row.zip ts = (row ++ []).zip (ts.take row.length ++ t :: ts.drop (row.length + 1)) := by rw [List.append_nil, ← e1]
      rw [q, List.zip_append (by rw [List.length_take]; omega)]
      simp
    rw [e3]
    simp
  rw [e, List.all_append]
  simp
theorem due_sub {tk : List Int} {ts : List Nat} {row : List Int} {t : Nat} (hd : dueP tk ts row = true) (hl : row.length ≤ ts.length) (hm : ∀ j u, j < row.length → ts[j]? = some u → u ≤ t) : ∀ x ∈ row, x ∈ tk.take t := by
  intro x hx
  obtain ⟨j, hj, rfl⟩ := List.mem_iff_getElem.mp hx
  have hu : ts[j]? = some ts[j] := List.getElem?_eq_getElem (by omega)
  have hz : (row.zip ts)[j]? = some (row[j], ts[j]) := List.getElem?_zip_eq_some.mpr ⟨List.getElem?_eq_getElem hj, hu⟩
  have := List.all_eq_true.mp hd _ (List.mem_of_getElem? hz)
  rw [decide_eq_true_iff] at this
  exact (List.take_subset_take_left _ (hm j _ hj hu)) this
theorem count_due {items : List Int} {ts : List Nat} (nd : items.Nodup) (hts : ∀ j t, ts[j]? = some t → j < t ∧ t ≤ items.length) (mono : ts.Pairwise (· ≤ ·)) :
    ∀ k, k ≤ ts.length → (((orders items k).filter (dueP items ts)).length : Int) = ways 0 (ts.take k)
  | 0, _ => by rw [List.take_zero]; rfl
  | k + 1, hk => by
    have ih := count_due nd hts mono k (by omega)
    have ht : ts[k]? = some ts[k] := List.getElem?_eq_getElem (by omega)
    generalize ts[k] = t at ht
    obtain ⟨h1, h2⟩ := hts k t ht
    rw [take_snoc ht, ways_snoc, ← ih, List.length_take, Nat.min_eq_left (by omega), Nat.zero_add, orders, List.filter_flatMap,
      sum_flat _ (dueP items ts) (t - k) (orders items k) fun row hr => ?_]
    · rw [Int.natCast_mul, Int.mul_comm]
      congr 1
      omega
    · obtain ⟨a, b, c⟩ := orders_mem hr
      have e : ∀ L : List Int, ((L.map fun x => row ++ [x]).filter (dueP items ts)).length = if dueP items ts row = true then (L.filter fun x => decide (x ∈ items.take t)).length else 0 := by
        intro L
        rw [List.filter_map, List.length_map]
        by_cases q : dueP items ts row = true
        · rw [if_pos q]
          congr 2
          funext x
          show dueP items ts (row ++ [x]) = _
          rw [dueP_snoc (t := t) (by rw [a]; exact ht), q, Bool.true_and]
        · rw [if_neg q, List.length_eq_zero_iff, List.filter_eq_nil_iff]
          intro x _ z
          replace z : dueP items ts (row ++ [x]) = true := z
          rw [dueP_snoc (t := t) (by rw [a]; exact ht), Bool.and_eq_true] at z
          exact q z.1
      rw [e]
      by_cases q : dueP items ts row = true
      · rw [if_pos q, if_pos q, filter_split nd b h2 (due_sub q (by omega) fun j u hj hu => ?_), a]
        have hk2 := (List.getElem?_eq_some_iff.mp ht)
        have hj2 := (List.getElem?_eq_some_iff.mp hu)
        have := List.pairwise_iff_getElem.mp mono j k hj2.1 hk2.1 (by omega)
        rw [hj2.2, hk2.2] at this
        exact this
      · rw [if_neg q, if_neg q]
/-- the pattern's number of orders: the product -/
theorem orders_count {items : List Int} {l : Pat} (nd : items.Nodup) (g : Good l) (hn : tks l = items.length) : (((orders items items.length).filter (dueP items (times l))).length : Int) = ways 0 (times l) := by
  obtain ⟨h1, h2⟩ := times_all g.1
  have hl : (times l).length = items.length := by rw [times_len, g.2, hn]
  have := count_due nd (fun j t e => by have := h1 j t e; omega) h2 items.length (by omega)
  rw [← hl, List.take_length, hl] at this
  exact this
theorem idx_take {l : List Int} {x : Int} {t : Nat} (ht : t ≤ l.length) : decide (l.idxOf x < t) = decide (x ∈ l.take t) := by
  refine decide_eq_decide.mpr ⟨fun h => ?_, fun h => ?_⟩
  · rw [List.mem_take_iff_getElem]
    have h2 : l.idxOf x < l.length := by omega
    exact ⟨l.idxOf x, by omega, List.getElem_idxOf h2⟩
  · obtain ⟨j, hj, e⟩ := List.mem_take_iff_getElem.mp h
    have : l.idxOf x ≤ j := by
      apply Nat.le_of_not_lt
      intro q
      have := List.not_of_lt_findIdx (p := (· == x)) (xs := l) q
      rw [e] at this
      simp at this
    omega
theorem swap_perm {l : List Int} {i j : Nat} {a b : Int} (hi : l[i]? = some a) (hj : l[j]? = some b) : ((l.set i b).set j a).Perm l := by
  obtain ⟨h1, rfl⟩ := List.getElem?_eq_some_iff.mp hi
  obtain ⟨h2, rfl⟩ := List.getElem?_eq_some_iff.mp hj
  exact List.set_set_perm h1 h2
end LQ

namespace LQ
/-! the places that a pattern fills -/
def mn : List Int → Int
  | [] => 0
  | [a] => a
  | a :: b :: r => if a ≤ mn (b :: r) then a else mn (b :: r)
theorem mn_ok : ∀ {l : List Int}, l ≠ [] → mn l ∈ l ∧ ∀ x ∈ l, mn l ≤ x
  | [], h => absurd rfl h
  | [a], _ => ⟨List.mem_singleton.mpr rfl, fun x hx => by rw [List.mem_singleton] at hx; subst hx; exact Int.le_refl _⟩
  | a :: b :: r, _ => by
    obtain ⟨h1, h2⟩ := mn_ok (l := b :: r) (by simp)
    rw [mn]
    by_cases c : a ≤ mn (b :: r)
    · rw [if_pos c]
      exact ⟨List.mem_cons_self, fun x hx => by
        rcases List.mem_cons.mp hx with rfl | hx
        · exact Int.le_refl _
        · exact Int.le_trans c (h2 x hx)⟩
    · rw [if_neg c]
      exact ⟨List.mem_cons_of_mem _ h1, fun x hx => by
        rcases List.mem_cons.mp hx with rfl | hx
        · omega
        · exact h2 x hx⟩
theorem mn_eq {l : List Int} {m : Int} (h : m ∈ l) (h2 : ∀ x ∈ l, m ≤ x) : m = mn l := by
  obtain ⟨a, b⟩ := mn_ok (l := l) (fun e => by subst e; cases h)
  exact Int.le_antisymm (h2 _ a) (b _ h)
structure Sh where
  at_ : Nat
  gaps : List Int
  fills : List Int
def stp (tk : List Int) (s : Sh) (b : Bool) : Sh := if b = true then ⟨s.at_ + 1, s.gaps ++ (tk[s.at_]?).toList, s.fills⟩ else ⟨s.at_, s.gaps.erase (mn s.gaps), s.fills ++ [mn s.gaps]⟩
def run (tk : List Int) (l : Pat) : Sh := l.foldl (stp tk) ⟨0, [], []⟩
theorem run_snoc (tk : List Int) (l : Pat) (b : Bool) : run tk (l ++ [b]) = stp tk (run tk l) b := by unfold run; rw [List.foldl_append]; rfl
theorem run_nil (tk : List Int) : run tk [] = ⟨0, [], []⟩ := rfl
/-- what has been kept after a part of a pattern -/
theorem run_ok {tk : List Int} {l : Pat} (h : Pre l) (hl : tks l ≤ tk.length) : ∀ i, i ≤ l.length → (run tk (l.take i)).at_ = tks (l.take i) ∧ (run tk (l.take i)).fills.length = fls (l.take i) ∧ ((run tk (l.take i)).gaps ++ (run tk (l.take i)).fills).Perm (tk.take (tks (l.take i)))
  | 0, _ => by rw [List.take_zero]; exact ⟨rfl, rfl, List.Perm.refl _⟩
  | i + 1, hi => by
    obtain ⟨a, b, c⟩ := run_ok h hl i (by omega)
    have hb : l[i]? = some l[i] := List.getElem?_eq_getElem (by omega)
    have hp := h (i + 1)
    have ht := tks_take l (i + 1)
    rw [take_snoc hb] at hp ht ⊢
    generalize l[i] = x at hp ht hb
    rw [run_snoc]
    cases x with
    | true =>
      rw [tks_t] at ht
      have hx := List.getElem?_eq_getElem (l := tk) (i := tks (l.take i)) (by omega)
      rw [tks_t, fls_t]
      refine ⟨congrArg (· + 1) a, b, ?_⟩
      show (((run tk (l.take i)).gaps ++ (tk[(run tk (l.take i)).at_]?).toList) ++ (run tk (l.take i)).fills).Perm _
      rw [a, hx, take_snoc hx]
      show (((run tk (l.take i)).gaps ++ [_]) ++ (run tk (l.take i)).fills).Perm _
      rw [List.append_assoc]
      refine List.Perm.trans (List.perm_append_comm_assoc _ [_] _) ?_
      exact (List.perm_append_comm (l₁ := [_])).trans (c.append_right _)
    | false =>
      rw [fls_f, tks_f] at hp
      rw [tks_f, fls_f]
      have hlen := c.length_eq
      rw [List.length_append, List.length_take, b] at hlen
      have hne : (run tk (l.take i)).gaps ≠ [] := fun e => by
        rw [e] at hlen
        have := tks_take l i
        simp at hlen; omega
      refine ⟨a, by show ((run tk (l.take i)).fills ++ [_]).length = _; rw [List.length_append, b]; rfl, ?_⟩
      show ((run tk (l.take i)).gaps.erase (mn (run tk (l.take i)).gaps) ++ ((run tk (l.take i)).fills ++ [mn (run tk (l.take i)).gaps])).Perm _
      refine List.Perm.trans ?_ c
      rw [← List.append_assoc]
      refine (List.perm_append_singleton _ _).trans ?_
      exact (List.perm_cons_erase (mn_ok hne).1).symm.append_right _
/-- the places that the pattern fills from the list tk -/
def fillsOf (tk : List Int) (l : Pat) : List Int := (run tk l).fills
theorem fills_perm {tk : List Int} {l : Pat} (g : Good l) (hl : tks l = tk.length) : (fillsOf tk l).Perm tk := by
  obtain ⟨a, b, c⟩ := run_ok g.1 (Nat.le_of_eq hl) l.length (Nat.le_refl _)
  rw [List.take_length] at a b c
  rw [hl, List.take_length] at c
  have h := c.length_eq
  rw [List.length_append, b, g.2, hl] at h
  have e : (run tk l).gaps = [] := List.length_eq_zero_iff.mp (by omega)
  rw [e] at c
  exact c
end LQ

/-! defs that may be run only where no repr is under way: the promise FnG beside FnOk; repr of data -/
namespace LG
open PySem PySem.Spec PyProof.Rows L2
structure FnG (P : Program) (w : World) (K : PySem.W.Frag) (mg : Str → Option Value) (base : Heap) (CX : CXT) (k : Nat) (f : Addr) (fd : FuncData) (ps : List Str) (sp : Sp) : Prop where
  arity : ∀ vs H Q E, sp vs H Q E → vs.length = ps.length
  does : ∀ (A : Around) (out : List Env) (s : Shared) (H : Hp) (ar : Args) (us : List Value) (vs : List V) (Q : VK) (E : XK), A.guards = some [] →
    Room k A → Env0 P w K mg base A out s H → BindsTo s fd ar (ps.zip us) → Vals vs us → sp vs H Q E → codeAny (model P w) A (.call (.ref f) ar) (CR CX out P w H s Q E) s
section
variable {P : Program} {w : World} {K : PySem.W.Frag} {mg : Str → Option Value} {base : Heap} {CX : CXT}
theorem FnG.up {j k : Nat} {f : Addr} {fd : FuncData} {ps : List Str} {sp : Sp} (F : FnG P w K mg base CX j f fd ps sp) (h : j ≤ k) : FnG P w K mg base CX k f fd ps sp :=
  ⟨F.arity, fun A out s H ar us vs Q E hg hr => F.does A out s H ar us vs Q E hg (hr.mono h)⟩
theorem fnG_of {k : Nat} {f : Addr} {name qual : Str} {params : Arguments} {body : List Stmt} {scope : Scope} {dV kV doc pm cdv ct oc : Value} {an od : Option Addr} {osl : Array (Option Value)} {N ps : List Str} {sp : Sp}
    (lk : K.lookup f = some ⟨oc, od, .func (PySem.W.fnOf name qual params body scope dV kV doc pm an cdv ct), osl⟩) (cd : PySem.W.codeIn K cdv qual = true) (S : FnScope N ps scope) (ar : ∀ vs H Q E, sp vs H Q E → vs.length = ps.length)
    (hb : ∀ (A : Around) (out : List Env) (s : Shared) (H : Hp) (vs : List V) (Q : VK) (E : XK), A.guards = some [] → Room k (A.deeper (envOfC qual scope s.heap.objs.size f cdv)) → sp vs H Q E →
      ∃ t, PSs (cxOf CX P w K mg base N qual scope f cdv A out s H E) body t ∧ t ⟨fun _ H1 => Q .non H1, Q, fun _ _ => False, fun _ _ => False⟩ (start N vs) H) :
    FnG P w K mg base CX (k + 1) f (PySem.W.fnOf name qual params body scope dV kV doc pm an cdv ct) ps sp := by
  constructor
  · exact ar
  intro A out s H args us vs Q E hgd hr e0 bnd rel want
  obtain ⟨t, der, wish⟩ := hb A out s H vs Q E hgd (hr.deeper _) want
  have old := fun b o (e : base.get? b = some o) => (e0.bs b o e).1
  have kin : K.In s.heap := e0.mod.kin.keeps old
  have slots : ∀ y ∈ ps.zip us, scope.names.lookup y.1 = some .local ∨ scope.names.lookup y.1 = some .cell ∧ ((cellsFrom (s.heap.objs.size + 1) scope.names []).lookup y.1).isSome = true := by
    rintro ⟨nm, v⟩ mem
    have z := S.par nm (List.of_mem_zip mem).1
    exact z.imp id fun c => ⟨c, PySem.W.cellsFrom_some _ _ _ (Or.inl c)⟩
  apply codeAny_call_function hr.depth (kin _ _ lk) rfl S.co S.gen rfl (PySem.W.codeRec_of kin cd)
  apply bnd
  apply wpAny_newFunctionEnv_cells S.kind slots
  rintro env rfl s1 inC
  refine ⟨(e0.mod.nolimit.keeps old).keeps inC.toInCall.keep, ?_⟩
  apply codeAny_func
  have J := inv_start (CX := CX) (E := E) S hr.hd e0 (ar _ _ _ _ want) rel inC
  apply wpAny_mono (der.run [] s1 (start N vs) H _ J wish)
  · intro fl s2 got
    cases fl with
    | next => obtain ⟨σ2, H2, J2, q⟩ := got; exact ⟨V.non, H2, J2.os, J2.bare, J2.base, J2.hok, rfl, q⟩
    | ret u => obtain ⟨v, σ2, H2, J2, rv, q⟩ := got; exact ⟨v, H2, J2.os, J2.bare, J2.base, J2.hok, rv, q⟩
    | brk => obtain ⟨_, _, _, q⟩ := got; exact q.elim
    | cont => obtain ⟨_, _, _, q⟩ := got; exact q.elim
  · exact fun _ _ z => z
/-- a def of the text by its body, where nothing is raised -/
theorem okG {x qual : Str} {st : Stmt} {f : Addr} {fd : FuncData} {N ps : List Str} {k : Nat} {sp : Sp} (F : Fun K x qual st f fd) (S : FnScope N ps (defScope st)) (ar : ∀ vs H Q E, sp vs H Q E → vs.length = ps.length)
    (hb : ∀ (cdv : Value) (A : Around) (out : List Env) (s : Shared) (H : Hp) (vs : List V) (Q : VK) (E : XK), A.guards = some [] → Room k (A.deeper (envOfC qual (defScope st) s.heap.objs.size f cdv)) → sp vs H Q E →
      ∃ t, PSs (cxOf CX0 P w K mg base N qual (defScope st) f cdv A out s H E).nox (defBody st) t ∧ t ⟨fun _ H1 => Q .non H1, Q, fun _ _ => False, fun _ _ => False⟩ (start N vs) H) : FnG P w K mg base CX0 (k + 1) f fd ps sp := by
  obtain ⟨oc, od, kV, doc, pm, an, cdv, ct, osl, rfl, lk, cd⟩ := F.ex
  refine fnG_of lk cd S ar fun A out s H vs Q E hgd hr want => ?_
  obtain ⟨t, der, wish⟩ := hb cdv A out s H vs Q E hgd hr want
  exact ⟨t, der.nox, wish⟩
theorem of_ok {k : Nat} {f : Addr} {fd : FuncData} {ps : List Str} {sp : Sp} (F : FnOk P w K mg base CX k f fd ps sp) : FnG P w K mg base CX k f fd ps sp :=
  ⟨F.len, fun A out s H ar us vs Q E _ hr => F.run A out s H ar us vs Q E hr⟩
end
section
variable {X : Cx} {CX : CXT} {k : Nat} {f : Addr} {fd : FuncData} {ps : List Str} {sp : Sp} {dvs : List V} {ds : List Value} {E : XK} {x : Str} {p pos : Pos} {e : Expr} {es : List Expr} {t : TA}
/-- f(e, ..), f such a def -/
theorem pe_callG (F : FnG X.prog X.w X.K X.mg X.base CX k f fd ps sp) (hgd : X.A.guards = some []) (hr : Room k X.A) (hg : Gl X x) (hm : X.mg x = some (.ref f)) (hk : PySem.W.keepIn X.K (.ref f) = true) (hb : Binds X.K fd ps ds) (hd : Vals dvs ds) (hx : Passes CX X E)
    (ha : PA X (e :: es) t) (hdb : (x == ("__debug__" : Str)) = false := by decide) (he : starEach (e :: es) X.env = (false, eval e X.env) :: starEach es X.env := by rfl) (hpl : (backTo pos (starEach es X.env)).any (·.1) = false := by rfl) :
    PE X (.Call (.Name x p) (e :: es) [] pos) (tCall sp dvs E t) := by
  constructor
  intro pins s σ H Q I want
  apply wpAny_Call_Name_kw (ld_glob I hg hm _ hdb)
  apply PySem.W.callWith_K (h₀ := X.base) I.ok.mod.kin hk (thn (ha.run pos pins s σ H _ I want) _) he hpl
  rintro us s1 ⟨vs, H1, J, rel, q⟩
  have rel2 : Vals (vs ++ dvs) (us ++ ds) := rel.append hd
  have len : (us ++ ds).length = ps.length := rel2.length.symm.trans (F.arity _ _ _ _ q)
  refine ⟨J.kIn, wpAny_call (codeAny_mono (F.does X.A X.stack s1 H1 ⟨us, []⟩ _ _ Q E hgd hr J.env0 (hb s1 us J.kIn len) rel2 q) ?_)⟩
  intro r s2 got
  match r, got with
  | .error err, got => exact hx pins σ H1 s1 err s2 J got
  | .ok (.ret u), got => exact J.after got
  | .ok .next, got => exact got.elim
  | .ok .brk, got => exact got.elim
  | .ok .cont, got => exact got.elim
/-- repr of a list or a tuple of data -/
def rRepr (K : PySem.W.Frag) : List V → Hp → VK → Prop := fun xs H Q => ∃ (a : Addr) (d : PyData), xs = [.ref a] ∧ Dp K H (.ref a) d ∧ d.showable = true ∧ SeqAt.shaped d = true ∧ d.shown.length ≤ sizeLine ∧ Q (.str d.shown) H
theorem call_repr (hgd : X.A.guards = some []) (hu : X.A.units + 66 < cLine) : CallR X (.builtin "repr") (rRepr X.K) := by
  rintro pins s σ H xs us Q I rel ⟨a, d, rfl, hd, sh, sp, len, q⟩
  obtain ⟨u, rfl, ru⟩ := vals1 rel
  obtain ⟨as, rd⟩ := Dp.reads I d (.ref a) u hd ru
  cases ru
  have dep := SeqAt.depth_of_shaped sp
  refine repr_of_reads' rd sh (PyData.noDict_hsm (PyData.hasDict_of_canLay d (SeqAt.canLay_of_shaped sp))) hgd (by omega) (fun _ _ z => z) (fun h1 u1 tk keep => ?_) len
  exact ⟨.str d.shown, H, I.kept keep, ⟨_, rfl⟩, q⟩
end
/-! the end of a law's row -/
theorem law_callG {P : Program} {w : World} {K : PySem.W.Frag} {mg mb : Str → Option Value} {k : Nat} {fa a : Addr} {fd : FuncData} {x : Str} {sp : Sp} {s : Shared} {vs : List Value} {ns : List Int}
    (kin : K.In s.heap) (gns : s.heap.Ns mainGlobals mg) (bns : s.heap.Ns builtinsNs mb) (hbb : ∀ x : Str, x ≠ "__name__" → mb x = bootBuiltins x) (lim : s.heap.NoLimit) (gens : s.gens = #[])
    (obj : s.heap.get? a = some { cls := .type "list", data := .seq vs.toArray }) (hin : IntsAre vs ns) (len : ns.length ≤ sizeLine) (hr : Room k callerA)
    (F : ∀ base : Heap, K.In base → base.Ns mainGlobals mg → FnG P w K mg base CX0 k fa fd [x] sp) (bnd : ∀ (s : Shared) (u : Value), BindsTo s fd ⟨[u], []⟩ [(x, u)])
    (want : ∀ H : Hp, Only H → SqL K H a (ns.map V.int) → sp [.ref a] H (fun v _ => v = .bl true) fun _ _ _ => False) :
    codeAny (model P w) callerA (.call (.ref fa) ⟨[.ref a], []⟩) (fun r s1 => r = .ok (.ret (.bool true)) ∧ OldK s.heap s1.heap ∧ s1.os = s.os ∧ AllBare s1.gens) s := by
  have rel := vals_ints hin
  have nlen := hin.length
  obtain ⟨H, hH⟩ : ∃ H : Hp, ∀ b, H b = if b = a ∧ K.lookup a = none then some (.frz { cls := .type "list", data := .seq vs.toArray } (.lst (ns.map V.int))) else none := ⟨_, fun b => rfl⟩
  have off : ∀ {b o}, s.heap.get? b = some o → (b = a → K.lookup a ≠ none) → H b = none := fun {b o} _ hne => by
    rw [hH, if_neg fun z => hne z.1 z.2]
  have at_ : ∀ b u, H b = some u → b = a ∧ K.lookup a = none ∧ u = .frz { cls := .type "list", data := .seq vs.toArray } (.lst (ns.map V.int)) := fun b u z => by
    rw [hH] at z
    by_cases c : b = a ∧ K.lookup a = none
    · rw [if_pos c] at z; exact ⟨c.1, c.2, (Option.some.inj z).symm⟩
    · rw [if_neg c] at z; cases z
  have only : Only H := fun b => by
    cases z : H b with
    | none => exact Or.inl rfl
    | some u => obtain ⟨_, _, rfl⟩ := at_ b u z; exact Or.inr ⟨_, _, rfl⟩
  have seq : SqL K H a (ns.map V.int) := by
    cases z : K.lookup a with
    | none => exact Or.inl (Or.inr ⟨_, by rw [hH, if_pos ⟨rfl, z⟩]⟩)
    | some o =>
      have e := kin a o z
      rw [obj] at e
      cases e
      exact Or.inr ⟨_, vs.toArray, _, z, rfl, rfl, rfl, by rw [List.size_toArray, nlen]; exact len, by simpa using rel⟩
  have hok : HOk P w H s.heap := fun b u z => by
    obtain ⟨rfl, _, rfl⟩ := at_ b u z
    exact ⟨obj, by rw [List.length_map]; exact len, vs, _, rel, obj⟩
  have kept : ∀ {b o}, s.heap.get? b = some o → H b = none → (hidT s.heap H).get? b = some o := fun e z => hidT_get e z
  have dicts : ∀ {b o es n}, s.heap.get? b = some o → o.data = .dict es n → H b = none := fun {b o es n} e d => off e fun q => by
    rw [q, obj] at e
    cases e
    have d2 : Data.seq vs.toArray _ = Data.dict es n := d
    cases d2
  have names : ∀ {b m}, s.heap.Ns b m → (hidT s.heap H).Ns b m := fun ⟨o, es, n, e, d, r⟩ => ⟨o, es, n, kept e (dicts e d), d, r⟩
  have kin2 : K.In (hidT s.heap H) := fun b o e => kept (kin b o e) (off (kin b o e) fun q => by rw [← q, e]; exact fun z => nomatch z)
  have lim2 : (hidT s.heap H).NoLimit := let ⟨mc, l1, l2⟩ := lim; ⟨mc, names l1, l2⟩
  have e0 : Env0 P w K mg (hidT s.heap H) callerA [] s H := ⟨rfl, ⟨kin2, names gns, ⟨mb, names bns, hbb⟩, lim2⟩, fun b o e => of_hidT e, Nat.le_of_eq (hidT_size _ _), trivial, fun b m => (by cases (show b ∈ ([] : List Addr) from m)), hok, .of_eq gens⟩
  refine codeAny_mono ((F _ kin2 (names gns)).does callerA [] s H ⟨[.ref a], []⟩ [.ref a] [.ref a] _ _ rfl hr e0 (bnd s (.ref a)) (.cons rfl .nil) (want H only seq)) ?_
  intro r s1 got
  match r, got with
  | .error _, got => exact got.elim
  | .ok .next, got => exact got.elim
  | .ok .brk, got => exact got.elim
  | .ok .cont, got => exact got.elim
  | .ok (.ret u), got =>
    obtain ⟨v, H1, os, bare, un, hok1, ru, q⟩ := got
    cases (show v = .bl true from q)
    cases (show u = Value.bool true from ru)
    refine ⟨rfl, OldK.of_keep fun b o e => ?_, os, bare⟩
    cases z : H b with
    | none => exact un.keep b o e z (by intro y; cases (show b ∈ ([] : List Addr) from y)) (by simp)
    | some u =>
      obtain ⟨rfl, _, rfl⟩ := at_ b u z
      have y := un.frzs b _ _ z
      rw [obj] at e
      cases e
      exact (hok1 b _ y).1
theorem walk_ofG {l : PySem.W.OpenLaw} {n k : Nat} {q : Program} {loose : List Str} {XP : (Str → Option Value) → Heap → Prop} {YP : World → Heap → Prop} {d : DefRec} {K : Params → PySem.W.Frag} {sp : PySem.W.Frag → Sp} {x : Str}
    (hn : l.most = some n) (hn2 : n ≤ sizeLine) (hdf : d.params.defaults = []) (hr : Room k callerA) (hY : ∀ (w : World) (h : Heap), YP w h → (K w.params).In h)
    (F : ∀ (w : World) (mg : Str → Option Value) (fa : Addr) (h : Heap), (K w.params).In h → h.Ns mainGlobals mg → mg d.name = some (.ref fa) →
      ∃ fd : FuncData, (∀ (s : Shared) (u : Value), BindsTo s fd ⟨[u], []⟩ [(x, u)]) ∧ ∀ base : Heap, (K w.params).In base → base.Ns mainGlobals mg → FnG l.prog w (K w.params) mg base CX0 k fa fd [x] (sp (K w.params)))
    (want : ∀ (K : PySem.W.Frag) (H : Hp) (a : Addr) (ns : List Int), ns.length ≤ n → Only H → SqL K H a (ns.map V.int) → sp K [.ref a] H (fun v _ => v = .bl true) fun _ _ _ => False) :
    PySem.W.WalkO q loose XP YP l.row.toRowW d [] (fun f vs => PySem.call f vs) := by
  apply Att.attach_call hn hdf
  intro w s0 s1 mg mb fa o pm cd doc a vs ns G Y ho hd hcd hmg obj hin len gens
  have kin := hY w _ Y
  obtain ⟨fd, bnd, does⟩ := F w mg fa _ kin G.T.g hmg
  exact law_callG kin G.T.g G.T.b G.T.builtins G.T.nolimit gens obj hin (Nat.le_trans len hn2) hr does bnd fun H o q => want _ H a ns len o q
end LG

namespace LT
open PySem PySem.Spec PyProof.Rows L2
open Sem (wp)
open AutoSeq1 (wpAny_loadPart')
theorem meets_enum_tup (l : Addr) (items : Array Value) (n : Nat) (dct : Option Addr) (sl : Array (Option Value)) :
    Meets (Builtin.«enumerate.__new__» ⟨[.type "enumerate", .ref l], []⟩) (fun _ R s => s.heap.get? l = some { cls := .type "tuple", dict := dct, data := .seq items n, slots := sl } ∧
      R (.ok (.ret (.ref (s.heap.objs.size + 1))))
        { s with heap := (s.heap.push { cls := .type "tuple_iterator", data := .fields #[.ref l, .int 0 0] }).push { cls := .type "enumerate", data := .fields #[.none, .bool false, .ref s.heap.objs.size, rawInt 0, .none, .none] } }) :=
  .of_wp fun prog w A R s h => by
    obtain ⟨hp, g, d, tk, os⟩ := s
    obtain ⟨hl, h⟩ := h
    have sub := sub_enumerate
    have tup : Heap.IsTuple (Shared.heap ⟨hp, g, d, tk, os⟩) l items := ⟨_, hl, rfl, n, rfl⟩
    wp_walk using wpAny_loadPart' hl
    refine wpAny_stack_any fun st => wpAny_pure ?_
    have z : (hp.push { cls := .type "tuple_iterator", data := .fields #[.ref l, .int 0 0] }).objs.size = hp.objs.size + 1 := Heap.size_push ..
    split
    · rename_i c _ _ _ _ _
      cases (c == Value.type "enumerate")
      · wp_walk using wpAny_loadPart' hl, wpAny_pyIter_tuple tup
        exact ⟨_, rfl, by rw [z]; exact h⟩
      · wp_walk using wpAny_loadPart' hl, wpAny_pyIter_tuple tup
        exact ⟨_, rfl, by rw [z]; exact h⟩
    · wp_walk using wpAny_loadPart' hl, wpAny_pyIter_tuple tup
      exact ⟨_, rfl, by rw [z]; exact h⟩
section
variable {prog : Program} {w : World} {A : Around} {E : Value → Shared → Prop} {s : Shared}
theorem call_enum_tup {l : Addr} {items : Array Value} {Q : Value → Shared → Prop} (hl : s.heap.IsTuple l items)
    (h : ∀ h', IsEnum h' (s.heap.objs.size + 1) s.heap.objs.size 0 .none → h'.IsTupleIter s.heap.objs.size l 0 →
      (∀ b o, s.heap.get? b = some o → h'.get? b = some o) → Q (.ref (s.heap.objs.size + 1)) { s with heap := h' }) :
    wpAny (model prog w) A (call (.type "enumerate") [.ref l]) Q E s := by
  obtain ⟨⟨c, dct, dt, sl⟩, get, hc, n, hd⟩ := hl
  cases (show c = .type "tuple" from hc)
  cases (show dt = .seq items n from hd)
  refine callType_new F.called_enumerate (by decide) (F.typeCall_enumerate_1 _) (F.newCall_enumerate_1 _) (fun obj => F.args_object_init_2 obj _) F.entry_enumerate_new (meets_enum_tup l items n dct sl) ⟨get, ?_⟩
  have z : (s.heap.push { cls := .type "tuple_iterator", data := .fields #[.ref l, .int 0 0] }).objs.size = s.heap.objs.size + 1 := Heap.size_push ..
  have he := Heap.get?_push_size (s.heap.push { cls := .type "tuple_iterator", data := .fields #[.ref l, .int 0 0] }) (o := { cls := .type "enumerate", data := .fields #[.none, .bool false, .ref s.heap.objs.size, rawInt 0, .none, .none] }) rfl
  rw [z] at he
  exact ⟨⟨_, he, rfl⟩, h _ he ⟨_, Heap.get?_push_of_some _ (Heap.get?_push_size _ rfl), rfl, rfl⟩ fun b o x => Heap.get?_push_of_some _ (Heap.get?_push_of_some _ x)⟩
end
/-- the tuple at a, each item in a new pair with its place -/
def IteT (K : PySem.W.Frag) (a : Addr) : It :=
  ⟨fun i H => ∃ (xs : List V) (x : V), SqT K H a xs ∧ xs[i]? = some x, fun i H v H' => ∃ T x, v = .ref T ∧ H T = none ∧ H' = upd H T (.tup [.int (i : Nat), x]) ∧ ∀ xs, SqT K H a xs → xs[i]? = some x, fun i H => ∃ xs : List V, SqT K H a xs ∧ xs.length = i⟩
theorem apart_it {h : Heap} {it a : Addr} {i : Nat} {items : Array Value} (x : h.IsTupleIter it a i) (p : h.IsTuple a items) : a ≠ it := by
  rintro rfl
  obtain ⟨o, g, c, _⟩ := x
  obtain ⟨o2, g2, c2, _⟩ := p
  rw [g] at g2
  cases g2
  rw [c] at c2
  exact absurd c2 (by decide)
theorem turn_enumT {P : Program} {w : World} {K : PySem.W.Frag} {elts : List Expr} {kk : Nat} {tpos : Pos} (a e it : Addr) :
    Turn P w K (.Tuple elts kk tpos) (IteT K a) [e, it] e (fun i h => (∃ old, IsEnum h e it ((i : Nat) : Int) old) ∧ h.IsTupleIter it a i ∧ e ≠ it) where
  mem := List.mem_cons_self
  obj := fun i h ⟨⟨old, he⟩, ⟨o, ho, _, hd⟩, _⟩ b hb => by
    rcases List.mem_cons.mp hb with rfl | hb
    · exact ⟨_, he, fun v q => by cases q⟩
    · rw [List.mem_singleton.mp hb]; exact ⟨o, ho, fun v q => by rw [hd] at q; cases q⟩
  keep := fun i h h' ⟨⟨old, he⟩, hi, ne⟩ k => ⟨⟨old, k e List.mem_cons_self _ he⟩, hi.at fun o q => k it (List.mem_cons_of_mem _ List.mem_cons_self) o q, ne⟩
  item := by
    intro X hP hw hK hc i pins s σ H E I hf ⟨⟨old, he⟩, hit, ne⟩ ⟨xs, x, hq, hx⟩
    subst hP hw hK
    obtain ⟨its, rv, p, hz⟩ := I.tuple hq
    have tup : s.heap.IsTuple a its.toArray := p
    obtain ⟨u, hu, ru⟩ := rv.get hx
    have hi : i < its.toArray.size := by
      have := (List.getElem?_eq_some_iff.mp hu).1
      simpa using this
    have nai := apart_it hit tup
    have nea : e ≠ a := by
      rintro rfl
      obtain ⟨o2, g2, c2, _⟩ := tup
      rw [show s.heap.get? e = _ from he] at g2
      cases g2
      have c3 : Value.type "enumerate" = Value.type "tuple" := c2
      exact absurd c3 (by decide)
    have lte : e < s.heap.objs.size := Heap.lt_size he
    have lti : it < s.heap.objs.size := let ⟨_, q, _⟩ := hit; Heap.lt_size q
    refine wpAny_pyNext_enum_itemD (Draws.tuple (A := X.A.in1) (show X.A.in1.handled = none from I.ok.hd hc) it a nai its.toArray) he ⟨hit, tup⟩ hi ne (by simp [ne, nea]) fun y h1 tk hy out st new sz kept => ?_
    have ey : y = u := by
      have q : its.toArray[i]? = some u := by simpa using hu
      rw [q] at hy; exact (Option.some.inj hy).symm
    subst ey
    refine ⟨_, rfl, wpAny_letOwnedTupleGo_enum (s := { s with heap := h1, toks := tk + 1 }) out fun h2 he2 sb => ?_⟩
    have new2 := (sb.2 _ (Nat.ne_of_gt lte)).trans new
    have ob : ObjOk X.prog X.w (upd H s.heap.objs.size (.tup [.int (i : Nat), x])) h2 s.heap.objs.size (.tup [.int (i : Nat), x]) :=
      ⟨by show 2 ≤ sizeLine; decide, [.int i tk, y], .cons ⟨_, rfl⟩ (.cons ru .nil), ⟨_, new2, rfl, _, rfl⟩⟩
    have J : Inv X pins σ (upd H s.heap.objs.size (.tup [.int (i : Nat), x])) { s with heap := h2, toks := tk + 1 } :=
      I.turnedNew (ch := [e, it]) (fun b o nb q => (sb.2 b fun z => nb (by simp [z])).trans (kept b o (fun z => nb (by simp [z])) (fun z => nb (by simp [z])) q)) hf (Nat.le_refl _) ob
    refine ⟨.ref s.heap.objs.size, _, J, rfl, ⟨_, x, rfl, I.hok.fresh (Nat.le_refl _), rfl, fun ys hy => by rw [I.tuple_inj hy hq]; exact hx⟩, ⟨⟨y, ?_⟩, st.1.at fun o q => (sb.2 it ne.symm).trans q, ne⟩, fun b hb => ?_⟩
    · rw [show ((i + 1 : Nat) : Int) = (i : Int) + 1 by omega]; exact he2
    · have lt : b < s.heap.objs.size := by
        rcases List.mem_cons.mp hb with rfl | hb
        · exact lte
        · rw [List.mem_singleton.mp hb]; exact lti
      rw [upd_ne (Nat.ne_of_lt lt)]
      exact (hf b hb).1
  done := by
    intro X hP hw hK hc i pins s σ H E I hf ⟨⟨old, he⟩, hit, ne⟩ ⟨xs, hq, hx⟩
    subst hP hw hK
    obtain ⟨its, rv, p, hz⟩ := I.tuple hq
    have tup : s.heap.IsTuple a its.toArray := p
    have nai := apart_it hit tup
    have hl := rv.length
    have ei : i = its.toArray.size := by rw [List.size_toArray, ← hl]; exact hx.symm
    subst ei
    obtain ⟨f0, f1, f2, f3, f4, f5⟩ := hf it (by simp)
    exact wpAny_pyNext_enum_endD (Draws.tuple (A := X.A.in1) (show X.A.in1.handled = none from I.ok.hd hc) it a nai its.toArray) he ⟨hit, tup⟩ fun h1 eb => ⟨rfl, I.turned (t' := s.toks) (fun b o nb q => eb b o nb q) f0 f1 f3 f4 f5⟩
  self := fun A i s Q E ⟨⟨_, he⟩, _⟩ h => wpAny_pyIter_enum he h
def iEnumT (K : PySem.W.Frag) (ta : TA) : TI := fun σ H R => ta σ H fun vs H1 => ∃ a xs, vs = [.ref a] ∧ SqT K H1 a xs ∧ R (IteT K a) H1
/-- enumerate(t), t a tuple -/
theorem pi_enumT {X : Cx} {e : Expr} {ta : TA} {p pos tpos : Pos} {elts : List Expr} {kk : Nat} (hg : Gl X "enumerate") (hm : X.mg "enumerate" = none) (ha : PA X [e] ta) (hs : starEach [e] X.env = [(false, eval e X.env)] := by rfl) :
    PI X (.Tuple elts kk tpos) (.Call (.Name "enumerate" p) [e] [] pos) (iEnumT X.K ta) := by
  constructor
  intro pins s σ H R I want
  refine Call_ (ld_blt I hg hm boot_enumerate (PyProof.Rows.callWith_type1 (thn (ha.run pos pins s σ H _ I want) ?_) hs rfl))
  rintro us s1 ⟨vs, H1, J, rel, a, xs, rfl, hq, q⟩
  obtain ⟨u, rfl, ru⟩ := vals1 rel
  cases ru
  obtain ⟨its, rv, p2, hz⟩ := J.tuple hq
  refine call_enum_tup p2 fun h1 he hit keep => wpAny_pyIter_enum he ?_
  have J2 : Inv X pins σ H1 { s1 with heap := h1 } := J.kept (t' := s1.toks) keep
  refine ⟨s1.heap.objs.size + 1, [s1.heap.objs.size + 1, s1.heap.objs.size], _, _, H1, rfl, J2, turn_enumT a _ _, ⟨⟨.none, he⟩, hit, Nat.succ_ne_self _⟩, fun b hb => ?_, q⟩
  have le : s1.heap.objs.size ≤ b := by
    rcases List.mem_cons.mp hb with rfl | hb
    · exact Nat.le_add_right _ _
    · rw [List.mem_singleton.mp hb]; exact Nat.le_refl _
  exact J.fpOk le (J.hok.fresh le)
theorem walk_enumT {K : PySem.W.Frag} {a : Addr} {xs : List V} : Walk (IteT K a) xs.length (fun H => SqT K H a xs) (YPair (fun i => some (.int (i : Nat))) (fun i => xs[i]?)) := by
  refine ⟨fun i _ hi q => ⟨xs, xs[i], q, by simp [hi]⟩, fun _ q => ⟨xs, q, rfl⟩, fun i H v H' _ q y => ?_⟩
  obtain ⟨T, x, h1, h2, h3, h4⟩ := y
  exact ⟨T, .int (i : Nat), x, h1, h2, h3, rfl, h4 xs q⟩
/-- two derivations of one expression: either reading serves -/
theorem PE.or {X : Cx} {e : Expr} {t u : TE} (h1 : PE X e t) (h2 : PE X e u) : PE X e (fun σ H Q => t σ H Q ∨ u σ H Q) :=
  ⟨fun pins s σ H Q I w => w.elim (h1.run pins s σ H Q I) (h2.run pins s σ H Q I)⟩
theorem PI.or {X : Cx} {tg e : Expr} {t u : TI} (h1 : PI X tg e t) (h2 : PI X tg e u) : PI X tg e (fun σ H R => t σ H R ∨ u σ H R) :=
  ⟨fun pins s σ H R I w => w.elim (h1.run pins s σ H R I) (h2.run pins s σ H R I)⟩
end LT

namespace LT
open PySem PySem.Spec PyProof.Rows L2
/-- zip of the tuple at a and the list at b, as many turns as both have -/
def ItzTL (K : PySem.W.Frag) (a b : Addr) : It :=
  ⟨fun i H => ∃ (xs ys : List V) (x y : V), SqT K H a xs ∧ SqL K H b ys ∧ xs[i]? = some x ∧ ys[i]? = some y,
    fun i H v H' => ∃ T x y, v = .ref T ∧ H T = none ∧ H' = upd H T (.tup [x, y]) ∧ (∀ xs, SqT K H a xs → xs[i]? = some x) ∧ ∀ ys, SqL K H b ys → ys[i]? = some y,
    fun i H => ∃ xs ys : List V, SqT K H a xs ∧ SqL K H b ys ∧ xs.length = i ∧ ys.length = i⟩
theorem sep_tl {z TI TO i1 i2 a b : Addr} (D : ZipApart z TI TO i1 i2 a b) : ZipSep2 z TI TO i1 i2 [i1, a] [i2, b] where
  TIz := D.TIz
  TOz := D.TOz
  TITO := D.TITO
  TIi1 := D.TIi1
  mem1 := List.mem_cons_self
  zf1 := by simp [D.i1z.symm, D.l1z.symm]
  Tf1 := by simp [D.TOi1, D.l1TO.symm]
  TIi2 := D.TIi2
  mem2 := List.mem_cons_self
  zf2 := by simp [D.i2z.symm, D.l2z.symm]
  Tf2 := by simp [D.TOi2, D.l2TO.symm]
  sep1_2 := by simp [D.i12, D.l2i1.symm]
  sep2_1 := by simp [D.i12.symm, D.l1i2.symm]
theorem turn_zipTL {P : Program} {w : World} {K : PySem.W.Frag} {elts : List Expr} {kk : Nat} {tpos : Pos} {a b z TI TO i1 i2 : Addr} (D : ZipApart z TI TO i1 i2 a b) :
    Turn P w K (.Tuple elts kk tpos) (ItzTL K a b) [z, TI, TO, i1, i2] z (fun i h => IsZip h z TI TO .none ∧ IsTupOf2 h TI (.ref i1) (.ref i2) ∧ (∃ x y, IsTupOf2 h TO x y) ∧ h.IsTupleIter i1 a i ∧ h.IsListIter i2 b i) where
  mem := List.mem_cons_self
  obj := fun i h ⟨hz, hTI, ⟨x, y, hTO⟩, ⟨o1, e1, _, d1⟩, ⟨o2, e2, _, d2⟩⟩ c hc => by
    simp only [List.mem_cons, List.not_mem_nil, or_false] at hc
    rcases hc with rfl | rfl | rfl | rfl | rfl
    · exact ⟨_, hz, fun v q => by cases q⟩
    · exact ⟨_, hTI, fun v q => by cases q⟩
    · exact ⟨_, hTO, fun v q => by cases q⟩
    · exact ⟨o1, e1, fun v q => by rw [d1] at q; cases q⟩
    · exact ⟨o2, e2, fun v q => by rw [d2] at q; cases q⟩
  keep := fun i h h' ⟨hz, hTI, ⟨x, y, hTO⟩, h1, h2⟩ k =>
    ⟨k z (by simp) _ hz, k TI (by simp) _ hTI, ⟨x, y, k TO (by simp) _ hTO⟩, h1.at fun o q => k i1 (by simp) o q, h2.at fun o q => k i2 (by simp) o q⟩
  item := by
    intro X hP hw hK hc i pins s σ H E I hf ⟨hz, hTI, ⟨x0, y0, hTO⟩, h1, h2⟩ ⟨xs, ys, x, y, qx, qy, hx, hy⟩
    subst hP hw hK
    obtain ⟨its, rv, p, _⟩ := I.tuple qx
    obtain ⟨its2, rv2, p2, _⟩ := I.list qy
    have tup : s.heap.IsTuple a its.toArray := p
    obtain ⟨u, hu, ru⟩ := rv.get hx
    obtain ⟨u2, hu2, ru2⟩ := rv2.get hy
    have li : i < its.toArray.size := by have := (List.getElem?_eq_some_iff.mp hu).1; simpa using this
    have li2 : i < its2.toArray.size := by have := (List.getElem?_eq_some_iff.mp hu2).1; simpa using this
    have hh : X.A.in1.handled = none := I.ok.hd hc
    have ltz : z < s.heap.objs.size := Heap.lt_size hz
    refine wpAny_pyNext_zipD2_item (sep_tl D) (Draws.tuple hh i1 a D.l1i1 its.toArray) (Draws.list hh i2 b D.l2i2 its2.toArray) hz hTI hTO ⟨h1, tup⟩ ⟨h2, p2.isList⟩ li li2 fun v1 v2 h3 tk y1 y2 z3 TO3 st1 st2 new sz kept => ?_
    have ev1 : v1 = u := by
      have q : its.toArray[i]? = some u := by simpa using hu
      rw [q] at y1; exact (Option.some.inj y1).symm
    have ev2 : v2 = u2 := by
      have q : its2.toArray[i]? = some u2 := by simpa using hu2
      rw [q] at y2; exact (Option.some.inj y2).symm
    subst ev1 ev2
    refine ⟨_, rfl, wpAny_letOwnedTupleGo_zip (s := { s with heap := h3, toks := tk }) z3 fun h4 z4 sb => ?_⟩
    have new4 := (sb.2 _ (Nat.ne_of_gt ltz)).trans new
    have ob : ObjOk X.prog X.w (upd H s.heap.objs.size (.tup [x, y])) h4 s.heap.objs.size (.tup [x, y]) :=
      ⟨by show 2 ≤ sizeLine; decide, [v1, v2], .cons ru (.cons ru2 .nil), ⟨_, new4, rfl, _, rfl⟩⟩
    have J : Inv X pins σ (upd H s.heap.objs.size (.tup [x, y])) { s with heap := h4, toks := tk } :=
      I.turnedNew (ch := [z, TI, TO, i1, i2]) (fun c o nb q => (sb.2 c fun e => nb (by simp [e])).trans (kept c o (fun e => nb (by simp [e])) (fun e => nb (by simp [e])) (fun e => nb (by simp [e])) (fun e => nb (by simp [e])) q)) hf (Nat.le_refl _) ob
    refine ⟨.ref s.heap.objs.size, _, J, rfl, ⟨_, x, y, rfl, I.hok.fresh (Nat.le_refl _), rfl, fun l hl => by rw [I.tuple_inj hl qx]; exact hx, fun l hl => by rw [I.list_inj hl qy]; exact hy⟩, ⟨z4, ?_, ⟨v1, v2, ?_⟩, ?_, ?_⟩, fun c hm => ?_⟩
    · exact (sb.2 _ D.TIz).trans (kept _ _ D.TIz D.TITO D.TIi1 D.TIi2 hTI)
    · exact (sb.2 _ D.TOz).trans TO3
    · exact st1.1.at fun o q => (sb.2 _ D.i1z).trans q
    · exact st2.1.at fun o q => (sb.2 _ D.i2z).trans q
    · have lt : c < s.heap.objs.size := by
        have hm2 := hm
        simp only [List.mem_cons, List.not_mem_nil, or_false] at hm2
        rcases hm2 with rfl | rfl | rfl | rfl | rfl
        · exact ltz
        · exact Heap.lt_size hTI
        · exact Heap.lt_size hTO
        · obtain ⟨_, e1, _⟩ := h1; exact Heap.lt_size e1
        · obtain ⟨_, e2, _⟩ := h2; exact Heap.lt_size e2
      rw [upd_ne (Nat.ne_of_lt lt)]
      exact (hf c hm).1
  done := by
    intro X hP hw hK hc i pins s σ H E I hf ⟨hz, hTI, ⟨x0, y0, hTO⟩, h1, h2⟩ ⟨xs, ys, qx, qy, e1, e2⟩
    subst hP hw hK
    obtain ⟨its, rv, p, _⟩ := I.tuple qx
    obtain ⟨its2, rv2, p2, _⟩ := I.list qy
    have tup : s.heap.IsTuple a its.toArray := p
    have n1 : i = its.toArray.size := by rw [List.size_toArray, ← rv.length]; exact e1.symm
    have n2 : i = its2.toArray.size := by rw [List.size_toArray, ← rv2.length]; exact e2.symm
    have hh : X.A.in1.handled = none := I.ok.hd hc
    exact wpAny_pyNext_zipD2_end (sep_tl D) (Draws.tuple hh i1 a D.l1i1 its.toArray) (Draws.list hh i2 b D.l2i2 its2.toArray) hz hTI hTO ⟨h1, tup⟩ ⟨h2, p2.isList⟩ (Nat.le_of_eq n1) (Nat.le_of_eq n2) (.inl n1) fun h3 tk kept =>
      ⟨rfl, I.turnedL (ch := [z, TI, TO, i1, i2]) (fun c o nb q => kept c o (fun e => nb (by simp [e])) (fun e => nb (by simp [e])) (fun e => nb (by simp [e])) (fun e => nb (by simp [e])) q) hf⟩
  self := fun A i s Q E st h => wpAny_pyIter_zip st.1 h
def iZipTL (K : PySem.W.Frag) (ta : TA) : TI := fun σ H R => ta σ H fun vs H1 => ∃ a b xs ys, vs = [.ref a, .ref b] ∧ SqT K H1 a xs ∧ SqL K H1 b ys ∧ R (ItzTL K a b) H1
theorem pi_zipTL {X : Cx} {e e2 : Expr} {ta : TA} {p pos tpos : Pos} {elts : List Expr} {kk : Nat} (hg : Gl X "zip") (hm : X.mg "zip" = none) (ha : PA X [e, e2] ta)
    (hs : starEach [e, e2] X.env = (false, eval e X.env) :: starEach [e2] X.env := by rfl) (hpl : (backTo pos (starEach [e2] X.env)).any (·.1) = false := by rfl) :
    PI X (.Tuple elts kk tpos) (.Call (.Name "zip" p) [e, e2] [] pos) (iZipTL X.K ta) := by
  constructor
  intro pins s σ H R I want
  refine Call_ (ld_blt I hg hm PyProof.Rows.boot_zip (PyProof.Rows.callWith_type1 (thn (ha.run pos pins s σ H _ I want) ?_) hs hpl))
  rintro us s1 ⟨vs, H1, J, rel, a, b, xs, ys, rfl, qx, qy, q⟩
  obtain ⟨u1, u2, rfl, r1, r2⟩ := vals2 rel
  cases r1
  cases r2
  obtain ⟨its, rv, p1, _⟩ := J.tuple qx
  obtain ⟨its2, rv2, p2, _⟩ := J.list qy
  have la : a < s1.heap.objs.size := let ⟨_, g, _⟩ := p1; Heap.lt_size g
  refine zip_begins2 (begins_tuple a its.toArray) (begins_list b its2.toArray) p1 p2.isList fun h' hz hTI hTO g1 g2 sz keep => wpAny_pyIter_zip hz ?_
  have J2 : Inv X pins σ H1 { s1 with heap := h' } := J.kept (t' := s1.toks) keep
  refine ⟨s1.heap.objs.size + 4, [s1.heap.objs.size + 4, s1.heap.objs.size + 2, s1.heap.objs.size + 3, s1.heap.objs.size, s1.heap.objs.size + 1], _, _, H1, rfl, J2, turn_zipTL (PySem.W.ktu_apart s1.heap.objs.size a b la p2.lt),
    ⟨hz, hTI, ⟨_, _, hTO⟩, ⟨_, g1, rfl, rfl⟩, ⟨_, g2, rfl, rfl⟩⟩, fun c hc => ?_, q⟩
  have le : s1.heap.objs.size ≤ c := by
    simp only [List.mem_cons, List.not_mem_nil, or_false] at hc
    rcases hc with rfl | rfl | rfl | rfl | rfl <;> first | exact Nat.le_add_right _ _ | exact Nat.le_refl _
  exact J.fpOk le (J.hok.fresh le)
theorem walk_zipTL {K : PySem.W.Frag} {a b : Addr} {xs ys : List V} (hl : xs.length = ys.length) : Walk (ItzTL K a b) xs.length (fun H => SqT K H a xs ∧ SqL K H b ys) (YPair (fun i => xs[i]?) (fun i => ys[i]?)) := by
  refine ⟨fun i _ hi q => ⟨xs, ys, xs[i], ys[i]'(by omega), q.1, q.2, by simp [hi], by simp [show i < ys.length by omega]⟩, fun _ q => ⟨xs, ys, q.1, q.2, rfl, hl.symm⟩, fun i H v H' _ q y => ?_⟩
  obtain ⟨T, x, y2, h1, h2, h3, h4, h5⟩ := y
  exact ⟨T, x, y2, h1, h2, h3, h4 xs q.1, h5 ys q.2⟩
end LT

namespace LT
open PySem PySem.Spec PyProof.Rows L2
section
variable {prog : Program} {w : World} {A : Around} {E : Value → Shared → Prop} {s : Shared}
/-- what is to be iterated is gathered into a new list; the heap does not get shorter -/
theorem gather {Q : List Value → Shared → Prop} (l : Addr) {T : String} {o : Obj} {its : Array Value} {n : Nat} (hT : T = "list" ∨ T = "tuple") (ho : s.heap.get? l = some o) (hc : o.cls = .type T) (hd : o.data = .seq its n) (hz : its.size ≤ sizeLine)
    (fin : ∀ h1 : Heap, s.heap.objs.size ≤ h1.objs.size → (∀ b u, s.heap.get? b = some u → h1.get? b = some u) → Q its.toList { s with heap := h1 }) : wpAny (model prog w) A (collect (.ref l)) Q E s := by
  unfold collect
  refine wpAny_bind (wpAny_runValue (codeAny_builtin PySem.F.entry_proto_collect ?_))
  rw [Around.under_plainId PySem.F.plain_proto_collect _]
  refine wpAny_bind (m := newList []) (wpAny_newObj_type ?_)
  refine wpAny_pure ⟨plainId_quiet PySem.F.plain_list_iadd _, codeAny_builtin PySem.F.entry_list_iadd ?_⟩
  rw [Around.under_plainId PySem.F.plain_list_iadd _]
  generalize hp : s.heap.push { cls := .type "list", data := .seq ([] : List Value).toArray } = h0
  have e0 : h0.get? s.heap.objs.size = some { cls := .type "list", data := .seq #[] 0 } := by rw [← hp]; exact Heap.get?_push_size _ rfl
  have k0 : ∀ b u, s.heap.get? b = some u → h0.get? b = some u := fun b u q => by rw [← hp]; exact Heap.get?_push_of_some _ q
  have z0 : s.heap.objs.size ≤ h0.objs.size := by rw [← hp, Heap.size_push]; exact Nat.le_succ _
  have e1 := Heap.get?_update_self (Obj.mapSeq (· ++ its)) e0 rfl
  have last : Q its.toList { s with heap := h0.update s.heap.objs.size (Obj.mapSeq (· ++ its)) } :=
    fin _ (by rw [Heap.size_update]; exact z0) fun b u q => (Heap.get?_update_other _ _ (Nat.ne_of_gt (Heap.lt_size q))).trans (k0 b u q)
  have tail : wpAny (model prog w) A (do match (← load s.heap.objs.size).data with
      | Data.seq xs _ => pure xs.toList
      | _ => unsupported "internal:collect") Q E { s with heap := h0.update s.heap.objs.size (Obj.mapSeq (· ++ its)) } := by
    refine wpAny_bind (wpAny_load e1 (wpAny_pure ?_))
    show Q ((#[] : Array Value) ++ its).toList _
    rw [show ((#[] : Array Value) ++ its).toList = its.toList by simp]
    exact last
  refine wpAny_mono (wpAny_extend_seq (hsz := hz) (A := A) (R := fun r t => r = .ok (.ret (.ref s.heap.objs.size)) ∧ t = { s with heap := h0.update s.heap.objs.size (Obj.mapSeq (· ++ its)) })
    (s := { s with heap := h0 }) _ l _ 0 hT e0 (k0 _ _ ho) hc hd ⟨rfl, rfl⟩) (fun r t q => ?_) fun _ t q => absurd q.1 (by simp)
  cases r with
  | done f =>
    obtain ⟨e, rfl⟩ := q
    cases e
    exact tail
  | again c => exact ⟨q.1, codeAny_mono q.2 fun r u hr => by obtain ⟨rfl, rfl⟩ := hr; exact tail⟩
open Srt SrtO in
/-- sorted(x), x a list or a tuple: a new list -/
theorem sorted_seq {l : Addr} {T : String} {o : Obj} {vs : List Value} {n : Nat} {ltv : Value → Value → Bool} {Q : Value → Shared → Prop} (O : Swo ltv) (hT : T = "list" ∨ T = "tuple") (ho : s.heap.get? l = some o) (hc : o.cls = .type T) (hd : o.data = .seq vs.toArray n) (hz : vs.length ≤ sizeLine)
    (hS : 2 ≤ vs.length → ∀ (h₁ : Heap) (a : Addr), h₁.get? a = some (seqObj "list" vs.toArray 0) → (∀ b o, s.heap.get? b = some o → b ≠ a ∧ h₁.get? b = some o) → SortableO prog w A.in1.in1 { s with heap := h₁ } a vs ltv)
    (h : ∀ (out : List Value) (p : Addr) (h' : Heap), Srtd ltv out → Stb ltv out vs → s.heap.objs.size ≤ p → (∃ e, h'.get? p = some (seqObj "list" out.toArray e)) → (∀ b o, s.heap.get? b = some o → h'.get? b = some o) → Q (.ref p) { s with heap := h' }) :
    wpAny (model prog w) A (call (.builtin "sorted") [.ref l]) Q E s := by
  refine Calls.call_function_entry kind_sorted plain_sorted entry_sorted (args_sorted1 _) ?_
  unfold Builtin.«sorted»
  refine wpAny_bind (m := checkCount "sorted" 1 1 _) (wpAny_pure ?_)
  refine wpAny_bind (gather l hT ho hc hd (by rw [List.size_toArray]; exact hz) fun h1 hz2 k1 => ?_)
  refine wpAny_bind (wpAny_newList ?_ (by simpa using hz))
  have hoL : (h1.push (seqObj "list" vs.toArray 0)).get? h1.objs.size = some (seqObj "list" vs.toArray 0) := Heap.get?_push_size _ rfl
  have keep : ∀ b o, s.heap.get? b = some o → b ≠ h1.objs.size ∧ (h1.push (seqObj "list" vs.toArray 0)).get? b = some o := fun b o q =>
    ⟨Nat.ne_of_lt (Heap.lt_size (k1 b o q)), Heap.get?_push_of_some _ (k1 b o q)⟩
  show wpAny _ _ _ _ _ { s with heap := h1.push (seqObj "list" vs.toArray 0) }
  refine wpAny_bind (wpAny_holding (wpAny_call_entry slot_list_sort ⟨_, hoL, rfl⟩ entry_list_sort (list_sort_ord O hoL hz (fun h2 => hS h2 _ _ hoL keep) fun out hs hb => ⟨_, rfl, ?_⟩) (args_list_sort _)))
  refine wpAny_pure ⟨_, rfl, h out _ _ hs hb hz2 (sortedHeap_at hoL) fun b o q => ?_⟩
  obtain ⟨ne, q1⟩ := keep b o q
  rw [sortedHeap_old ne (Heap.lt_size q1)]
  exact q1
end
/-- sorted(xs), xs a list or a tuple of ints -/
def rSortedE (K : PySem.W.Frag) : List V → Hp → VK → Prop := fun vs H Q => ∃ (a : Addr) (ns : List Int), vs = [V.ref a] ∧ (SqL K H a (ns.map V.int) ∨ SqT K H a (ns.map V.int)) ∧
  ∀ (ns' : List Int) (p : Addr), ns'.Perm ns → ns'.Pairwise (· ≤ ·) → H p = none → Q (.ref p) (upd H p (.lst (ns'.map V.int)))
theorem cr_sortedE {X : Cx} : CallR X (.builtin "sorted") (rSortedE X.K) := by
  intro pins s σ H vs us Q I r h
  obtain ⟨a, ns, rfl, hs, q⟩ := h
  rcases hs with hs | hs
  · exact cr_sortedI pins s σ H _ us Q I r ⟨a, ns, rfl, hs, q⟩
  obtain ⟨its, rv, ⟨o, ho, hc, n, hd⟩, hz⟩ := I.tuple hs
  rw [Vals.ref1 r]
  have hi := rv.ints
  refine sorted_seq SrtO.swo_int (.inr rfl) ho hc hd (by rw [← rv.length]; exact hz) (fun h2 h₁ a' _ _ => SrtO.ints_sortable hi h2) fun out p h' h1 h2 le at_ keep => ?_
  obtain ⟨k1, k2, k3⟩ := SrtO.ints_out hi h1 h2
  obtain ⟨ep, he'⟩ := at_
  have hlen : ((out.map SrtO.iv).map V.int).length ≤ sizeLine := by
    rw [List.length_map, k2.length_eq]
    rw [List.length_map] at hz
    exact hz
  exact ⟨.ref p, upd H p (.lst ((out.map SrtO.iv).map V.int)), I.laid (t' := s.toks) keep le ⟨hlen, out, ep, vals_of_ints k1, he'⟩, rfl, q _ _ k2 k3 (I.hok.fresh le)⟩
/-- len(set(xs)), xs a list or a tuple of ints, each once -/
def tLenSetS (K : PySem.W.Frag) (ta : TE) : TE := fun σ H Q => ta σ H fun x H1 => ∃ (l : Addr) (ns : List Int), x = .ref l ∧ (SqL K H1 l (ns.map V.int) ∨ SqT K H1 l (ns.map V.int)) ∧ ns.Nodup ∧ ns.length ≤ 4000 ∧ Q (.int (ns.length : Nat)) H1
theorem pe_lenSetS {X : Cx} {a : Expr} {ta : TE} {p p2 q pos : Pos} (hg : Gl X "len") (hm : X.mg "len" = none) (hg2 : Gl X "set") (hm2 : X.mg "set" = none) (ha : PE X a ta) (hc : X.calm = true := by rfl)
    (na : starEach [a] X.env = (false, eval a X.env) :: starEach [] X.env := by rfl) : PE X (.Call (.Name "len" p) [.Call (.Name "set" p2) [a] [] q] [] pos) (tLenSetS X.K ta) := by
  refine ⟨fun pins s σ H Q I h => ?_⟩
  refine Call_ (ld_blt I hg hm boot_len ?_)
  refine PyProof.Rows.callWith_builtin1 (PyProof.Rows.args_cons ?_ rfl) rfl rfl
  refine Call_ (ld_blt I hg2 hm2 boot_set ?_)
  refine PyProof.Rows.callWith_type1 (PyProof.Rows.args_cons (thn (ha.run pins s σ H _ I h) fun v s1 ⟨x, H1, I1, r1, q1⟩ => PyProof.Rows.args_nil ?_) na) na rfl
  obtain ⟨l, ns, rfl, hq, hnd, hl, q1⟩ := q1
  cases r1
  rcases hq with hq | hq
  · obtain ⟨its, r, pl, hz⟩ := I1.list hq
    have hlen : its.toArray.size = ns.length := by rw [List.size_toArray, ← r.length, List.length_map]
    refine call_set_list (I1.ok.hd hc) pl.isList (by simpa using RZ.intsAre_vals r) (by rw [hlen]; unfold scanBound; omega) fun h' tk hS hk => ?_
    refine PyProof.Rows.args_nil ?_
    rw [hlen, RZ.firstMet_nodup hnd ns.length (Nat.le_refl _), List.take_length] at hS
    obtain ⟨o, es, ep, t, ho, hex, hd, _, _, _, hf, hn⟩ := hS
    have I2 : Inv X pins σ H1 { s1 with heap := h', toks := tk } := I1.kept fun b o e => hk b o (Heap.lt_size e) e
    exact call_len_set ho hex hd hf (by rw [hn] <;> omega) ⟨.int ns.length, H1, I2.tok _, ⟨_, by rw [hn]⟩, q1⟩
  · obtain ⟨its, r, pl, hz⟩ := I1.tuple hq
    refine call_set_tupI ns (I1.ok.hd hc) (show s1.heap.IsTuple l its.toArray from pl) (by simpa using r.ints) (by unfold scanBound; omega) fun h' tk c R hcn hk => ?_
    refine PyProof.Rows.args_nil ?_
    obtain ⟨o, es, ep, t, ho, hex, hd, g, nd, mem, _, hf, hn, _⟩ := R
    have I2 : Inv X pins σ H1 { s1 with heap := h', toks := tk } := I1.kept fun b o e => hk b o e
    have hperm : (es.toList.map keyOf).Perm ns := (List.perm_ext_iff_of_nodup nd hnd).mpr fun k => by rw [← mem k, decide_eq_true_iff]
    have hes : es.size = ns.length := by have := hperm.length_eq; simpa using this
    exact call_len_set ho hex hd hf (by omega) ⟨.int ns.length, H1, I2.tok _, ⟨_, by rw [hes]⟩, q1⟩
/-- a dict comprehension over it: Pv by the turn and the heap (the new dict at D within) -/
theorem dc_it {J : It} {n : Nat} {G : Hp → Prop} {Y : Nat → Hp → V → Hp → Prop} (w : Walk J n G Y) {g : TG} {tt : TT} {tk tv : TE} {vs : List Nat} {σ : L2.St} {H1 : Hp} {D : Addr} {Qd : Hp → Prop} (Pv : Nat → Hp → Prop) (h0 : Pv 0 (upd H1 D (.dK []))) (hG : ∀ i H, i ≤ n → Pv i H → G H)
    (hs : ∀ i x H H', i < n → Pv i H → Y i H x H' → g x (wipe σ vs) H' fun σ2 H2 => wipe σ2 vs = wipe σ vs ∧ tt σ2 H2 fun b H3 =>
      if b = true then tk σ2 H3 fun y H4 => tv σ2 H4 fun z H5 => ∃ kvs k, y = kV k ∧ H5 D = some (.dK kvs) ∧ kvs.length < sizeLine ∧ Pv (i + 1) (upd H5 D (.dK (putK kvs k z))) else Pv (i + 1) H3) (hd : ∀ H, Pv n H → Qd H) :
    ∃ W : Nat → Nat → Hp → Prop, (∃ m, W 0 m (upd H1 D (.dK []))) ∧ ∀ i m H, W i m H →
      (J.stop i H ∧ Qd H) ∨ (J.go i H ∧ ∃ Nx : Hp → Prop, (∀ H', Nx H' → ∃ m', m' < m ∧ W (i + 1) m' H') ∧ ∀ x H', J.yld i H x H' → g x (wipe σ vs) H' fun σ2 H2 => wipe σ2 vs = wipe σ vs ∧ tt σ2 H2 fun b H3 =>
        if b = true then tk σ2 H3 fun y H4 => tv σ2 H4 fun z H5 => ∃ kvs k, y = kV k ∧ H5 D = some (.dK kvs) ∧ kvs.length < sizeLine ∧ Nx (upd H5 D (.dK (putK kvs k z))) else Nx H3) := by
  refine ⟨fun i m H => m = n - i ∧ i ≤ n ∧ Pv i H, ⟨n, by simp, Nat.zero_le _, h0⟩, ?_⟩
  rintro i m H ⟨rfl, hi, p⟩
  have q := hG i H hi p
  by_cases hlt : i < n
  · refine .inr ⟨w.goes i H hlt q, Pv (i + 1), fun H' p' => ⟨n - (i + 1), by omega, rfl, hlt, p'⟩, fun x H' y => hs i x H H' hlt p (w.yields i H x H' hlt q y)⟩
  · obtain rfl : i = n := by omega
    exact .inl ⟨w.stops H q, hd H p⟩
end LT

namespace LG
open PySem PySem.Spec PyProof.Rows L2
section
variable {X : Cx}
/-- repr of a bool -/
theorem call_repr_bl : CallR X (.builtin "repr") (fun xs H Q => ∃ b : Bool, xs = [.bl b] ∧ Q (.str (if b then "True" else "False")) H) := by
  intro pins s σ H xs us Q I r h
  obtain ⟨b, rfl, q⟩ := h
  obtain ⟨u, rfl, ru⟩ := vals1 r
  cases ru
  exact PySem.P.repr_of_bool ⟨.str _, H, I.tok _, ⟨_, rfl⟩, q⟩
/-- repr of data: lists, tuples, ints, bools -/
def rReprA (K : PySem.W.Frag) : List V → Hp → VK → Prop := fun xs H Q => (∃ b : Bool, xs = [.bl b] ∧ Q (.str (if b then "True" else "False")) H) ∨ (∃ i : Int, xs = [.int i] ∧ i.natAbs.log2 < 1920 ∧ Q (.str (toString i)) H) ∨ rRepr K xs H Q
theorem call_reprA (hgd : X.A.guards = some []) (hu : X.A.units + 66 < cLine) : CallR X (.builtin "repr") (rReprA X.K) := by
  intro pins s σ H xs us Q I r h
  rcases h with h | h | h
  · exact call_repr_bl pins s σ H xs us Q I r h
  · exact SkE.call_repr_int pins s σ H xs us Q I r h
  · exact call_repr hgd hu pins s σ H xs us Q I r h
end
end LG

/-! what the laws share: tests, values, the bag, lists or tuples -/
namespace LP
open PySem L2 LT LG
theorem iteD {c A B : Prop} [Decidable c] (hc : c) (h : A) : if decide c = true then A else B := by
  rw [if_pos (decide_eq_true hc)]; exact h
theorem iteX {c A B : Prop} [Decidable c] (hc : ¬ c) (h : B) : if decide c = true then A else B := by
  rw [if_neg (by rw [decide_eq_false hc]; exact Bool.false_ne_true)]; exact h
theorem iteNX {c A B : Prop} [Decidable c] (hc : ¬ c) (h : A) : if (!decide c) = true then A else B := by
  rw [decide_eq_false hc]; exact iteT h
theorem ite2d {c A B : Prop} [Decidable c] (h1 : c → A) (h2 : ¬ c → B) : if decide c = true then A else B := by
  by_cases h : c
  · exact iteD h (h1 h)
  · exact iteX h (h2 h)
theorem iteNB {b : Bool} {A B : Prop} (hb : b = true) (h : B) : if (!b) = true then A else B := by
  subst hb; exact iteF h
theorem iteNF {b : Bool} {A B : Prop} (hb : b = false) (h : A) : if (!b) = true then A else B := by
  subst hb; exact iteT h
theorem iteB {b : Bool} {A B : Prop} (hb : b = true) (h : A) : if b = true then A else B := by
  subst hb; exact iteT h
theorem iteBF {b : Bool} {A B : Prop} (hb : b = false) (h : B) : if b = true then A else B := by
  subst hb; exact iteF h
theorem idx_before {α : Type} [BEq α] [LawfulBEq α] {a : α} : ∀ {l : List α} {m : Nat}, m < l.idxOf a → l[m]? ≠ some a
  | [], m, h => by simp at h
  | b :: r, 0, h => by
    intro e
    have e1 : b = a := Option.some.inj e
    subst e1
    rw [List.idxOf_cons] at h
    simp at h
  | b :: r, m + 1, h => by
    rw [List.idxOf_cons] at h
    by_cases q : (b == a) = true
    · simp [q] at h
    · rw [Bool.not_eq_true] at q
      rw [q] at h
      have h' : m + 1 < r.idxOf a + 1 := h
      exact idx_before (l := r) (m := m) (by omega)
theorem idx_get {α : Type} [BEq α] [LawfulBEq α] {a : α} {l : List α} (h : a ∈ l) : l[l.idxOf a]? = some a := by
  have h1 := List.idxOf_lt_length_iff.mpr h
  rw [List.getElem?_eq_getElem h1]
  have h2 := List.findIdx_getElem (p := (· == a)) (xs := l) (w := h1)
  exact congrArg some (eq_of_beq h2)

theorem same_upd {H : Hp} {p : Addr} {o : HO} (h : H p = Option.none) : Same H (upd H p o) := fun b x e => by rw [upd_ne (ne_of_none e h)]; exact e
/-- all but the bag at b is as it was -/
def Fr (H H' : Hp) (b : Addr) : Prop := ∀ a o, H a = some o → a ≠ b → H' a = some o
theorem Fr.refl (H : Hp) (b : Addr) : Fr H H b := fun _ _ h _ => h
theorem Fr.trans {H H1 H2 : Hp} {b : Addr} (a : Fr H H1 b) (c : Fr H1 H2 b) : Fr H H2 b := fun x o h n => c x o (a x o h n) n
theorem Fr.of {H H' : Hp} {b : Addr} (s : Same H H') : Fr H H' b := fun a o h _ => s a o h
theorem Fr.free {H H' : Hp} {b l : Addr} (e : Fr H H' b) (hb : ∃ o, H b = some o) (h : H' l = Option.none) (h' : ∃ o, H' b = some o) : H l = Option.none := by
  cases q : H l with
  | none => rfl
  | some o =>
    by_cases hl : l = b
    · subst hl; obtain ⟨o', h'⟩ := h'; rw [h'] at h; cases h
    · rw [e l o q hl] at h; cases h
abbrev M61 : Int := 2305843009213693951
/-- the bag: the script's copy at l, the place in it, the rest of a large cell, the number of draws (at most d), the script's sum -/
structure Bag (H : Hp) (b l : Addr) (ns : List Int) (d : Nat) : Prop where
  ex : ∃ i c k t : Int, H b = some (.lst [.ref l, .int i, .int c, .int k, .int t]) ∧ 0 ≤ i ∧ i ≤ ns.length ∧ 0 ≤ k ∧ k ≤ d ∧ 0 ≤ t ∧ t < M61
  ls : H l = some (.lst (ns.map V.int))
  ne : l ≠ b
theorem Bag.mono {H : Hp} {b l : Addr} {ns : List Int} {d d' : Nat} (g : Bag H b l ns d) (h : d ≤ d') : Bag H b l ns d' := by
  obtain ⟨⟨i, c, k, t, h1, h2, h3, h4, h5, h6⟩, ls, ne⟩ := g
  exact ⟨⟨i, c, k, t, h1, h2, h3, h4, by omega, h6⟩, ls, ne⟩
theorem Bag.same {H H' : Hp} {b l : Addr} {ns : List Int} {d : Nat} (g : Bag H b l ns d) (s : Same H H') : Bag H' b l ns d := by
  obtain ⟨⟨i, c, k, t, h1, h2⟩, ls, ne⟩ := g
  exact ⟨⟨i, c, k, t, s _ _ h1, h2⟩, s _ _ ls, ne⟩

theorem flat_ints (l : List Int) : (l.map V.int).all flatV = true := by
  rw [List.all_eq_true]; intro v hv; obtain ⟨i, _, rfl⟩ := List.mem_map.mp hv; rfl
theorem in_ints {p : Int} {l : List Int} : inV (.int p) (l.map V.int) = decide (p ∈ l) := by
  induction l with
  | nil => rfl
  | cons a r ih =>
    show (eqV (.int a) (.int p) || inV (.int p) (r.map V.int)) = _
    rw [ih]
    show ((a == p) || decide (p ∈ r)) = _
    by_cases h : a = p
    · subst h; simp
    · have h2 : ¬ p = a := fun q => h q.symm
      simp [h, h2]

theorem Bag.nb {H : Hp} {b l : Addr} {ns : List Int} {d : Nat} (g : Bag H b l ns d) : ∃ o, H b = some o := let ⟨⟨_, _, _, _, h, _⟩, _, _⟩ := g; ⟨_, h⟩
theorem Bag.ne_new {H : Hp} {b l p : Addr} {ns : List Int} {d : Nat} (g : Bag H b l ns d) (hp : H p = none) : p ≠ b := by
  obtain ⟨o, h⟩ := g.nb
  exact (ne_of_none h hp).symm
theorem Bag.l_ne {H : Hp} {b l p : Addr} {ns : List Int} {d : Nat} (g : Bag H b l ns d) (hp : H p = none) : l ≠ p := ne_of_none g.ls hp

section
variable (K : PySem.W.Frag)
def sp__law_bag : Sp := fun vs H Q _ => ∃ (a : Addr) (ns : List Int), vs = [.ref a] ∧ SqL K H a (ns.map V.int) ∧ ns.length ≤ 63 ∧ ∀ (H' : Hp) (b l : Addr), Same H H' → H b = none → H l = none → Bag H' b l ns 0 → Q (.ref b) H'
def sp__law_stir : Sp := fun vs H Q _ => ∃ x y : Int, vs = [.int x, .int y] ∧ 0 ≤ x ∧ x < M61 ∧ 0 ≤ y ∧ y < 2 ^ 40 ∧ ∀ r : Int, Q (.int r) H
def sp__law_draw : Sp := fun vs H Q _ => ∃ (b l : Addr) (ns : List Int) (d : Nat) (n : Int), vs = [.ref b, .int n] ∧ Bag H b l ns d ∧ 0 < n ∧ n.natAbs.log2 < 9000 ∧ d < 1000000 ∧ ns.length ≤ 63 ∧
  ∀ (H' : Hp) (r : Int), 0 ≤ r → r < n → Bag H' b l ns (d + 1) → Fr H H' b → Q (.int r) H'


end
/-- what len asks of a list or a tuple -/
def rLenS (K : PySem.W.Frag) : List V → Hp → VK → Prop := fun vs H Q => ∃ a xs, vs = [.ref a] ∧ (SqL K H a xs ∨ SqT K H a xs) ∧ Q (.int xs.length) H
theorem u1 {k : Nat} {A : Around} (r : Room k A) : A.units + 1 < cLine := by have := r.un; omega
theorem u66 {k : Nat} {A : Around} (r : Room k A) : A.units + 66 < cLine := by have := r.un; omega
theorem ixN_at {n j : Nat} (h : j < n) : ixN n (j : Int) = some j := by
  unfold ixN; rw [if_pos (by omega), if_pos (by omega)]; congr 1
/-- a list or a tuple -/
def SqE (K : PySem.W.Frag) (H : Hp) (a : Addr) (xs : List V) : Prop := SqL K H a xs ∨ SqT K H a xs
theorem same_tup {K : PySem.W.Frag} {H H' : Hp} {a : Addr} {xs : List V} (e : Same H H') (h : SqT K H a xs) : SqT K H' a xs := by
  rcases h with (h | ⟨o, h⟩) | h
  · exact .inl (.inl (e _ _ h))
  · exact .inl (.inr ⟨o, e _ _ h⟩)
  · exact .inr h
theorem SqE.same {K : PySem.W.Frag} {H H' : Hp} {a : Addr} {xs : List V} (h : SqE K H a xs) (e : Same H H') : SqE K H' a xs := h.imp e.seq (same_tup e)
theorem SqE.l {K : PySem.W.Frag} {H : Hp} {a : Addr} {xs : List V} (h : H a = some (.lst xs)) : SqE K H a xs := .inl (SqL.of h)
theorem SqE.t {K : PySem.W.Frag} {H : Hp} {a : Addr} {xs : List V} (h : H a = some (.tup xs)) : SqE K H a xs := .inr (SqT.of h)
theorem rd_ix {K : PySem.W.Frag} {H : Hp} {a : Addr} {Q : VK} {xs : List V} {j : Nat} {v : V} {z : Int} (h : SqL K H a xs) (e : xs[j]? = some v) (hz : z = (j : Int)) (q : Q v H) : rIxL K (.ref a) (.int z) H Q :=
  ⟨a, xs, z, v, rfl, rfl, h, at_of hz e, q⟩
theorem int_at {ns : List Int} {j : Nat} {x : Int} (h : ns[j]? = some x) : (ns.map V.int)[j]? = some (V.int x) := by rw [List.getElem?_map, h]; rfl
theorem at_int {ns : List Int} {j : Nat} {v : V} (h : (ns.map V.int)[j]? = some v) : ∃ x, ns[j]? = some x ∧ v = .int x := by
  rw [List.getElem?_map] at h
  cases q : ns[j]? with
  | none => rw [q] at h; cases h
  | some x => rw [q] at h; cases h; exact ⟨x, rfl, rfl⟩
/-! a walk over a list or a tuple: one turn for both -/
theorem or_E {K : PySem.W.Frag} {H : Hp} {a : Addr} {xs : List V} {σ : St} {i : Nat} {R : It → Hp → Prop} (hE : SqE K H a xs) (hv : σ[i]? = some (some (.ref a))) (k : ∀ (J : It) (G : Hp → Prop), Walk J xs.length G (YAt xs) → (∀ H', Same H H' → G H') → R J H) :
    iList K (tVar i) σ H R ∨ iTup K (tVar i) σ H R := by
  rcases hE with h | h
  · exact .inl ⟨_, hv, a, rfl, ⟨_, h⟩, k _ _ walk_list fun H' s => s.seq h⟩
  · exact .inr ⟨_, hv, a, rfl, ⟨_, h⟩, k _ _ walk_tup fun H' s => same_tup s h⟩
theorem or_enumE {K : PySem.W.Frag} {H : Hp} {a : Addr} {xs : List V} {σ : St} {R : It → Hp → Prop} {ta : TA} (hE : SqE K H a xs) (hv : ∀ Q : List V → Hp → Prop, Q [.ref a] H → ta σ H Q)
    (k : ∀ (J : It) (G : Hp → Prop), Walk J xs.length G (YPair (fun i => some (.int (i : Nat))) (fun i => xs[i]?)) → (∀ H', Same H H' → G H') → R J H) :
    iEnum K ta σ H R ∨ iEnumT K ta σ H R := by
  rcases hE with h | h
  · exact .inl (hv _ ⟨a, xs, rfl, h, k _ _ walk_enum fun H' s => s.seq h⟩)
  · exact .inr (hv _ ⟨a, xs, rfl, h, k _ _ walk_enumT fun H' s => same_tup s h⟩)
theorem or_zipE {K : PySem.W.Frag} {H : Hp} {a : Addr} {xs ys : List V} {σ : St} {R : It → Hp → Prop} {ta : TA} (hE : SqE K H a xs) (hl : xs.length = ys.length)
    (hv : ∀ Q : List V → Hp → Prop, (∀ H1 p, Same H H1 → H p = none → H1 p = some (.lst ys) → Q [.ref a, .ref p] H1) → ta σ H Q)
    (k : ∀ (H1 : Hp) (p : Addr) (J : It) (G : Hp → Prop), Same H H1 → H p = none → H1 p = some (.lst ys) → Walk J xs.length G (YPair (fun i => xs[i]?) (fun i => ys[i]?)) → (∀ H', Same H1 H' → G H') → R J H1) :
    iZip K ta σ H R ∨ iZipTL K ta σ H R := by
  rcases hE with h | h
  · exact .inl (hv _ fun H1 p s np hp => ⟨a, p, xs, ys, rfl, s.seq h, SqL.of hp, k _ p _ _ s np hp (walk_zip (by omega)) fun H' t => ⟨t.seq (s.seq h), SqL.of (t _ _ hp)⟩⟩)
  · exact .inr (hv _ fun H1 p s np hp => ⟨a, p, xs, ys, rfl, same_tup s h, SqL.of hp, k _ p _ _ s np hp (walk_zipTL hl) fun H' t => ⟨same_tup t (same_tup s h), SqL.of (t _ _ hp)⟩⟩)
theorem ty_E {K : PySem.W.Frag} {H : Hp} {a : Addr} {xs : List V} (h : SqE K H a xs) : TyX K H (.ref a) (.type "list") ∨ TyX K H (.ref a) (.type "tuple") := by
  rcases h with ((h | ⟨o, h⟩) | ⟨dd, its, n, h1, h2⟩) | ((h | ⟨o, h⟩) | ⟨dd, its, n, h1, h2⟩)
  · exact .inl (.base (.lst h))
  · exact .inl (.base (.frz h))
  · exact .inl (.kList h1 h2.1)
  · exact .inr (.base (.tup h))
  · exact .inr (.fTuple h)
  · exact .inr (.kTuple h1 h2.1)
theorem kit_lt {K : PySem.W.Frag} : PySem.W.kitAny K (.type "list") [.type "list", .type "tuple"] = some true := kitAny_cons (b := true) (kit_ty (by decide +kernel)) (fun z => nomatch z) fun _ => rfl
theorem kit_tt {K : PySem.W.Frag} : PySem.W.kitAny K (.type "tuple") [.type "list", .type "tuple"] = some true := kitAny_cons (b := false) (kit_ty (by decide +kernel)) (fun _ => kitAny_cons (b := true) (kit_ty (by decide +kernel)) (fun z => nomatch z) fun _ => rfl) fun z => nomatch z
/-! patterns as texts -/
def sgn (b : Bool) : Nat := if b = true then 84 else 82
def pstr (l : List Bool) : Str := ⟨(l.map sgn).toArray⟩
theorem pstr_nil : pstr [] = ("" : Str) := by decide +kernel
theorem pstr_T (l : List Bool) : pstr l ++ ("T" : Str) = pstr (l ++ [true]) := by
  show (⟨(l.map sgn).toArray ++ ("T" : Str).cps⟩ : Str) = _
  rw [show ("T" : Str).cps = #[84] by decide +kernel]
  simp [pstr, sgn]
theorem pstr_R (l : List Bool) : pstr l ++ ("R" : Str) = pstr (l ++ [false]) := by
  show (⟨(l.map sgn).toArray ++ ("R" : Str).cps⟩ : Str) = _
  rw [show ("R" : Str).cps = #[82] by decide +kernel]
  simp [pstr, sgn]
theorem pstr_size (l : List Bool) : (pstr l).cps.size = l.length := by simp [pstr]
theorem pstr_at {l : List Bool} {i c : Nat} (h : (pstr l).cps[i]? = some c) : ∃ b, l[i]? = some b ∧ c = sgn b := by
  simp only [pstr, List.getElem?_toArray, List.getElem?_map] at h
  cases q : l[i]? with
  | none => rw [q] at h; cases h
  | some b => rw [q] at h; cases h; exact ⟨b, rfl, rfl⟩
theorem sgnT : (⟨#[sgn true]⟩ : Str) = ("T" : Str) := by decide +kernel
theorem sgnR : (⟨#[sgn false]⟩ : Str) = ("R" : Str) := by decide +kernel
theorem R_ne_T : ¬ ((⟨#[sgn false]⟩ : Str) = ("T" : Str)) := by decide +kernel
theorem vsT : V.str ⟨#[sgn true]⟩ = V.str "T" := congrArg V.str sgnT
theorem vsR : ¬ (V.str ⟨#[sgn false]⟩ = V.str "T") := fun h => R_ne_T (V.str.inj h)
theorem vsRR : V.str ⟨#[sgn false]⟩ = V.str "R" := congrArg V.str sgnR
theorem count_T (l : List Bool) : Txt.count (pstr l) ("T" : Str) = ((l.count true : Nat) : Int) := by
  rw [show ("T" : Str) = ⟨#[84]⟩ by decide +kernel, PyProof.Rows.count_cnt]
  show PyProof.Rows.cnt 84 (l.map sgn).toArray.toList = _
  rw [List.toList_toArray]
  induction l with
  | nil => rfl
  | cons b r ih =>
    rw [List.map_cons, PyProof.Rows.cnt_cons, ih]
    cases b with
    | true => rw [if_pos (by decide)]; simp; omega
    | false => rw [if_neg (by decide)]; simp
/-! dicts by place -/
def numK (ns : List Int) : List (Key × V) := ns.zipIdx.map fun p => (.inl p.1, .int (p.2 : Nat))
theorem numK_len (ns : List Int) : (numK ns).length = ns.length := by simp [numK]
theorem putK_new {kvs : List (Key × V)} {k : Key} {v : V} (h : ∀ q ∈ kvs, q.1 ≠ k) : putK kvs k v = kvs ++ [(k, v)] := by
  unfold putK
  rw [if_neg]
  intro q
  obtain ⟨x, hx, e⟩ := List.any_eq_true.mp q
  exact h x hx (of_decide_eq_true e)
theorem numK_snoc (ns : List Int) (x : Int) : numK (ns ++ [x]) = numK ns ++ [(.inl x, .int (ns.length : Nat))] := by
  unfold numK
  rw [List.zipIdx_append]
  simp
theorem numK_put {ns : List Int} {x : Int} (h : x ∉ ns) : putK (numK ns) (.inl x) (.int (ns.length : Nat)) = numK (ns ++ [x]) := by
  rw [numK_snoc, putK_new]
  intro q hq e
  obtain ⟨⟨a, i⟩, hp, rfl⟩ := List.mem_map.mp hq
  cases e
  exact h (List.mem_of_getElem? (List.mem_zipIdx_iff_getElem?.mp hp))
theorem numK_val {ns : List Int} (nd : ns.Nodup) {j : Nat} {x : Int} (h : ns[j]? = some x) : valV (numK ns) (.inl x) = some (.int (j : Nat)) := by
  unfold valV
  have key : (numK ns).find? (fun kv => decide (kv.1 = Sum.inl x)) = some (.inl x, .int (j : Nat)) := by
    obtain ⟨hj, e⟩ := List.getElem?_eq_some_iff.mp h
    rw [List.find?_eq_some_iff_getElem]
    refine ⟨decide_eq_true rfl, j, by rw [numK_len]; exact hj, ?_, fun m hm => ?_⟩
    · simp [numK, e]
    · have hm2 : m < ns.length := by omega
      have e2 : ((numK ns)[m]'(by rw [numK_len]; omega)).1 = Sum.inl ns[m] := by simp [numK]
      rw [e2, decide_eq_false]
      · rfl
      · intro z
        cases z
        exact Nat.ne_of_lt hm ((List.getElem_inj nd).mp e.symm)
  rw [key]; rfl

theorem seq_int {n : Nat} {z : Int} (h0 : 0 ≤ z) (h : z.toNat < n) : seqIndex? z n = some z.toNat := by
  unfold seqIndex?
  have e : (if z < 0 then z + (n : Int) else z) = z := if_neg (by omega)
  simp only [e]
  rw [if_pos (by rw [Bool.and_eq_true, decide_eq_true_iff, decide_eq_true_iff]; omega)]
theorem ixN_int {n : Nat} {z : Int} (h0 : 0 ≤ z) (h : z.toNat < n) : ixN n z = some z.toNat := by
  unfold ixN
  rw [if_pos h0, if_pos (by omega)]
theorem log_small {n : Nat} (h : n < 1024) : ((n : Int)).natAbs.log2 < 9000 := by
  rw [Int.natAbs_natCast]
  by_cases h0 : n = 0
  · subst h0; decide
  · exact Nat.lt_trans ((Nat.log2_lt h0).mpr (show n < 2 ^ 10 from h)) (by decide)
theorem erase_map {α β : Type} (f : α → β) : ∀ (l : List α) (k : Nat), (l.map f).eraseIdx k = (l.eraseIdx k).map f
  | [], _ => rfl
  | _ :: _, 0 => rfl
  | a :: r, k + 1 => by
    show f a :: (r.map f).eraseIdx k = f a :: (r.eraseIdx k).map f
    rw [erase_map f r k]
end LP

/-! binary heaps in lists: the mathematics -/
namespace LH
def IsH (ns : List Int) : Prop := ∀ (i : Nat) (x y : Int), 0 < i → ns[i]? = some x → ns[(i - 1) / 2]? = some y → y ≤ x
def Gr (ns : List Int) (p : Nat) : Prop := ∀ (i : Nat) (x y : Int), 0 < i → 0 < p → (i - 1) / 2 = p → ns[i]? = some x → ns[(p - 1) / 2]? = some y → y ≤ x
def Up (ns : List Int) (p : Nat) : Prop := (∀ (i : Nat) (x y : Int), 0 < i → i ≠ p → ns[i]? = some x → ns[(i - 1) / 2]? = some y → y ≤ x) ∧ Gr ns p
def Dn (ns : List Int) (p : Nat) : Prop := (∀ (i : Nat) (x y : Int), 0 < i → i ≠ p → (i - 1) / 2 ≠ p → ns[i]? = some x → ns[(i - 1) / 2]? = some y → y ≤ x) ∧ Gr ns p
def sw (ns : List Int) (i j : Nat) (x y : Int) : List Int := (ns.set i y).set j x
theorem sw_get {ns : List Int} {i j k : Nat} {x y : Int} (hi : ns[i]? = some x) (hj : ns[j]? = some y) : (sw ns i j x y)[k]? = if k = j then some x else if k = i then some y else ns[k]? := by
  have h1 := (List.getElem?_eq_some_iff.mp hi).1
  have h2 := (List.getElem?_eq_some_iff.mp hj).1
  unfold sw
  rw [List.getElem?_set, List.getElem?_set, List.length_set]
  by_cases a : k = j
  · subst a; rw [if_pos rfl, if_pos h2, if_pos rfl]
  · rw [if_neg (fun q => a q.symm), if_neg a]
    by_cases b : k = i
    · subst b; rw [if_pos rfl, if_pos h1, if_pos rfl]
    · rw [if_neg (fun q => b q.symm), if_neg b]
theorem sw_len (ns : List Int) (i j : Nat) (x y : Int) : (sw ns i j x y).length = ns.length := by unfold sw; rw [List.length_set, List.length_set]
theorem sw_perm {ns : List Int} {i j : Nat} {x y : Int} (hi : ns[i]? = some x) (hj : ns[j]? = some y) : (sw ns i j x y).Perm ns := by
  obtain ⟨h1, rfl⟩ := List.getElem?_eq_some_iff.mp hi
  obtain ⟨h2, rfl⟩ := List.getElem?_eq_some_iff.mp hj
  exact List.set_set_perm h1 h2
theorem up_zero {ns : List Int} (h : Up ns 0) : IsH ns := fun i x y h0 hx hy => h.1 i x y h0 (by omega) hx hy
theorem up_done {ns : List Int} {p : Nat} {x y : Int} (h : Up ns p) (hx : ns[p]? = some x) (hy : ns[(p - 1) / 2]? = some y) (hc : ¬ x < y) : IsH ns := fun i a b h0 ha hb => by
  by_cases e : i = p
  · subst e
    rw [hx] at ha; rw [hy] at hb
    cases ha; cases hb; omega
  · exact h.1 i a b h0 e ha hb
theorem up_step {ns : List Int} {p : Nat} {x y : Int} (h : Up ns p) (hp : 0 < p) (hx : ns[p]? = some x) (hy : ns[(p - 1) / 2]? = some y) (hc : x < y) : Up (sw ns ((p - 1) / 2) p y x) ((p - 1) / 2) := by
  refine ⟨fun i a b h0 hi ha hb => ?_, fun i a b h0 hq hi ha hb => ?_⟩
  · rw [sw_get hy hx] at ha hb
    by_cases e : i = p
    · subst e
      rw [if_pos rfl] at ha
      rw [if_neg (by omega), if_pos rfl] at hb
      cases ha; cases hb; omega
    · rw [if_neg e, if_neg hi] at ha
      by_cases e1 : (i - 1) / 2 = p
      · rw [if_pos e1] at hb; cases hb
        exact h.2 i a y h0 hp e1 ha hy
      · rw [if_neg e1] at hb
        by_cases e2 : (i - 1) / 2 = (p - 1) / 2
        · rw [if_pos e2] at hb; cases hb
          have := h.1 i a y h0 e ha (by rw [e2]; exact hy)
          omega
        · rw [if_neg e2] at hb
          exact h.1 i a b h0 e ha hb
  · rw [sw_get hy hx] at ha hb
    rw [if_neg (by omega), if_neg (by omega)] at hb
    have g := h.1 ((p - 1) / 2) y b hq (by omega) hy hb
    by_cases e : i = p
    · rw [if_pos e] at ha; cases ha; exact g
    · rw [if_neg e, if_neg (by omega)] at ha
      have := h.1 i a y h0 e ha (by rw [hi]; exact hy)
      omega
theorem dn_step {ns : List Int} {p c : Nat} {x z : Int} (h : Dn ns p) (hc0 : 0 < c) (hc : (c - 1) / 2 = p) (hx : ns[p]? = some x) (hz : ns[c]? = some z) (least : ∀ (i : Nat) (a : Int), 0 < i → (i - 1) / 2 = p → ns[i]? = some a → z ≤ a) : Dn (sw ns c p z x) c := by
  refine ⟨fun i a b h0 hi hpi ha hb => ?_, fun i a b h0 _ hi ha hb => ?_⟩
  · rw [sw_get hz hx] at ha hb
    by_cases e : i = p
    · rw [if_pos e] at ha; cases ha
      rw [if_neg (by omega), if_neg (by omega)] at hb
      subst e
      exact h.2 c z b hc0 h0 hc hz hb
    · rw [if_neg e, if_neg hi] at ha
      by_cases e1 : (i - 1) / 2 = p
      · rw [if_pos e1] at hb; cases hb
        exact least i a h0 e1 ha
      · rw [if_neg e1, if_neg hpi] at hb
        exact h.1 i a b h0 e e1 ha hb
  · rw [sw_get hz hx] at ha hb
    rw [if_neg (by omega), if_neg (by omega)] at ha
    rw [hc, if_pos rfl] at hb
    cases hb
    exact h.1 i a z h0 (by omega) (by omega) ha (by rw [hi]; exact hz)
theorem dn_leaf {ns : List Int} {p : Nat} (h : Dn ns p) (hp : ns.length ≤ 2 * p + 1) : Up ns p := by
  refine ⟨fun i x y h0 hi hx hy => ?_, h.2⟩
  by_cases e : (i - 1) / 2 = p
  · have := (List.getElem?_eq_some_iff.mp hx).1; omega
  · exact h.1 i x y h0 hi e hx hy
theorem up_push {ns : List Int} {x : Int} (h : IsH ns) : Up (ns ++ [x]) ns.length := by
  refine ⟨fun i a b h0 hi ha hb => ?_, fun i a b h0 hp hi ha hb => ?_⟩
  · have hl := (List.getElem?_eq_some_iff.mp ha).1
    rw [List.length_append] at hl
    have hl2 : i < ns.length := by simp at hl; omega
    rw [List.getElem?_append_left hl2] at ha
    rw [List.getElem?_append_left (by omega)] at hb
    exact h i a b h0 ha hb
  · have hl := (List.getElem?_eq_some_iff.mp ha).1
    simp at hl; omega
theorem dn_pop {f last : Int} {mid : List Int} (h : IsH (f :: (mid ++ [last]))) : Dn (last :: mid) 0 := by
  refine ⟨fun i x y h0 _ h1 hx hy => ?_, fun i x y _ h0 => by omega⟩
  obtain ⟨k, rfl⟩ : ∃ k, i = k + 1 := ⟨i - 1, by omega⟩
  obtain ⟨m, hm⟩ : ∃ m, (k + 1 - 1) / 2 = m + 1 := ⟨(k + 1 - 1) / 2 - 1, by omega⟩
  rw [hm] at hy
  have hx1 : mid[k]? = some x := hx
  have hy1 : mid[m]? = some y := hy
  have lx := (List.getElem?_eq_some_iff.mp hx1).1
  have ly := (List.getElem?_eq_some_iff.mp hy1).1
  refine h (k + 1) x y h0 ?_ ?_
  · show (mid ++ [last])[k]? = some x
    rw [List.getElem?_append_left lx]; exact hx1
  · rw [hm]
    show (mid ++ [last])[m]? = some y
    rw [List.getElem?_append_left ly]; exact hy1
theorem heap_min {ns : List Int} {m : Int} (h : IsH ns) (hm : ns[0]? = some m) : ∀ (i : Nat) (x : Int), ns[i]? = some x → m ≤ x := by
  intro i
  induction i using Nat.strongRecOn with
  | _ i ih =>
    intro x hx
    by_cases e : i = 0
    · subst e; rw [hm] at hx; cases hx; exact Int.le_refl _
    · have hl := (List.getElem?_eq_some_iff.mp hx).1
      have hq : ns[(i - 1) / 2]? = some (ns[(i - 1) / 2]'(by omega)) := List.getElem?_eq_getElem (by omega)
      exact Int.le_trans (ih _ (by omega) _ hq) (h i x _ (by omega) hx hq)
theorem heap_nil : IsH [] := fun i x y _ h => by simp at h
theorem heap_one (x : Int) : IsH [x] := fun i a b h0 ha => by
  have := (List.getElem?_eq_some_iff.mp ha).1
  simp at this; omega
end LH

namespace LH
open PySem PySem.Spec PyProof.Rows L2
open AutoSeq1 (wpAny_loadPart')
theorem plain_sift : plainId "_heapq.heapify.sift" = true := by decide +kernel
theorem entry_sift : entryFor table "_heapq.heapify.sift" = some Builtin.«_heapq.heapify.sift» := entryFor_of_fast (by kernel_rfl)
theorem plain_push : plainId "_heapq.heappush" = true := by decide +kernel
theorem entry_push : entryFor table "_heapq.heappush" = some Builtin.«_heapq.heappush» := entryFor_of_fast (by kernel_rfl)
theorem kind_push : builtinKind "_heapq.heappush" = none := by decide +kernel
theorem args_push (a b : Value) : argsOk "_heapq.heappush" ⟨[a, b], []⟩ := by unfold argsOk; kernel_rfl
theorem plain_pop : plainId "_heapq.heappop" = true := by decide +kernel
theorem entry_pop : entryFor table "_heapq.heappop" = some Builtin.«_heapq.heappop» := entryFor_of_fast (by kernel_rfl)
theorem kind_pop : builtinKind "_heapq.heappop" = none := by decide +kernel
theorem args_pop (a : Value) : argsOk "_heapq.heappop" ⟨[a], []⟩ := by unfold argsOk; kernel_rfl
/-- the list object at a holds these ints -/
def Li (h : Heap) (a : Addr) (vs : List Value) (ns : List Int) : Prop := (∃ n, h.get? a = some (seqObj "list" vs.toArray n)) ∧ IntsAre vs ns
/-- only the object at a is other than it was -/
def Ot (h h' : Heap) (a : Addr) : Prop := h'.objs.size = h.objs.size ∧ ∀ b, b ≠ a → h'.get? b = h.get? b
theorem Ot.refl (h : Heap) (a : Addr) : Ot h h a := ⟨rfl, fun _ _ => rfl⟩
theorem Ot.trans {h h1 h2 : Heap} {a : Addr} (x : Ot h h1 a) (y : Ot h1 h2 a) : Ot h h2 a := ⟨y.1.trans x.1, fun b hb => (y.2 b hb).trans (x.2 b hb)⟩
theorem Ot.up (h : Heap) (a : Addr) (f : Obj → Obj) : Ot h (h.update a f) a := ⟨Heap.size_update .., fun b hb => Heap.get?_update_ne _ _ _ _ hb⟩
theorem ints_get {vs : List Value} {ns : List Int} (h : IntsAre vs ns) {i : Nat} {x : Int} (hx : ns[i]? = some x) : ∃ t, vs[i]? = some (.int x t) := by
  induction h generalizing i with
  | nil => simp at hx
  | cons n t r ih =>
    cases i with
    | zero => cases hx; exact ⟨t, rfl⟩
    | succ k => exact ih hx
theorem ints_set {vs : List Value} {ns : List Int} (h : IntsAre vs ns) {i : Nat} {x : Int} {t : Tok} : IntsAre (vs.set i (.int x t)) (ns.set i x) := by
  induction h generalizing i with
  | nil => exact .nil
  | cons n u r ih =>
    cases i with
    | zero => exact .cons x t r
    | succ k => exact .cons n u ih
theorem ints_app {vs us : List Value} {ns ms : List Int} (h : IntsAre vs ns) (g : IntsAre us ms) : IntsAre (vs ++ us) (ns ++ ms) := by
  induction h with
  | nil => exact g
  | cons n u r ih => exact .cons n u ih
section
variable {prog : Program} {w : World} {A : Around} {E : Value → Shared → Prop} {s : Shared}
theorem lt_int {a b : Int} {t u : Tok} {Q : Value → Shared → Prop} (h : Q (.bool (decide (a < b))) s) : wpAny (model prog w) A (richCompare .Lt (.int a t) (.int b u)) Q E s :=
  richCompare_gives (op := .Lt) (typeIs_int s _ t) (typeIs_int s _ u) PySem.F.slot_int_lt PySem.F.entry_int_lt (PySem.F.args_int_lt_2 _ _) (gives_int_lt _ _ t u) (fun x => nomatch x) h
/-- two items exchanged -/
theorem swap_li {h : Heap} {a : Addr} {vs : List Value} {ns : List Int} {n i j : Nat} {x y : Int} {t u : Tok} (ho : h.get? a = some (seqObj "list" vs.toArray n)) (hI : IntsAre vs ns) :
    Li (h.update a (Obj.mapSeq fun xs => (xs.setIfInBounds i (.int y u)).setIfInBounds j (.int x t))) a ((vs.set i (.int y u)).set j (.int x t)) (sw ns i j x y) := by
  have e := get?_update_seq ho (fun xs => (xs.setIfInBounds i (.int y u)).setIfInBounds j (.int x t))
  rw [List.setIfInBounds_toArray, List.setIfInBounds_toArray] at e
  exact ⟨⟨_, e⟩, ints_set (ints_set hI)⟩
theorem sift_up {a : Addr} {R : Result → Shared → Prop} {res : Value} : ∀ (p : Nat) (s : Shared) (vs : List Value) (ns : List Int), Li s.heap a vs ns → ns.length ≤ 1000 → p < ns.length → Up ns p →
    (∀ (h' : Heap) (ws : List Value) (ms : List Int), IsH ms → ms.Perm ns → Li h' a ws ms → Ot s.heap h' a → R (.ok (.ret res)) { s with heap := h' }) →
    codeAny (model prog w) A (.builtin "_heapq.heapify.sift" ⟨[.ref a, .bool false, .bool false, rawInt (p : Nat), rawInt (0 : Nat), res, rawInt (-1)], []⟩) R s := by
  intro p
  induction p using Nat.strongRecOn with
  | _ p ih =>
  intro s vs ns hL hz hlt hup k
  obtain ⟨⟨n, ho⟩, hI⟩ := id hL
  refine codeAny_builtin entry_sift ?_
  rw [Around.under_plainId plain_sift _]
  wp_walk using wpAny_loadPart' ho
  simp only [Int.toNat_natCast]
  by_cases hp : p > 0
  · rw [if_pos (by simpa using hp)]
    have hx1 : ns[p]? = some ns[p] := List.getElem?_eq_getElem hlt
    have hy1 : ns[(p - 1) / 2]? = some (ns[(p - 1) / 2]'(by omega)) := List.getElem?_eq_getElem (by omega)
    generalize ns[p] = x at hx1
    generalize ns[(p - 1) / 2]'(by omega) = y at hy1
    obtain ⟨t, hx⟩ := ints_get hI hx1
    obtain ⟨u, hy⟩ := ints_get hI hy1
    have hxa : vs.toArray[p]? = some (.int x t) := by simpa using hx
    have hya : vs.toArray[(p - 1) / 2]? = some (.int y u) := by simpa using hy
    wp_step
    wp_step
    rw [hxa]
    wp_step
    wp_step
    wp_step
    rw [hya]
    wp_step
    wp_walk using wpAny_loadPart' ho, lt_int, wpAny_truthy_bool
    by_cases hc : x < y
    · rw [if_pos (decide_eq_true hc)]
      wp_walk using wpAny_loadPart' ho
      rw [hya]
      wp_step
      wp_step
      wp_step
      rw [hxa]
      wp_step
      have hvl := hI.length
      refine wpAny_updateSeq ho rfl ?_ (by rw [List.size_toArray, hvl]; exact Nat.le_of_lt (small1000 hz)) (by rw [Array.size_setIfInBounds, Array.size_setIfInBounds, List.size_toArray, hvl]; exact Nat.le_succ_of_le (Nat.le_of_lt (small1000 hz)))
      wp_walk
      refine ⟨plainId_quiet plain_sift _, ?_⟩
      have hL2 := swap_li (i := (p - 1) / 2) (j := p) (x := y) (y := x) (t := u) (u := t) ho hI
      refine ih ((p - 1) / 2) (by omega) _ _ _ hL2 (by rw [sw_len]; exact hz) (by rw [sw_len]; omega) (up_step hup hp hx1 hy1 hc) fun h' ws ms q1 q2 q3 q4 => ?_
      exact k h' ws ms q1 (q2.trans (sw_perm hy1 hx1)) q3 ((Ot.up _ _ _).trans q4)
    · rw [if_neg (by rw [decide_eq_false hc]; exact Bool.false_ne_true)]
      wp_walk
      exact k s.heap vs ns (up_done hup hx1 hy1 hc) (List.Perm.refl _) hL (Ot.refl _ _)
  · rw [if_neg (by simpa using hp)]
    have e : p = 0 := by omega
    subst e
    wp_walk
    exact k s.heap vs ns (up_zero hup) (List.Perm.refl _) hL (Ot.refl _ _)
end
end LH

namespace LH
open PySem PySem.Spec PyProof.Rows L2
open AutoSeq1 (wpAny_loadPart')
section
variable {prog : Program} {w : World} {A : Around} {E : Value → Shared → Prop} {s : Shared}
theorem sift_down {a : Addr} {R : Result → Shared → Prop} {res : Value} : ∀ (d p : Nat) (s : Shared) (vs : List Value) (ns : List Int), ns.length - p ≤ d → Li s.heap a vs ns → ns.length ≤ 1000 → p < ns.length → Dn ns p →
    (∀ (h' : Heap) (ws : List Value) (ms : List Int), IsH ms → ms.Perm ns → Li h' a ws ms → Ot s.heap h' a → R (.ok (.ret res)) { s with heap := h' }) →
    codeAny (model prog w) A (.builtin "_heapq.heapify.sift" ⟨[.ref a, .bool false, .bool true, rawInt (p : Nat), rawInt (0 : Nat), res, rawInt (-1)], []⟩) R s := by
  intro d
  induction d with
  | zero => intro p s vs ns hd _ _ hlt; omega
  | succ d ih =>
  intro p s vs ns hd hL hz hlt hdn k
  obtain ⟨⟨n, ho⟩, hI⟩ := id hL
  have hvl := hI.length
  have hsz : vs.toArray.size = ns.length := by rw [List.size_toArray, hvl]
  refine codeAny_builtin entry_sift ?_
  rw [Around.under_plainId plain_sift _]
  wp_walk using wpAny_loadPart' ho
  simp only [Int.toNat_natCast]
  by_cases hp : p < vs.toArray.size / 2
  · rw [if_pos hp]
    rw [hsz] at hp
    have hx1 : ns[p]? = some ns[p] := List.getElem?_eq_getElem hlt
    have hl1 : ns[2 * p + 1]? = some (ns[2 * p + 1]'(by omega)) := List.getElem?_eq_getElem (by omega)
    generalize ns[p] = x at hx1
    generalize ns[2 * p + 1]'(by omega) = y at hl1
    obtain ⟨t, hx⟩ := ints_get hI hx1
    obtain ⟨u, hy⟩ := ints_get hI hl1
    have hxa : vs.toArray[p]? = some (.int x t) := by simpa using hx
    have hya : vs.toArray[2 * p + 1]? = some (.int y u) := by simpa using hy
    by_cases hr : 2 * p + 1 + 1 < vs.toArray.size
    · rw [if_pos hr]
      rw [hsz] at hr
      have hr1 : ns[2 * p + 1 + 1]? = some (ns[2 * p + 1 + 1]'(by omega)) := List.getElem?_eq_getElem (by omega)
      generalize ns[2 * p + 1 + 1]'(by omega) = z at hr1
      obtain ⟨v, hz1⟩ := ints_get hI hr1
      have hz2a : vs.toArray[2 * p + 1 + 1]? = some (.int z v) := by simpa using hz1
      wp_step
      wp_step
      rw [hya]
      wp_step
      wp_step
      wp_step
      rw [hz2a]
      wp_step
      wp_walk using wpAny_loadPart' ho, lt_int, wpAny_truthy_bool
      by_cases hc : y < z
      · rw [decide_eq_true hc]
        wp_walk using wpAny_loadPart' ho
        rw [hya]
        wp_step
        wp_step
        wp_step
        rw [hxa]
        wp_step
        refine wpAny_updateSeq ho rfl ?_ (by rw [hsz]; exact Nat.le_of_lt (small1000 hz)) (by rw [Array.size_setIfInBounds, Array.size_setIfInBounds, hsz]; exact Nat.le_succ_of_le (Nat.le_of_lt (small1000 hz)))
        wp_walk
        refine ⟨plainId_quiet plain_sift _, ?_⟩
        have hL2 := swap_li (i := 2 * p + 1) (j := p) (x := y) (y := x) (t := u) (u := t) ho hI
        refine ih (2 * p + 1) _ _ _ (by rw [sw_len]; omega) hL2 (by rw [sw_len]; exact hz) (by rw [sw_len]; omega) (dn_step hdn (by omega) (by omega) hx1 hl1 (fun i b h0 hi hb => ?_)) fun h' ws ms q1 q2 q3 q4 => k h' ws ms q1 (q2.trans (sw_perm hl1 hx1)) q3 ((Ot.up _ _ _).trans q4)
        rcases (show i = 2 * p + 1 ∨ i = 2 * p + 1 + 1 by omega) with e | e
        · subst e; rw [hl1] at hb; cases hb; exact Int.le_refl _
        · subst e; rw [hr1] at hb; cases hb; omega
      · rw [decide_eq_false hc]
        wp_walk using wpAny_loadPart' ho
        rw [hz2a]
        wp_step
        wp_step
        wp_step
        rw [hxa]
        wp_step
        refine wpAny_updateSeq ho rfl ?_ (by rw [hsz]; exact Nat.le_of_lt (small1000 hz)) (by rw [Array.size_setIfInBounds, Array.size_setIfInBounds, hsz]; exact Nat.le_succ_of_le (Nat.le_of_lt (small1000 hz)))
        wp_walk
        refine ⟨plainId_quiet plain_sift _, ?_⟩
        have hL2 := swap_li (i := 2 * p + 1 + 1) (j := p) (x := z) (y := x) (t := v) (u := t) ho hI
        refine ih (2 * p + 1 + 1) _ _ _ (by rw [sw_len]; omega) hL2 (by rw [sw_len]; exact hz) (by rw [sw_len]; omega) (dn_step hdn (by omega) (by omega) hx1 hr1 (fun i b h0 hi hb => ?_)) fun h' ws ms q1 q2 q3 q4 => k h' ws ms q1 (q2.trans (sw_perm hr1 hx1)) q3 ((Ot.up _ _ _).trans q4)
        rcases (show i = 2 * p + 1 ∨ i = 2 * p + 1 + 1 by omega) with e | e
        · subst e; rw [hl1] at hb; cases hb; omega
        · subst e; rw [hr1] at hb; cases hb; exact Int.le_refl _
    · rw [if_neg hr]
      rw [hsz] at hr
      wp_walk using wpAny_loadPart' ho
      rw [hya]
      wp_step
      wp_step
      wp_step
      rw [hxa]
      wp_step
      refine wpAny_updateSeq ho rfl ?_ (by rw [hsz]; exact Nat.le_of_lt (small1000 hz)) (by rw [Array.size_setIfInBounds, Array.size_setIfInBounds, hsz]; exact Nat.le_succ_of_le (Nat.le_of_lt (small1000 hz)))
      wp_walk
      refine ⟨plainId_quiet plain_sift _, ?_⟩
      have hL2 := swap_li (i := 2 * p + 1) (j := p) (x := y) (y := x) (t := u) (u := t) ho hI
      refine ih (2 * p + 1) _ _ _ (by rw [sw_len]; omega) hL2 (by rw [sw_len]; exact hz) (by rw [sw_len]; omega) (dn_step hdn (by omega) (by omega) hx1 hl1 (fun i b h0 hi hb => ?_)) fun h' ws ms q1 q2 q3 q4 => k h' ws ms q1 (q2.trans (sw_perm hl1 hx1)) q3 ((Ot.up _ _ _).trans q4)
      have hlt2 := (List.getElem?_eq_some_iff.mp hb).1
      have e : i = 2 * p + 1 := by omega
      subst e; rw [hl1] at hb; cases hb; exact Int.le_refl _
  · rw [if_neg hp]
    rw [hsz] at hp
    wp_walk
    refine ⟨plainId_quiet plain_sift _, ?_⟩
    exact sift_up p s vs ns hL hz hlt (dn_leaf hdn (by omega)) k
end
end LH

namespace LH
open PySem PySem.Spec PyProof.Rows L2
open AutoSeq1 (wpAny_loadPart')
section
variable {prog : Program} {w : World} {A : Around} {E : Value → Shared → Prop} {s : Shared}
theorem push_li {h : Heap} {a : Addr} {vs : List Value} {ns : List Int} {n : Nat} {x : Int} {t : Tok} (ho : h.get? a = some (seqObj "list" vs.toArray n)) (hI : IntsAre vs ns) :
    Li (h.update a (Obj.mapSeq fun xs => xs.push (.int x t))) a (vs ++ [.int x t]) (ns ++ [x]) := by
  have e := get?_update_seq ho (fun xs => xs.push (.int x t))
  rw [List.push_toArray] at e
  exact ⟨⟨_, e⟩, ints_app hI (.cons x t .nil)⟩
theorem call_push {a : Addr} {vs : List Value} {ns : List Int} {x : Int} {t : Tok} {Q : Value → Shared → Prop} (hL : Li s.heap a vs ns) (hz : ns.length < 1000) (hH : IsH ns)
    (k : ∀ (h' : Heap) (ws : List Value) (ms : List Int), IsH ms → ms.Perm (ns ++ [x]) → Li h' a ws ms → Ot s.heap h' a → Q .none { s with heap := h' }) :
    wpAny (model prog w) A (call (.builtin "_heapq.heappush") [.ref a, .int x t]) Q E s := by
  obtain ⟨⟨n, ho⟩, hI⟩ := id hL
  have hvl := hI.length
  have hT : s.TypeIs (.ref a) "list" := ⟨_, ho, rfl⟩
  have hsub := sub_list_self
  refine call_function_tree kind_push plain_push entry_push (args_push _ _) ?_
  have U : ∀ {Q : Unit → Shared → Prop}, Q () { s with heap := s.heap.update a (Obj.mapSeq fun xs => xs.push (.int x t)) } → wpAny (model prog w) A.in1 (updateSeq a fun xs => xs.push (.int x t)) Q E s :=
    fun h => wpAny_updateSeq ho rfl h (by rw [List.size_toArray, hvl]; exact Nat.le_of_lt (small1000 (by omega))) (by rw [Array.size_push, List.size_toArray, hvl]; exact Nat.le_of_lt (Nat.lt_succ_of_lt (small1000 (by omega))))
  have hL2 := push_li (x := x) (t := t) ho hI
  obtain ⟨⟨n2, ho2⟩, hI2⟩ := id hL2
  have hOt := Ot.up s.heap a (Obj.mapSeq fun xs => xs.push (.int x t))
  generalize s.heap.update a (Obj.mapSeq fun xs => xs.push (.int x t)) = h2 at U hL2 ho2 hOt
  wp_walk using wpAny_typeOf hT, U, wpAny_loadPart' ho2
  refine ⟨plainId_quiet plain_sift _, ?_⟩
  have e : (vs ++ [Value.int x t]).toArray.size - 1 = ns.length := by rw [List.size_toArray, List.length_append, hvl]; rfl
  rw [e]
  exact sift_up ns.length { s with heap := h2 } _ _ hL2 (by rw [List.length_append]; exact hz) (by rw [List.length_append]; exact Nat.lt_succ_self _) (up_push hH) fun h' ws ms q1 q2 q3 q4 => k h' ws ms q1 q2 q3 (hOt.trans q4)
theorem ints_split {vs : List Value} : ∀ {ms ks : List Int}, IntsAre vs (ms ++ ks) → ∃ us ws, vs = us ++ ws ∧ IntsAre us ms ∧ IntsAre ws ks
  | [], ks, h => ⟨[], vs, rfl, .nil, h⟩
  | m :: ms, ks, h => by
    cases h with
    | cons n t r =>
      obtain ⟨us, ws, e, h1, h2⟩ := ints_split r
      exact ⟨.int m t :: us, ws, by rw [e]; rfl, .cons m t h1, h2⟩
theorem call_pop1 {a : Addr} {vs : List Value} {m : Int} {Q : Value → Shared → Prop} (hL : Li s.heap a vs [m])
    (k : ∀ (h' : Heap) (t : Tok), Li h' a [] [] → Ot s.heap h' a → Q (.int m t) { s with heap := h' }) :
    wpAny (model prog w) A (call (.builtin "_heapq.heappop") [.ref a]) Q E s := by
  obtain ⟨⟨n, ho⟩, hI⟩ := id hL
  have hT : s.TypeIs (.ref a) "list" := ⟨_, ho, rfl⟩
  have hsub := sub_list_self
  cases hI with
  | cons _ t r =>
    cases r
    have U : ∀ {Q : Unit → Shared → Prop}, Q () { s with heap := s.heap.update a (Obj.mapSeq fun xs => xs.pop) } → wpAny (model prog w) A.in1 (updateSeq a fun xs => xs.pop) Q E s :=
      fun h => wpAny_updateSeq ho rfl h (by show 1 ≤ sizeLine; decide) (by show 0 ≤ sizeLine + 1; exact Nat.zero_le _)
    have e := get?_update_seq ho (fun xs => xs.pop)
    have hOt := Ot.up s.heap a (Obj.mapSeq fun xs => xs.pop)
    generalize s.heap.update a (Obj.mapSeq fun xs => xs.pop) = h2 at U e hOt
    have hL2 : Li h2 a [] [] := ⟨⟨_, e⟩, .nil⟩
    refine call_function_tree kind_pop plain_pop entry_pop (args_pop _) ?_
    wp_walk using wpAny_typeOf hT, U, wpAny_loadPart' ho
    exact k h2 t hL2 hOt
theorem call_pop2 {a : Addr} {vs : List Value} {f last : Int} {mid : List Int} {Q : Value → Shared → Prop} (hL : Li s.heap a vs (f :: (mid ++ [last]))) (hz : mid.length < 900) (hH : IsH (f :: (mid ++ [last])))
    (k : ∀ (h' : Heap) (t : Tok) (ws : List Value) (ms : List Int), IsH ms → ms.Perm (last :: mid) → Li h' a ws ms → Ot s.heap h' a → Q (.int f t) { s with heap := h' }) :
    wpAny (model prog w) A (call (.builtin "_heapq.heappop") [.ref a]) Q E s := by
  obtain ⟨⟨n, ho⟩, hI⟩ := id hL
  have hT : s.TypeIs (.ref a) "list" := ⟨_, ho, rfl⟩
  have hsub := sub_list_self
  cases hI with
  | cons _ t r =>
    obtain ⟨um, ul, rfl, hm, hl⟩ := ints_split r
    cases hl with
    | cons _ t2 r2 =>
      cases r2
      have hml := hm.length
      have U : ∀ {Q : Unit → Shared → Prop}, Q () { s with heap := s.heap.update a (Obj.mapSeq fun xs => xs.pop) } → wpAny (model prog w) A.in1 (updateSeq a fun xs => xs.pop) Q E s :=
        fun h => wpAny_updateSeq ho rfl h (by simp only [List.size_toArray, List.length_cons, List.length_append, List.length_nil]; exact Nat.le_of_lt (small1000 (by omega))) (by rw [Array.size_pop]; simp only [List.size_toArray, List.length_cons, List.length_append, List.length_nil]; exact Nat.le_succ_of_le (Nat.le_of_lt (small1000 (by omega))))
      have e := get?_update_seq ho (fun xs => xs.pop)
      have hOt := Ot.up s.heap a (Obj.mapSeq fun xs => xs.pop)
      generalize s.heap.update a (Obj.mapSeq fun xs => xs.pop) = h2 at U e hOt
      refine call_function_tree kind_pop plain_pop entry_pop (args_pop _) ?_
      wp_walk using wpAny_typeOf hT, U, wpAny_loadPart' ho
      have hb : (Value.int f t :: (um ++ [Value.int last t2])).toArray.back? = some (.int last t2) := by
        show ((Value.int f t :: um) ++ [Value.int last t2]).toArray.back? = _
        simp only [List.back?_toArray, List.getLast?_concat]
      rw [hb]
      have ep : (Value.int f t :: (um ++ [Value.int last t2])).toArray.pop = (Value.int f t :: um).toArray := by
        show ((Value.int f t :: um) ++ [Value.int last t2]).toArray.pop = _
        simp only [List.pop_toArray, List.dropLast_concat]
      rw [ep] at e
      wp_step
      wp_step
      refine U ?_
      rw [if_neg (by simp)]
      wp_step
      wp_step
      show wpAny _ _ (pure (Value.int f t)) _ _ _
      wp_step
      have U2 : ∀ {Q : Unit → Shared → Prop}, Q () { s with heap := h2.update a (Obj.mapSeq fun xs => xs.setIfInBounds 0 (.int last t2)) } → wpAny (model prog w) A.in1 (updateSeq a fun xs => xs.setIfInBounds 0 (.int last t2)) Q E { s with heap := h2 } :=
        fun h => wpAny_updateSeq e rfl h (by simp only [List.size_toArray, List.length_cons]; exact Nat.le_of_lt (small1000 (by omega))) (by rw [Array.size_setIfInBounds]; simp only [List.size_toArray, List.length_cons]; exact Nat.le_succ_of_le (Nat.le_of_lt (small1000 (by omega))))
      have e2 := get?_update_seq e (fun xs => xs.setIfInBounds 0 (.int last t2))
      rw [List.setIfInBounds_toArray] at e2
      have hOt2 := hOt.trans (Ot.up h2 a (Obj.mapSeq fun xs => xs.setIfInBounds 0 (.int last t2)))
      generalize h2.update a (Obj.mapSeq fun xs => xs.setIfInBounds 0 (.int last t2)) = h3 at U2 e2 hOt2
      wp_walk using U2
      refine ⟨plainId_quiet plain_sift _, ?_⟩
      exact sift_down (last :: mid).length 0 { s with heap := h3 } (.int last t2 :: um) (last :: mid) (by omega) ⟨⟨_, e2⟩, .cons last t2 hm⟩ (by simp only [List.length_cons]; omega) (by simp) (dn_pop hH) fun h' ws ms q1 q2 q3 q4 => k h' t ws ms q1 q2 q3 (hOt2.trans q4)
end
/-! ### the rules -/
/-- heappush(xs, x), ints in heap order -/
def rPush : List V → Hp → VK → Prop := fun vs H Q => ∃ (a : Addr) (ns : List Int) (x : Int), vs = [.ref a, .int x] ∧ H a = some (.lst (ns.map V.int)) ∧ IsH ns ∧ ns.length < 900 ∧
  ∀ ms : List Int, ms.Perm (ns ++ [x]) → IsH ms → Q .non (upd H a (.lst (ms.map V.int)))
/-- heappop(xs), ints in heap order, at least one -/
def rPop : List V → Hp → VK → Prop := fun vs H Q => ∃ (a : Addr) (ns : List Int), vs = [.ref a] ∧ H a = some (.lst (ns.map V.int)) ∧ IsH ns ∧ ns ≠ [] ∧ ns.length < 900 ∧
  ∀ (m : Int) (ms : List Int), (m :: ms).Perm ns → (∀ x ∈ ns, m ≤ x) → IsH ms → Q (.int m) (upd H a (.lst (ms.map V.int)))
section
variable {X : Cx}
theorem li_of {P : Program} {w : World} {H : Hp} {h : Heap} {a : Addr} {ns : List Int} (x : ObjOk P w H h a (.lst (ns.map V.int))) : ∃ vs, Li h a vs ns := by
  obtain ⟨_, its, n, rv, hob⟩ := x
  exact ⟨its, ⟨n, hob⟩, rv.ints⟩
theorem cr_push : CallR X (.builtin "_heapq.heappush") rPush := by
  intro pins s σ H vs us Q I r h
  obtain ⟨a, ns, x, rfl, ha, hH, hz, q⟩ := h
  obtain ⟨u1, u2, rfl, r1, r2⟩ := vals2 r
  cases r1
  obtain ⟨t, rfl⟩ := r2
  obtain ⟨ws, hL⟩ := li_of (I.hok a _ ha)
  refine call_push hL (by omega) hH fun h' us ms h1 h2 h3 h4 => ?_
  obtain ⟨⟨n, hn⟩, hI⟩ := id h3
  have hlen : (ms.map V.int).length ≤ sizeLine := by rw [List.length_map, h2.length_eq, List.length_append]; exact Nat.le_of_lt (small1000 (by show ns.length + 1 ≤ 1000; omega))
  exact ⟨.non, upd H a (.lst (ms.map V.int)), I.write (e := a) (t' := s.toks) (by rw [ha]; trivial) (.inl rfl) (fun b u hb hu => (h4.2 b hb).trans hu) ⟨_, hn⟩ ⟨hlen, us, n, vals_of_ints hI, hn⟩, rfl, q ms h2 h1⟩
theorem cr_pop : CallR X (.builtin "_heapq.heappop") rPop := by
  intro pins s σ H vs us Q I r h
  obtain ⟨a, ns, rfl, ha, hH, hne, hz, q⟩ := h
  rw [Vals.ref1 r]
  obtain ⟨ws, hL⟩ := li_of (I.hok a _ ha)
  have fin : ∀ (m : Int) (t : Tok) (h' : Heap) (us : List Value) (ms : List Int), (m :: ms).Perm ns → (∀ x ∈ ns, m ≤ x) → IsH ms → Li h' a us ms → Ot s.heap h' a → EP X pins σ Q (.int m t) { s with heap := h' } := by
    intro m t h' us ms h1 hmin h2 h3 h4
    obtain ⟨⟨n, hn⟩, hI⟩ := id h3
    have hl := h1.length_eq
    rw [List.length_cons] at hl
    have hlen : (ms.map V.int).length ≤ sizeLine := by rw [List.length_map]; exact Nat.le_of_lt (small1000 (by omega))
    exact ⟨.int m, upd H a (.lst (ms.map V.int)), I.write (e := a) (t' := s.toks) (by rw [ha]; trivial) (.inl rfl) (fun b u hb hu => (h4.2 b hb).trans hu) ⟨_, hn⟩ ⟨hlen, us, n, vals_of_ints hI, hn⟩, ⟨t, rfl⟩, q m ms h1 hmin h2⟩
  have hmin : ∀ f r, ns = f :: r → ∀ x ∈ ns, f ≤ x := fun f r e x hx => by
    obtain ⟨i, hi⟩ := List.mem_iff_getElem?.mp hx
    exact heap_min hH (by rw [e]; rfl) i x hi
  match ns, hne, hL, hH, hmin, hz with
  | [m], _, hL, hH, hmin, hz => exact call_pop1 hL fun h' t h1 h2 => fin m t h' [] [] (List.Perm.refl _) (hmin m [] rfl) heap_nil h1 h2
  | f :: b :: r, _, hL, hH, hmin, hz =>
    obtain ⟨mid, last, e⟩ : ∃ mid last, b :: r = mid ++ [last] := ⟨(b :: r).dropLast, (b :: r).getLast (by simp), (List.dropLast_concat_getLast (by simp)).symm⟩
    rw [e] at hL hH hmin hz ha fin q
    refine call_pop2 hL (by simp only [List.length_cons, List.length_append, List.length_nil] at hz; omega) hH fun h' t ws ms h1 h2 h3 h4 => ?_
    refine fin f t h' ws ms ?_ (hmin f _ rfl) h1 h3 h4
    exact (h2.trans ((List.perm_append_singleton last mid).symm)).cons f
end
end LH


namespace LP
open PySem L2 LT LG LQ LH
def topS (i : Nat) : Stmt := PySem.Challenge.pw_leftreturn_k06_places_filled_by_patterns.main.body.getD i (.Pass ⟨0, 0, 0, 0⟩)
abbrev s_is_whole : Stmt := topS 8
abbrev s_is_listed : Stmt := topS 9
abbrev s_is_place : Stmt := topS 10
abbrev s_is_place_list : Stmt := topS 11
abbrev s_check_places : Stmt := topS 12
abbrev s_is_pattern : Stmt := topS 13
abbrev s_check_pattern_for : Stmt := topS 14
abbrev s_fills_by : Stmt := topS 16
abbrev s__law_bag : Stmt := topS 18
abbrev s__law_stir : Stmt := topS 19
abbrev s__law_draw : Stmt := topS 20
abbrev s__law_shuffled : Stmt := topS 21
abbrev s__law_either : Stmt := topS 22
abbrev s__law_pattern : Stmt := topS 23
abbrev s__law_places : Stmt := topS 24
abbrev s__law_filled : Stmt := topS 25
abbrev s__law_all_patterns : Stmt := topS 26
abbrev s__law_right : Stmt := topS 27
abbrev s_law : Stmt := topS 28
theorem sc_is_whole : FnScope ["value"] ["value"] (defScope s_is_whole) := ⟨rfl, rfl, rfl, by decide +kernel, rfl, by decide +kernel, by decide +kernel⟩
theorem sc_is_listed : FnScope ["value"] ["value"] (defScope s_is_listed) := ⟨rfl, rfl, rfl, by decide +kernel, rfl, by decide +kernel, by decide +kernel⟩
theorem sc_is_place : FnScope ["value"] ["value"] (defScope s_is_place) := ⟨rfl, rfl, rfl, by decide +kernel, rfl, by decide +kernel, by decide +kernel⟩
theorem sc_is_place_list : FnScope ["value", "item"] ["value"] (defScope s_is_place_list) := ⟨rfl, rfl, rfl, by decide +kernel, rfl, by decide +kernel, by decide +kernel⟩
theorem sc_check_places : FnScope ["value"] ["value"] (defScope s_check_places) := ⟨rfl, rfl, rfl, by decide +kernel, rfl, by decide +kernel, by decide +kernel⟩
theorem sc_is_pattern : FnScope ["value", "out", "letter"] ["value"] (defScope s_is_pattern) := ⟨rfl, rfl, rfl, by decide +kernel, rfl, by decide +kernel, by decide +kernel⟩
theorem sc_check_pattern_for : FnScope ["takes", "pattern"] ["takes", "pattern"] (defScope s_check_pattern_for) := ⟨rfl, rfl, rfl, by decide +kernel, rfl, by decide +kernel, by decide +kernel⟩
theorem sc_fills_by : FnScope ["takes", "pattern", "gaps", "fills", "taken", "letter"] ["takes", "pattern"] (defScope s_fills_by) := ⟨rfl, rfl, rfl, by decide +kernel, rfl, by decide +kernel, by decide +kernel⟩
theorem sc__law_bag : FnScope ["script", "total", "cell"] ["script"] (defScope s__law_bag) := ⟨rfl, rfl, rfl, by decide +kernel, rfl, by decide +kernel, by decide +kernel⟩
theorem sc__law_stir : FnScope ["number", "place", "one", "two"] ["number", "place"] (defScope s__law_stir) := ⟨rfl, rfl, rfl, by decide +kernel, rfl, by decide +kernel, by decide +kernel⟩
theorem sc__law_draw : FnScope ["bag", "bound", "cell", "found"] ["bag", "bound"] (defScope s__law_draw) := ⟨rfl, rfl, rfl, by decide +kernel, rfl, by decide +kernel, by decide +kernel⟩
theorem sc__law_shuffled : FnScope ["bag", "items", "left", "step"] ["bag", "items"] (defScope s__law_shuffled) := ⟨rfl, rfl, rfl, by decide +kernel, rfl, by decide +kernel, by decide +kernel⟩
theorem sc__law_either : FnScope ["bag", "items"] ["bag", "items"] (defScope s__law_either) := ⟨rfl, rfl, rfl, by decide +kernel, rfl, by decide +kernel, by decide +kernel⟩
theorem sc__law_pattern : FnScope ["bag", "count", "found", "left", "out", "share", "step"] ["bag", "count"] (defScope s__law_pattern) := ⟨rfl, rfl, rfl, by decide +kernel, rfl, by decide +kernel, by decide +kernel⟩
theorem sc__law_places : FnScope ["bag", "count", "way", "order", "found", "k"] ["bag", "count"] (defScope s__law_places) := ⟨rfl, rfl, rfl, by decide +kernel, rfl, by decide +kernel, by decide +kernel⟩
theorem sc__law_filled : FnScope ["takes", "pattern", "gaps", "found", "at", "letter"] ["takes", "pattern"] (defScope s__law_filled) := ⟨rfl, rfl, rfl, by decide +kernel, rfl, by decide +kernel, by decide +kernel⟩
theorem sc__law_all_patterns : FnScope ["count", "found", "step", "longer", "word", "out"] ["count"] (defScope s__law_all_patterns) := ⟨rfl, rfl, rfl, by decide +kernel, rfl, by decide +kernel, by decide +kernel⟩
theorem sc__law_right : FnScope ["bag", "takes", "pattern", "passed", "kept", "due", "step", "found"] ["bag", "takes", "pattern"] (defScope s__law_right) := ⟨rfl, rfl, rfl, by decide +kernel, rfl, by decide +kernel, by decide +kernel⟩
theorem sc_law : FnScope ["script", "bag", "turn", "count", "takes", "pattern", "step", "one", "two"] ["script"] (defScope s_law) := ⟨rfl, rfl, rfl, by decide +kernel, rfl, by decide +kernel, by decide +kernel⟩
structure Env (K : PySem.W.Frag) (mg : Str → Option Value) where
  n_len : mg "len" = none
  n_range : mg "range" = none
  n_list : mg "list" = none
  n_tuple : mg "tuple" = none
  n_int : mg "int" = none
  n_bool : mg "bool" = none
  n_str : mg "str" = none
  n_isinstance : mg "isinstance" = none
  n_min : mg "min" = none
  n_sorted : mg "sorted" = none
  n_set : mg "set" = none
  n_all : mg "all" = none
  n_repr : mg "repr" = none
  t_MOST_PLACES : Tok
  g_MOST_PLACES : mg "MOST_PLACES" = some (.int 200 t_MOST_PLACES)
  t_GREATEST_PLACE : Tok
  g_GREATEST_PLACE : mg "GREATEST_PLACE" = some (.int 1000000000000000000000000000000 t_GREATEST_PLACE)
  g_heappush : mg "heappush" = some (.builtin "_heapq.heappush")
  g_heappop : mg "heappop" = some (.builtin "_heapq.heappop")
  a_is_whole : Addr
  d_is_whole : FuncData
  f_is_whole : Fun K "is_whole" "is_whole" s_is_whole a_is_whole d_is_whole
  b_is_whole : Binds K d_is_whole ["value"] []
  g_is_whole : mg "is_whole" = some (.ref a_is_whole)
  a_is_listed : Addr
  d_is_listed : FuncData
  f_is_listed : Fun K "is_listed" "is_listed" s_is_listed a_is_listed d_is_listed
  b_is_listed : Binds K d_is_listed ["value"] []
  g_is_listed : mg "is_listed" = some (.ref a_is_listed)
  a_is_place : Addr
  d_is_place : FuncData
  f_is_place : Fun K "is_place" "is_place" s_is_place a_is_place d_is_place
  b_is_place : Binds K d_is_place ["value"] []
  g_is_place : mg "is_place" = some (.ref a_is_place)
  a_is_place_list : Addr
  d_is_place_list : FuncData
  f_is_place_list : Fun K "is_place_list" "is_place_list" s_is_place_list a_is_place_list d_is_place_list
  b_is_place_list : Binds K d_is_place_list ["value"] []
  g_is_place_list : mg "is_place_list" = some (.ref a_is_place_list)
  a_check_places : Addr
  d_check_places : FuncData
  f_check_places : Fun K "check_places" "check_places" s_check_places a_check_places d_check_places
  b_check_places : Binds K d_check_places ["value"] []
  g_check_places : mg "check_places" = some (.ref a_check_places)
  a_is_pattern : Addr
  d_is_pattern : FuncData
  f_is_pattern : Fun K "is_pattern" "is_pattern" s_is_pattern a_is_pattern d_is_pattern
  b_is_pattern : Binds K d_is_pattern ["value"] []
  g_is_pattern : mg "is_pattern" = some (.ref a_is_pattern)
  a_check_pattern_for : Addr
  d_check_pattern_for : FuncData
  f_check_pattern_for : Fun K "check_pattern_for" "check_pattern_for" s_check_pattern_for a_check_pattern_for d_check_pattern_for
  b_check_pattern_for : Binds K d_check_pattern_for ["takes", "pattern"] []
  g_check_pattern_for : mg "check_pattern_for" = some (.ref a_check_pattern_for)
  a_fills_by : Addr
  d_fills_by : FuncData
  f_fills_by : Fun K "fills_by" "fills_by" s_fills_by a_fills_by d_fills_by
  b_fills_by : Binds K d_fills_by ["takes", "pattern"] []
  g_fills_by : mg "fills_by" = some (.ref a_fills_by)
  a__law_bag : Addr
  d__law_bag : FuncData
  f__law_bag : Fun K "_law_bag" "_law_bag" s__law_bag a__law_bag d__law_bag
  b__law_bag : Binds K d__law_bag ["script"] []
  g__law_bag : mg "_law_bag" = some (.ref a__law_bag)
  a__law_stir : Addr
  d__law_stir : FuncData
  f__law_stir : Fun K "_law_stir" "_law_stir" s__law_stir a__law_stir d__law_stir
  b__law_stir : Binds K d__law_stir ["number", "place"] []
  g__law_stir : mg "_law_stir" = some (.ref a__law_stir)
  a__law_draw : Addr
  d__law_draw : FuncData
  f__law_draw : Fun K "_law_draw" "_law_draw" s__law_draw a__law_draw d__law_draw
  b__law_draw : Binds K d__law_draw ["bag", "bound"] []
  g__law_draw : mg "_law_draw" = some (.ref a__law_draw)
  a__law_shuffled : Addr
  d__law_shuffled : FuncData
  f__law_shuffled : Fun K "_law_shuffled" "_law_shuffled" s__law_shuffled a__law_shuffled d__law_shuffled
  b__law_shuffled : Binds K d__law_shuffled ["bag", "items"] []
  g__law_shuffled : mg "_law_shuffled" = some (.ref a__law_shuffled)
  a__law_either : Addr
  d__law_either : FuncData
  f__law_either : Fun K "_law_either" "_law_either" s__law_either a__law_either d__law_either
  b__law_either : Binds K d__law_either ["bag", "items"] []
  g__law_either : mg "_law_either" = some (.ref a__law_either)
  a__law_pattern : Addr
  d__law_pattern : FuncData
  f__law_pattern : Fun K "_law_pattern" "_law_pattern" s__law_pattern a__law_pattern d__law_pattern
  b__law_pattern : Binds K d__law_pattern ["bag", "count"] []
  g__law_pattern : mg "_law_pattern" = some (.ref a__law_pattern)
  a__law_places : Addr
  d__law_places : FuncData
  f__law_places : Fun K "_law_places" "_law_places" s__law_places a__law_places d__law_places
  b__law_places : Binds K d__law_places ["bag", "count"] []
  g__law_places : mg "_law_places" = some (.ref a__law_places)
  a__law_filled : Addr
  d__law_filled : FuncData
  f__law_filled : Fun K "_law_filled" "_law_filled" s__law_filled a__law_filled d__law_filled
  b__law_filled : Binds K d__law_filled ["takes", "pattern"] []
  g__law_filled : mg "_law_filled" = some (.ref a__law_filled)
  a__law_all_patterns : Addr
  d__law_all_patterns : FuncData
  f__law_all_patterns : Fun K "_law_all_patterns" "_law_all_patterns" s__law_all_patterns a__law_all_patterns d__law_all_patterns
  b__law_all_patterns : Binds K d__law_all_patterns ["count"] []
  g__law_all_patterns : mg "_law_all_patterns" = some (.ref a__law_all_patterns)
  a__law_right : Addr
  d__law_right : FuncData
  f__law_right : Fun K "_law_right" "_law_right" s__law_right a__law_right d__law_right
  b__law_right : Binds K d__law_right ["bag", "takes", "pattern"] []
  g__law_right : mg "_law_right" = some (.ref a__law_right)
  a_law : Addr
  d_law : FuncData
  f_law : Fun K "law" "law" s_law a_law d_law
  b_law : Binds K d_law ["script"] []
  g_law : mg "law" = some (.ref a_law)
end LP
namespace LP
open PySem L2 LT LG LQ LH
def G30 : Int := 1000000000000000000000000000000
/-- a place list of these places -/
structure Pl (ns : List Int) : Prop where
  nd : ns.Nodup
  rg : ∀ x ∈ ns, 0 ≤ x ∧ x ≤ G30
  le : ns.length ≤ 200
theorem Pl.perm {ns ms : List Int} (p : Pl ns) (h : ms.Perm ns) : Pl ms := ⟨h.nodup_iff.mpr p.nd, fun x hx => p.rg x (h.subset hx), by rw [h.length_eq]; exact p.le⟩
section
variable (K : PySem.W.Frag)
abbrev Is (H : Hp) (a : Addr) (ns : List Int) : Prop := SqE K H a (ns.map V.int)
def sp_is_whole : Sp := fun vs H Q _ => ∃ n : Int, vs = [.int n] ∧ Q (.bl true) H
def sp_is_listed : Sp := fun vs H Q _ => ∃ (a : Addr) (xs : List V), vs = [.ref a] ∧ SqE K H a xs ∧ ∀ H', Same H H' → Q (.bl true) H'
def sp_is_place : Sp := fun vs H Q _ => ∃ n : Int, vs = [.int n] ∧ 0 ≤ n ∧ n ≤ G30 ∧ Q (.bl true) H
def sp_is_place_list : Sp := fun vs H Q _ => ∃ (a : Addr) (ns : List Int), vs = [.ref a] ∧ Is K H a ns ∧ Pl ns ∧ ∀ H', Same H H' → Q (.bl true) H'
def sp_check_places : Sp := fun vs H Q _ => ∃ (a : Addr) (ns : List Int), vs = [.ref a] ∧ Is K H a ns ∧ Pl ns ∧ ∀ H', Same H H' → Q .non H'
def sp_check_same_places : Sp := fun vs H Q _ => ∃ (a b : Addr) (ns ms : List Int), vs = [.ref a, .ref b] ∧ Is K H a ns ∧ Is K H b ms ∧ ns.Perm ms ∧ ∀ H', Same H H' → Q .non H'
def sp_is_pattern : Sp := fun vs H Q _ => ∃ l : Pat, vs = [.str (pstr l)] ∧ Good l ∧ tks l ≤ 200 ∧ Q (.bl true) H
def sp_check_pattern_for : Sp := fun vs H Q _ => ∃ (a : Addr) (ns : List Int) (l : Pat), vs = [.ref a, .str (pstr l)] ∧ Is K H a ns ∧ Good l ∧ tks l = ns.length ∧ ns.length ≤ 200 ∧ Q .non H
def sp_numbers_by_place : Sp := fun vs H Q _ => ∃ (a : Addr) (ns : List Int), vs = [.ref a] ∧ Is K H a ns ∧ Pl ns ∧ ∀ (H' : Hp) (d : Addr), Same H H' → H d = none → H' d = some (.dK (numK ns)) → Q (.ref d) H'
def sp_fill_times : Sp := fun vs H Q _ => ∃ l : Pat, vs = [.str (pstr l)] ∧ fls l ≤ 200 ∧ ∀ (H' : Hp) (p : Addr), Same H H' → H p = none → H' p = some (.lst ((times l).map fun t : Nat => V.int t)) → Q (.ref p) H'
def sp_count_results : Sp := fun vs H Q _ => ∃ (a : Addr) (ns : List Int) (l : Pat), vs = [.ref a, .str (pstr l)] ∧ Is K H a ns ∧ Pl ns ∧ Good l ∧ tks l = ns.length ∧ ∀ H', Same H H' → Q (.int (ways 0 (times l))) H'
def sp_is_result : Sp := fun vs H Q _ => ∃ (a b : Addr) (ns ms : List Int) (l : Pat), vs = [.ref a, .str (pstr l), .ref b] ∧ Is K H a ns ∧ Is K H b ms ∧ Pl ns ∧ ms.Perm ns ∧ Good l ∧ tks l = ns.length ∧ ∀ H', Same H H' → Q (.bl (dueP ns (times l) ms)) H'
/-! the law's own -/
def sp__law_shuffled : Sp := fun vs H Q _ => ∃ (b l : Addr) (ns : List Int) (d : Nat) (p : Addr) (xs : List Int), vs = [.ref b, .ref p] ∧ Bag H b l ns d ∧ d < 900000 ∧ ns.length ≤ 63 ∧ SqL K H p (xs.map V.int) ∧ xs.length ≤ 400 ∧ p ≠ b ∧
  ∀ (H' : Hp) (q : Addr) (ys : List Int), Bag H' b l ns (d + xs.length) → Fr H H' b → H q = none → ys.Perm xs → H' q = some (.lst (ys.map V.int)) → Q (.ref q) H'
def sp__law_either : Sp := fun vs H Q _ => ∃ (b l : Addr) (ns : List Int) (d : Nat) (p : Addr) (xs : List Int), vs = [.ref b, .ref p] ∧ Bag H b l ns d ∧ d < 900000 ∧ ns.length ≤ 63 ∧ H p = some (.lst (xs.map V.int)) ∧ p ≠ b ∧
  ∀ (H' : Hp) (q : Addr), Bag H' b l ns (d + 1) → Fr H H' b → H q = none → (H' q = some (.lst (xs.map V.int)) ∨ H' q = some (.tup (xs.map V.int))) → Q (.ref q) H'
def sp__law_pattern : Sp := fun vs H Q _ => ∃ (b l : Addr) (ns : List Int) (d n : Nat), vs = [.ref b, .int n] ∧ Bag H b l ns d ∧ d < 900000 ∧ ns.length ≤ 63 ∧ n ≤ 200 ∧
  ∀ (H' : Hp) (t : Pat), Bag H' b l ns (d + 401) → Fr H H' b → Good t → tks t = n → Q (.str (pstr t)) H'
def sp__law_places : Sp := fun vs H Q _ => ∃ (b l : Addr) (ns : List Int) (d n : Nat), vs = [.ref b, .int n] ∧ Bag H b l ns d ∧ d < 890000 ∧ ns.length ≤ 63 ∧ n ≤ 200 ∧
  ∀ (H' : Hp) (q : Addr) (xs : List Int), Bag H' b l ns (d + 202) → Fr H H' b → H q = none → Pl xs → xs.length = n → H' q = some (.lst (xs.map V.int)) → Q (.ref q) H'
def sp__law_orders : Sp := fun vs H Q _ => ∃ (p : Addr) (xs : List Int), vs = [.ref p] ∧ SqL K H p (xs.map V.int) ∧ xs.length ≤ 5 ∧ xs.Nodup ∧
  ∀ (H' : Hp) (q : Addr) (as : List Addr), Same H H' → H q = none → H' q = some (.lst (as.map V.ref)) → as.length = (orders xs xs.length).length → (∀ (i : Nat) a r, as[i]? = some a → (orders xs xs.length)[i]? = some r → H' a = some (.lst (r.map V.int))) → Q (.ref q) H'
def sp__law_due : Sp := fun vs H Q _ => ∃ (a b : Addr) (ns ms : List Int) (l : Pat), vs = [.ref a, .str (pstr l), .ref b] ∧ SqL K H a (ns.map V.int) ∧ SqL K H b (ms.map V.int) ∧ ns.length ≤ 200 ∧ ms.length = ns.length ∧ Good l ∧ tks l = ns.length ∧ ∀ H', Same H H' → Q (.bl (dueP ns (times l) ms)) H'
def sp__law_product : Sp := fun vs H Q _ => ∃ l : Pat, vs = [.str (pstr l)] ∧ Good l ∧ tks l ≤ 200 ∧ ∀ H', Same H H' → Q (.int (ways 0 (times l))) H'
def sp_fills_by : Sp := fun vs H Q _ => ∃ (a : Addr) (ns : List Int) (l : Pat), vs = [.ref a, .str (pstr l)] ∧ Is K H a ns ∧ Pl ns ∧ Good l ∧ tks l = ns.length ∧ ∀ (H' : Hp) (p : Addr), Same H H' → H p = none → H' p = some (.lst ((fillsOf ns l).map V.int)) → Q (.ref p) H'
def sp__law_filled : Sp := fun vs H Q _ => ∃ (a : Addr) (ns : List Int) (l : Pat), vs = [.ref a, .str (pstr l)] ∧ SqL K H a (ns.map V.int) ∧ ns.length ≤ 200 ∧ Good l ∧ tks l = ns.length ∧ ∀ (H' : Hp) (p : Addr), Same H H' → H p = none → H' p = some (.lst ((fillsOf ns l).map V.int)) → Q (.ref p) H'
def sp__law_all_patterns : Sp := fun vs H Q _ => ∃ n : Nat, vs = [.int n] ∧ n ≤ 4 ∧ ∀ (H' : Hp) (p : Addr) (ps : List Pat), Same H H' → H p = none → (∀ t ∈ ps, Good t ∧ tks t = n) → ps.length ≤ 256 → H' p = some (.lst (ps.map fun t => V.str (pstr t))) → Q (.ref p) H'
def sp__law_right : Sp := fun vs H Q _ => ∃ (b l : Addr) (ns : List Int) (d : Nat) (p : Addr) (xs : List Int) (t : Pat), vs = [.ref b, .ref p, .str (pstr t)] ∧ Bag H b l ns d ∧ d < 800000 ∧ ns.length ≤ 63 ∧ H p = some (.lst (xs.map V.int)) ∧ p ≠ b ∧ Pl xs ∧ Good t ∧ tks t = xs.length ∧
  ∀ H' : Hp, Bag H' b l ns (d + 1) → Fr H H' b → Q (.bl true) H'
def sp_law : Sp := fun vs H Q _ => ∃ (a : Addr) (ns : List Int), vs = [.ref a] ∧ SqL K H a (ns.map V.int) ∧ ns.length ≤ 63 ∧ ∀ H', Q (.bl true) H'
end
end LP

namespace LP
open PySem L2 LT LG LQ
section
variable {P : Program} {w : World} {K : PySem.W.Frag} {mg : Str → Option Value} {base : Heap}
theorem ok_is_whole (e : Env K mg) : FnOk P w K mg base CX0 1 e.a_is_whole e.d_is_whole ["value"] (sp_is_whole) := by
  refine e.f_is_whole.ok sc_is_whole (fun vs H Q E h => ?_) (fun cdv A outer s H vs Q E hr h => ?_)
  · obtain ⟨n, rfl, _⟩ := h; rfl
  · obtain ⟨n, rfl, k⟩ := h
    refine ⟨_, (pss_one (ps_ret (pe_and (pe_callB call_isi (by rfl) e.n_isinstance (by decide +kernel) (pa_cons (pv 0) (pa_cons (pe_bltn (v := V.ty "int") (by rfl) e.n_int (by decide +kernel) rfl) pa_nil))) (pe_one (pe_not (pe_callB call_isi (by rfl) e.n_isinstance (by decide +kernel) (pa_cons (pv 0) (pa_cons (pe_bltn (v := V.ty "bool") (by rfl) e.n_bool (by decide +kernel) rfl) pa_nil)))))))), ?_⟩
    refine ⟨_, rfl, _, _, _, _, true, rfl, .ty "int", .base (.int n), kit_ty (by decide +kernel), _, rfl, iteT ?_⟩
    refine ⟨_, rfl, _, _, _, _, false, rfl, .ty "bool", .base (.int n), kit_ty (by decide +kernel), _, rfl, ?_⟩
    exact k
theorem ok_is_listed (e : Env K mg) : FnOk P w K mg base CX0 1 e.a_is_listed e.d_is_listed ["value"] (sp_is_listed K) := by
  refine e.f_is_listed.ok sc_is_listed (fun vs H Q E h => ?_) (fun cdv A outer s H vs Q E hr h => ?_)
  · obtain ⟨a, xs, rfl, _⟩ := h; rfl
  · obtain ⟨a, xs, rfl, hx, k⟩ := h
    refine ⟨_, (pss_one (ps_ret (pe_callB call_isiT (by rfl) e.n_isinstance (by decide +kernel) (pa_cons (pv 0) (pa_cons (pe_tup (pa_cons (pe_bltn (v := V.ty "list") (by rfl) e.n_list (by decide +kernel) rfl) (pa_cons (pe_bltn (v := V.ty "tuple") (by rfl) e.n_tuple (by decide +kernel) rfl) pa_nil))) pa_nil))))), ?_⟩
    refine ⟨_, rfl, (by show 2 ≤ sizeLine; decide), fun p hp => ?_⟩
    rcases ty_E (hx.same (same_upd hp)) with hx | hx
    · exact ⟨_, p, _, .type "list", [.type "list", .type "tuple"], true, rfl, upd_same, .cons (.ty _) (.cons (.ty _) .nil), hx, kit_lt, k _ (same_upd hp)⟩
    · exact ⟨_, p, _, .type "tuple", [.type "list", .type "tuple"], true, rfl, upd_same, .cons (.ty _) (.cons (.ty _) .nil), hx, kit_tt, k _ (same_upd hp)⟩
theorem ok_is_place (e : Env K mg) : FnOk P w K mg base CX0 2 e.a_is_place e.d_is_place ["value"] (sp_is_place) := by
  refine e.f_is_place.ok sc_is_place (fun vs H Q E h => ?_) (fun cdv A outer s H vs Q E hr h => ?_)
  · obtain ⟨n, rfl, _⟩ := h; rfl
  · obtain ⟨n, rfl, h1, h2, k⟩ := h
    refine ⟨_, (pss_one (ps_ret (pe_and (pe_call ((ok_is_whole e).mono (by decide)) hr rfl e.g_is_whole e.f_is_whole.kp e.b_is_whole .nil pass0 (pa_cons (pv 0) pa_nil)) (pe_one (pe_chain op_le op_le pe_int (pv 0) (pe_glob (v := V.int 1000000000000000000000000000000) rfl e.g_GREATEST_PLACE ⟨_, rfl⟩)))))), ?_⟩
    refine ⟨_, rfl, n, rfl, _, rfl, iteT ?_⟩
    refine ⟨_, rfl, _, _, rfl, rfl, _, rfl, iteD h1 ?_⟩
    refine ⟨_, _, rfl, rfl, ?_⟩
    show Q (V.bl (decide (n ≤ 1000000000000000000000000000000))) H
    rw [decide_eq_true (show n ≤ 1000000000000000000000000000000 from h2)]
    exact k
theorem all_bl {bs : List Bool} (h : ∀ b ∈ bs, b = true) : bs.all id = true := List.all_eq_true.mpr h
theorem ok_is_place_list (e : Env K mg) : FnOk P w K mg base CX0 3 e.a_is_place_list e.d_is_place_list ["value"] (sp_is_place_list K) := by
  refine e.f_is_place_list.ok sc_is_place_list (fun vs H Q E h => ?_) (fun cdv A outer s H vs Q E hr h => ?_)
  · obtain ⟨a, ns, rfl, _⟩ := h; rfl
  · obtain ⟨a, ns, rfl, hE, pl, k⟩ := h
    refine ⟨_, (pss_cons (ps_if (PW.pt (pw_or (pt_not (pt_val (pe_call ((ok_is_listed e).mono (by decide)) hr rfl e.g_is_listed e.f_is_listed.kp e.b_is_listed .nil pass0 (pa_cons (pv 0) pa_nil)))) (pw_or1 (pt_cmpR op_gt (pe_callB call_len_seq (by rfl) e.n_len PySem.boot_len (pa_cons (pv 0) pa_nil)) (pe_glob (v := V.int 200) rfl e.g_MOST_PLACES ⟨_, rfl⟩) (nomark _)))))
        (pss_one (ps_ret pe_bl))
        pss_nil)
      (pss_one (ps_ret (pe_and (pe_callB (cr_all rfl) (by rfl) e.n_all (by decide +kernel) (pa_cons (pe_lc (own := [("item", 1)]) rfl sc_is_place_list.nd (PI.or (pi_list (pv 0)) (pi_tup (pv 0))) (blkOk_by (N := ["value", "item"]) (sc := defScope s_is_place_list) (by decide +kernel)) (fun _ _ _ _ _ => (pg_name (i := 1) sc_is_place_list.nd rfl (by first | exact Or.inl rfl | exact Or.inr rfl))) (fun _ _ _ _ _ => pts_nil) (fun _ _ _ _ _ => (pe_call ((ok_is_place e).mono (by decide)) hr rfl e.g_is_place e.f_is_place.kp e.b_is_place .nil pass0 (pa_cons (pv 1) pa_nil)))) pa_nil)) (pe_one (pe_cmpR op_eq (pe_lenSetS (by rfl) e.n_len (by rfl) e.n_set (pv 0)) (pe_callB call_len_seq (by rfl) e.n_len PySem.boot_len (pa_cons (pv 0) pa_nil)) (nomark _))))))), ?_⟩
    refine ⟨_, rfl, a, _, rfl, hE, fun H1 s1 => ⟨true, rfl, iteNB rfl ?_⟩⟩
    have hE1 := hE.same s1
    have hle := pl.le
    refine ⟨_, rfl, a, _, rfl, hE1, _, _, rfl, rfl, _, rfl, iteX (by rw [List.length_map]; omega) ?_⟩
    refine or_E hE1 rfl fun J G wk hG D hD => ?_
    have sD : ∀ o, Same H1 (upd H1 D o) := fun o => same_upd hD
    refine lc_it wk (fun j H' => H' = upd H1 D (.lst (List.replicate j (V.bl true)))) rfl (fun j H' _ h => by subst h; exact hG _ (sD _)) ?_ ?_
    · rintro j x H2 H3 hj rfl ⟨rfl, hx⟩
      obtain ⟨n, hn, rfl⟩ := at_int hx
      obtain ⟨h0, h1⟩ := pl.rg n (List.mem_of_getElem? hn)
      rw [List.length_map] at hj
      refine ⟨rfl, _, rfl, n, rfl, h0, h1, _, upd_same, ?_, ?_⟩
      · rw [List.length_replicate]; exact small1000 (by omega)
      · rw [upd_upd, ← List.replicate_succ']
    · rintro H2 rfl
      have hb : List.replicate (List.map V.int ns).length (V.bl true) = (List.replicate ns.length true).map V.bl := by rw [List.length_map, List.map_replicate]
      refine ⟨D, List.replicate ns.length true, rfl, SqL.of (by rw [upd_same, hb]), true, ?_, iteT ?_⟩
      · rw [all_bl fun b hb => (List.mem_replicate.mp hb).2]
      have hE2 := hE1.same (sD (.lst (List.replicate (List.map V.int ns).length (V.bl true))))
      refine ⟨_, rfl, a, ns, rfl, hE2, pl.nd, by omega, ?_⟩
      refine ⟨_, rfl, a, _, rfl, hE2, rfl, ?_⟩
      rw [List.length_map, decide_eq_true rfl]
      have s2 : Same H (upd H1 D (.lst (List.replicate (List.map V.int ns).length (V.bl true)))) := s1.trans (sD _)
      rw [List.length_map] at s2
      exact k _ s2
theorem ok_check_places (e : Env K mg) : FnOk P w K mg base CX0 4 e.a_check_places e.d_check_places ["value"] (sp_check_places K) := by
  refine e.f_check_places.ok sc_check_places (fun vs H Q E h => ?_) (fun cdv A outer s H vs Q E hr h => ?_)
  · obtain ⟨a, ns, rfl, _⟩ := h; rfl
  · obtain ⟨a, ns, rfl, hE, pl, k⟩ := h
    refine ⟨_, (pss_one (ps_if (pt_not (pt_val (pe_call ((ok_is_place_list e).mono (by decide)) hr rfl e.g_is_place_list e.f_is_place_list.kp e.b_is_place_list .nil pass0 (pa_cons (pv 0) pa_nil))))
        (pss_one ps_never)
        pss_nil)), ?_⟩
    exact ⟨_, rfl, a, ns, rfl, hE, pl, fun H1 s1 => ⟨true, rfl, iteNB rfl (k _ s1)⟩⟩
theorem dp_ints {K : PySem.W.Frag} {H : Hp} : ∀ l : List Int, DpAll K H (l.map V.int) (l.map PyData.int)
  | [] => .nil
  | i :: r => .cons (.int i) (dp_ints r)
theorem canLay_ints : ∀ l : List Int, PyData.canLayAll0 (l.map PyData.int) = true
  | [] => rfl
  | i :: r => by simp [PyData.canLayAll0, PyData.canLay0, canLay_ints r]
theorem depth_ints : ∀ l : List Int, PyData.depthAll (l.map PyData.int) = 0
  | [] => rfl
  | i :: r => by simp [PyData.depthAll, PyData.depth, depth_ints r]
theorem shaped_ints (l : List Int) : SeqAt.shaped (.list (l.map PyData.int)) = true := by
  simp [SeqAt.shaped, PyData.canLay0, PyData.depth, canLay_ints, depth_ints]
theorem eqvAll_ints : ∀ l : List Int, PyData.eqvAll (l.map PyData.int) (l.map PyData.int) = true
  | [] => by simp [PyData.eqvAll]
  | a :: r => by
    simp only [List.map_cons, PyData.eqvAll, eqvAll_ints r]
    simp [PyData.eqv]
end
end LP

namespace LP
open PySem L2 LT LG LQ
section
variable {P : Program} {w : World} {K : PySem.W.Frag} {mg : Str → Option Value} {base : Heap}
theorem pat_len (l : Pat) : (pstr l).cps.size = l.length := pstr_size l
theorem ok_is_pattern (e : Env K mg) : FnOk P w K mg base CX0 1 e.a_is_pattern e.d_is_pattern ["value"] (sp_is_pattern) := by
  refine e.f_is_pattern.ok sc_is_pattern (fun vs H Q E h => ?_) (fun cdv A outer s H vs Q E hr h => ?_)
  · obtain ⟨l, rfl, _⟩ := h; rfl
  · obtain ⟨l, rfl, g, hle, k⟩ := h
    refine ⟨_, (pss_cons (ps_if (PW.pt (pw_or (pt_not (pt_val (pe_callB call_isi (by rfl) e.n_isinstance (by decide +kernel) (pa_cons (pv 0) (pa_cons (pe_bltn (v := V.ty "str") (by rfl) e.n_str (by decide +kernel) rfl) pa_nil))))) (pw_or1 (pt_cmpR op_gt (pe_m1 PySem.F.slot_str_count PySem.F.type_str_count mt_count (pv 0) pe_str) (pe_glob (v := V.int 200) rfl e.g_MOST_PLACES ⟨_, rfl⟩) (nomark _)))))
        (pss_one (ps_ret pe_bl))
        pss_nil)
      (pss_cons (ps_set (i := 1) sc_is_pattern.nd rfl (by first | exact Or.inl rfl | exact Or.inr rfl) pe_int)
      (pss_cons (ps_for PassesOwn.never rfl (pi_str (pv 0)) (pg_name (i := 2) sc_is_pattern.nd rfl (by first | exact Or.inl rfl | exact Or.inr rfl))
      (pss_one (ps_if (pt_cmpR op_eq (pv 2) pe_str (nomark _))
        (pss_one (ps_aug (i := 1) sc_is_pattern.nd rfl (by first | exact Or.inl rfl | exact Or.inr rfl) pe_int ip_add))
        (pss_one (ps_if (PW.pt (pw_and (pt_cmpR op_eq (pv 2) pe_str (nomark _)) (pw_and1 (pt_cmpR op_gt (pv 1) pe_int (nomark _)))))
        (pss_one (ps_aug (i := 1) sc_is_pattern.nd rfl (by first | exact Or.inl rfl | exact Or.inr rfl) pe_int ip_sub))
        (pss_one (ps_ret pe_bl)))))))
      (pss_one (ps_ret (pe_cmpR op_eq (pv 1) pe_int (nomark _))))))), ?_⟩
    refine ⟨_, rfl, _, _, _, _, true, rfl, .ty "str", .base (.str _), kit_ty (by decide +kernel), _, rfl, iteNB rfl ?_⟩
    refine ⟨_, rfl, ⟨_, rfl⟩, _, _, rfl, rfl, _, _, rfl, rfl, _, rfl, iteX (by rw [count_T]; show ¬ ((tks l : Nat) : Int) > 200; omega) ?_⟩
    refine ⟨_, rfl, _, rfl, for_it walk_str (fun i σ H1 => H1 = H ∧ ∃ v2 : Option V, σ = [some (.str (pstr l)), some (.int ((tks (l.take i) : Nat) - (fls (l.take i) : Nat))), v2]) ⟨rfl, none, rfl⟩ (fun _ _ _ _ _ => trivial) ?_ ?_⟩
    · rintro i x σ H1 H2 hi ⟨rfl, v2, rfl⟩ ⟨rfl, c, hc, rfl⟩
      obtain ⟨b, hb, rfl⟩ := pstr_at hc
      have hp := g.1 (i + 1)
      rw [take_snoc hb] at hp
      cases b with
      | true =>
        refine ⟨_, rfl, rfl, _, rfl, iteD vsT ?_⟩
        have e : ((tks (l.take (i + 1)) : Nat) : Int) - (fls (l.take (i + 1)) : Nat) = (tks (l.take i) : Nat) - (fls (l.take i) : Nat) + 1 := by rw [take_snoc hb, tks_t, fls_t]; omega
        exact ⟨_, rfl, _, _, rfl, rfl, rfl, some (.str ⟨#[sgn true]⟩), by rw [e]; rfl⟩
      | false =>
        rw [tks_f, fls_f] at hp
        refine ⟨_, rfl, rfl, _, rfl, iteX vsR ?_⟩
        refine ⟨_, rfl, rfl, _, rfl, iteD vsRR ?_⟩
        refine ⟨_, rfl, _, _, rfl, rfl, _, rfl, iteD (by omega) ?_⟩
        have e : ((tks (l.take (i + 1)) : Nat) : Int) - (fls (l.take (i + 1)) : Nat) = (tks (l.take i) : Nat) - (fls (l.take i) : Nat) - 1 := by rw [take_snoc hb, tks_f, fls_f]; omega
        exact ⟨_, rfl, _, _, rfl, rfl, rfl, some (.str ⟨#[sgn false]⟩), by rw [e]; rfl⟩
    · rintro σ H1 ⟨rfl, v2, rfl⟩
      rw [pstr_size, List.take_length, g.2]
      refine ⟨_, rfl, rfl, ?_⟩
      have e : ((tks l : Nat) : Int) - (tks l : Nat) = 0 := by omega
      rw [e]
      exact k
theorem ok_check_pattern_for (e : Env K mg) : FnOk P w K mg base CX0 2 e.a_check_pattern_for e.d_check_pattern_for ["takes", "pattern"] (sp_check_pattern_for K) := by
  refine e.f_check_pattern_for.ok sc_check_pattern_for (fun vs H Q E h => ?_) (fun cdv A outer s H vs Q E hr h => ?_)
  · obtain ⟨a, ns, l, rfl, _⟩ := h; rfl
  · obtain ⟨a, ns, l, rfl, hE, g, hn, hle, k⟩ := h
    refine ⟨_, (pss_one (ps_if (PW.pt (pw_or (pt_not (pt_val (pe_call ((ok_is_pattern e).mono (by decide)) hr rfl e.g_is_pattern e.f_is_pattern.kp e.b_is_pattern .nil pass0 (pa_cons (pv 1) pa_nil)))) (pw_or1 (pt_cmpR op_ne (pe_m1 PySem.F.slot_str_count PySem.F.type_str_count mt_count (pv 1) pe_str) (pe_callB call_len_seq (by rfl) e.n_len PySem.boot_len (pa_cons (pv 0) pa_nil)) (nomark _)))))
        (pss_one ps_never)
        pss_nil)), ?_⟩
    refine ⟨_, rfl, l, rfl, g, by omega, true, rfl, iteNB rfl ?_⟩
    refine ⟨_, rfl, ⟨_, rfl⟩, _, _, rfl, rfl, _, rfl, a, _, rfl, hE, rfl, _, rfl, ?_⟩
    have e : V.int (Txt.count (pstr l) ("T" : Str)) = V.int ((ns.map V.int).length : Nat) := by
      rw [count_T, List.length_map]; exact congrArg V.int (by exact_mod_cast hn)
    rw [e, decide_eq_true rfl]
    exact iteF k
end
end LP

namespace LP
open PySem L2 LT LG LQ LH
section
variable {P : Program} {w : World} {K : PySem.W.Frag} {mg : Str → Option Value} {base : Heap}
theorem ok_fills_by (e : Env K mg) : FnOk P w K mg base CX0 5 e.a_fills_by e.d_fills_by ["takes", "pattern"] (sp_fills_by K) := by
  refine e.f_fills_by.ok sc_fills_by (fun vs H Q E h => ?_) (fun cdv A outer s H vs Q E hr h => ?_)
  · obtain ⟨a, ns, l, rfl, _⟩ := h; rfl
  · obtain ⟨a, ns, l, rfl, hE, pl, g, hn, k⟩ := h
    have hle := pl.le
    refine ⟨_, (pss_cons (ps_expr (pe_call ((ok_check_places e).mono (by decide)) hr rfl e.g_check_places e.f_check_places.kp e.b_check_places .nil pass0 (pa_cons (pv 0) pa_nil)))
      (pss_cons (ps_expr (pe_call ((ok_check_pattern_for e).mono (by decide)) hr rfl e.g_check_pattern_for e.f_check_pattern_for.kp e.b_check_pattern_for .nil pass0 (pa_cons (pv 0) (pa_cons (pv 1) pa_nil))))
      (pss_cons (ps_set (i := 2) sc_fills_by.nd rfl (by first | exact Or.inl rfl | exact Or.inr rfl) (pe_lst pa_nil))
      (pss_cons (ps_set (i := 3) sc_fills_by.nd rfl (by first | exact Or.inl rfl | exact Or.inr rfl) (pe_lst pa_nil))
      (pss_cons (ps_set (i := 4) sc_fills_by.nd rfl (by first | exact Or.inl rfl | exact Or.inr rfl) pe_int)
      (pss_cons (ps_for PassesOwn.never rfl (pi_str (pv 1)) (pg_name (i := 5) sc_fills_by.nd rfl (by first | exact Or.inl rfl | exact Or.inr rfl))
      (pss_one (ps_if (pt_cmpR op_eq (pv 5) pe_str (nomark _))
        (pss_cons (ps_expr (pe_callBfun LH.cr_push (by rfl) e.g_heappush (pa_cons (pv 2) (pa_cons (PE.or (pe_ix ix_list (pv 0) (pv 4) (fun _ _ => rfl)) (pe_ix ix_tup (pv 0) (pv 4) (fun _ _ => rfl))) pa_nil))))
      (pss_one (ps_aug (i := 4) sc_fills_by.nd rfl (by first | exact Or.inl rfl | exact Or.inr rfl) pe_int ip_add)))
        (pss_one (ps_expr (pe_bm PySem.F.plainAttrs_list PySem.F.slot_list_append PySem.F.type_list_append mt_append (pv 3) (pa_cons (pe_callBfun LH.cr_pop (by rfl) e.g_heappop (pa_cons (pv 2) pa_nil)) pa_nil)))))))
      (pss_one (ps_ret (pv 3))))))))), ?_⟩
    refine ⟨_, rfl, a, ns, rfl, hE, pl, fun H1 s1 => ?_⟩
    refine ⟨_, rfl, _, rfl, a, ns, l, rfl, hE.same s1, g, hn, hle, ?_⟩
    refine ⟨by decide, fun gp hg => ⟨by decide, fun fp hf => ?_⟩⟩
    have sg := same_upd (o := HO.lst []) hg
    have sf := same_upd (o := HO.lst []) hf
    have hg0 : H gp = none := s1.free hg
    have hf0 : H fp = none := s1.free (sg.free hf)
    have ngf : gp ≠ fp := ne_of_none upd_same hf
    refine ⟨_, rfl, _, rfl, for_it walk_str (fun i σ H2 => ∃ (hs : List Int) (v5 : Option V), IsH hs ∧ hs.Perm (run ns (l.take i)).gaps ∧ Same H H2 ∧ H2 gp = some (.lst (hs.map V.int)) ∧ H2 fp = some (.lst ((run ns (l.take i)).fills.map V.int)) ∧
        σ = [some (.ref a), some (.str (pstr l)), some (.ref gp), some (.ref fp), some (.int (tks (l.take i) : Nat)), v5])
      ⟨[], none, heap_nil, List.Perm.refl _, s1.trans (sg.trans sf), sf _ _ upd_same, upd_same, rfl⟩ (fun _ _ _ _ _ => trivial) ?_ ?_⟩
    · rintro i x σ H2 H3 hi ⟨hs, v5, ih, pm, s2, h2, f2, rfl⟩ ⟨rfl, c, hc, rfl⟩
      obtain ⟨bb, hb, rfl⟩ := pstr_at hc
      have hil : i < l.length := (List.getElem?_eq_some_iff.mp hb).1
      obtain ⟨r1, r2, r3⟩ := run_ok g.1 (Nat.le_of_eq hn) i (by omega)
      have htk := tks_take l (i + 1)
      have hfk := fls_take l (i + 1)
      have hgl := g.2
      have hpl := r3.length_eq
      rw [List.length_append, List.length_take, r2] at hpl
      have hsl := pm.length_eq
      have kg : ∀ {H4 : Hp} {o : HO}, Same H H4 → Same H (upd H4 gp o) := fun s b u hb => by rw [upd_ne (ne_of_none hb hg0)]; exact s b u hb
      have kf : ∀ {H4 : Hp} {o : HO}, Same H H4 → Same H (upd H4 fp o) := fun s b u hb => by rw [upd_ne (ne_of_none hb hf0)]; exact s b u hb
      cases bb with
      | true =>
        rw [take_snoc hb, tks_t] at htk
        have hx := List.getElem?_eq_getElem (l := ns) (i := tks (l.take i)) (by omega)
        generalize ns[tks (l.take i)]'(by omega) = y at hx
        have e1 : run ns (l.take (i + 1)) = ⟨(run ns (l.take i)).at_ + 1, (run ns (l.take i)).gaps ++ [y], (run ns (l.take i)).fills⟩ := by
          rw [take_snoc hb, run_snoc]
          show (⟨_, _ ++ (ns[(run ns (l.take i)).at_]?).toList, _⟩ : Sh) = _
          rw [r1, hx]; rfl
        refine ⟨_, rfl, rfl, _, rfl, iteD vsT ?_⟩
        have fin : ∀ H4 : Hp, H4 = H3 → rPush [.ref gp, .int y] H4 (fun _ H5 => ∃ x : V, [some (V.ref a), some (.str (pstr l)), some (.ref gp), some (.ref fp), some (.int (tks (l.take i) : Nat)), some (.str ⟨#[sgn true]⟩)][4]? = some (some x) ∧ ∃ i' j', x = .int i' ∧ V.int 1 = .int j' ∧
            ∃ (hs : List Int) (v5 : Option V), IsH hs ∧ hs.Perm (run ns (l.take (i + 1))).gaps ∧ Same H H5 ∧ H5 gp = some (.lst (hs.map V.int)) ∧ H5 fp = some (.lst ((run ns (l.take (i + 1))).fills.map V.int)) ∧ [some (V.ref a), some (.str (pstr l)), some (.ref gp), some (.ref fp), some (.int (tks (l.take i) : Nat)), some (.str ⟨#[sgn true]⟩)].set 4 (some (.int (i' + j'))) = [some (.ref a), some (.str (pstr l)), some (.ref gp), some (.ref fp), some (.int (tks (l.take (i + 1)) : Nat)), v5]) := by
          rintro H4 rfl
          refine ⟨gp, hs, y, rfl, h2, ih, by omega, fun ms q1 q2 => ?_⟩
          refine ⟨_, rfl, _, _, rfl, rfl, ms, some (.str ⟨#[sgn true]⟩), q2, ?_, kg s2, upd_same, ?_, ?_⟩
          · rw [e1]; exact q1.trans (pm.append_right _)
          · rw [upd_ne ngf.symm, e1]; exact f2
          · rw [take_snoc hb, tks_t]; rfl
        rcases hE.same s2 with hS | hS
        · exact ⟨_, rfl, .inl ⟨_, rfl, _, rfl, a, _, _, _, rfl, rfl, hS, at_of rfl (int_at hx), fin _ rfl⟩⟩
        · exact ⟨_, rfl, .inr ⟨_, rfl, _, rfl, a, _, _, _, rfl, rfl, hS, at_of rfl (int_at hx), fin _ rfl⟩⟩
      | false =>
        have hpr := g.1 (i + 1)
        rw [take_snoc hb, fls_f] at hfk
        rw [take_snoc hb, fls_f, tks_f] at hpr
        have htk2 := tks_take l i
        have e1 : run ns (l.take (i + 1)) = ⟨(run ns (l.take i)).at_, (run ns (l.take i)).gaps.erase (mn (run ns (l.take i)).gaps), (run ns (l.take i)).fills ++ [mn (run ns (l.take i)).gaps]⟩ := by
          rw [take_snoc hb, run_snoc]; rfl
        have hne : hs ≠ [] := fun e => by rw [e] at hsl; simp at hsl; omega
        refine ⟨_, rfl, rfl, _, rfl, iteX vsR ?_⟩
        refine ⟨_, rfl, .inl ⟨rfl, _, SqL.of f2⟩, _, rfl, gp, hs, rfl, h2, ih, hne, by omega, fun m ms q1 q2 q3 => ?_⟩
        have em : m = mn (run ns (l.take i)).gaps := mn_eq (pm.subset (q1.subset List.mem_cons_self)) fun x hx => q2 x (pm.symm.subset hx)
        refine ⟨fp, _, _, rfl, rfl, (by rw [upd_ne ngf.symm]; exact f2), by rw [List.length_map, r2]; exact small1000 (by omega), ms, some (.str ⟨#[sgn false]⟩), q3, ?_, kf (kg s2), ?_, ?_, ?_⟩
        · rw [e1, ← em]
          have h1 := q1.trans pm
          have h3 := h1.trans (List.perm_cons_erase (a := m) (by rw [em]; exact (mn_ok (fun e => by rw [e] at hsl; exact hne (List.length_eq_zero_iff.mp hsl))).1))
          exact h3.cons_inv
        · rw [upd_ne ngf, upd_same]
        · rw [upd_same, e1, em, List.map_append]; rfl
        · rw [take_snoc hb, tks_f]; rfl
    · rintro σ H2 ⟨hs, v5, ih, pm, s2, h2, f2, rfl⟩
      rw [pstr_size, List.take_length] at f2
      exact ⟨_, rfl, k H2 fp s2 hf0 f2⟩
end
end LP

namespace LP
open PySem L2 LT LG LQ
section
variable {P : Program} {w : World} {K : PySem.W.Frag} {mg : Str → Option Value} {base : Heap}
theorem stir_total {t c : Int} (h : 0 ≤ t) (h2 : t < M61) : 0 ≤ (t * 1000003 + c % M61 + 1) % M61 ∧ (t * 1000003 + c % M61 + 1) % M61 < M61 := ⟨Int.emod_nonneg _ (by decide), Int.emod_lt_of_pos _ (by decide)⟩
theorem ok__law_bag (e : Env K mg) : FnOk P w K mg base CX0 1 e.a__law_bag e.d__law_bag ["script"] (sp__law_bag K) := by
  refine e.f__law_bag.ok sc__law_bag (fun vs H Q E h => ?_) (fun cdv A outer s H vs Q E hr h => ?_)
  · obtain ⟨a, ns, rfl, _⟩ := h; rfl
  · obtain ⟨a, ns, rfl, hS, hl, k⟩ := h
    refine ⟨_, (pss_cons (ps_set (i := 1) sc__law_bag.nd rfl (by first | exact Or.inl rfl | exact Or.inr rfl) pe_int)
      (pss_cons (ps_for PassesOwn.never rfl (pi_list (pv 0)) (pg_name (i := 2) sc__law_bag.nd rfl (by first | exact Or.inl rfl | exact Or.inr rfl))
      (pss_one (ps_set (i := 1) sc__law_bag.nd rfl (by first | exact Or.inl rfl | exact Or.inr rfl) (pe_op op_mod (pe_op op_add (pe_op op_add (pe_op op_mul (pv 1) pe_int) (pe_op op_mod (pv 2) pe_int)) pe_int) pe_int))))
      (pss_one (ps_ret (pe_lst (pa_cons (pe_callTy call_list_of (by rfl) e.n_list (by decide +kernel) (pa_cons (pv 0) pa_nil)) (pa_cons pe_int (pa_cons pe_int (pa_cons pe_int (pa_cons (pv 1) pa_nil)))))))))), ?_⟩
    refine ⟨_, rfl, a, rfl, ⟨_, hS⟩, for_it walk_list (fun i σ H1 => ∃ (t : Int) (v : Option V), 0 ≤ t ∧ t < M61 ∧ H1 = H ∧ σ = [some (.ref a), some (.int t), v])
      ⟨1, none, by decide, by decide, rfl, rfl⟩ (fun i σ H1 _ ⟨_, _, _, _, e1, _⟩ => by rw [e1]; exact hS) ?_ ?_⟩
    · rintro i x σ H1 H2 hi ⟨t, v, h0, h1, rfl, rfl⟩ ⟨rfl, hx⟩
      rw [List.getElem?_map] at hx
      cases q : ns[i]? with
      | none => rw [q] at hx; cases hx
      | some c =>
        rw [q] at hx; cases hx
        refine ⟨_, rfl, _, _, rfl, rfl, .inr ⟨by decide, by decide⟩, ?_⟩
        refine ⟨_, rfl, _, _, rfl, rfl, (by show (0 : Int) < M61; decide), _, _, rfl, rfl, _, _, rfl, rfl, _, _, rfl, rfl, (by show (0 : Int) < M61; decide), ?_⟩
        have z := stir_total (c := c) h0 h1
        exact ⟨_, _, z.1, z.2, rfl, rfl⟩
    · rintro σ H1 ⟨t, v, h0, h1, rfl, rfl⟩
      refine ⟨_, rfl, a, _, rfl, .inl hS, fun l hl' => ?_⟩
      refine ⟨_, rfl, (by show 5 ≤ sizeLine; decide), fun b hb => ?_⟩
      have hb0 := (same_upd hl').free hb
      have n1 : l ≠ b := ne_of_none upd_same hb
      refine k _ b l ((same_upd hl').trans (same_upd hb)) hb0 hl' ⟨⟨0, 0, 0, t, upd_same, by decide, by omega, by decide, by decide, h0, h1⟩, ?_, n1⟩
      rw [upd_ne n1, upd_same]
theorem ok__law_stir (e : Env K mg) : FnOk P w K mg base CX0 1 e.a__law_stir e.d__law_stir ["number", "place"] (sp__law_stir) := by
  refine e.f__law_stir.ok sc__law_stir (fun vs H Q E h => ?_) (fun cdv A outer s H vs Q E hr h => ?_)
  · obtain ⟨x, y, rfl, _⟩ := h; rfl
  · obtain ⟨x, y, rfl, h1, h2, h3, h4, k⟩ := h
    refine ⟨_, (pss_cons (ps_set (i := 2) sc__law_stir.nd rfl (by first | exact Or.inl rfl | exact Or.inr rfl) (pe_op op_mod (pe_op op_add (pe_op op_add (pe_op op_mul (pv 0) pe_int) (pe_op op_mul (pv 1) pe_int)) pe_int) pe_int))
      (pss_cons (ps_set (i := 3) sc__law_stir.nd rfl (by first | exact Or.inl rfl | exact Or.inr rfl) (pe_op op_mod (pe_op op_mul (pv 2) (pv 2)) pe_int))
      (pss_one (ps_ret (pe_op op_fdivW (pe_op op_mod (pe_op op_add (pe_op op_add (pe_op op_mul (pv 3) pe_int) (pe_op op_mul (pe_op op_mul (pv 1) (pv 1)) pe_int)) (pe_op op_fdivW (pv 2) pe_int)) pe_int) pe_int))))), ?_⟩
    refine ⟨_, rfl, _, _, rfl, rfl, .inr ⟨by decide, by decide⟩, _, rfl, _, _, rfl, rfl, .inr ⟨by decide, by decide⟩, _, _, rfl, rfl, _, _, rfl, rfl, _, _, rfl, rfl, (by show (0 : Int) < M61; decide), ?_⟩
    have o1 : 0 ≤ (x * 998244353 + y * 1000000007 + 5) % M61 := Int.emod_nonneg _ (by decide)
    have o2 : (x * 998244353 + y * 1000000007 + 5) % M61 < M61 := Int.emod_lt_of_pos _ (by decide)
    have m64 : M61 < 2 ^ 64 := by decide
    have m0 : -(2 ^ 64) < (0 : Int) := by decide
    refine ⟨_, rfl, _, rfl, _, _, rfl, rfl, .inl ⟨Int.lt_of_lt_of_le m0 o1, Int.lt_trans o2 m64⟩, _, _, rfl, rfl, (by show (0 : Int) < M61; decide), ?_⟩
    have y1 : -(2 ^ 64) < y := by omega
    have y2 : y < 2 ^ 64 := by omega
    refine ⟨_, rfl, _, _, rfl, rfl, .inr ⟨by decide, by decide⟩, _, rfl, _, rfl, _, _, rfl, rfl, .inl ⟨y1, y2⟩, _, _, rfl, rfl, .inr ⟨by decide, by decide⟩, _, _, rfl, rfl, _, rfl, _, _, rfl, rfl, ⟨by decide, by decide⟩, _, _, rfl, rfl, _, _, rfl, rfl, (by show (0 : Int) < 2305843009213693921; decide), _, _, rfl, rfl, ⟨by decide, by decide⟩, ?_⟩
    exact k _
theorem bag_get {K : PySem.W.Frag} {H : Hp} {b : Addr} {vs : List V} {j : Nat} {v : V} (h : H b = some (.lst vs)) (e : vs[j]? = some v) : ∃ (p : Addr) (xs : List V) (i : Int) (w : V), V.ref b = .ref p ∧ V.int j = .int i ∧ SqL K H p xs ∧ atI xs i = some w ∧ w = v := ⟨b, vs, j, v, rfl, rfl, SqL.of h, atI_nat e, rfl⟩
theorem ok__law_draw (e : Env K mg) : FnOk P w K mg base CX0 2 e.a__law_draw e.d__law_draw ["bag", "bound"] (sp__law_draw) := by
  refine e.f__law_draw.ok sc__law_draw (fun vs H Q E h => ?_) (fun cdv A outer s H vs Q E hr h => ?_)
  · obtain ⟨b, l, ns, d, n, rfl, _⟩ := h; rfl
  · obtain ⟨b, l, ns, d, n, rfl, G, hn, hn2, hd, hl, k⟩ := h
    refine ⟨_, (pss_cons (ps_if (pt_cmpR op_eq (pv 1) pe_int (nomark _))
        (pss_one (ps_ret pe_int))
        pss_nil)
      (pss_cons (ps_asg (pe_op op_add (pe_ix ix_list (pv 0) pe_int (fun _ _ => rfl)) pe_int) (pg_sub (pv 0) pe_int set_list))
      (pss_cons (ps_if (PW.pt (pw_and (pt_cmpR op_lt (pe_ix ix_list (pv 0) pe_int (fun _ _ => rfl)) pe_int (nomark _)) (pw_and1 (pt_cmpR op_eq (pe_ix ix_list (pv 0) pe_int (fun _ _ => rfl)) (pe_callB call_len_seq (by rfl) e.n_len PySem.boot_len (pa_cons (pe_ix ix_list (pv 0) pe_int (fun _ _ => rfl)) pa_nil)) (nomark _)))))
        (pss_one (ps_ret (pe_op op_mod (pe_call ((ok__law_stir e).mono (by decide)) hr rfl e.g__law_stir e.f__law_stir.kp e.b__law_stir .nil pass0 (pa_cons (pe_ix ix_list (pv 0) pe_int (fun _ _ => rfl)) (pa_cons (pe_ix ix_list (pv 0) pe_int (fun _ _ => rfl)) pa_nil))) (pv 1))))
        pss_nil)
      (pss_cons (ps_if (pt_cmpR op_lt (pe_ix ix_list (pv 0) pe_int (fun _ _ => rfl)) pe_int (nomark _))
        (pss_cons (ps_set (i := 2) sc__law_draw.nd rfl (by first | exact Or.inl rfl | exact Or.inr rfl) (pe_ix ix_list (pe_ix ix_list (pv 0) pe_int (fun _ _ => rfl)) (pe_ix ix_list (pv 0) pe_int (fun _ _ => rfl)) (fun _ _ => rfl)))
      (pss_cons (ps_asg (pe_op op_add (pe_ix ix_list (pv 0) pe_int (fun _ _ => rfl)) pe_int) (pg_sub (pv 0) pe_int set_list))
      (pss_cons (ps_if (pt_cmpR op_lt (pv 2) (pe_op op_pow pe_int pe_int) (nomark _))
        (pss_one (ps_ret (pe_op op_mod (pe_call ((ok__law_stir e).mono (by decide)) hr rfl e.g__law_stir e.f__law_stir.kp e.b__law_stir .nil pass0 (pa_cons (pe_op op_mod (pv 2) pe_int) (pa_cons (pe_ix ix_list (pv 0) pe_int (fun _ _ => rfl)) pa_nil))) (pv 1))))
        pss_nil)
      (pss_one (ps_asg (pe_op op_sub (pv 2) (pe_op op_pow pe_int pe_int)) (pg_sub (pv 0) pe_int set_list))))))
        pss_nil)
      (pss_cons (ps_set (i := 3) sc__law_draw.nd rfl (by first | exact Or.inl rfl | exact Or.inr rfl) (pe_op op_mod (pe_ix ix_list (pv 0) pe_int (fun _ _ => rfl)) (pv 1)))
      (pss_cons (ps_asg (pe_op op_fdivW (pe_ix ix_list (pv 0) pe_int (fun _ _ => rfl)) (pv 1)) (pg_sub (pv 0) pe_int set_list))
      (pss_one (ps_ret (pv 3))))))))), ?_⟩
    refine ⟨_, rfl, rfl, _, rfl, ite2d (fun h1 => ?_) fun h1 => ?_⟩
    · have e1 : n = 1 := V.int.inj h1
      exact k _ 0 (by decide) (by omega) (G.mono (by omega)) (Fr.refl _ _)
    · obtain ⟨⟨i, c, kk, t, hb, hi0, hi1, hk0, hk1, ht0, ht1⟩, hls, hne⟩ := id G
      refine ⟨_, rfl, b, _, _, _, rfl, rfl, SqL.of hb, rfl, _, _, rfl, rfl, _, rfl, b, _, _, 3, rfl, rfl, hb, rfl, ?_⟩
      have F : ∀ o, Fr H (upd H b o) b := fun o a x hx ha => by rw [upd_ne ha]; exact hx
      have hbb : ∀ o, upd H b o b = some o := fun o => upd_same
      have hll : ∀ o, upd H b o l = some (.lst (ns.map V.int)) := fun o => by rw [upd_ne hne]; exact hls
      have cl : ∀ c' : Int, Bag (upd H b (.lst [.ref l, .int i, .int c', .int (kk + 1), .int t])) b l ns (d + 1) := fun c' => ⟨⟨i, c', kk + 1, t, upd_same, hi0, hi1, by omega, by omega, ht0, ht1⟩, hll _, hne⟩
      have cl2 : ∀ (j c' : Int), 0 ≤ j → j ≤ ns.length → Bag (upd H b (.lst [.ref l, .int j, .int c', .int (kk + 1), .int t])) b l ns (d + 1) := fun j c' h0 h1 => ⟨⟨j, c', kk + 1, t, upd_same, h0, h1, by omega, by omega, ht0, ht1⟩, hll _, hne⟩
      have r0 : ∀ r : Int, 0 ≤ r % n := fun r => Int.emod_nonneg _ (by omega)
      have r1 : ∀ r : Int, r % n < n := fun r => Int.emod_lt_of_pos _ hn
      refine ⟨_, rfl, b, _, _, _, rfl, rfl, SqL.of upd_same, rfl, _, _, rfl, rfl, _, rfl, ite2d (fun hc => ?_) fun hc => ?_⟩
      · refine ⟨_, rfl, b, _, _, _, rfl, rfl, SqL.of upd_same, rfl, _, rfl, b, _, _, _, rfl, rfl, SqL.of upd_same, rfl, l, _, rfl, .inl (SqL.of (hll _)), rfl, _, rfl, ite2d (fun hi => ?_) fun hi => ?_⟩
        · refine ⟨_, rfl, b, _, _, _, rfl, rfl, SqL.of upd_same, rfl, _, rfl, b, _, _, _, rfl, rfl, SqL.of upd_same, rfl, t, kk + 1, rfl, ht0, ht1, by omega, by omega, fun r => ⟨_, rfl, _, _, rfl, rfl, hn, ?_⟩⟩
          exact k _ (r % n) (r0 r) (r1 r) (cl c) (F _)
        · refine ⟨_, rfl, b, _, _, _, rfl, rfl, SqL.of upd_same, rfl, _, _, rfl, rfl, _, rfl, iteD hc ?_⟩
          have hi2 : i ≠ ns.length := fun q => hi (by rw [q, List.length_map])
          have hi3 : i.toNat < ns.length := by omega
          refine ⟨_, rfl, b, _, _, _, rfl, rfl, SqL.of upd_same, rfl, _, rfl, b, _, _, _, rfl, rfl, SqL.of upd_same, rfl, _, _, _, _, rfl, rfl, SqL.of (hll _), at_of (j := i.toNat) (v := V.int ns[i.toNat]) (by omega) (by rw [List.getElem?_map, List.getElem?_eq_getElem hi3]; rfl), ?_⟩
          refine ⟨_, rfl, b, _, _, _, rfl, rfl, SqL.of upd_same, rfl, _, _, rfl, rfl, _, rfl, b, _, _, 1, rfl, rfl, upd_same, rfl, ?_⟩
          rw [upd_upd]
          generalize ns[i.toNat] = cell
          refine ⟨_, rfl, _, _, rfl, rfl, ⟨by decide, by decide, by decide⟩, _, _, rfl, rfl, _, rfl, ite2d (fun hq => ?_) fun hq => ?_⟩
          · refine ⟨_, rfl, _, _, rfl, rfl, (by show (0 : Int) < M61; decide), _, rfl, b, _, _, _, rfl, rfl, SqL.of upd_same, rfl, cell % M61, kk + 1, rfl, Int.emod_nonneg _ (by decide), Int.emod_lt_of_pos _ (by decide), by omega, by omega, fun r => ⟨_, rfl, _, _, rfl, rfl, hn, ?_⟩⟩
            exact k _ (r % n) (r0 r) (r1 r) (cl2 (i + 1) c (by omega) (by omega)) (F _)
          · refine ⟨_, rfl, _, _, rfl, rfl, ⟨by decide, by decide, by decide⟩, _, _, rfl, rfl, _, rfl, b, _, _, 2, rfl, rfl, upd_same, rfl, ?_⟩
            rw [upd_upd]
            refine ⟨_, rfl, b, _, _, _, rfl, rfl, SqL.of upd_same, rfl, _, rfl, _, _, rfl, rfl, hn, _, rfl, b, _, _, _, rfl, rfl, SqL.of upd_same, rfl, _, rfl, _, _, rfl, rfl, ⟨hn, hn2⟩, _, rfl, b, _, _, 2, rfl, rfl, upd_same, rfl, ?_⟩
            rw [upd_upd]
            exact ⟨_, rfl, k _ _ (r0 _) (r1 _) (cl2 (i + 1) _ (by omega) (by omega)) (F _)⟩
      · refine iteF ?_
        refine ⟨_, rfl, b, _, _, _, rfl, rfl, SqL.of upd_same, rfl, _, _, rfl, rfl, _, rfl, iteX hc ?_⟩
        refine ⟨_, rfl, b, _, _, _, rfl, rfl, SqL.of upd_same, rfl, _, rfl, _, _, rfl, rfl, hn, _, rfl, b, _, _, _, rfl, rfl, SqL.of upd_same, rfl, _, rfl, _, _, rfl, rfl, ⟨hn, hn2⟩, _, rfl, b, _, _, 2, rfl, rfl, upd_same, rfl, ?_⟩
        rw [upd_upd]
        exact ⟨_, rfl, k _ _ (r0 _) (r1 _) (cl _) (F _)⟩
end
end LP

namespace LP
open PySem L2 LT LG LQ
section
variable {P : Program} {w : World} {K : PySem.W.Frag} {mg : Str → Option Value} {base : Heap}
theorem get_erase {α : Type} : ∀ {l : List α} {i : Nat} {x : α}, l[i]? = some x → (x :: l.eraseIdx i).Perm l
  | [], i, x, h => by simp at h
  | a :: r, 0, x, h => by
    have e : a = x := Option.some.inj h
    subst e; exact List.Perm.refl _
  | a :: r, i + 1, x, h => by
    have ih := get_erase (l := r) (i := i) (x := x) h
    exact (List.Perm.swap a x (r.eraseIdx i)).trans (ih.cons a)
theorem pop_perm {lf dn xs : List Int} {i : Nat} {x : Int} (h : (lf ++ dn).Perm xs) (hx : lf[i]? = some x) : (lf.eraseIdx i ++ (dn ++ [x])).Perm xs := by
  refine List.Perm.trans ?_ h
  have p : (x :: lf.eraseIdx i).Perm lf := get_erase hx
  have q : (lf.eraseIdx i ++ (dn ++ [x])).Perm (x :: (lf.eraseIdx i ++ dn)) := by
    rw [← List.append_assoc]
    exact List.perm_append_singleton _ _
  exact q.trans ((List.perm_append_right_iff dn).mpr p)
theorem ok__law_shuffled (e : Env K mg) : FnOk P w K mg base CX0 3 e.a__law_shuffled e.d__law_shuffled ["bag", "items"] (sp__law_shuffled K) := by
  refine e.f__law_shuffled.ok sc__law_shuffled (fun vs H Q E h => ?_) (fun cdv A outer s H vs Q E hr h => ?_)
  · obtain ⟨b, l, ns, d, p, xs, rfl, _⟩ := h; rfl
  · obtain ⟨b, l, ns, d, p, xs, rfl, G, hd, hl, hS, hx, hpb, k⟩ := h
    refine ⟨_, (pss_cons (ps_set (i := 2) sc__law_shuffled.nd rfl (by first | exact Or.inl rfl | exact Or.inr rfl) (pe_callTy call_list_of (by rfl) e.n_list (by decide +kernel) (pa_cons (pv 1) pa_nil)))
      (pss_one (ps_ret (pe_lc (own := [("step", 3)]) rfl sc__law_shuffled.nd (pi_range1 (by rfl) e.n_range (pa_cons (pe_callB call_len_seq (by rfl) e.n_len PySem.boot_len (pa_cons (pv 1) pa_nil)) pa_nil)) (blkOk_by (N := ["bag", "items", "left", "step"]) (sc := defScope s__law_shuffled) (by decide +kernel)) (fun _ _ _ _ _ => (pg_name (i := 3) sc__law_shuffled.nd rfl (by first | exact Or.inl rfl | exact Or.inr rfl))) (fun _ _ _ _ _ => pts_nil) (fun _ _ _ _ _ => (show PE _ _ (tBM K "list" _ _ _) from pe_bm PySem.F.plainAttrs_list PySem.F.slot_list_pop PySem.F.type_list_pop mt_popAt (pv 2) (pa_cons (pe_call ((ok__law_draw e).mono (by decide)) hr rfl e.g__law_draw e.f__law_draw.kp e.b__law_draw .nil pass0 (pa_cons (pv 0) (pa_cons (pe_callB (show CallR _ _ (rLenS K) from call_len_seq) (by rfl) e.n_len PySem.boot_len (pa_cons (pv 2) pa_nil)) pa_nil))) pa_nil))))))), ?_⟩
    refine ⟨_, rfl, p, _, rfl, .inl hS, fun L hL => ?_⟩
    have sL := same_upd (o := HO.lst (xs.map V.int)) hL
    have nLb : L ≠ b := G.ne_new hL
    refine ⟨_, rfl, p, _, rfl, .inl (sL.seq hS), _, rfl, by rw [List.length_map]; omega, by rw [List.length_map]; omega, fun D hD => ?_⟩
    have sD := same_upd (o := HO.lst []) hD
    have nDb : D ≠ b := (G.same sL).ne_new hD
    have nLD : L ≠ D := ne_of_none upd_same hD
    refine lc_it walk_range (fun j H' => ∃ lf dn : List Int, (lf ++ dn).Perm xs ∧ dn.length = j ∧ Bag H' b l ns (d + j) ∧ Fr H H' b ∧ H' L = some (.lst (lf.map V.int)) ∧ H' D = some (.lst (dn.map V.int)))
      ⟨xs, [], by rw [List.append_nil], rfl, (G.same sL).same sD, Fr.of (sL.trans sD), sD _ _ upd_same, upd_same⟩ (fun _ _ _ _ => trivial) ?_ ?_
    · rintro j x H2 H3 hj ⟨lf, dn, pm, dl, G2, F2, hL2, hD2⟩ ⟨rfl, rfl⟩
      replace hj : j < (xs.map V.int).length := hj
      rw [List.length_map] at hj
      have hlen := pm.length_eq
      rw [List.length_append] at hlen
      refine ⟨rfl, _, rfl, .inl ⟨rfl, _, SqL.of hL2⟩, _, rfl, _, rfl, L, _, rfl, .inl (SqL.of hL2), b, l, ns, _, _, rfl, G2, by rw [List.length_map]; omega, by rw [List.length_map]; exact log_small (by omega), by omega, hl, fun H4 r r0 r1 G4 F4 => ?_⟩
      rw [List.length_map] at r1
      have hr : r.toNat < lf.length := by omega
      have hg := List.getElem?_eq_getElem hr
      have hL4 := F4 _ _ hL2 nLb
      have hD4 := F4 _ _ hD2 nDb
      refine ⟨L, _, r, r.toNat, .int lf[r.toNat], rfl, rfl, hL4, by omega, by omega, by rw [List.length_map]; exact seq_int r0 hr, int_at hg, _, (by rw [upd_ne nLD.symm]; exact hD4), by rw [List.length_map]; exact small1000 (by omega), ?_⟩
      have hLn : ∀ o, Fr H4 (upd H4 L o) L := fun o a x ha hne => by rw [upd_ne hne]; exact ha
      refine ⟨lf.eraseIdx r.toNat, dn ++ [lf[r.toNat]], pop_perm pm hg, by rw [List.length_append, dl]; rfl, ?_, ?_, ?_, ?_⟩
      · obtain ⟨⟨i, c, k, t, h1, h2⟩, ls, ne⟩ := G4
        have e1 : l ≠ L := fun q => by
          have := sL.free (show upd H L (.lst (xs.map V.int)) D = none from hD)
          rw [q] at ls
          have z := G.ls
          rw [q, hL] at z; cases z
        have e2 : l ≠ D := fun q => by
          have z := (G.same sL).ls
          rw [q, hD] at z; cases z
        exact ⟨⟨i, c, k, t, by rw [upd_ne nDb.symm, upd_ne nLb.symm]; exact h1, h2.1, h2.2.1, h2.2.2.1, by have := h2.2.2.2.1; omega, h2.2.2.2.2⟩, by rw [upd_ne e2, upd_ne e1]; exact ls, ne⟩
      · intro a o ha hne
        rw [upd_ne (ne_of_none (sL _ _ ha) hD), upd_ne (ne_of_none ha hL)]
        exact F4 _ _ (F2 _ _ ha hne) hne
      · rw [upd_ne nLD, upd_same, erase_map]
      · rw [upd_same, List.map_append]; rfl
    · rintro H2 ⟨lf, dn, pm, dl, G2, F2, hL2, hD2⟩
      replace dl : dn.length = (xs.map V.int).length := dl
      rw [List.length_map] at dl
      have hlen := pm.length_eq
      rw [List.length_append] at hlen
      have e : lf = [] := List.length_eq_zero_iff.mp (by omega)
      subst e
      exact k H2 D dn (by rw [← dl]; exact (by have z := G2; rw [show ((xs.map V.int).length : Int).toNat = dn.length by rw [List.length_map]; omega] at z; exact z)) F2 (sL.free hD) pm hD2
end
end LP

namespace LP
open PySem L2 LT LG LQ
section
variable {P : Program} {w : World} {K : PySem.W.Frag} {mg : Str → Option Value} {base : Heap}
theorem ok__law_either (e : Env K mg) : FnOk P w K mg base CX0 3 e.a__law_either e.d__law_either ["bag", "items"] (sp__law_either) := by
  refine e.f__law_either.ok sc__law_either (fun vs H Q E h => ?_) (fun cdv A outer s H vs Q E hr h => ?_)
  · obtain ⟨b, l, ns, d, p, xs, rfl, _⟩ := h; rfl
  · obtain ⟨b, l, ns, d, p, xs, rfl, G, hd, hl, hS, hpb, k⟩ := h
    refine ⟨_, (pss_one (ps_ret (pe_ix ix_list (pe_lst (pa_cons (pe_callTy call_list_of (by rfl) e.n_list (by decide +kernel) (pa_cons (pv 1) pa_nil)) (pa_cons (pe_tupleOf (by rfl) e.n_tuple (pv 1)) pa_nil))) (pe_call ((ok__law_draw e).mono (by decide)) hr rfl e.g__law_draw e.f__law_draw.kp e.b__law_draw .nil pass0 (pa_cons (pv 0) (pa_cons pe_int pa_nil))) (fun _ _ => rfl)))), ?_⟩
    refine ⟨_, rfl, p, _, rfl, .inl (SqL.of hS), fun L hL => ?_⟩
    have sL := same_upd (o := HO.lst (xs.map V.int)) hL
    refine ⟨_, rfl, .inl ⟨p, _, rfl, SqL.of (sL _ _ hS), fun q hq => ?_⟩⟩
    have sq := same_upd (o := HO.tup (xs.map V.int)) hq
    refine ⟨(by show 2 ≤ sizeLine; decide), fun m hm => ?_⟩
    have sm := same_upd (o := HO.lst [.ref L, .ref q]) hm
    have G1 := ((G.same sL).same sq).same sm
    refine ⟨_, rfl, b, l, ns, d, 2, rfl, G1, by decide, by decide +kernel, by omega, hl, fun H4 r r0 r1 G4 F4 => ?_⟩
    have F : Fr H H4 b := (Fr.of ((sL.trans sq).trans sm)).trans F4
    have hm4 : H4 m = some (.lst [.ref L, .ref q]) := F4 _ _ upd_same (((G.same sL).same sq).ne_new hm)
    have hL4 := F4 _ _ (sm _ _ (sq _ _ upd_same)) (G.ne_new hL)
    have hq4 := F4 _ _ (sm _ _ upd_same) ((G.same sL).ne_new hq)
    obtain rfl | rfl : r = 0 ∨ r = 1 := by omega
    · exact rd_ix (j := 0) (SqL.of hm4) rfl rfl (k H4 L G4 F hL (.inl hL4))
    · exact rd_ix (j := 1) (SqL.of hm4) rfl rfl (k H4 q G4 F (sL.free hq) (.inr hq4))
theorem ok__law_pattern (e : Env K mg) : FnOk P w K mg base CX0 3 e.a__law_pattern e.d__law_pattern ["bag", "count"] (sp__law_pattern) := by
  refine e.f__law_pattern.ok sc__law_pattern (fun vs H Q E h => ?_) (fun cdv A outer s H vs Q E hr h => ?_)
  · obtain ⟨b, l, ns, d, n, rfl, _⟩ := h; rfl
  · obtain ⟨b, l, ns, d, n, rfl, G, hd, hl, hn, k⟩ := h
    refine ⟨_, (pss_cons (ps_asg (pe_tup (pa_cons pe_str (pa_cons (pv 1) (pa_cons pe_int (pa_cons (pe_op op_add pe_int (pe_call ((ok__law_draw e).mono (by decide)) hr rfl e.g__law_draw e.f__law_draw.kp e.b__law_draw .nil pass0 (pa_cons (pv 0) (pa_cons pe_int pa_nil)))) pa_nil))))) (pg_tup (by rfl) (pgs_cons (pg_name (i := 2) sc__law_pattern.nd rfl (by first | exact Or.inl rfl | exact Or.inr rfl)) (pgs_cons (pg_name (i := 3) sc__law_pattern.nd rfl (by first | exact Or.inl rfl | exact Or.inr rfl)) (pgs_cons (pg_name (i := 4) sc__law_pattern.nd rfl (by first | exact Or.inl rfl | exact Or.inr rfl)) (pgs_cons (pg_name (i := 5) sc__law_pattern.nd rfl (by first | exact Or.inl rfl | exact Or.inr rfl)) pgs_nil))))))
      (pss_cons (ps_for PassesOwn.never rfl (pi_range1 (by rfl) e.n_range (pa_cons (pe_op op_mul pe_int (pv 1)) pa_nil)) (pg_name (i := 6) sc__law_pattern.nd rfl (by first | exact Or.inl rfl | exact Or.inr rfl))
      (pss_one (ps_if (PW.pt (pw_and (pt_cmpR op_gt (pv 3) pe_int (nomark _)) (pw_and1 (PW.pt (pw_or (pt_cmpR op_eq (pv 4) pe_int (nomark _)) (pw_or1 (pt_cmpR op_lt (pe_call ((ok__law_draw e).mono (by decide)) hr rfl e.g__law_draw e.f__law_draw.kp e.b__law_draw .nil pass0 (pa_cons (pv 0) (pa_cons pe_int pa_nil))) (pv 5) (nomark _))))))))
        (pss_one (ps_par3 (i := 2) (j := 3) (l := 4) (by rfl) sc__law_pattern.nd rfl rfl rfl (by decide) (by decide) (by decide) rfl rfl rfl (pa_cons (pe_op op_add_str (pv 2) pe_str) (pa_cons (pe_op op_sub (pv 3) pe_int) (pa_cons (pe_op op_add (pv 4) pe_int) pa_nil))) (by rfl)))
        (pss_one (ps_par (i := 2) (j := 4) (by rfl) sc__law_pattern.nd rfl rfl (by decide) rfl rfl (pa_cons (pe_op op_add_str (pv 2) pe_str) (pa_cons (pe_op op_sub (pv 4) pe_int) pa_nil)) (by rfl))))))
      (pss_one (ps_ret (pv 2))))), ?_⟩
    refine ⟨_, rfl, _, rfl, b, l, ns, d, 5, rfl, G, by decide, by decide +kernel, by omega, hl, fun H1 r1 a1 b1 G1 F1 => ?_⟩
    refine ⟨_, _, rfl, rfl, (by show 4 ≤ sizeLine; decide), fun tp htp => ?_⟩
    have st := same_upd (o := HO.tup [.str "", .int n, .int 0, .int (1 + r1)]) htp
    refine ⟨_, _, rfl, SqT.of upd_same, rfl, _, _, rfl, _, _, rfl, _, _, rfl, _, _, rfl, rfl, ?_⟩
    refine ⟨_, rfl, _, _, rfl, rfl, .inl ⟨by decide, by decide⟩, _, rfl, by omega, by omega, for_it walk_range (fun i σ H2 => ∃ (t : Pat) (v6 : Option V), t.length = i ∧ Pre t ∧ tks t ≤ n ∧
        σ = [some (.ref b), some (.int n), some (.str (pstr t)), some (.int ((n : Int) - (tks t : Nat))), some (.int (((tks t : Nat) : Int) - (fls t : Nat))), some (.int (1 + r1)), v6] ∧ Bag H2 b l ns (d + 1 + i) ∧ Fr H H2 b)
      ⟨[], none, rfl, Pre.nil, Nat.zero_le _, by rw [pstr_nil]; show _ = [_, _, _, some (V.int ((n : Int) - 0)), _, _, _]; rw [Int.sub_zero]; rfl, (G1.same st).mono (by omega), F1.trans (Fr.of st)⟩ (fun _ _ _ _ _ => trivial) ?_ ?_⟩
    · rintro i x σ Hq H2 hi ⟨t, v6, tl, pt, tn, rfl, G2, F2⟩ ⟨rfl, rfl⟩
      replace hi : i < (2 * (n : Int)).toNat := hi
      have hlp := len_pat t
      have hpa := pt.all
      have sz : (pstr t).length + (1 : Nat) ≤ sizeLine := by
        show (pstr t).cps.size + 1 ≤ sizeLine
        rw [pstr_size]; exact Nat.le_of_lt (small1000 (by omega))
      have finT : ∀ H3, Bag H3 b l ns (d + 1 + (i + 1)) → Fr H H3 b → (n : Int) - (tks t : Nat) > 0 → ∃ (t2 : Pat) (v6 : Option V), t2.length = i + 1 ∧ Pre t2 ∧ tks t2 ≤ n ∧
          [some (V.ref b), some (.int n), some (.str (pstr t ++ ("T" : Str))), some (.int ((n : Int) - (tks t : Nat) - 1)), some (.int (((tks t : Nat) : Int) - (fls t : Nat) + 1)), some (.int (1 + r1)), some (.int (0 + (i : Nat)))] = [some (.ref b), some (.int n), some (.str (pstr t2)), some (.int ((n : Int) - (tks t2 : Nat))), some (.int (((tks t2 : Nat) : Int) - (fls t2 : Nat))), some (.int (1 + r1)), v6] ∧ Bag H3 b l ns (d + 1 + (i + 1)) ∧ Fr H H3 b := fun H3 G3 F3 h => by
        refine ⟨t ++ [true], some (.int (0 + (i : Nat))), by rw [List.length_append, tl]; rfl, pt.snoc (by rw [tks_t, fls_t]; omega), by rw [tks_t]; omega, ?_, G3, F3⟩
        have e1 : (n : Int) - ((tks t + 1 : Nat) : Int) = (n : Int) - (tks t : Nat) - 1 := by omega
        have e2 : ((tks t + 1 : Nat) : Int) - (fls t : Nat) = ((tks t : Nat) : Int) - (fls t : Nat) + 1 := by omega
        rw [pstr_T, tks_t, fls_t, e1, e2]
      have finR : ∀ H3, Bag H3 b l ns (d + 1 + (i + 1)) → Fr H H3 b → fls t < tks t → ∃ (t2 : Pat) (v6 : Option V), t2.length = i + 1 ∧ Pre t2 ∧ tks t2 ≤ n ∧
          [some (V.ref b), some (.int n), some (.str (pstr t ++ ("R" : Str))), some (.int ((n : Int) - (tks t : Nat))), some (.int (((tks t : Nat) : Int) - (fls t : Nat) - 1)), some (.int (1 + r1)), some (.int (0 + (i : Nat)))] = [some (.ref b), some (.int n), some (.str (pstr t2)), some (.int ((n : Int) - (tks t2 : Nat))), some (.int (((tks t2 : Nat) : Int) - (fls t2 : Nat))), some (.int (1 + r1)), v6] ∧ Bag H3 b l ns (d + 1 + (i + 1)) ∧ Fr H H3 b := fun H3 G3 F3 h => by
        refine ⟨t ++ [false], some (.int (0 + (i : Nat))), by rw [List.length_append, tl]; rfl, pt.snoc (by rw [tks_f, fls_f]; omega), by rw [tks_f]; omega, ?_, G3, F3⟩
        have e2 : ((tks t : Nat) : Int) - ((fls t + 1 : Nat) : Int) = ((tks t : Nat) : Int) - (fls t : Nat) - 1 := by omega
        rw [pstr_R, tks_f, fls_f, e2]
      refine ⟨_, rfl, _, _, rfl, rfl, _, rfl, ite2d (fun h1 => ?_) fun h1 => ?_⟩
      · refine ⟨_, rfl, rfl, _, rfl, ite2d (fun h2 => ?_) fun h2 => ?_⟩
        · refine iteT ?_
          exact ⟨_, rfl, _, _, rfl, rfl, sz, _, rfl, _, _, rfl, rfl, _, rfl, _, _, rfl, rfl, _, _, _, rfl, finT _ (G2.mono (by omega)) F2 h1⟩
        · refine ⟨_, rfl, b, l, ns, _, 6, rfl, G2, by decide, by decide +kernel, by omega, hl, fun H3 r r0 r2 G3 F3 => ?_⟩
          refine ⟨_, rfl, _, _, rfl, rfl, _, rfl, ite2d (fun h3 => ?_) fun h3 => ?_⟩
          · exact ⟨_, rfl, _, _, rfl, rfl, sz, _, rfl, _, _, rfl, rfl, _, rfl, _, _, rfl, rfl, _, _, _, rfl, finT _ G3 (F2.trans F3) h1⟩
          · have hlt : fls t < tks t := by
              rcases Nat.lt_or_ge (fls t) (tks t) with q | q
              · exact q
              · exact absurd (congrArg V.int (show ((tks t : Nat) : Int) - (fls t : Nat) = 0 by omega)) h2
            exact ⟨_, rfl, _, _, rfl, rfl, sz, _, rfl, _, _, rfl, rfl, _, _, rfl, finR _ G3 (F2.trans F3) hlt⟩
      · refine iteF ?_
        exact ⟨_, rfl, _, _, rfl, rfl, sz, _, rfl, _, _, rfl, rfl, _, _, rfl, finR _ (G2.mono (by omega)) F2 (by omega)⟩
    · rintro σ H2 ⟨t, v6, tl, pt, tn, rfl, G2, F2⟩
      have hlp := len_pat t
      have hpa := pt.all
      refine ⟨_, rfl, k H2 t (G2.mono (by omega)) F2 ⟨pt, by omega⟩ (by omega)⟩
end
end LP

namespace LP
open PySem L2 LT LG LQ
section
variable {P : Program} {w : World} {K : PySem.W.Frag} {mg : Str → Option Value} {base : Heap}
def pl4 (w : Int) (j : Nat) : Int := if w = 0 then 0 + (j : Nat) else if w = 1 then 7 * (0 + (j : Nat)) + 3 else if w = 2 then 10 ^ 30 - (0 + (j : Nat)) else (0 + (j : Nat)) * 10 ^ 27 + (0 + (j : Nat))
theorem pl4_pl (w : Int) {n : Nat} (hn : n ≤ 200) : Pl ((List.range n).map (pl4 w)) := by
  have g : ∀ j, j < n → 0 ≤ pl4 w j ∧ pl4 w j ≤ G30 := fun j hj => by
    unfold pl4 G30
    split
    · omega
    · split
      · omega
      · split <;> omega
  refine ⟨?_, fun x hx => ?_, by simp [hn]⟩
  · unfold List.Nodup
    rw [List.pairwise_map]
    refine List.Pairwise.imp_of_mem (R := (· < ·)) (fun {a b} ha hb hab => ?_) List.pairwise_lt_range
    unfold pl4
    split
    · omega
    · split
      · omega
      · split <;> omega
  · obtain ⟨j, hj, rfl⟩ := List.mem_map.mp hx
    exact g j (List.mem_range.mp hj)
theorem pl4_snoc (w : Int) (j : Nat) : (List.range (j + 1)).map (pl4 w) = (List.range j).map (pl4 w) ++ [pl4 w j] := by
  rw [List.range_succ, List.map_append]; rfl
theorem ok__law_places (e : Env K mg) : FnOk P w K mg base CX0 4 e.a__law_places e.d__law_places ["bag", "count"] (sp__law_places) := by
  refine e.f__law_places.ok sc__law_places (fun vs H Q E h => ?_) (fun cdv A outer s H vs Q E hr h => ?_)
  · obtain ⟨b, l, ns, d, n, rfl, _⟩ := h; rfl
  · obtain ⟨b, l, ns, d, n, rfl, G, hd, hl, hn, k⟩ := h
    refine ⟨_, (pss_cons (ps_asg (pe_tup (pa_cons (pe_call ((ok__law_draw e).mono (by decide)) hr rfl e.g__law_draw e.f__law_draw.kp e.b__law_draw .nil pass0 (pa_cons (pv 0) (pa_cons pe_int pa_nil))) (pa_cons (pe_call ((ok__law_draw e).mono (by decide)) hr rfl e.g__law_draw e.f__law_draw.kp e.b__law_draw .nil pass0 (pa_cons (pv 0) (pa_cons pe_int pa_nil))) pa_nil))) (pg_tup (by rfl) (pgs_cons (pg_name (i := 2) sc__law_places.nd rfl (by first | exact Or.inl rfl | exact Or.inr rfl)) (pgs_cons (pg_name (i := 3) sc__law_places.nd rfl (by first | exact Or.inl rfl | exact Or.inr rfl)) pgs_nil))))
      (pss_cons (ps_setLc (i := 4) (own := [("k", 5)]) rfl sc__law_places.nd rfl rfl (sw_true rfl rfl rfl (by decide +kernel)) (pi_range1 (by rfl) e.n_range (pa_cons (pv 1) pa_nil)) (blkOk_by (N := ["bag", "count", "way", "order", "found", "k"]) (sc := defScope s__law_places) (by decide +kernel)) (fun _ _ _ _ _ => (pg_name (i := 5) sc__law_places.nd rfl (by first | exact Or.inl rfl | exact Or.inr rfl))) (fun _ _ _ _ _ => pts_nil) (fun _ _ _ _ _ => (pe_ix (show IxR _ (rIxL K) from ix_list) (pe_lst (pa_cons (pv 5) (pa_cons (pe_op op_add (pe_op op_mul pe_int (pv 5)) pe_int) (pa_cons (pe_op op_sub (pe_op op_pow pe_int pe_int) (pv 5)) (pa_cons (pe_op op_add (pe_op op_mul (pv 5) (pe_op op_pow pe_int pe_int)) (pv 5)) pa_nil))))) (pv 2) (fun _ _ => rfl))))
      (pss_cons (ps_if (pt_cmpR op_eq (pv 3) pe_int (nomark _))
        (pss_one (ps_ret (pe_callB cr_sortedE (by rfl) e.n_sorted (by decide +kernel) (pa_cons (pv 4) pa_nil))))
        pss_nil)
      (pss_one (ps_ret (pe_ifExp (pt_cmpR op_eq (pv 3) pe_int (nomark _)) (pe_revL (pe_callB cr_sortedE (by rfl) e.n_sorted (by decide +kernel) (pa_cons (pv 4) pa_nil))) (pe_call ((ok__law_shuffled e).mono (by decide)) hr rfl e.g__law_shuffled e.f__law_shuffled.kp e.b__law_shuffled .nil pass0 (pa_cons (pv 0) (pa_cons (pv 4) pa_nil))))))))), ?_⟩
    refine ⟨_, rfl, b, l, ns, d, 4, rfl, G, by decide, by decide +kernel, by omega, hl, fun H1 wy w0 w1 G1 F1 => ?_⟩
    refine ⟨_, rfl, b, l, ns, _, 4, rfl, G1, by decide, by decide +kernel, by omega, hl, fun H2 od o0 o1 G2 F2 => ?_⟩
    refine ⟨(by show 2 ≤ sizeLine; decide), fun tp htp => ?_⟩
    have st := same_upd (o := HO.tup [.int wy, .int od]) htp
    refine ⟨_, _, rfl, SqT.of upd_same, rfl, _, _, rfl, _, _, rfl, rfl, ?_⟩
    have G3 := G2.same st
    have F03 : Fr H _ b := (F1.trans F2).trans (Fr.of st)
    refine ⟨_, rfl, _, rfl, by omega, by omega, fun D hD => ?_⟩
    have nDb : D ≠ b := G3.ne_new hD
    have hD0 : H D = none := (F1.trans F2).free G.nb (st.free hD) G2.nb
    have pl := pl4_pl wy hn
    refine lc_it walk_range (fun j H' => Bag H' b l ns (d + 2) ∧ Fr H H' b ∧ H' D = some (.lst (((List.range j).map (pl4 wy)).map V.int))) ⟨G3.same (same_upd hD), F03.trans (Fr.of (same_upd hD)), upd_same⟩ (fun _ _ _ _ => trivial) ?_ ?_
    · rintro j x Hq H4 hj ⟨G4, F4, hD4⟩ ⟨rfl, rfl⟩
      replace hj : j < (n : Int).toNat := hj
      refine ⟨rfl, _, rfl, _, rfl, _, _, rfl, rfl, .inl ⟨by decide, by decide⟩, _, _, rfl, rfl, _, _, rfl, rfl, ⟨by decide, by decide, by decide⟩, _, rfl, _, _, rfl, rfl, _, rfl, _, _, rfl, rfl, ⟨by decide, by decide, by decide⟩, _, _, rfl, rfl, .inl ⟨by omega, by omega⟩, _, rfl, _, _, rfl, rfl, (by show 4 ≤ sizeLine; decide), fun q hq => ⟨_, rfl, ?_⟩⟩
      have sq := fun o => same_upd (o := o) hq
      have nqD : q ≠ D := (ne_of_none hD4 hq).symm
      have fin : ∀ v : Int, v = pl4 wy j → ∃ acc, (upd H4 q (.lst [V.int (0 + (j : Nat)), V.int (7 * (0 + (j : Nat)) + 3), V.int (10 ^ (30 : Int).toNat - (0 + (j : Nat))), V.int ((0 + (j : Nat)) * 10 ^ (27 : Int).toNat + (0 + (j : Nat)))])) D = some (.lst acc) ∧ acc.length < sizeLine ∧
          Bag (upd (upd H4 q (.lst [V.int (0 + (j : Nat)), V.int (7 * (0 + (j : Nat)) + 3), V.int (10 ^ (30 : Int).toNat - (0 + (j : Nat))), V.int ((0 + (j : Nat)) * 10 ^ (27 : Int).toNat + (0 + (j : Nat)))])) D (.lst (acc ++ [V.int v]))) b l ns (d + 2) ∧
          Fr H (upd (upd H4 q (.lst [V.int (0 + (j : Nat)), V.int (7 * (0 + (j : Nat)) + 3), V.int (10 ^ (30 : Int).toNat - (0 + (j : Nat))), V.int ((0 + (j : Nat)) * 10 ^ (27 : Int).toNat + (0 + (j : Nat)))])) D (.lst (acc ++ [V.int v]))) b ∧
          (upd (upd H4 q (.lst [V.int (0 + (j : Nat)), V.int (7 * (0 + (j : Nat)) + 3), V.int (10 ^ (30 : Int).toNat - (0 + (j : Nat))), V.int ((0 + (j : Nat)) * 10 ^ (27 : Int).toNat + (0 + (j : Nat)))])) D (.lst (acc ++ [V.int v]))) D = some (.lst (((List.range (j + 1)).map (pl4 wy)).map V.int)) := by
        intro v hv
        have G5 := G4.same (sq (.lst [V.int (0 + (j : Nat)), V.int (7 * (0 + (j : Nat)) + 3), V.int (10 ^ (30 : Int).toNat - (0 + (j : Nat))), V.int ((0 + (j : Nat)) * 10 ^ (27 : Int).toNat + (0 + (j : Nat)))]))
        refine ⟨_, (by rw [upd_ne nqD.symm]; exact hD4), by simp only [List.length_map, List.length_range]; exact small1000 (by omega), ?_, ?_, ?_⟩
        · obtain ⟨⟨i, c, kk, t, h1, h2⟩, ls, ne⟩ := G5
          have e2 : l ≠ D := fun z => by
            have y := G3.ls
            rw [z, hD] at y; cases y
          exact ⟨⟨i, c, kk, t, by rw [upd_ne nDb.symm]; exact h1, h2⟩, by rw [upd_ne e2]; exact ls, ne⟩
        · intro a o ha hne
          rw [upd_ne (ne_of_none ha hD0)]
          exact sq _ _ _ (F4 _ _ ha hne)
        · rw [upd_same, pl4_snoc, List.map_append, hv]; rfl
      obtain rfl | rfl | rfl | rfl : wy = 0 ∨ wy = 1 ∨ wy = 2 ∨ wy = 3 := by omega
      · exact rd_ix (j := 0) (SqL.of upd_same) rfl rfl (fin _ rfl)
      · exact rd_ix (j := 1) (SqL.of upd_same) rfl rfl (fin _ rfl)
      · exact rd_ix (j := 2) (SqL.of upd_same) rfl rfl (fin _ rfl)
      · exact rd_ix (j := 3) (SqL.of upd_same) rfl rfl (fin _ rfl)
    · rintro H4 ⟨G4, F4, hD4⟩
      have e : ((n : Int)).toNat = n := by omega
      rw [e] at hD4
      have hl2 : ((List.range n).map (pl4 wy)).length = n := by simp
      generalize (List.range n).map (pl4 wy) = xs at pl hD4 hl2
      refine ⟨_, rfl, rfl, _, rfl, ite2d (fun h1 => ?_) fun h1 => ?_⟩
      · refine ⟨_, rfl, D, xs, rfl, .inl (SqL.of hD4), fun ns' p p1 p2 np => ?_⟩
        have np0 : H p = none := F4.free G.nb np G4.nb
        exact k _ p ns' ((G4.same (same_upd np)).mono (by omega)) (F4.trans (Fr.of (same_upd np))) np0 (pl.perm p1) (by rw [p1.length_eq, hl2]) upd_same
      · refine ⟨_, rfl, rfl, _, rfl, ite2d (fun h2 => ?_) fun h2 => ?_⟩
        · refine ⟨_, rfl, D, xs, rfl, .inl (SqL.of hD4), fun ns' p p1 p2 np => ⟨p, _, rfl, SqL.of upd_same, fun q hq => ?_⟩⟩
          have sp := same_upd (o := HO.lst (ns'.map V.int)) np
          have nq0 : H q = none := F4.free G.nb (sp.free hq) G4.nb
          refine k _ q ns'.reverse (((G4.same sp).same (same_upd hq)).mono (by omega)) ((F4.trans (Fr.of sp)).trans (Fr.of (same_upd hq))) nq0 (pl.perm ((List.reverse_perm _).trans p1)) (by rw [List.length_reverse, p1.length_eq, hl2]) (by rw [upd_same, List.map_reverse])
        · refine ⟨_, rfl, _, rfl, b, l, ns, _, D, xs, rfl, G4, by omega, hl, SqL.of hD4, by omega, nDb, fun H5 q ys G5 F5 nq py hq => ?_⟩
          exact k _ q ys (G5.mono (by omega)) (F4.trans F5) (F4.free G.nb nq G4.nb) (pl.perm py) (by rw [py.length_eq, hl2]) hq
end
end LP

namespace LP
open PySem L2 LT LG LQ LH
section
variable {P : Program} {w : World} {K : PySem.W.Frag} {mg : Str → Option Value} {base : Heap}
theorem ok__law_filled (e : Env K mg) : FnOk P w K mg base CX0 1 e.a__law_filled e.d__law_filled ["takes", "pattern"] (sp__law_filled K) := by
  refine e.f__law_filled.ok sc__law_filled (fun vs H Q E h => ?_) (fun cdv A outer s H vs Q E hr h => ?_)
  · obtain ⟨a, ns, l, rfl, _⟩ := h; rfl
  · obtain ⟨a, ns, l, rfl, hS, hle, g, hn, k⟩ := h
    refine ⟨_, (pss_cons (ps_par3 (i := 2) (j := 3) (l := 4) (by rfl) sc__law_filled.nd rfl rfl rfl (by decide) (by decide) (by decide) rfl rfl rfl (pa_cons (pe_lst pa_nil) (pa_cons (pe_lst pa_nil) (pa_cons pe_int pa_nil))) (by rfl))
      (pss_cons (ps_for PassesOwn.never rfl (pi_str (pv 1)) (pg_name (i := 5) sc__law_filled.nd rfl (by first | exact Or.inl rfl | exact Or.inr rfl))
      (pss_one (ps_if (pt_cmpR op_eq (pv 5) pe_str (nomark _))
        (pss_cons (ps_expr (pe_bm PySem.F.plainAttrs_list PySem.F.slot_list_append PySem.F.type_list_append mt_append (pv 2) (pa_cons (pe_ix ix_list (pv 0) (pv 4) (fun _ _ => rfl)) pa_nil)))
      (pss_one (ps_set (i := 4) sc__law_filled.nd rfl (by first | exact Or.inl rfl | exact Or.inr rfl) (pe_op op_add (pv 4) pe_int))))
        (pss_cons (ps_expr (pe_bm PySem.F.plainAttrs_list PySem.F.slot_list_append PySem.F.type_list_append mt_append (pv 3) (pa_cons (pe_callB (cr_min rfl) (by rfl) e.n_min (by decide +kernel) (pa_cons (pv 2) pa_nil)) pa_nil)))
      (pss_one (ps_expr (pe_bm PySem.F.plainAttrs_list PySem.F.slot_list_remove PySem.F.type_list_remove mt_remove (pv 2) (pa_cons (pe_callB (cr_min rfl) (by rfl) e.n_min (by decide +kernel) (pa_cons (pv 2) pa_nil)) pa_nil))))))))
      (pss_one (ps_ret (pv 3))))), ?_⟩
    refine ⟨by decide, fun gp hg => ⟨by decide, fun fp hf => ⟨_, _, _, rfl, ?_⟩⟩⟩
    have sg := same_upd (o := HO.lst []) hg
    have sf := same_upd (o := HO.lst []) hf
    have hf0 : H fp = none := sg.free hf
    have ngf : gp ≠ fp := ne_of_none upd_same hf
    refine ⟨_, rfl, _, rfl, for_it walk_str (fun i σ H2 => ∃ v5 : Option V, Same H H2 ∧ H2 gp = some (.lst ((run ns (l.take i)).gaps.map V.int)) ∧ H2 fp = some (.lst ((run ns (l.take i)).fills.map V.int)) ∧
        σ = [some (.ref a), some (.str (pstr l)), some (.ref gp), some (.ref fp), some (.int (tks (l.take i) : Nat)), v5])
      ⟨none, sg.trans sf, sf _ _ upd_same, upd_same, rfl⟩ (fun _ _ _ _ _ => trivial) ?_ ?_⟩
    · rintro i x σ H2 H3 hi ⟨v5, s2, h2, f2, rfl⟩ ⟨rfl, c, hc, rfl⟩
      obtain ⟨bb, hb, rfl⟩ := pstr_at hc
      have hil : i < l.length := (List.getElem?_eq_some_iff.mp hb).1
      obtain ⟨r1, r2, r3⟩ := run_ok g.1 (Nat.le_of_eq hn) i (by omega)
      have htk := tks_take l (i + 1)
      have hfk := fls_take l (i + 1)
      have hgl := g.2
      have hpl := r3.length_eq
      rw [List.length_append, List.length_take, r2] at hpl
      have kg : ∀ {H4 : Hp} {o : HO}, Same H H4 → Same H (upd H4 gp o) := fun s b u hb => by rw [upd_ne (ne_of_none hb hg)]; exact s b u hb
      have kf : ∀ {H4 : Hp} {o : HO}, Same H H4 → Same H (upd H4 fp o) := fun s b u hb => by rw [upd_ne (ne_of_none hb hf0)]; exact s b u hb
      cases bb with
      | true =>
        rw [take_snoc hb, tks_t] at htk
        have hx := List.getElem?_eq_getElem (l := ns) (i := tks (l.take i)) (by omega)
        generalize ns[tks (l.take i)]'(by omega) = y at hx
        have e1 : run ns (l.take (i + 1)) = ⟨(run ns (l.take i)).at_ + 1, (run ns (l.take i)).gaps ++ [y], (run ns (l.take i)).fills⟩ := by
          rw [take_snoc hb, run_snoc]
          show (⟨_, _ ++ (ns[(run ns (l.take i)).at_]?).toList, _⟩ : Sh) = _
          rw [r1, hx]; rfl
        refine ⟨_, rfl, rfl, _, rfl, iteD vsT ?_⟩
        refine ⟨_, rfl, .inl ⟨rfl, _, SqL.of h2⟩, _, rfl, _, rfl, rd_ix (s2.seq hS) (int_at hx) rfl ⟨gp, _, _, rfl, rfl, h2, by rw [List.length_map]; exact small1000 (by omega), ?_⟩⟩
        refine ⟨_, rfl, _, _, rfl, rfl, some (.str ⟨#[sgn true]⟩), kg s2, ?_, ?_, ?_⟩
        · rw [upd_same, e1, List.map_append]; rfl
        · rw [upd_ne ngf.symm, e1]; exact f2
        · rw [take_snoc hb, tks_t]; rfl
      | false =>
        have hpr := g.1 (i + 1)
        rw [take_snoc hb, fls_f] at hfk
        rw [take_snoc hb, fls_f, tks_f] at hpr
        have htk2 := tks_take l i
        have e1 : run ns (l.take (i + 1)) = ⟨(run ns (l.take i)).at_, (run ns (l.take i)).gaps.erase (mn (run ns (l.take i)).gaps), (run ns (l.take i)).fills ++ [mn (run ns (l.take i)).gaps]⟩ := by
          rw [take_snoc hb, run_snoc]; rfl
        have hpos : 0 < (run ns (l.take i)).gaps.length := by omega
        generalize hG : (run ns (l.take i)).gaps = gs at *
        have hne : gs ≠ [] := fun e => by rw [e] at hpos; simp at hpos
        have hmem := (mn_ok hne).1
        refine ⟨_, rfl, rfl, _, rfl, iteX vsR ?_⟩
        refine ⟨_, rfl, .inl ⟨rfl, _, SqL.of f2⟩, _, rfl, gp, gs, rfl, SqL.of h2, by first | exact hpos | exact hne, fun m q1 q2 => ?_⟩
        have em : m = mn gs := mn_eq q1 q2
        subst em
        refine ⟨fp, _, _, rfl, rfl, f2, by rw [List.length_map, r2]; exact small1000 (by omega), ?_⟩
        have h3 : (upd H3 fp (.lst ((run ns (l.take i)).fills.map V.int ++ [V.int (mn gs)]))) gp = some (.lst (gs.map V.int)) := by rw [upd_ne ngf]; exact h2
        refine ⟨_, rfl, .inl ⟨rfl, _, SqL.of h3⟩, _, rfl, gp, gs, rfl, SqL.of h3, by first | exact hpos | exact hne, fun m q3 q4 => ?_⟩
        have em : m = mn gs := mn_eq q3 q4
        subst em
        refine ⟨gp, gs, _, gs.idxOf (mn gs), rfl, rfl, h3, idx_get hmem, fun j hj => idx_before hj, some (.str ⟨#[sgn false]⟩), kg (kf s2), ?_, ?_, ?_⟩
        · rw [upd_same, e1, List.erase_eq_eraseIdx_of_idxOf rfl]
        · rw [upd_ne ngf.symm, upd_same, e1, List.map_append]; rfl
        · rw [take_snoc hb, tks_f]; rfl
    · rintro σ H2 ⟨v5, s2, h2, f2, rfl⟩
      rw [pstr_size, List.take_length] at f2
      exact ⟨_, rfl, k H2 fp s2 hf0 f2⟩
end
end LP

namespace LP
open PySem L2 LT LG LQ LH
section
variable {P : Program} {w : World} {K : PySem.W.Frag} {mg : Str → Option Value} {base : Heap}
def rowV (t : Pat) : List V := [.str (pstr t), .int (((tks t : Nat) : Int) - (fls t : Nat))]
structure RowsP (H : Hp) (as : List Addr) (ts : List Pat) (i n : Nat) : Prop where
  len : as.length = ts.length
  at_ : ∀ (k : Nat) a t, as[k]? = some a → ts[k]? = some t → H a = some (.tup (rowV t))
  ok : ∀ t ∈ ts, t.length = i ∧ Pre t ∧ tks t ≤ n
theorem RowsP.kept {H H' : Hp} {as : List Addr} {ts : List Pat} {i n : Nat} (r : RowsP H as ts i n) (s : ∀ a xs, H a = some (.tup xs) → H' a = some (.tup xs)) : RowsP H' as ts i n := ⟨r.len, fun k a t h1 h2 => s _ _ (r.at_ k a t h1 h2), r.ok⟩
theorem RowsP.snoc {H : Hp} {as : List Addr} {ts : List Pat} {i n : Nat} {a : Addr} {t : Pat} (r : RowsP H as ts i n) (h : H a = some (.tup (rowV t))) (h2 : t.length = i ∧ Pre t ∧ tks t ≤ n) : RowsP H (as ++ [a]) (ts ++ [t]) i n := by
  have hl := r.len
  refine ⟨by rw [List.length_append, List.length_append, hl]; rfl, fun k b u e1 e2 => ?_, fun u hu => ?_⟩
  · by_cases c : k < as.length
    · rw [List.getElem?_append_left c] at e1
      rw [List.getElem?_append_left (by omega)] at e2
      exact r.at_ k b u e1 e2
    · rw [List.getElem?_append_right (by omega)] at e1
      rw [List.getElem?_append_right (by omega), ← hl] at e2
      cases z : k - as.length with
      | zero => rw [z] at e1 e2; cases e1; cases e2; exact h
      | succ m => rw [z] at e1; simp at e1
  · rcases List.mem_append.mp hu with hu | hu
    · exact r.ok u hu
    · rw [List.mem_singleton] at hu; subst hu; exact h2
theorem at_ref {as : List Addr} {j : Nat} {v : V} (h : (as.map V.ref)[j]? = some v) : ∃ a, as[j]? = some a ∧ v = .ref a := by
  rw [List.getElem?_map] at h
  cases q : as[j]? with
  | none => rw [q] at h; cases h
  | some x => rw [q] at h; cases h; exact ⟨x, rfl, rfl⟩
theorem pow8 {i : Nat} (h : i ≤ 8) : 2 ^ i ≤ 256 := Nat.le_trans (Nat.pow_le_pow_right (by decide) h) (by decide)
theorem ok__law_all_patterns (e : Env K mg) : FnOk P w K mg base CX0 1 e.a__law_all_patterns e.d__law_all_patterns ["count"] (sp__law_all_patterns) := by
  refine e.f__law_all_patterns.ok sc__law_all_patterns (fun vs H Q E h => ?_) (fun cdv A outer s H vs Q E hr h => ?_)
  · obtain ⟨n, rfl, _⟩ := h; rfl
  · obtain ⟨n, rfl, hn, k⟩ := h
    refine ⟨_, (pss_cons (ps_set (i := 1) sc__law_all_patterns.nd rfl (by first | exact Or.inl rfl | exact Or.inr rfl) (pe_lst (pa_cons (pe_tup (pa_cons pe_str (pa_cons pe_int pa_nil))) pa_nil)))
      (pss_cons (ps_for PassesOwn.never rfl (pi_range1 (by rfl) e.n_range (pa_cons (pe_op op_mul pe_int (pv 0)) pa_nil)) (pg_name (i := 2) sc__law_all_patterns.nd rfl (by first | exact Or.inl rfl | exact Or.inr rfl))
      (pss_cons (ps_set (i := 3) sc__law_all_patterns.nd rfl (by first | exact Or.inl rfl | exact Or.inr rfl) (pe_lst pa_nil))
      (pss_cons (ps_for PassesOwn.never rfl (pi_list (pv 1)) (pg_tup (by rfl) (pgs_cons (pg_name (i := 4) sc__law_all_patterns.nd rfl (by first | exact Or.inl rfl | exact Or.inr rfl)) (pgs_cons (pg_name (i := 5) sc__law_all_patterns.nd rfl (by first | exact Or.inl rfl | exact Or.inr rfl)) pgs_nil)))
      (pss_cons (ps_if (pt_cmpR op_lt (pe_m1 PySem.F.slot_str_count PySem.F.type_str_count mt_count (pv 4) pe_str) (pv 0) (nomark _))
        (pss_one (ps_expr (pe_bm PySem.F.plainAttrs_list PySem.F.slot_list_append PySem.F.type_list_append mt_append (pv 3) (pa_cons (pe_tup (pa_cons (pe_op op_add_str (pv 4) pe_str) (pa_cons (pe_op op_add (pv 5) pe_int) pa_nil))) pa_nil))))
        pss_nil)
      (pss_one (ps_if (pt_cmpR op_gt (pv 5) pe_int (nomark _))
        (pss_one (ps_expr (pe_bm PySem.F.plainAttrs_list PySem.F.slot_list_append PySem.F.type_list_append mt_append (pv 3) (pa_cons (pe_tup (pa_cons (pe_op op_add_str (pv 4) pe_str) (pa_cons (pe_op op_sub (pv 5) pe_int) pa_nil))) pa_nil))))
        pss_nil))))
      (pss_one (ps_set (i := 1) sc__law_all_patterns.nd rfl (by first | exact Or.inl rfl | exact Or.inr rfl) (pv 3))))))
      (pss_one (ps_ret (pe_lc (own := [("word", 4), ("out", 5)]) rfl sc__law_all_patterns.nd (pi_list (pv 1)) (blkOk_by (N := ["count", "found", "step", "longer", "word", "out"]) (sc := defScope s__law_all_patterns) (by decide +kernel)) (fun _ _ _ _ _ => (show PG _ _ (gTup K 2 _) from pg_tup (by rfl) (pgs_cons (pg_name (i := 4) sc__law_all_patterns.nd rfl (by first | exact Or.inl rfl | exact Or.inr rfl)) (pgs_cons (pg_name (i := 5) sc__law_all_patterns.nd rfl (by first | exact Or.inl rfl | exact Or.inr rfl)) pgs_nil)))) (fun _ _ _ _ _ => pts_nil) (fun _ _ _ _ _ => (pv 4))))))), ?_⟩
    refine ⟨(by show 2 ≤ sizeLine; decide), fun a0 h0 => ⟨(by show 1 ≤ sizeLine; decide), fun f0 hf0 => ?_⟩⟩
    have s0 := same_upd (o := HO.tup [V.str "", .int 0]) h0
    have s1 := same_upd (o := HO.lst [V.ref a0]) hf0
    have row0 : (upd (upd H a0 (.tup [V.str "", .int 0])) f0 (.lst [V.ref a0])) a0 = some (.tup (rowV [])) := by
      rw [s1 _ _ upd_same]
      unfold rowV
      rw [pstr_nil]; rfl
    refine ⟨_, rfl, _, _, rfl, rfl, .inl ⟨by decide, by decide⟩, _, rfl, by omega, by omega, for_it walk_range (fun i σ H1 => ∃ (f : Addr) (as : List Addr) (ts : List Pat) (v2 v3 v4 v5 : Option V), σ = [some (.int n), some (.ref f), v2, v3, v4, v5] ∧ Same H H1 ∧ H f = none ∧ H1 f = some (.lst (as.map V.ref)) ∧ RowsP H1 as ts i n ∧ as.length ≤ 2 ^ i)
      ⟨f0, [a0], [[]], none, none, none, none, rfl, s0.trans s1, s0.free hf0, upd_same, ⟨rfl, fun k a t e1 e2 => by
        cases k with
        | zero => cases e1; cases e2; exact row0
        | succ m => simp at e1, fun t ht => by
          rw [List.mem_singleton] at ht; subst ht; exact ⟨rfl, Pre.nil, Nat.zero_le _⟩⟩, Nat.le_refl 1⟩ (fun _ _ _ _ _ => trivial) ?_ ?_⟩
    · rintro i x σ Hq H2 hi ⟨f, as, ts, v2, v3, v4, v5, rfl, s2, hf00, hf, ra, hal⟩ ⟨rfl, rfl⟩
      replace hi : i < (2 * (n : Int)).toNat := hi
      have hp8 := pow8 (i := i) (by omega)
      refine ⟨by decide, fun L hL => ?_⟩
      have sL := same_upd (o := HO.lst []) hL
      refine ⟨_, rfl, f, rfl, ⟨_, SqL.of (sL _ _ hf)⟩, for_it walk_list (fun j σ H3 => ∃ (bs : List Addr) (us : List Pat) (v4 v5 : Option V), σ = [some (.int n), some (.ref f), some (.int (0 + (i : Nat))), some (.ref L), v4, v5] ∧ Same H2 H3 ∧ H3 L = some (.lst (bs.map V.ref)) ∧ RowsP H3 bs us (i + 1) n ∧ bs.length ≤ 2 * j)
        ⟨[], [], v4, v5, rfl, sL, upd_same, ⟨rfl, fun k a t e1 e2 => by simp at e1, fun t ht => by cases ht⟩, Nat.zero_le _⟩ (fun j σ H3 _ ⟨_, _, _, _, _, s3, _⟩ => s3.seq (SqL.of hf)) ?_ ?_⟩
      · rintro j x σ Hr H3 hj ⟨bs, us, v4', v5', rfl, s3, hL3, rb, hbl⟩ ⟨rfl, hx⟩
        rw [List.length_map] at hj
        obtain ⟨a, ha, rfl⟩ := at_ref hx
        have ht := List.getElem?_eq_getElem (l := ts) (i := j) (by rw [← ra.len]; exact hj)
        generalize ts[j]'(by rw [← ra.len]; exact hj) = t at ht
        have hta := s3 _ _ (ra.at_ j a t ha ht)
        obtain ⟨t1, t2, t3⟩ := ra.ok t (List.mem_of_getElem? ht)
        have tl := len_pat t
        have tp := t2.all
        refine ⟨_, _, rfl, SqT.of hta, rfl, _, _, rfl, _, _, rfl, rfl, ?_⟩
        have sz : (pstr t).length + (1 : Nat) ≤ sizeLine := by
          show (pstr t).cps.size + 1 ≤ sizeLine
          rw [pstr_size]; exact Nat.le_of_lt (small1000 (by omega))
        have add : ∀ (H4 : Hp) (bs : List Addr) (us : List Pat) (u : Pat) (xs : List V), Same H2 H4 → H4 L = some (.lst (bs.map V.ref)) → RowsP H4 bs us (i + 1) n → xs = rowV u → (u.length = i + 1 ∧ Pre u ∧ tks u ≤ n) → ∀ q, H4 q = none →
            Same H2 (upd (upd H4 q (.tup xs)) L (.lst (bs.map V.ref ++ [V.ref q]))) ∧ (upd (upd H4 q (.tup xs)) L (.lst (bs.map V.ref ++ [V.ref q]))) L = some (.lst ((bs ++ [q]).map V.ref)) ∧ RowsP (upd (upd H4 q (.tup xs)) L (.lst (bs.map V.ref ++ [V.ref q]))) (bs ++ [q]) (us ++ [u]) (i + 1) n := by
          rintro H4 bs us u xs s4 hL4 rb4 rfl hu q hq
          have sq := same_upd (o := HO.tup (rowV u)) hq
          have nqL : q ≠ L := fun e => by subst e; rw [hL4] at hq; cases hq
          have kept : ∀ a xs, (upd H4 q (.tup (rowV u))) a = some (.tup xs) → (upd (upd H4 q (.tup (rowV u))) L (.lst (bs.map V.ref ++ [V.ref q]))) a = some (.tup xs) := fun a xs h => by
            rw [upd_ne (fun e => by subst e; rw [sq _ _ hL4] at h; cases h)]; exact h
          refine ⟨fun b o hb => ?_, by rw [upd_same, List.map_append]; rfl, ((rb4.kept fun a xs h => sq _ _ h).kept kept).snoc (kept _ _ upd_same) hu⟩
          rw [upd_ne (ne_of_none hb hL)]
          exact sq _ _ (s4 _ _ hb)
        have eT : [V.str (pstr t ++ ("T" : Str)), V.int (((tks t : Nat) : Int) - (fls t : Nat) + 1)] = rowV (t ++ [true]) := by
          have e : ((tks t + 1 : Nat) : Int) - (fls t : Nat) = ((tks t : Nat) : Int) - (fls t : Nat) + 1 := by omega
          unfold rowV; rw [pstr_T, tks_t, fls_t, e]
        have eR : [V.str (pstr t ++ ("R" : Str)), V.int (((tks t : Nat) : Int) - (fls t : Nat) - 1)] = rowV (t ++ [false]) := by
          have e : ((tks t : Nat) : Int) - ((fls t + 1 : Nat) : Int) = ((tks t : Nat) : Int) - (fls t : Nat) - 1 := by omega
          unfold rowV; rw [pstr_R, tks_f, fls_f, e]
        refine ⟨_, rfl, ⟨_, rfl⟩, _, _, rfl, rfl, _, rfl, _, _, rfl, rfl, _, rfl, ite2d (fun h1 => ?_) fun h1 => ?_⟩
        · rw [count_T] at h1
          replace h1 : ((tks t : Nat) : Int) < (n : Nat) := h1
          refine ⟨_, rfl, .inl ⟨rfl, _, SqL.of hL3⟩, _, rfl, _, _, rfl, rfl, sz, _, rfl, _, _, rfl, rfl, (by show 2 ≤ sizeLine; decide), fun q hq => ⟨L, _, _, rfl, rfl, same_upd hq _ _ hL3, by rw [List.length_map]; exact small1000 (by omega), ?_⟩⟩
          obtain ⟨z1, z2, z3⟩ := add H3 bs us (t ++ [true]) _ s3 hL3 rb eT ⟨by rw [List.length_append, t1]; rfl, t2.snoc (by rw [tks_t, fls_t]; omega), by rw [tks_t]; omega⟩ q hq
          refine ⟨_, rfl, _, _, rfl, rfl, _, rfl, ite2d (fun h2 => ?_) fun h2 => ?_⟩
          · refine ⟨_, rfl, .inl ⟨rfl, _, SqL.of z2⟩, _, rfl, _, _, rfl, rfl, sz, _, rfl, _, _, rfl, rfl, (by show 2 ≤ sizeLine; decide), fun q2 hq2 => ⟨L, _, _, rfl, rfl, same_upd hq2 _ _ z2, by rw [List.length_map, List.length_append]; exact small1000 (by show bs.length + 1 ≤ 1000; omega), ?_⟩⟩
            obtain ⟨y1, y2, y3⟩ := add _ (bs ++ [q]) (us ++ [t ++ [true]]) (t ++ [false]) _ z1 z2 z3 eR ⟨by rw [List.length_append, t1]; rfl, t2.snoc (by rw [tks_f, fls_f]; omega), by rw [tks_f]; omega⟩ q2 hq2
            exact ⟨bs ++ [q] ++ [q2], us ++ [t ++ [true]] ++ [t ++ [false]], _, _, rfl, y1, y2, y3, by simp only [List.length_append, List.length_cons, List.length_nil]; omega⟩
          · exact ⟨bs ++ [q], us ++ [t ++ [true]], _, _, rfl, z1, z2, z3, by simp only [List.length_append, List.length_cons, List.length_nil]; omega⟩
        · refine ⟨_, rfl, _, _, rfl, rfl, _, rfl, ite2d (fun h2 => ?_) fun h2 => ?_⟩
          · refine ⟨_, rfl, .inl ⟨rfl, _, SqL.of hL3⟩, _, rfl, _, _, rfl, rfl, sz, _, rfl, _, _, rfl, rfl, (by show 2 ≤ sizeLine; decide), fun q2 hq2 => ⟨L, _, _, rfl, rfl, same_upd hq2 _ _ hL3, by rw [List.length_map]; exact small1000 (by omega), ?_⟩⟩
            obtain ⟨y1, y2, y3⟩ := add H3 bs us (t ++ [false]) _ s3 hL3 rb eR ⟨by rw [List.length_append, t1]; rfl, t2.snoc (by rw [tks_f, fls_f]; omega), by rw [tks_f]; omega⟩ q2 hq2
            exact ⟨bs ++ [q2], us ++ [t ++ [false]], _, _, rfl, y1, y2, y3, by simp only [List.length_append, List.length_cons, List.length_nil]; omega⟩
          · exact ⟨bs, us, _, _, rfl, s3, hL3, rb, by omega⟩
      · rintro σ H3 ⟨bs, us, v4', v5', rfl, s3, hL3, rb, hbl⟩
        rw [List.length_map] at hbl
        exact ⟨_, rfl, L, bs, us, some (.int (0 + (i : Nat))), some (.ref L), v4', v5', rfl, s2.trans s3, s2.free hL, hL3, rb, by rw [Nat.pow_succ]; omega⟩
    · rintro σ H1 ⟨f, as, ts, v2, v3, v4, v5, rfl, s2, hf00, hf, ra, hal⟩
      have e8 : (2 * (n : Int)).toNat = 2 * n := by omega
      rw [e8] at ra hal
      have hp8 := pow8 (i := 2 * n) (by omega)
      refine ⟨_, rfl, f, rfl, ⟨_, SqL.of hf⟩, fun D hD => lc_it walk_list (fun j H4 => Same H1 H4 ∧ H4 D = some (.lst (((ts.take j).map fun t => V.str (pstr t))))) ⟨same_upd hD, upd_same⟩ (fun j H4 _ h => h.1.seq (SqL.of hf)) ?_ ?_⟩
      · rintro j x Hr H4 hj ⟨s4, hD4⟩ ⟨rfl, hx⟩
        rw [List.length_map] at hj
        obtain ⟨a, ha, rfl⟩ := at_ref hx
        have ht := List.getElem?_eq_getElem (l := ts) (i := j) (by rw [← ra.len]; exact hj)
        generalize ts[j]'(by rw [← ra.len]; exact hj) = t at ht
        have hta := s4 _ _ (ra.at_ j a t ha ht)
        refine ⟨_, _, rfl, SqT.of hta, rfl, _, _, rfl, _, _, rfl, rfl, rfl, _, rfl, _, hD4, ?_, ?_, ?_⟩
        · rw [List.length_map, List.length_take]; exact small1000 (by omega)
        · intro b o hb; rw [upd_ne (ne_of_none hb hD)]; exact s4 _ _ hb
        · rw [upd_same, take_snoc ht, List.map_append]; rfl
      · rintro H4 ⟨s4, hD4⟩
        rw [List.length_map, List.take_of_length_le (by rw [ra.len]; exact Nat.le_refl _)] at hD4
        refine k H4 D ts (s2.trans s4) (s2.free hD) (fun t ht => ?_) (by have := ra.len; omega) hD4
        obtain ⟨t1, t2, t3⟩ := ra.ok t ht
        have tl := len_pat t
        have tp := t2.all
        exact ⟨⟨t2, by omega⟩, by omega⟩
end
end LP

namespace LP
open PySem L2 LT LG LQ
section
/-! the data of repr -/
def dat (t : Bool) (xs : List Int) : PyData := if t = true then .tuple (xs.map PyData.int) else .list (xs.map PyData.int)
theorem dp_dat {K : PySem.W.Frag} {H : Hp} {a : Addr} {xs : List Int} (t : Bool) (h : if t = true then SqT K H a (xs.map V.int) else SqL K H a (xs.map V.int)) : Dp K H (.ref a) (dat t xs) := by
  cases t with
  | true => exact .tup h (dp_ints xs)
  | false => exact .lst h (dp_ints xs)
theorem show_ints : ∀ {xs : List Int}, (∀ x ∈ xs, 0 ≤ x ∧ x ≤ G30) → PyData.showableAll (xs.map PyData.int) = true ∧ PyData.leavesShortAll 40 (xs.map PyData.int) = true
  | [], _ => ⟨rfl, rfl⟩
  | x :: r, h => by
    obtain ⟨a, b⟩ := show_ints (xs := r) fun y hy => h y (List.mem_cons_of_mem _ hy)
    obtain ⟨h0, h1⟩ := h x List.mem_cons_self
    have hb : x.natAbs < 10 ^ 31 := by
      unfold G30 at h1
      have e : (10 : Nat) ^ 31 = 10000000000000000000000000000000 := by decide
      omega
    have hlog : x.natAbs.log2 < 1920 := by
      by_cases z : x.natAbs = 0
      · rw [z]; decide
      · exact Nat.lt_trans ((Nat.log2_lt z).mpr (show x.natAbs < 2 ^ 120 from Nat.lt_trans hb (by decide))) (by decide)
    have hlen : (PyData.shown (.int x)).length ≤ 40 := by
      have e := int_text_length_le10 (k := 31) (by decide) hb
      show (Str.ofString (toString x)).length ≤ 40
      rw [ofString_length]; omega
    refine ⟨?_, ?_⟩
    · simp only [List.map_cons, PyData.showableAll, PyData.showable, Bool.and_eq_true, decide_eq_true_eq]
      exact ⟨hlog, a⟩
    · simp only [List.map_cons, PyData.leavesShortAll, PyData.leavesShort, Bool.and_eq_true, decide_eq_true_eq]
      exact ⟨hlen, b⟩
theorem weight_ints : ∀ {xs : List Int}, (∀ x ∈ xs, 0 ≤ x ∧ x ≤ G30) → PyData.weightAll (xs.map PyData.int) ≤ 130 * xs.length
  | [], _ => Nat.le_refl _
  | x :: r, h => by
    have ih := weight_ints (xs := r) fun y hy => h y (List.mem_cons_of_mem _ hy)
    obtain ⟨h0, h1⟩ := h x List.mem_cons_self
    have hb : x.natAbs < 2 ^ 120 := by
      unfold G30 at h1
      have e : (2 : Nat) ^ 120 = 1329227995784915872903807060280344576 := by decide
      omega
    have hw : PyData.weight (.int x) ≤ 121 := by
      simp only [PyData.weight]
      split
      · omega
      · rename_i z
        have z2 : x.natAbs ≠ 0 := fun q => z (by simp [Int.natAbs_eq_zero.mp q])
        have := (Nat.log2_lt z2).mpr hb
        omega
    simp only [List.map_cons, PyData.weightAll, List.length_cons]
    omega
theorem dat_ok {t : Bool} {xs : List Int} (h1 : Pl xs) : (dat t xs).showable = true ∧ SeqAt.shaped (dat t xs) = true ∧ (dat t xs).shown.length ≤ sizeLine := by
  obtain ⟨a1, b1⟩ := show_ints h1.rg
  have c1 := canLay_ints xs
  have d1 := depth_ints xs
  have w1 := weight_ints h1.rg
  have l1 := h1.le
  have hs : (dat t xs).leavesShort 40 = true := by
    cases t <;> simp [dat, PyData.leavesShort, b1]
  have hw : (dat t xs).weight ≤ 60000 := by
    cases t <;> simp [dat, PyData.weight] <;> omega
  refine ⟨?_, ?_, ?_⟩
  · cases t <;> simp [dat, PyData.showable, a1]
  · cases t <;> simp [dat, SeqAt.shaped, PyData.canLay0, PyData.depth, c1, d1]
  · have := PyData.shown_le 40 (by decide) _ hs
    have e : (40 + 2) * (dat t xs).weight ≤ 42 * 60000 := Nat.mul_le_mul_left _ hw
    exact Nat.le_trans this (Nat.le_trans (show _ ≤ 3000000 by omega) (by decide))
end
end LP

namespace LP
open PySem L2 LT LG LQ LH
section
variable {P : Program} {w : World} {K : PySem.W.Frag} {mg : Str → Option Value} {base : Heap}
theorem ok__law_right (e : Env K mg) : LG.FnG P w K mg base CX0 6 e.a__law_right e.d__law_right ["bag", "takes", "pattern"] (sp__law_right) := by
  refine LG.okG e.f__law_right sc__law_right (fun vs H Q E h => ?_) (fun cdv A outer s H vs Q E hgd hr h => ?_)
  · obtain ⟨b, l, ns, d, p, xs, t, rfl, _⟩ := h; rfl
  · obtain ⟨b, l, ns, d, p, xs, t, rfl, G, hd, hl, hp, hpb, pl, g, ht, k⟩ := h
    have hle := pl.le
    refine ⟨_, (pss_cons (ps_set (i := 3) sc__law_right.nd rfl (by first | exact Or.inl rfl | exact Or.inr rfl) (pe_call ((ok__law_either e).mono (by decide)) hr rfl e.g__law_either e.f__law_either.kp e.b__law_either .nil pass0 (pa_cons (pv 0) (pa_cons (pv 1) pa_nil))))
      (pss_cons (ps_par (i := 4) (j := 5) (by rfl) sc__law_right.nd rfl rfl (by decide) rfl rfl (pa_cons (pe_callB (call_reprA hgd (u66 hr)) (by rfl) e.n_repr (by decide +kernel) (pa_cons (pv 3) pa_nil)) (pa_cons (pe_call ((ok__law_filled e).mono (by decide)) hr rfl e.g__law_filled e.f__law_filled.kp e.b__law_filled .nil pass0 (pa_cons (pv 1) (pa_cons (pv 2) pa_nil))) pa_nil)) (by rfl))
      (pss_cons (ps_for PassesOwn.never rfl (pi_range1 (by rfl) e.n_range (pa_cons pe_int pa_nil)) (pg_name (i := 6) sc__law_right.nd rfl (by first | exact Or.inl rfl | exact Or.inr rfl))
      (pss_cons (ps_set (i := 7) sc__law_right.nd rfl (by first | exact Or.inl rfl | exact Or.inr rfl) (pe_call ((ok_fills_by e).mono (by decide)) hr rfl e.g_fills_by e.f_fills_by.kp e.b_fills_by .nil pass0 (pa_cons (pv 3) (pa_cons (pv 2) pa_nil))))
      (pss_cons (ps_if (PW.pt (pw_or (pt_cmpR op_ne (pe_callB (call_reprA hgd (u66 hr)) (by rfl) e.n_repr (by decide +kernel) (pa_cons (pv 7) pa_nil)) (pe_callB (call_reprA hgd (u66 hr)) (by rfl) e.n_repr (by decide +kernel) (pa_cons (pv 5) pa_nil)) (nomark _)) (pw_or1 (pt_cmpR op_ne (pe_callB (call_reprA hgd (u66 hr)) (by rfl) e.n_repr (by decide +kernel) (pa_cons (pv 3) pa_nil)) (pv 4) (nomark _)))))
        (pss_one (ps_ret pe_bl))
        pss_nil)
      (pss_cons (ps_expr (pe_bm PySem.F.plainAttrs_list PySem.F.slot_list_append PySem.F.type_list_append mt_append (pv 7) (pa_cons pe_non pa_nil)))
      (pss_one (ps_expr (pe_bm0 PySem.F.plainAttrs_list PySem.F.slot_list_reverse PySem.F.type_list_reverse mt_reverse (pv 7))))))))
      (pss_one (ps_ret pe_bl))))), ?_⟩
    refine ⟨_, rfl, _, rfl, b, l, ns, d, p, xs, rfl, G, by omega, hl, hp, hpb, fun H1 q G1 F1 nq hq => ?_⟩
    have hp1 := F1 _ _ hp hpb
    obtain ⟨tt, hq1⟩ : ∃ tt : Bool, H1 q = some (if tt = true then .tup (xs.map V.int) else .lst (xs.map V.int)) := by
      rcases hq with hq | hq
      · exact ⟨false, hq⟩
      · exact ⟨true, hq⟩
    have qE : ∀ H', H' q = some (if tt = true then .tup (xs.map V.int) else .lst (xs.map V.int)) → Is K H' q xs := fun H' h => by
      cases tt with
      | true => exact SqE.t h
      | false => exact SqE.l h
    have qD : ∀ H', H' q = some (if tt = true then .tup (xs.map V.int) else .lst (xs.map V.int)) → Dp K H' (.ref q) (dat tt xs) := fun H' h => by
      cases tt with
      | true => exact dp_dat true (SqT.of h)
      | false => exact dp_dat false (SqL.of h)
    obtain ⟨w1, w2, w3⟩ := dat_ok (t := tt) pl
    have plf := pl.perm (fills_perm g ht)
    obtain ⟨u1, u2, u3⟩ := dat_ok (t := false) plf
    refine ⟨_, rfl, .inr (.inr ⟨q, dat tt xs, rfl, qD _ hq1, w1, w2, w3, _, rfl, _, rfl, p, xs, t, rfl, SqL.of hp1, hle, g, ht, fun H2 du s2 nd hdu => ⟨_, _, rfl, ?_⟩⟩)⟩
    refine ⟨_, rfl, by omega, by omega, for_it walk_range (fun i σ H3 => ∃ v6 v7 : Option V, Same H2 H3 ∧ σ = [some (.ref b), some (.ref p), some (.str (pstr t)), some (.ref q), some (.str (dat tt xs).shown), some (.ref du), v6, v7])
      ⟨none, none, Same.refl _, rfl⟩ (fun _ _ _ _ _ => trivial) ?_ ?_⟩
    · rintro i x σ Hq H3 hi ⟨v6, v7, s3, rfl⟩ ⟨rfl, rfl⟩
      have hq3 := s3 _ _ (s2 _ _ hq1)
      refine ⟨_, rfl, _, rfl, q, xs, t, rfl, qE _ hq3, pl, g, ht, fun H4 fo s4 nf hfo => ?_⟩
      have hdu4 := s4 _ _ (s3 _ _ hdu)
      refine ⟨_, rfl, .inr (.inr ⟨fo, dat false (fillsOf xs t), rfl, dp_dat false (SqL.of hfo), u1, u2, u3, _, rfl, .inr (.inr ⟨du, dat false (fillsOf xs t), rfl, dp_dat false (SqL.of hdu4), u1, u2, u3, rfl, _, rfl, iteNS rfl ?_⟩)⟩)⟩
      refine ⟨_, rfl, .inr (.inr ⟨q, dat tt xs, rfl, qD _ (s4 _ _ hq3), w1, w2, w3, _, rfl, rfl, _, rfl, iteNS rfl ?_⟩)⟩
      refine ⟨_, rfl, .inl ⟨rfl, _, SqL.of hfo⟩, fo, _, _, rfl, rfl, hfo, by rw [List.length_map]; exact small1000 (by have := plf.le; omega), ?_⟩
      refine ⟨_, rfl, .inl ⟨rfl, _, SqL.of upd_same⟩, fo, _, rfl, rfl, upd_same, _, _, ?_, rfl⟩
      intro c o hc
      have hne : c ≠ fo := ne_of_none (s3 _ _ hc) nf
      rw [upd_ne hne, upd_ne hne]
      exact s4 _ _ (s3 _ _ hc)
    · rintro σ H3 ⟨v6, v7, s3, rfl⟩
      exact k H3 ((G1.same s2).same s3) ((F1.trans (Fr.of s2)).trans (Fr.of s3))
end
end LP

namespace LP
open PySem L2 LT LG LQ LH
section
variable {P : Program} {w : World} {K : PySem.W.Frag} {mg : Str → Option Value} {base : Heap}
theorem pre_of {l : Pat} (h : ∀ i, i ≤ l.length → fls (l.take i) ≤ tks (l.take i)) : Pre l := fun i => by
  by_cases c : i ≤ l.length
  · exact h i c
  · have := h l.length (Nat.le_refl _)
    rw [List.take_length] at this
    rw [List.take_of_length_le (by omega)]; exact this
def pat8 : Pat := [true, true, false, true, false, true, false, false]
theorem good8 : Good pat8 := ⟨pre_of (by decide), by decide⟩
theorem pstr8 : ("TTRTRTRR" : Str) = pstr pat8 := by decide +kernel
theorem good0 : Good [] := ⟨Pre.nil, rfl⟩
theorem pl0 : Pl [] := ⟨List.nodup_nil, (fun x hx => by cases hx), by decide⟩
theorem pl8 : Pl [2, 0, 3, 1] := ⟨by decide, by unfold G30; decide, by decide⟩
theorem fills8 : fillsOf [2, 0, 3, 1] pat8 = [0, 2, 1, 3] := by decide
theorem Bag.wr {H : Hp} {b l x : Addr} {ns : List Int} {d : Nat} {o : HO} (g : Bag H b l ns d) (hb : x ≠ b) (hl : x ≠ l) : Bag (upd H x o) b l ns d := by
  obtain ⟨⟨i, c, kk, t, h1, h2⟩, ls, ne⟩ := g
  exact ⟨⟨i, c, kk, t, by rw [upd_ne hb.symm]; exact h1, h2⟩, by rw [upd_ne hl.symm]; exact ls, ne⟩
theorem eqv_self (l : List Int) : PyData.eqv (.list (l.map PyData.int)) (.list (l.map PyData.int)) = true := by simp only [PyData.eqv]; exact eqvAll_ints l
theorem ok_law (e : Env K mg) : LG.FnG P w K mg base CX0 9 e.a_law e.d_law ["script"] (sp_law K) := by
  refine LG.okG e.f_law sc_law (fun vs H Q E h => ?_) (fun cdv A outer s H vs Q E hgd hr h => ?_)
  · obtain ⟨a, ns, rfl, _⟩ := h; rfl
  · obtain ⟨a, ns, rfl, hS, hl, k⟩ := h
    refine ⟨_, (pss_cons (ps_set (i := 1) sc_law.nd rfl (by first | exact Or.inl rfl | exact Or.inr rfl) (pe_call ((ok__law_bag e).mono (by decide)) hr rfl e.g__law_bag e.f__law_bag.kp e.b__law_bag .nil pass0 (pa_cons (pv 0) pa_nil)))
      (pss_cons (ps_for PassesOwn.never rfl (pi_range1 (by rfl) e.n_range (pa_cons (pe_op op_add pe_int (pe_callB (call_min2 rfl) (by rfl) e.n_min (by decide +kernel) (pa_cons pe_int (pa_cons (pe_callB call_len_seq (by rfl) e.n_len PySem.boot_len (pa_cons (pv 0) pa_nil)) pa_nil)))) pa_nil)) (pg_name (i := 2) sc_law.nd rfl (by first | exact Or.inl rfl | exact Or.inr rfl))
      (pss_cons (ps_set (i := 3) sc_law.nd rfl (by first | exact Or.inl rfl | exact Or.inr rfl) (pe_ix ix_list (pe_lst (pa_cons pe_int (pa_cons (pe_call ((ok__law_draw e).mono (by decide)) hr rfl e.g__law_draw e.f__law_draw.kp e.b__law_draw .nil pass0 (pa_cons (pv 1) (pa_cons pe_int pa_nil))) (pa_cons (pe_call ((ok__law_draw e).mono (by decide)) hr rfl e.g__law_draw e.f__law_draw.kp e.b__law_draw .nil pass0 (pa_cons (pv 1) (pa_cons pe_int pa_nil))) pa_nil)))) (pe_callB (call_min2 rfl) (by rfl) e.n_min (by decide +kernel) (pa_cons pe_int (pa_cons (pv 2) pa_nil))) (fun _ _ => rfl)))
      (pss_cons (ps_par (i := 4) (j := 5) (by rfl) sc_law.nd rfl rfl (by decide) rfl rfl (pa_cons (pe_call ((ok__law_places e).mono (by decide)) hr rfl e.g__law_places e.f__law_places.kp e.b__law_places .nil pass0 (pa_cons (pv 1) (pa_cons (pv 3) pa_nil))) (pa_cons (pe_call ((ok__law_pattern e).mono (by decide)) hr rfl e.g__law_pattern e.f__law_pattern.kp e.b__law_pattern .nil pass0 (pa_cons (pv 1) (pa_cons (pv 3) pa_nil))) pa_nil)) (by rfl))
      (pss_cons (ps_if (pt_not (pt_val (pe_callG ((ok__law_right e).up (by decide)) hgd hr rfl e.g__law_right e.f__law_right.kp e.b__law_right .nil pass0 (pa_cons (pv 1) (pa_cons (pv 4) (pa_cons (pv 5) pa_nil))))))
        (pss_one (ps_ret pe_bl))
        pss_nil)
      (pss_cons (ps_for PassesOwn.never rfl (pi_range1 (by rfl) e.n_range (pa_cons (pe_op op_mul pe_int (pe_callTy call_int1 (by rfl) e.n_int (by decide +kernel) (pa_cons (pe_cmpR op_gt (pv 3) pe_int (nomark _)) pa_nil))) pa_nil)) (pg_name (i := 6) sc_law.nd rfl (by first | exact Or.inl rfl | exact Or.inr rfl))
      (pss_cons (ps_par (i := 7) (j := 8) (by rfl) sc_law.nd rfl rfl (by decide) rfl rfl (pa_cons (pe_call ((ok__law_draw e).mono (by decide)) hr rfl e.g__law_draw e.f__law_draw.kp e.b__law_draw .nil pass0 (pa_cons (pv 1) (pa_cons (pv 3) pa_nil))) (pa_cons (pe_call ((ok__law_draw e).mono (by decide)) hr rfl e.g__law_draw e.f__law_draw.kp e.b__law_draw .nil pass0 (pa_cons (pv 1) (pa_cons (pv 3) pa_nil))) pa_nil)) (by rfl))
      (pss_cons (ps_asg (pe_tup (pa_cons (pe_ix ix_list (pv 4) (pv 8) (fun _ _ => rfl)) (pa_cons (pe_ix ix_list (pv 4) (pv 7) (fun _ _ => rfl)) pa_nil))) (pg_tup (by rfl) (pgs_cons (pg_sub (pv 4) (pv 7) set_list) (pgs_cons (pg_sub (pv 4) (pv 8) set_list) pgs_nil))))
      (pss_one (ps_if (pt_cmpR (op_neD hr.units) (pe_call ((ok_fills_by e).mono (by decide)) hr rfl e.g_fills_by e.f_fills_by.kp e.b_fills_by .nil pass0 (pa_cons (pv 4) (pa_cons (pv 5) pa_nil))) (pe_call ((ok__law_filled e).mono (by decide)) hr rfl e.g__law_filled e.f__law_filled.kp e.b__law_filled .nil pass0 (pa_cons (pv 4) (pa_cons (pv 5) pa_nil))) (nomark _))
        (pss_one (ps_ret pe_bl))
        pss_nil)))))
      (pss_cons (ps_set (i := 3) sc_law.nd rfl (by first | exact Or.inl rfl | exact Or.inr rfl) (pe_call ((ok__law_draw e).mono (by decide)) hr rfl e.g__law_draw e.f__law_draw.kp e.b__law_draw .nil pass0 (pa_cons (pv 1) (pa_cons pe_int pa_nil))))
      (pss_cons (ps_set (i := 4) sc_law.nd rfl (by first | exact Or.inl rfl | exact Or.inr rfl) (pe_call ((ok__law_places e).mono (by decide)) hr rfl e.g__law_places e.f__law_places.kp e.b__law_places .nil pass0 (pa_cons (pv 1) (pa_cons (pv 3) pa_nil))))
      (pss_one (ps_for PassesOwn.never rfl (pi_list (pe_call ((ok__law_all_patterns e).mono (by decide)) hr rfl e.g__law_all_patterns e.f__law_all_patterns.kp e.b__law_all_patterns .nil pass0 (pa_cons (pv 3) pa_nil))) (pg_name (i := 5) sc_law.nd rfl (by first | exact Or.inl rfl | exact Or.inr rfl))
      (pss_one (ps_if (pt_not (pt_val (pe_callG ((ok__law_right e).up (by decide)) hgd hr rfl e.g__law_right e.f__law_right.kp e.b__law_right .nil pass0 (pa_cons (pv 1) (pa_cons (pv 4) (pa_cons (pv 5) pa_nil))))))
        (pss_one (ps_ret pe_bl))
        pss_nil)))))))))))
      (pss_one (ps_ret (pe_and (pe_cmpR (op_eqD hr.units) (pe_call ((ok_fills_by e).mono (by decide)) hr rfl e.g_fills_by e.f_fills_by.kp e.b_fills_by .nil pass0 (pa_cons (pe_lst pa_nil) (pa_cons pe_str pa_nil))) (pe_lst pa_nil) (nomark _)) (pe_one (pe_cmpR (op_eqD hr.units) (pe_call ((ok_fills_by e).mono (by decide)) hr rfl e.g_fills_by e.f_fills_by.kp e.b_fills_by .nil pass0 (pa_cons (pe_lst (pa_cons pe_int (pa_cons pe_int (pa_cons pe_int (pa_cons pe_int pa_nil))))) (pa_cons pe_str pa_nil))) (pe_lst (pa_cons pe_int (pa_cons pe_int (pa_cons pe_int (pa_cons pe_int pa_nil))))) (nomark _)))))))), ?_⟩
    refine ⟨_, rfl, a, ns, rfl, hS, hl, fun H1 b l s1 nb nl G1 => ?_⟩
    refine ⟨_, rfl, a, _, rfl, .inl (s1.seq hS), _, _, rfl, _, _, rfl, rfl, _, rfl, ?_⟩
    obtain ⟨c, ec, hc⟩ : ∃ c : Nat, (if ((ns.map V.int).length : Int) < 6 then ((ns.map V.int).length : Int) else 6) = (c : Int) ∧ c ≤ 6 := by
      by_cases h : ((ns.map V.int).length : Int) < 6
      · exact ⟨(ns.map V.int).length, if_pos h, by omega⟩
      · exact ⟨6, if_neg h, by omega⟩
    rw [ec]
    refine ⟨by omega, by omega, for_it walk_range (fun i σ H2 => ∃ v2 v3 v4 v5 v6 v7 v8 : Option V, σ = [some (.ref a), some (.ref b), v2, v3, v4, v5, v6, v7, v8] ∧ Bag H2 b l ns (2000 * i))
      ⟨none, none, none, none, none, none, none, rfl, G1⟩ (fun _ _ _ _ _ => trivial) ?_ ?_⟩
    · rintro i x σ Hq H2 hi ⟨v2, v3, v4, v5, v6, v7, v8, rfl, G2⟩ ⟨rfl, rfl⟩
      have hi10 : i < 10 := by omega
      refine ⟨_, rfl, b, l, ns, _, 12, rfl, G2, by decide, by decide +kernel, by omega, hl, fun H3 r r0 r1 G3 F3 => ?_⟩
      refine ⟨_, rfl, b, l, ns, _, 201, rfl, G3, by decide, by decide +kernel, by omega, hl, fun H4 u u0 u1 G4 F4 => ?_⟩
      refine ⟨(by show 3 ≤ sizeLine; decide), fun m hm => ?_⟩
      refine ⟨_, rfl, _, _, rfl, ?_⟩
      obtain ⟨z, hz, hat⟩ : ∃ z : Nat, z ≤ 200 ∧ atI [V.int 200, V.int r, V.int u] (if 0 + (i : Int) < 2 then 0 + (i : Int) else 2) = some (V.int z) := by
        obtain rfl | rfl | h2 : i = 0 ∨ i = 1 ∨ 2 ≤ i := by omega
        · exact ⟨200, by omega, at_of (j := 0) rfl rfl⟩
        · exact ⟨r.toNat, by omega, at_of (j := 1) rfl (congrArg some (congrArg V.int (show r = ((r.toNat : Nat) : Int) by omega)))⟩
        · refine ⟨u.toNat, by omega, at_of (j := 2) ?_ (congrArg some (congrArg V.int (show u = ((u.toNat : Nat) : Int) by omega)))⟩
          split <;> omega
      refine ⟨m, _, _, _, rfl, rfl, SqL.of upd_same, hat, ?_⟩
      have G5 := G4.same (same_upd (o := HO.lst [V.int 200, V.int r, V.int u]) hm)
      generalize upd H4 m (.lst [V.int 200, V.int r, V.int u]) = H5 at G5
      refine ⟨_, rfl, _, rfl, b, l, ns, _, z, rfl, G5, by omega, hl, hz, fun H6 q xs G6 F6 nq pl hxl hq => ?_⟩
      have nqb : q ≠ b := G5.ne_new nq
      have nql : q ≠ l := (G5.l_ne nq).symm
      refine ⟨_, rfl, _, rfl, b, l, ns, _, z, rfl, G6, by omega, hl, hz, fun H7 t G7 F7 g ht => ⟨_, _, rfl, ?_⟩⟩
      have hq7 := F7 _ _ hq nqb
      have hxt : tks t = xs.length := by omega
      refine ⟨_, rfl, _, rfl, _, rfl, b, l, ns, _, q, xs, t, rfl, G7, by omega, hl, hq7, nqb, pl, g, hxt, fun H8 G8 F8 => ⟨true, rfl, iteNB rfl ?_⟩⟩
      have hq8 := F8 _ _ hq7 nqb
      have hz0 : (0 : Int) ≤ (if decide (((z : Nat) : Int) > 1) = true then 1 else 0) ∧ (if decide (((z : Nat) : Int) > 1) = true then (1 : Int) else 0) ≤ 1 ∧ ((if decide (((z : Nat) : Int) > 1) = true then (1 : Int) else 0) = 1 → 1 < z) := by
        by_cases q : ((z : Nat) : Int) > 1
        · rw [if_pos (decide_eq_true q)]; exact ⟨by decide, by decide, fun _ => by omega⟩
        · rw [if_neg (by rw [decide_eq_false q]; exact Bool.false_ne_true)]; exact ⟨by decide, by decide, fun z => by cases z⟩
      refine ⟨_, rfl, _, _, rfl, rfl, .inr ⟨_, rfl, ?_⟩⟩
      generalize (if decide (((z : Nat) : Int) > 1) = true then (1 : Int) else 0) = cc at hz0
      obtain ⟨hz0, hz1, hz2⟩ := hz0
      refine ⟨_, _, rfl, rfl, .inl ⟨by decide, by decide⟩, _, rfl, by omega, by omega, for_it walk_range (fun j σ H9 => ∃ (zs : List Int) (v6 v7 v8 : Option V), zs.Perm xs ∧ Bag H9 b l ns (2000 * i + 700 + 2 * j) ∧ H9 q = some (.lst (zs.map V.int)) ∧
          σ = [some (.ref a), some (.ref b), some (.int (0 + (i : Nat))), some (.int (z : Nat)), some (.ref q), some (.str (pstr t)), v6, v7, v8])
        ⟨xs, v6, v7, v8, List.Perm.refl _, G8.mono (by omega), hq8, rfl⟩ (fun _ _ _ _ _ => trivial) ?_ ?_⟩
      · rintro j x σ Hr H9 hj ⟨zs, w6, w7, w8, pz, G9, hb9, rfl⟩ ⟨rfl, rfl⟩
        replace hj : j < (3 * cc).toNat := hj
        have hc1 : cc = 1 := by omega
        have hy1 := hz2 hc1
        have hzl := pz.length_eq
        refine ⟨_, rfl, _, rfl, b, l, ns, _, _, rfl, G9, by omega, log_small (by omega), by omega, hl, fun H10 r r0 r1 G10 F10 => ?_⟩
        have hb10 := F10 _ _ hb9 nqb
        refine ⟨_, rfl, _, rfl, b, l, ns, _, _, rfl, G10, by omega, log_small (by omega), by omega, hl, fun H11 u u0 u1 G11 F11 => ⟨_, _, rfl, ?_⟩⟩
        have hb11 := F11 _ _ hb10 nqb
        have hrn : r.toNat < zs.length := by omega
        have hun : u.toNat < zs.length := by omega
        have hgr := List.getElem?_eq_getElem hrn
        have hgu := List.getElem?_eq_getElem hun
        generalize zs[r.toNat] = zr at hgr
        generalize zs[u.toNat] = zu at hgu
        refine ⟨_, rfl, _, rfl, rd_ix (SqL.of hb11) (int_at hgu) (show u = ((u.toNat : Nat) : Int) by omega) ⟨_, rfl, _, rfl, rd_ix (SqL.of hb11) (int_at hgr) (show r = ((r.toNat : Nat) : Int) by omega) ⟨(by show 2 ≤ sizeLine; decide), fun tp htp => ?_⟩⟩⟩
        have stp := same_upd (o := HO.tup [V.int zu, V.int zr]) htp
        have hb12 := stp _ _ hb11
        refine ⟨_, _, rfl, SqT.of upd_same, rfl, _, _, rfl, _, rfl, _, rfl, q, _, r, r.toNat, rfl, rfl, hb12, ixN_int r0 (by rw [List.length_map]; exact hrn), ?_⟩
        refine ⟨_, _, rfl, _, rfl, _, rfl, q, _, u, u.toNat, rfl, rfl, upd_same, ixN_int u0 (by rw [List.length_set, List.length_map]; exact hun), rfl, ?_⟩
        have e : (((zs.map V.int).set r.toNat (V.int zu)).set u.toNat (V.int zr)) = ((zs.set r.toNat zu).set u.toNat zr).map V.int := by rw [List.map_set, List.map_set]
        rw [e, upd_upd]
        have pz2 : ((zs.set r.toNat zu).set u.toNat zr).Perm xs := (swap_perm hgr hgu).trans pz
        have G12 := (G11.same stp).wr (o := .lst (((zs.set r.toNat zu).set u.toNat zr).map V.int)) nqb nql
        have hb13 : (upd (upd H11 tp (.tup [V.int zu, V.int zr])) q (.lst (((zs.set r.toNat zu).set u.toNat zr).map V.int))) q = some (.lst (((zs.set r.toNat zu).set u.toNat zr).map V.int)) := upd_same
        generalize (zs.set r.toNat zu).set u.toNat zr = zt at pz2 G12 hb13
        generalize upd (upd H11 tp (.tup [V.int zu, V.int zr])) q (.lst (zt.map V.int)) = H12 at G12 hb13
        have plt := pl.perm pz2
        have hzt := pz2.length_eq
        refine ⟨_, rfl, _, rfl, q, zt, t, rfl, SqE.l hb13, plt, g, by omega, fun H13 o1 s13 n13 h13 => ?_⟩
        refine ⟨_, rfl, _, rfl, q, zt, t, rfl, SqL.of (s13 _ _ hb13), plt.le, g, by omega, fun H14 o2 s14 n14 h14 => ?_⟩
        refine ⟨_, _, .lst (SqL.of (s14 _ _ h13)) (dp_ints _), .lst (SqL.of h14) (dp_ints _), shaped_ints _, shaped_ints _, _, rfl, ?_⟩
        rw [eqv_self]
        refine iteF ?_
        exact ⟨zt, _, _, _, pz2, (G12.same (s13.trans s14)).mono (by omega), s14 _ _ (s13 _ _ hb13), rfl⟩
      · rintro σ H9 ⟨zs, w6, w7, w8, pz, G9, hb9, rfl⟩
        have G9' : Bag H9 b l ns (2000 * i + 706) := G9.mono (by have : (3 * cc).toNat ≤ 3 := by omega
                                                                 omega)
        clear G9
        refine ⟨_, rfl, b, l, ns, _, 5, rfl, G9', by decide, by decide +kernel, by omega, hl, fun H10 c9 c0 c1 G10 F10 => ?_⟩
        obtain ⟨n, rfl⟩ : ∃ n : Nat, c9 = (n : Int) := ⟨c9.toNat, by omega⟩
        refine ⟨_, rfl, _, rfl, b, l, ns, _, n, rfl, G10, by omega, hl, by omega, fun H11 p ys G11 F11 np ply hyl hp => ?_⟩
        have npb : p ≠ b := G10.ne_new np
        refine ⟨_, rfl, n, rfl, by omega, fun H12 o ps s12 no hps hpl ho => ⟨o, rfl, ⟨_, SqL.of ho⟩, ?_⟩⟩
        refine for_it walk_list (fun j σ H' => ∃ v5 w6 w7 w8 : Option V, σ = [some (.ref a), some (.ref b), some (.int (0 + (i : Nat))), some (.int (n : Nat)), some (.ref p), v5, w6, w7, w8] ∧ Bag H' b l ns (2000 * i + 1000 + j) ∧ Fr H12 H' b)
          ⟨some (.str (pstr t)), w6, w7, w8, rfl, (G11.same s12).mono (by omega), Fr.refl _ _⟩ (fun j σ H' _ ⟨_, _, _, _, _, _, f⟩ => SqL.of (f _ _ ho (G11.ne_new no))) ?_ ?_
        · rintro j x σ Hr H13 hj ⟨v5', w6', w7', w8', rfl, G13, F13⟩ ⟨rfl, hx⟩
          rw [List.length_map] at hj
          rw [List.getElem?_map, List.getElem?_eq_getElem hj] at hx
          cases hx
          obtain ⟨g1, g2⟩ := hps _ (List.getElem_mem hj)
          refine ⟨_, rfl, _, rfl, _, rfl, b, l, ns, _, p, ys, _, rfl, G13, by omega, hl, F13 _ _ (s12 _ _ hp) npb, npb, ply, g1, by omega, fun H14 G14 F14 => ⟨true, rfl, iteNB rfl ?_⟩⟩
          exact ⟨_, _, _, _, rfl, G14.mono (by omega), F13.trans F14⟩
        · rintro σ H13 ⟨v5', w6', w7', w8', rfl, G13, F13⟩
          rw [List.length_map] at G13
          exact ⟨_, _, _, _, _, _, _, rfl, G13.mono (by omega)⟩
    · rintro σ H2 ⟨v2, v3, v4, v5, v6, v7, v8, rfl, G2⟩
      refine ⟨by decide, fun e1 he1 => ⟨e1, [], [], by rw [pstr_nil]; rfl, SqE.l upd_same, pl0, good0, rfl, fun H3 o3 s3 n3 h3 => ⟨by decide, fun e2 he2 => ?_⟩⟩⟩
      refine ⟨_, _, .lst (SqL.of (same_upd he2 _ _ h3)) (dp_ints _), .lst (SqL.of upd_same) .nil, shaped_ints _, by decide, _, rfl, ?_⟩
      refine iteT ?_
      refine ⟨(by show 4 ≤ sizeLine; decide), fun e4 he4 => ⟨e4, [2, 0, 3, 1], pat8, by rw [pstr8]; rfl, SqE.l upd_same, pl8, good8, rfl, fun H5 o5 s5 n5 h5 => ⟨(by show 4 ≤ sizeLine; decide), fun e6 he6 => ?_⟩⟩⟩
      rw [fills8] at h5
      refine ⟨_, _, .lst (SqL.of (same_upd he6 _ _ h5)) (dp_ints _), .lst (SqL.of upd_same) (dp_ints [0, 2, 1, 3]), shaped_ints _, shaped_ints _, ?_⟩
      rw [eqv_self]
      exact k _
end
end LP

namespace LP
open PySem L2 LT LG LQ LH
set_option maxHeartbeats 4000000 in
theorem all_mk {l : PySem.W.OpenLaw} {w : World} {K : PySem.W.Frag} {h : Heap} {mg : Str → Option Value} {fa : Addr} (X : K.In h) (G : h.Ns mainGlobals mg) (hfa : mg "law" = some (.ref fa))
    {t_MOST_PLACES : Tok}
    {t_GREATEST_PLACE : Tok}
    {a_is_whole : Addr} {od_is_whole an_is_whole : Option Addr} {sl_is_whole : Array (Option Value)} {oc_is_whole kV_is_whole dc_is_whole pm_is_whole cd_is_whole ct_is_whole : Value}
    {a_is_listed : Addr} {od_is_listed an_is_listed : Option Addr} {sl_is_listed : Array (Option Value)} {oc_is_listed kV_is_listed dc_is_listed pm_is_listed cd_is_listed ct_is_listed : Value}
    {a_is_place : Addr} {od_is_place an_is_place : Option Addr} {sl_is_place : Array (Option Value)} {oc_is_place kV_is_place dc_is_place pm_is_place cd_is_place ct_is_place : Value}
    {a_is_place_list : Addr} {od_is_place_list an_is_place_list : Option Addr} {sl_is_place_list : Array (Option Value)} {oc_is_place_list kV_is_place_list dc_is_place_list pm_is_place_list cd_is_place_list ct_is_place_list : Value}
    {a_check_places : Addr} {od_check_places an_check_places : Option Addr} {sl_check_places : Array (Option Value)} {oc_check_places kV_check_places dc_check_places pm_check_places cd_check_places ct_check_places : Value}
    {a_is_pattern : Addr} {od_is_pattern an_is_pattern : Option Addr} {sl_is_pattern : Array (Option Value)} {oc_is_pattern kV_is_pattern dc_is_pattern pm_is_pattern cd_is_pattern ct_is_pattern : Value}
    {a_check_pattern_for : Addr} {od_check_pattern_for an_check_pattern_for : Option Addr} {sl_check_pattern_for : Array (Option Value)} {oc_check_pattern_for kV_check_pattern_for dc_check_pattern_for pm_check_pattern_for cd_check_pattern_for ct_check_pattern_for : Value}
    {a_fills_by : Addr} {od_fills_by an_fills_by : Option Addr} {sl_fills_by : Array (Option Value)} {oc_fills_by kV_fills_by dc_fills_by pm_fills_by cd_fills_by ct_fills_by : Value}
    {a__law_bag : Addr} {od__law_bag an__law_bag : Option Addr} {sl__law_bag : Array (Option Value)} {oc__law_bag kV__law_bag dc__law_bag pm__law_bag cd__law_bag ct__law_bag : Value}
    {a__law_stir : Addr} {od__law_stir an__law_stir : Option Addr} {sl__law_stir : Array (Option Value)} {oc__law_stir kV__law_stir dc__law_stir pm__law_stir cd__law_stir ct__law_stir : Value}
    {a__law_draw : Addr} {od__law_draw an__law_draw : Option Addr} {sl__law_draw : Array (Option Value)} {oc__law_draw kV__law_draw dc__law_draw pm__law_draw cd__law_draw ct__law_draw : Value}
    {a__law_shuffled : Addr} {od__law_shuffled an__law_shuffled : Option Addr} {sl__law_shuffled : Array (Option Value)} {oc__law_shuffled kV__law_shuffled dc__law_shuffled pm__law_shuffled cd__law_shuffled ct__law_shuffled : Value}
    {a__law_either : Addr} {od__law_either an__law_either : Option Addr} {sl__law_either : Array (Option Value)} {oc__law_either kV__law_either dc__law_either pm__law_either cd__law_either ct__law_either : Value}
    {a__law_pattern : Addr} {od__law_pattern an__law_pattern : Option Addr} {sl__law_pattern : Array (Option Value)} {oc__law_pattern kV__law_pattern dc__law_pattern pm__law_pattern cd__law_pattern ct__law_pattern : Value}
    {a__law_places : Addr} {od__law_places an__law_places : Option Addr} {sl__law_places : Array (Option Value)} {oc__law_places kV__law_places dc__law_places pm__law_places cd__law_places ct__law_places : Value}
    {a__law_filled : Addr} {od__law_filled an__law_filled : Option Addr} {sl__law_filled : Array (Option Value)} {oc__law_filled kV__law_filled dc__law_filled pm__law_filled cd__law_filled ct__law_filled : Value}
    {a__law_all_patterns : Addr} {od__law_all_patterns an__law_all_patterns : Option Addr} {sl__law_all_patterns : Array (Option Value)} {oc__law_all_patterns kV__law_all_patterns dc__law_all_patterns pm__law_all_patterns cd__law_all_patterns ct__law_all_patterns : Value}
    {a__law_right : Addr} {od__law_right an__law_right : Option Addr} {sl__law_right : Array (Option Value)} {oc__law_right kV__law_right dc__law_right pm__law_right cd__law_right ct__law_right : Value}
    {a_law : Addr} {od_law an_law : Option Addr} {sl_law : Array (Option Value)} {oc_law kV_law dc_law pm_law cd_law ct_law : Value}
    (z_len : PySem.W.nsIn K mainGlobals "len" = some none)
    (z_range : PySem.W.nsIn K mainGlobals "range" = some none)
    (z_list : PySem.W.nsIn K mainGlobals "list" = some none)
    (z_tuple : PySem.W.nsIn K mainGlobals "tuple" = some none)
    (z_int : PySem.W.nsIn K mainGlobals "int" = some none)
    (z_bool : PySem.W.nsIn K mainGlobals "bool" = some none)
    (z_str : PySem.W.nsIn K mainGlobals "str" = some none)
    (z_isinstance : PySem.W.nsIn K mainGlobals "isinstance" = some none)
    (z_min : PySem.W.nsIn K mainGlobals "min" = some none)
    (z_sorted : PySem.W.nsIn K mainGlobals "sorted" = some none)
    (z_set : PySem.W.nsIn K mainGlobals "set" = some none)
    (z_all : PySem.W.nsIn K mainGlobals "all" = some none)
    (z_repr : PySem.W.nsIn K mainGlobals "repr" = some none)
    (z_MOST_PLACES : PySem.W.nsIn K mainGlobals "MOST_PLACES" = some (some (.int 200 t_MOST_PLACES)))
    (z_GREATEST_PLACE : PySem.W.nsIn K mainGlobals "GREATEST_PLACE" = some (some (.int 1000000000000000000000000000000 t_GREATEST_PLACE)))
    (z_heappush : PySem.W.nsIn K mainGlobals "heappush" = some (some (.builtin "_heapq.heappush")))
    (z_heappop : PySem.W.nsIn K mainGlobals "heappop" = some (some (.builtin "_heapq.heappop")))
    (z_is_whole : PySem.W.nsIn K mainGlobals "is_whole" = some (some (.ref a_is_whole)))
    (l_is_whole : K.lookup a_is_whole = some ⟨oc_is_whole, od_is_whole, .func (PySem.W.fnOf "is_whole" "is_whole" (defArgs s_is_whole) (defBody s_is_whole) (defScope s_is_whole) .none kV_is_whole dc_is_whole pm_is_whole an_is_whole cd_is_whole ct_is_whole), sl_is_whole⟩)
    (c_is_whole : PySem.W.codeIn K cd_is_whole "is_whole" = true)
    (k_is_whole : PySem.W.keepIn K (.ref a_is_whole) = true)
    (z_is_listed : PySem.W.nsIn K mainGlobals "is_listed" = some (some (.ref a_is_listed)))
    (l_is_listed : K.lookup a_is_listed = some ⟨oc_is_listed, od_is_listed, .func (PySem.W.fnOf "is_listed" "is_listed" (defArgs s_is_listed) (defBody s_is_listed) (defScope s_is_listed) .none kV_is_listed dc_is_listed pm_is_listed an_is_listed cd_is_listed ct_is_listed), sl_is_listed⟩)
    (c_is_listed : PySem.W.codeIn K cd_is_listed "is_listed" = true)
    (k_is_listed : PySem.W.keepIn K (.ref a_is_listed) = true)
    (z_is_place : PySem.W.nsIn K mainGlobals "is_place" = some (some (.ref a_is_place)))
    (l_is_place : K.lookup a_is_place = some ⟨oc_is_place, od_is_place, .func (PySem.W.fnOf "is_place" "is_place" (defArgs s_is_place) (defBody s_is_place) (defScope s_is_place) .none kV_is_place dc_is_place pm_is_place an_is_place cd_is_place ct_is_place), sl_is_place⟩)
    (c_is_place : PySem.W.codeIn K cd_is_place "is_place" = true)
    (k_is_place : PySem.W.keepIn K (.ref a_is_place) = true)
    (z_is_place_list : PySem.W.nsIn K mainGlobals "is_place_list" = some (some (.ref a_is_place_list)))
    (l_is_place_list : K.lookup a_is_place_list = some ⟨oc_is_place_list, od_is_place_list, .func (PySem.W.fnOf "is_place_list" "is_place_list" (defArgs s_is_place_list) (defBody s_is_place_list) (defScope s_is_place_list) .none kV_is_place_list dc_is_place_list pm_is_place_list an_is_place_list cd_is_place_list ct_is_place_list), sl_is_place_list⟩)
    (c_is_place_list : PySem.W.codeIn K cd_is_place_list "is_place_list" = true)
    (k_is_place_list : PySem.W.keepIn K (.ref a_is_place_list) = true)
    (z_check_places : PySem.W.nsIn K mainGlobals "check_places" = some (some (.ref a_check_places)))
    (l_check_places : K.lookup a_check_places = some ⟨oc_check_places, od_check_places, .func (PySem.W.fnOf "check_places" "check_places" (defArgs s_check_places) (defBody s_check_places) (defScope s_check_places) .none kV_check_places dc_check_places pm_check_places an_check_places cd_check_places ct_check_places), sl_check_places⟩)
    (c_check_places : PySem.W.codeIn K cd_check_places "check_places" = true)
    (k_check_places : PySem.W.keepIn K (.ref a_check_places) = true)
    (z_is_pattern : PySem.W.nsIn K mainGlobals "is_pattern" = some (some (.ref a_is_pattern)))
    (l_is_pattern : K.lookup a_is_pattern = some ⟨oc_is_pattern, od_is_pattern, .func (PySem.W.fnOf "is_pattern" "is_pattern" (defArgs s_is_pattern) (defBody s_is_pattern) (defScope s_is_pattern) .none kV_is_pattern dc_is_pattern pm_is_pattern an_is_pattern cd_is_pattern ct_is_pattern), sl_is_pattern⟩)
    (c_is_pattern : PySem.W.codeIn K cd_is_pattern "is_pattern" = true)
    (k_is_pattern : PySem.W.keepIn K (.ref a_is_pattern) = true)
    (z_check_pattern_for : PySem.W.nsIn K mainGlobals "check_pattern_for" = some (some (.ref a_check_pattern_for)))
    (l_check_pattern_for : K.lookup a_check_pattern_for = some ⟨oc_check_pattern_for, od_check_pattern_for, .func (PySem.W.fnOf "check_pattern_for" "check_pattern_for" (defArgs s_check_pattern_for) (defBody s_check_pattern_for) (defScope s_check_pattern_for) .none kV_check_pattern_for dc_check_pattern_for pm_check_pattern_for an_check_pattern_for cd_check_pattern_for ct_check_pattern_for), sl_check_pattern_for⟩)
    (c_check_pattern_for : PySem.W.codeIn K cd_check_pattern_for "check_pattern_for" = true)
    (k_check_pattern_for : PySem.W.keepIn K (.ref a_check_pattern_for) = true)
    (z_fills_by : PySem.W.nsIn K mainGlobals "fills_by" = some (some (.ref a_fills_by)))
    (l_fills_by : K.lookup a_fills_by = some ⟨oc_fills_by, od_fills_by, .func (PySem.W.fnOf "fills_by" "fills_by" (defArgs s_fills_by) (defBody s_fills_by) (defScope s_fills_by) .none kV_fills_by dc_fills_by pm_fills_by an_fills_by cd_fills_by ct_fills_by), sl_fills_by⟩)
    (c_fills_by : PySem.W.codeIn K cd_fills_by "fills_by" = true)
    (k_fills_by : PySem.W.keepIn K (.ref a_fills_by) = true)
    (z__law_bag : PySem.W.nsIn K mainGlobals "_law_bag" = some (some (.ref a__law_bag)))
    (l__law_bag : K.lookup a__law_bag = some ⟨oc__law_bag, od__law_bag, .func (PySem.W.fnOf "_law_bag" "_law_bag" (defArgs s__law_bag) (defBody s__law_bag) (defScope s__law_bag) .none kV__law_bag dc__law_bag pm__law_bag an__law_bag cd__law_bag ct__law_bag), sl__law_bag⟩)
    (c__law_bag : PySem.W.codeIn K cd__law_bag "_law_bag" = true)
    (k__law_bag : PySem.W.keepIn K (.ref a__law_bag) = true)
    (z__law_stir : PySem.W.nsIn K mainGlobals "_law_stir" = some (some (.ref a__law_stir)))
    (l__law_stir : K.lookup a__law_stir = some ⟨oc__law_stir, od__law_stir, .func (PySem.W.fnOf "_law_stir" "_law_stir" (defArgs s__law_stir) (defBody s__law_stir) (defScope s__law_stir) .none kV__law_stir dc__law_stir pm__law_stir an__law_stir cd__law_stir ct__law_stir), sl__law_stir⟩)
    (c__law_stir : PySem.W.codeIn K cd__law_stir "_law_stir" = true)
    (k__law_stir : PySem.W.keepIn K (.ref a__law_stir) = true)
    (z__law_draw : PySem.W.nsIn K mainGlobals "_law_draw" = some (some (.ref a__law_draw)))
    (l__law_draw : K.lookup a__law_draw = some ⟨oc__law_draw, od__law_draw, .func (PySem.W.fnOf "_law_draw" "_law_draw" (defArgs s__law_draw) (defBody s__law_draw) (defScope s__law_draw) .none kV__law_draw dc__law_draw pm__law_draw an__law_draw cd__law_draw ct__law_draw), sl__law_draw⟩)
    (c__law_draw : PySem.W.codeIn K cd__law_draw "_law_draw" = true)
    (k__law_draw : PySem.W.keepIn K (.ref a__law_draw) = true)
    (z__law_shuffled : PySem.W.nsIn K mainGlobals "_law_shuffled" = some (some (.ref a__law_shuffled)))
    (l__law_shuffled : K.lookup a__law_shuffled = some ⟨oc__law_shuffled, od__law_shuffled, .func (PySem.W.fnOf "_law_shuffled" "_law_shuffled" (defArgs s__law_shuffled) (defBody s__law_shuffled) (defScope s__law_shuffled) .none kV__law_shuffled dc__law_shuffled pm__law_shuffled an__law_shuffled cd__law_shuffled ct__law_shuffled), sl__law_shuffled⟩)
    (c__law_shuffled : PySem.W.codeIn K cd__law_shuffled "_law_shuffled" = true)
    (k__law_shuffled : PySem.W.keepIn K (.ref a__law_shuffled) = true)
    (z__law_either : PySem.W.nsIn K mainGlobals "_law_either" = some (some (.ref a__law_either)))
    (l__law_either : K.lookup a__law_either = some ⟨oc__law_either, od__law_either, .func (PySem.W.fnOf "_law_either" "_law_either" (defArgs s__law_either) (defBody s__law_either) (defScope s__law_either) .none kV__law_either dc__law_either pm__law_either an__law_either cd__law_either ct__law_either), sl__law_either⟩)
    (c__law_either : PySem.W.codeIn K cd__law_either "_law_either" = true)
    (k__law_either : PySem.W.keepIn K (.ref a__law_either) = true)
    (z__law_pattern : PySem.W.nsIn K mainGlobals "_law_pattern" = some (some (.ref a__law_pattern)))
    (l__law_pattern : K.lookup a__law_pattern = some ⟨oc__law_pattern, od__law_pattern, .func (PySem.W.fnOf "_law_pattern" "_law_pattern" (defArgs s__law_pattern) (defBody s__law_pattern) (defScope s__law_pattern) .none kV__law_pattern dc__law_pattern pm__law_pattern an__law_pattern cd__law_pattern ct__law_pattern), sl__law_pattern⟩)
    (c__law_pattern : PySem.W.codeIn K cd__law_pattern "_law_pattern" = true)
    (k__law_pattern : PySem.W.keepIn K (.ref a__law_pattern) = true)
    (z__law_places : PySem.W.nsIn K mainGlobals "_law_places" = some (some (.ref a__law_places)))
    (l__law_places : K.lookup a__law_places = some ⟨oc__law_places, od__law_places, .func (PySem.W.fnOf "_law_places" "_law_places" (defArgs s__law_places) (defBody s__law_places) (defScope s__law_places) .none kV__law_places dc__law_places pm__law_places an__law_places cd__law_places ct__law_places), sl__law_places⟩)
    (c__law_places : PySem.W.codeIn K cd__law_places "_law_places" = true)
    (k__law_places : PySem.W.keepIn K (.ref a__law_places) = true)
    (z__law_filled : PySem.W.nsIn K mainGlobals "_law_filled" = some (some (.ref a__law_filled)))
    (l__law_filled : K.lookup a__law_filled = some ⟨oc__law_filled, od__law_filled, .func (PySem.W.fnOf "_law_filled" "_law_filled" (defArgs s__law_filled) (defBody s__law_filled) (defScope s__law_filled) .none kV__law_filled dc__law_filled pm__law_filled an__law_filled cd__law_filled ct__law_filled), sl__law_filled⟩)
    (c__law_filled : PySem.W.codeIn K cd__law_filled "_law_filled" = true)
    (k__law_filled : PySem.W.keepIn K (.ref a__law_filled) = true)
    (z__law_all_patterns : PySem.W.nsIn K mainGlobals "_law_all_patterns" = some (some (.ref a__law_all_patterns)))
    (l__law_all_patterns : K.lookup a__law_all_patterns = some ⟨oc__law_all_patterns, od__law_all_patterns, .func (PySem.W.fnOf "_law_all_patterns" "_law_all_patterns" (defArgs s__law_all_patterns) (defBody s__law_all_patterns) (defScope s__law_all_patterns) .none kV__law_all_patterns dc__law_all_patterns pm__law_all_patterns an__law_all_patterns cd__law_all_patterns ct__law_all_patterns), sl__law_all_patterns⟩)
    (c__law_all_patterns : PySem.W.codeIn K cd__law_all_patterns "_law_all_patterns" = true)
    (k__law_all_patterns : PySem.W.keepIn K (.ref a__law_all_patterns) = true)
    (z__law_right : PySem.W.nsIn K mainGlobals "_law_right" = some (some (.ref a__law_right)))
    (l__law_right : K.lookup a__law_right = some ⟨oc__law_right, od__law_right, .func (PySem.W.fnOf "_law_right" "_law_right" (defArgs s__law_right) (defBody s__law_right) (defScope s__law_right) .none kV__law_right dc__law_right pm__law_right an__law_right cd__law_right ct__law_right), sl__law_right⟩)
    (c__law_right : PySem.W.codeIn K cd__law_right "_law_right" = true)
    (k__law_right : PySem.W.keepIn K (.ref a__law_right) = true)
    (z_law : PySem.W.nsIn K mainGlobals "law" = some (some (.ref a_law)))
    (l_law : K.lookup a_law = some ⟨oc_law, od_law, .func (PySem.W.fnOf "law" "law" (defArgs s_law) (defBody s_law) (defScope s_law) .none kV_law dc_law pm_law an_law cd_law ct_law), sl_law⟩)
    (c_law : PySem.W.codeIn K cd_law "law" = true)
    (k_law : PySem.W.keepIn K (.ref a_law) = true) :
    ∃ fd : FuncData, (∀ (s : Shared) (v : Value), BindsTo s fd ⟨[v], []⟩ [("script", v)]) ∧ ∀ base : Heap, K.In base → base.Ns mainGlobals mg → LG.FnG l.prog w K mg base CX0 9 fa fd ["script"] (sp_law K) := by
  have e0 := hfa.symm.trans (PySem.W.mg_of X G z_law)
  cases e0
  have F_is_whole := fun_mk (st := s_is_whole) l_is_whole c_is_whole k_is_whole
  have B_is_whole := F_is_whole.binds (ps := ["value"]) fun _ _ _ _ _ _ us hl => match us, hl with | [_], _ => rfl
  have F_is_listed := fun_mk (st := s_is_listed) l_is_listed c_is_listed k_is_listed
  have B_is_listed := F_is_listed.binds (ps := ["value"]) fun _ _ _ _ _ _ us hl => match us, hl with | [_], _ => rfl
  have F_is_place := fun_mk (st := s_is_place) l_is_place c_is_place k_is_place
  have B_is_place := F_is_place.binds (ps := ["value"]) fun _ _ _ _ _ _ us hl => match us, hl with | [_], _ => rfl
  have F_is_place_list := fun_mk (st := s_is_place_list) l_is_place_list c_is_place_list k_is_place_list
  have B_is_place_list := F_is_place_list.binds (ps := ["value"]) fun _ _ _ _ _ _ us hl => match us, hl with | [_], _ => rfl
  have F_check_places := fun_mk (st := s_check_places) l_check_places c_check_places k_check_places
  have B_check_places := F_check_places.binds (ps := ["value"]) fun _ _ _ _ _ _ us hl => match us, hl with | [_], _ => rfl
  have F_is_pattern := fun_mk (st := s_is_pattern) l_is_pattern c_is_pattern k_is_pattern
  have B_is_pattern := F_is_pattern.binds (ps := ["value"]) fun _ _ _ _ _ _ us hl => match us, hl with | [_], _ => rfl
  have F_check_pattern_for := fun_mk (st := s_check_pattern_for) l_check_pattern_for c_check_pattern_for k_check_pattern_for
  have B_check_pattern_for := F_check_pattern_for.binds (ps := ["takes", "pattern"]) fun _ _ _ _ _ _ us hl => match us, hl with | [_, _], _ => rfl
  have F_fills_by := fun_mk (st := s_fills_by) l_fills_by c_fills_by k_fills_by
  have B_fills_by := F_fills_by.binds (ps := ["takes", "pattern"]) fun _ _ _ _ _ _ us hl => match us, hl with | [_, _], _ => rfl
  have F__law_bag := fun_mk (st := s__law_bag) l__law_bag c__law_bag k__law_bag
  have B__law_bag := F__law_bag.binds (ps := ["script"]) fun _ _ _ _ _ _ us hl => match us, hl with | [_], _ => rfl
  have F__law_stir := fun_mk (st := s__law_stir) l__law_stir c__law_stir k__law_stir
  have B__law_stir := F__law_stir.binds (ps := ["number", "place"]) fun _ _ _ _ _ _ us hl => match us, hl with | [_, _], _ => rfl
  have F__law_draw := fun_mk (st := s__law_draw) l__law_draw c__law_draw k__law_draw
  have B__law_draw := F__law_draw.binds (ps := ["bag", "bound"]) fun _ _ _ _ _ _ us hl => match us, hl with | [_, _], _ => rfl
  have F__law_shuffled := fun_mk (st := s__law_shuffled) l__law_shuffled c__law_shuffled k__law_shuffled
  have B__law_shuffled := F__law_shuffled.binds (ps := ["bag", "items"]) fun _ _ _ _ _ _ us hl => match us, hl with | [_, _], _ => rfl
  have F__law_either := fun_mk (st := s__law_either) l__law_either c__law_either k__law_either
  have B__law_either := F__law_either.binds (ps := ["bag", "items"]) fun _ _ _ _ _ _ us hl => match us, hl with | [_, _], _ => rfl
  have F__law_pattern := fun_mk (st := s__law_pattern) l__law_pattern c__law_pattern k__law_pattern
  have B__law_pattern := F__law_pattern.binds (ps := ["bag", "count"]) fun _ _ _ _ _ _ us hl => match us, hl with | [_, _], _ => rfl
  have F__law_places := fun_mk (st := s__law_places) l__law_places c__law_places k__law_places
  have B__law_places := F__law_places.binds (ps := ["bag", "count"]) fun _ _ _ _ _ _ us hl => match us, hl with | [_, _], _ => rfl
  have F__law_filled := fun_mk (st := s__law_filled) l__law_filled c__law_filled k__law_filled
  have B__law_filled := F__law_filled.binds (ps := ["takes", "pattern"]) fun _ _ _ _ _ _ us hl => match us, hl with | [_, _], _ => rfl
  have F__law_all_patterns := fun_mk (st := s__law_all_patterns) l__law_all_patterns c__law_all_patterns k__law_all_patterns
  have B__law_all_patterns := F__law_all_patterns.binds (ps := ["count"]) fun _ _ _ _ _ _ us hl => match us, hl with | [_], _ => rfl
  have F__law_right := fun_mk (st := s__law_right) l__law_right c__law_right k__law_right
  have B__law_right := F__law_right.binds (ps := ["bag", "takes", "pattern"]) fun _ _ _ _ _ _ us hl => match us, hl with | [_, _, _], _ => rfl
  have F_law := fun_mk (st := s_law) l_law c_law k_law
  have B_law := F_law.binds (ps := ["script"]) fun _ _ _ _ _ _ us hl => match us, hl with | [_], _ => rfl
  refine ⟨PySem.W.fnOf "law" "law" (defArgs s_law) (defBody s_law) (defScope s_law) .none kV_law dc_law pm_law an_law cd_law ct_law, fun s v => .of_eq rfl, fun base _ _ => ?_⟩
  exact ok_law (({
    n_len := PySem.W.mg_none_of X G z_len,
    n_range := PySem.W.mg_none_of X G z_range,
    n_list := PySem.W.mg_none_of X G z_list,
    n_tuple := PySem.W.mg_none_of X G z_tuple,
    n_int := PySem.W.mg_none_of X G z_int,
    n_bool := PySem.W.mg_none_of X G z_bool,
    n_str := PySem.W.mg_none_of X G z_str,
    n_isinstance := PySem.W.mg_none_of X G z_isinstance,
    n_min := PySem.W.mg_none_of X G z_min,
    n_sorted := PySem.W.mg_none_of X G z_sorted,
    n_set := PySem.W.mg_none_of X G z_set,
    n_all := PySem.W.mg_none_of X G z_all,
    n_repr := PySem.W.mg_none_of X G z_repr,
    t_MOST_PLACES := t_MOST_PLACES, g_MOST_PLACES := PySem.W.mg_of X G z_MOST_PLACES,
    t_GREATEST_PLACE := t_GREATEST_PLACE, g_GREATEST_PLACE := PySem.W.mg_of X G z_GREATEST_PLACE,
    g_heappush := PySem.W.mg_of X G z_heappush,
    g_heappop := PySem.W.mg_of X G z_heappop,
    a_is_whole := a_is_whole, d_is_whole := _, f_is_whole := F_is_whole, b_is_whole := B_is_whole, g_is_whole := PySem.W.mg_of X G z_is_whole,
    a_is_listed := a_is_listed, d_is_listed := _, f_is_listed := F_is_listed, b_is_listed := B_is_listed, g_is_listed := PySem.W.mg_of X G z_is_listed,
    a_is_place := a_is_place, d_is_place := _, f_is_place := F_is_place, b_is_place := B_is_place, g_is_place := PySem.W.mg_of X G z_is_place,
    a_is_place_list := a_is_place_list, d_is_place_list := _, f_is_place_list := F_is_place_list, b_is_place_list := B_is_place_list, g_is_place_list := PySem.W.mg_of X G z_is_place_list,
    a_check_places := a_check_places, d_check_places := _, f_check_places := F_check_places, b_check_places := B_check_places, g_check_places := PySem.W.mg_of X G z_check_places,
    a_is_pattern := a_is_pattern, d_is_pattern := _, f_is_pattern := F_is_pattern, b_is_pattern := B_is_pattern, g_is_pattern := PySem.W.mg_of X G z_is_pattern,
    a_check_pattern_for := a_check_pattern_for, d_check_pattern_for := _, f_check_pattern_for := F_check_pattern_for, b_check_pattern_for := B_check_pattern_for, g_check_pattern_for := PySem.W.mg_of X G z_check_pattern_for,
    a_fills_by := a_fills_by, d_fills_by := _, f_fills_by := F_fills_by, b_fills_by := B_fills_by, g_fills_by := PySem.W.mg_of X G z_fills_by,
    a__law_bag := a__law_bag, d__law_bag := _, f__law_bag := F__law_bag, b__law_bag := B__law_bag, g__law_bag := PySem.W.mg_of X G z__law_bag,
    a__law_stir := a__law_stir, d__law_stir := _, f__law_stir := F__law_stir, b__law_stir := B__law_stir, g__law_stir := PySem.W.mg_of X G z__law_stir,
    a__law_draw := a__law_draw, d__law_draw := _, f__law_draw := F__law_draw, b__law_draw := B__law_draw, g__law_draw := PySem.W.mg_of X G z__law_draw,
    a__law_shuffled := a__law_shuffled, d__law_shuffled := _, f__law_shuffled := F__law_shuffled, b__law_shuffled := B__law_shuffled, g__law_shuffled := PySem.W.mg_of X G z__law_shuffled,
    a__law_either := a__law_either, d__law_either := _, f__law_either := F__law_either, b__law_either := B__law_either, g__law_either := PySem.W.mg_of X G z__law_either,
    a__law_pattern := a__law_pattern, d__law_pattern := _, f__law_pattern := F__law_pattern, b__law_pattern := B__law_pattern, g__law_pattern := PySem.W.mg_of X G z__law_pattern,
    a__law_places := a__law_places, d__law_places := _, f__law_places := F__law_places, b__law_places := B__law_places, g__law_places := PySem.W.mg_of X G z__law_places,
    a__law_filled := a__law_filled, d__law_filled := _, f__law_filled := F__law_filled, b__law_filled := B__law_filled, g__law_filled := PySem.W.mg_of X G z__law_filled,
    a__law_all_patterns := a__law_all_patterns, d__law_all_patterns := _, f__law_all_patterns := F__law_all_patterns, b__law_all_patterns := B__law_all_patterns, g__law_all_patterns := PySem.W.mg_of X G z__law_all_patterns,
    a__law_right := a__law_right, d__law_right := _, f__law_right := F__law_right, b__law_right := B__law_right, g__law_right := PySem.W.mg_of X G z__law_right,
    a_law := fa, d_law := _, f_law := F_law, b_law := B_law, g_law := PySem.W.mg_of X G z_law } : Env K mg))
theorem walk {l : PySem.W.OpenLaw} {q : Program} {loose : List Str} {XP : (Str → Option Value) → Heap → Prop} {YP : World → Heap → Prop} {d : DefRec} {K : Params → PySem.W.Frag} (hn : l.most = some 63) (hdf : d.params.defaults = [])
    (hY : ∀ (w : World) (h : Heap), YP w h → (K w.params).In h)
    (F : ∀ (w : World) (mg : Str → Option Value) (fa : Addr) (h : Heap), (K w.params).In h → h.Ns mainGlobals mg → mg d.name = some (.ref fa) →
      ∃ fd : FuncData, (∀ (s : Shared) (u : Value), BindsTo s fd ⟨[u], []⟩ [("script", u)]) ∧ ∀ base : Heap, (K w.params).In base → base.Ns mainGlobals mg → LG.FnG l.prog w (K w.params) mg base CX0 9 fa fd ["script"] (sp_law (K w.params))) :
    PySem.W.WalkO q loose XP YP l.row.toRowW d [] (fun f vs => PySem.call f vs) :=
  LG.walk_ofG (n := 63) (k := 9) (x := "script") (sp := sp_law) hn (by decide) hdf ⟨rfl, by decide, by decide⟩ hY F (fun _ _ a ns hl _ hS => ⟨a, ns, rfl, hS, hl, fun _ => rfl⟩)
end LP
open PySem PySem.W PyProof.Rows
set_option maxRecDepth 100000 in
set_option maxHeartbeats 0 in
theorem PySem.Challenge.cw_leftreturn_k06_places_filled_by_patterns_holds : PySem.Challenge.rw_leftreturn_k06_places_filled_by_patterns.Holds := by
  w_on; o_law; k_head; (case hw => w_witness2)
  k_fill
  refine LP.walk (l := PySem.Challenge.rw_leftreturn_k06_places_filled_by_patterns) rfl rfl (fun w h Y => PySem.W.kIn_of Y) ?F
  case F =>
    intro w mg fa h KX G hmg
    refine' LP.all_mk KX G hmg ?z_len ?z_range ?z_list ?z_tuple ?z_int ?z_bool ?z_str ?z_isinstance ?z_min ?z_sorted ?z_set ?z_all ?z_repr ?z_MOST_PLACES ?z_GREATEST_PLACE ?z_heappush ?z_heappop ?z_is_whole ?l_is_whole ?c_is_whole ?k_is_whole ?z_is_listed ?l_is_listed ?c_is_listed ?k_is_listed ?z_is_place ?l_is_place ?c_is_place ?k_is_place ?z_is_place_list ?l_is_place_list ?c_is_place_list ?k_is_place_list ?z_check_places ?l_check_places ?c_check_places ?k_check_places ?z_is_pattern ?l_is_pattern ?c_is_pattern ?k_is_pattern ?z_check_pattern_for ?l_check_pattern_for ?c_check_pattern_for ?k_check_pattern_for ?z_fills_by ?l_fills_by ?c_fills_by ?k_fills_by ?z__law_bag ?l__law_bag ?c__law_bag ?k__law_bag ?z__law_stir ?l__law_stir ?c__law_stir ?k__law_stir ?z__law_draw ?l__law_draw ?c__law_draw ?k__law_draw ?z__law_shuffled ?l__law_shuffled ?c__law_shuffled ?k__law_shuffled ?z__law_either ?l__law_either ?c__law_either ?k__law_either ?z__law_pattern ?l__law_pattern ?c__law_pattern ?k__law_pattern ?z__law_places ?l__law_places ?c__law_places ?k__law_places ?z__law_filled ?l__law_filled ?c__law_filled ?k__law_filled ?z__law_all_patterns ?l__law_all_patterns ?c__law_all_patterns ?k__law_all_patterns ?z__law_right ?l__law_right ?c__law_right ?k__law_right ?z_law ?l_law ?c_law ?k_law
    (case z_len => k_is)
    (case z_range => k_is)
    (case z_list => k_is)
    (case z_tuple => k_is)
    (case z_int => k_is)
    (case z_bool => k_is)
    (case z_str => k_is)
    (case z_isinstance => k_is)
    (case z_min => k_is)
    (case z_sorted => k_is)
    (case z_set => k_is)
    (case z_all => k_is)
    (case z_repr => k_is)
    (case z_MOST_PLACES => k_is)
    (case z_GREATEST_PLACE => k_is)
    (case z_heappush => k_is)
    (case z_heappop => k_is)
    (case z_is_whole => k_is)
    (case l_is_whole => k_is)
    (case c_is_whole => k_is)
    (case k_is_whole => k_is)
    (case z_is_listed => k_is)
    (case l_is_listed => k_is)
    (case c_is_listed => k_is)
    (case k_is_listed => k_is)
    (case z_is_place => k_is)
    (case l_is_place => k_is)
    (case c_is_place => k_is)
    (case k_is_place => k_is)
    (case z_is_place_list => k_is)
    (case l_is_place_list => k_is)
    (case c_is_place_list => k_is)
    (case k_is_place_list => k_is)
    (case z_check_places => k_is)
    (case l_check_places => k_is)
    (case c_check_places => k_is)
    (case k_check_places => k_is)
    (case z_is_pattern => k_is)
    (case l_is_pattern => k_is)
    (case c_is_pattern => k_is)
    (case k_is_pattern => k_is)
    (case z_check_pattern_for => k_is)
    (case l_check_pattern_for => k_is)
    (case c_check_pattern_for => k_is)
    (case k_check_pattern_for => k_is)
    (case z_fills_by => k_is)
    (case l_fills_by => k_is)
    (case c_fills_by => k_is)
    (case k_fills_by => k_is)
    (case z__law_bag => k_is)
    (case l__law_bag => k_is)
    (case c__law_bag => k_is)
    (case k__law_bag => k_is)
    (case z__law_stir => k_is)
    (case l__law_stir => k_is)
    (case c__law_stir => k_is)
    (case k__law_stir => k_is)
    (case z__law_draw => k_is)
    (case l__law_draw => k_is)
    (case c__law_draw => k_is)
    (case k__law_draw => k_is)
    (case z__law_shuffled => k_is)
    (case l__law_shuffled => k_is)
    (case c__law_shuffled => k_is)
    (case k__law_shuffled => k_is)
    (case z__law_either => k_is)
    (case l__law_either => k_is)
    (case c__law_either => k_is)
    (case k__law_either => k_is)
    (case z__law_pattern => k_is)
    (case l__law_pattern => k_is)
    (case c__law_pattern => k_is)
    (case k__law_pattern => k_is)
    (case z__law_places => k_is)
    (case l__law_places => k_is)
    (case c__law_places => k_is)
    (case k__law_places => k_is)
    (case z__law_filled => k_is)
    (case l__law_filled => k_is)
    (case c__law_filled => k_is)
    (case k__law_filled => k_is)
    (case z__law_all_patterns => k_is)
    (case l__law_all_patterns => k_is)
    (case c__law_all_patterns => k_is)
    (case k__law_all_patterns => k_is)
    (case z__law_right => k_is)
    (case l__law_right => k_is)
    (case c__law_right => k_is)
    (case k__law_right => k_is)
    (case z_law => k_is)
    (case l_law => k_is)
    (case c_law => k_is)
    (case k_law => k_is)
