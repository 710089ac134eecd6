import PyProof.Rows.All
import Wide.All
import OpenK.AllK
import Wide.FinOn
import HandS.ForMost
import HandS.Text
import PyProof.ReprRoads
import PyProof.ReprLen
import HandS.Walk
import HandS.SortInts
import HandS.SetFor
import HandS.Zip
import HandS.DictComp
import PyProof.TupleOfSeq
import KE.GoesMore
import KE.GoesZip
import HandS.RaiseMore
import HandS.IsInst
import HandS.Conv
import HandS.Style
import HandS.Wide
import HandS.ForExc
import HandS.More
import HandS.SlotsOwn
import HandS.Property
import HandS.ClsMeth
import KE.DataMinMax
import KE.KDictZip
import HandS.SortKw
import PyProof.StrOps2
import HandS.Comp
import HandS.NoneIn
import HandS.CallLocal
import HandS.Gcd
import HandS.Dict
import HandS.List
import HandS.StrMore
import HandS.TryOnly
import HandS.ExcOwn
import HandS.ExcIs
import HandS.CallSlots
import KE.GoesEnum
import KE.KExcSuper
import HandS.ExcField
import PySem.Challenge.RW_leftreturn_k55_console_errors
set_option Elab.async false
set_option linter.all false
set_option maxRecDepth 100000
set_option maxHeartbeats 4000000
/-! numbers as texts -/
namespace LQ
open PySem L2 TL
def nst (i : Int) : Str := Str.ofString (toString i)
def txtN (ns : List Int) : Str := Txt.join (" " : Str) (ns.map nst)
theorem tl_nst (n : Nat) : (nst (n : Int)).cps.toList = numL n := tl_num n
theorem tl_eq {a b : Str} (h : a.cps.toList = b.cps.toList) : a = b := by
  cases a; cases b; simp at h; rw [h]
theorem nst_len {n : Nat} (h : n ≤ 10 ^ 30) : (nst (n : Int)).length ≤ 31 := by
  show (nst (n : Int)).cps.size ≤ 31
  rw [← Array.length_toList, tl_nst]
  exact numL_len (by decide) (by have : (10 : Nat) ^ 30 < 10 ^ 31 := by decide
                                 omega)
theorem head_numL (n : Nat) : (numL n)[0]? = some 48 → n = 0 := by
  induction n using Nat.strongRecOn with
  | _ n ih =>
    intro h
    by_cases q : n < 10
    · rw [numL_lt q] at h
      simp at h; exact h
    · rw [numL_step (by omega), List.getElem?_append_left (List.length_pos_iff.mpr (numL_ne _))] at h
      have := ih (n / 10) (by omega) h
      omega
theorem zero_txt : nst 0 = ("0" : Str) := by decide +kernel
theorem numL_all (n : Nat) : ∀ c ∈ numL n, 48 ≤ c ∧ c ≤ 57 := fun c hc => by
  have := numL_digits n c hc
  omega
theorem nst_ascii (n : Nat) : Txt.isascii (nst (n : Int)) = true := by
  unfold Txt.isascii
  rw [← Array.all_toList, tl_nst, List.all_eq_true]
  intro c hc
  have := numL_all n c hc
  exact decide_eq_true (by omega)
theorem dig (c : Nat) (h : 48 ≤ c ∧ c ≤ 57) : Unicode.isDigit c = true := by
  obtain ⟨h1, h2⟩ := h
  have : ∀ d : Fin 10, Unicode.isDigit (48 + d.val) = true := by decide +kernel
  have := this ⟨c - 48, by omega⟩
  rw [show 48 + (c - 48) = c by omega] at this
  exact this
theorem nst_digit (n : Nat) : Txt.isdigit (nst (n : Int)) = true := by
  unfold Txt.isdigit
  rw [Bool.and_eq_true, ← Array.all_toList, tl_nst, List.all_eq_true]
  refine ⟨decide_eq_true ?_, fun c hc => dig c (numL_all n c hc)⟩
  show (nst (n : Int)).cps.size > 0
  rw [← Array.length_toList, tl_nst]
  exact List.length_pos_iff.mpr (numL_ne _)
/-- the value of digits -/
def dval (l : List Nat) : Nat := l.foldl (fun a c => a * 10 + (c - 48)) 0
theorem fold_ge : ∀ (l : List Nat) (a : Nat), a ≤ l.foldl (fun a c => a * 10 + (c - 48)) a
  | [], a => Nat.le_refl _
  | c :: r, a => Nat.le_trans (by show a ≤ a * 10 + (c - 48); omega) (fold_ge r _)
theorem dval_take (l : List Nat) (i : Nat) : dval (l.take i) ≤ dval l := by
  have e : dval l = (l.drop i).foldl (fun a c => a * 10 + (c - 48)) (dval (l.take i)) := by
    unfold dval
    rw [← List.foldl_append, List.take_append_drop]
  rw [e]; exact fold_ge _ _
theorem dval_num (n : Nat) : dval (numL n) = n := numL_val n
theorem dval_snoc {l : List Nat} {i c : Nat} (h : l[i]? = some c) : dval (l.take (i + 1)) = dval (l.take i) * 10 + (c - 48) := by
  have e : l.take (i + 1) = l.take i ++ [c] := by
    rw [List.take_add_one, h]; rfl
  unfold dval
  rw [e, List.foldl_append]; rfl
theorem int_dig {c : Nat} (h : 48 ≤ c ∧ c ≤ 57) : intText? ⟨#[c]⟩ = some ((c - 48 : Nat) : Int) := by
  have := intText_digits (x := ⟨#[c]⟩) (by intro d hd; simp at hd; subst hd; omega) (by simp) (by show 1 ≤ 4300; decide)
  rw [this]
  simp [NumText.digitsVal]
theorem sp_tl : (" " : Str).cps.toList = [32] := by decide +kernel
theorem nat_of {i : Int} (h : 0 ≤ i) : i = ((i.toNat : Nat) : Int) := by omega
theorem split_txtN {ns : List Int} (hn : ns ≠ []) (h : ∀ x ∈ ns, 0 ≤ x) : Txt.split (txtN ns) (" " : Str) = ns.map nst := by
  refine split_join (s := 32) (S := []) sp_tl (by decide +kernel) (by simpa using hn) fun p hp => ?_
  obtain ⟨i, hi, rfl⟩ := List.mem_map.mp hp
  rw [nat_of (h i hi)]
  show 32 ∉ (nst _).cps.toList
  rw [tl_nst]
  exact numL_free (by decide)
theorem sum_le : ∀ (l : List Nat) (m : Nat), (∀ x ∈ l, x ≤ m) → l.sum ≤ l.length * m
  | [], _, _ => by simp
  | a :: r, m, h => by
    have h1 := h a (List.mem_cons_self ..)
    have h2 := sum_le r m fun x hx => h x (List.mem_cons_of_mem _ hx)
    rw [List.sum_cons, List.length_cons, Nat.add_mul]
    omega
theorem txtN_sz {ns : List Int} (h : ∀ x ∈ ns, 0 ≤ x ∧ x ≤ 10 ^ 30) (hl : ns.length ≤ 400) : (((ns.map nst).map (·.length)).sum + (ns.map nst).length * (" " : Str).length ≤ 16777216) := by
  have e : (" " : Str).length = 1 := by decide +kernel
  have := sum_le ((ns.map nst).map (·.length)) 31 (fun x hx => by
    obtain ⟨p, hp, rfl⟩ := List.mem_map.mp hx
    obtain ⟨i, hi, rfl⟩ := List.mem_map.mp hp
    obtain ⟨h0, h1⟩ := h i hi
    rw [nat_of h0]
    exact nst_len (by omega))
  rw [List.length_map, List.length_map] at this
  rw [e, List.length_map]
  omega
theorem joinL_len : ∀ (ps : List (List Nat)) (m : Nat), (∀ p ∈ ps, p.length ≤ m) → (joinL [32] ps).length ≤ ps.length * (m + 1)
  | [], m, _ => by simp [joinL]
  | [p], m, h => by
    have := h p (List.mem_singleton.mpr rfl)
    show p.length ≤ 1 * (m + 1)
    omega
  | p :: q :: r, m, h => by
    have h1 := h p (List.mem_cons_self ..)
    have h2 := joinL_len (q :: r) m fun x hx => h x (List.mem_cons_of_mem _ hx)
    show (p ++ ([32] ++ joinL [32] (q :: r))).length ≤ ((q :: r).length + 1) * (m + 1)
    rw [List.length_append, List.length_append, Nat.add_mul]
    simp only [List.length_cons, List.length_nil] at *
    omega
theorem txtN_tl (ns : List Int) : (txtN ns).cps.toList = joinL [32] ((ns.map nst).map fun z => z.cps.toList) := by
  unfold txtN
  rw [join_eq]
  have := tl_join (" " : Str) (ns.map nst)
  rw [show tl (" " : Str) = [32] from sp_tl] at this
  exact this
theorem txtN_len {ns : List Int} (h : ∀ x ∈ ns, 0 ≤ x ∧ x ≤ 10 ^ 30) : (txtN ns).length ≤ ns.length * 32 := by
  show (txtN ns).cps.size ≤ _
  rw [← Array.length_toList, txtN_tl]
  have := joinL_len ((ns.map nst).map fun z => z.cps.toList) 31 fun p hp => by
    obtain ⟨q, hq, rfl⟩ := List.mem_map.mp hp
    obtain ⟨i, hi, rfl⟩ := List.mem_map.mp hq
    obtain ⟨h0, h1⟩ := h i hi
    rw [nat_of h0, Array.length_toList]
    exact nst_len (by omega)
  rw [List.length_map, List.length_map] at this
  exact this
theorem txtN_nil : txtN [] = ("" : Str) := by decide +kernel
theorem txtN_cons {a : Int} {r : List Int} (h : 0 ≤ a) : txtN (a :: r) ≠ ("" : Str) := by
  intro e
  have e3 : ("" : Str).cps.toList = [] := by decide +kernel
  have e2 : (txtN (a :: r)).cps.toList = [] := by rw [e, e3]
  have e4 : (txtN (a :: r)).cps.toList = joinL [32] ((((a :: r).map nst)).map fun z => z.cps.toList) := by
    unfold txtN
    rw [join_eq]
    have := tl_join (" " : Str) ((a :: r).map nst)
    rw [show tl (" " : Str) = [32] from sp_tl] at this
    exact this
  rw [e4, List.map_cons, List.map_cons, nat_of h, tl_nst] at e2
  have := numL_ne a.toNat
  cases r with
  | nil => exact this e2
  | cons b t =>
    have e5 : numL a.toNat ++ ([32] ++ joinL [32] (((b :: t).map nst).map fun z => z.cps.toList)) = [] := e2
    simp at e5
end LQ
namespace LQ
open PySem L2 TL
theorem joinL_mem : ∀ (ps : List (List Nat)) (c : Nat), c ∈ joinL [32] ps → c = 32 ∨ ∃ p ∈ ps, c ∈ p
  | [], c, h => by simp [joinL] at h
  | [p], c, h => .inr ⟨p, List.mem_singleton.mpr rfl, h⟩
  | p :: q :: r, c, h => by
    have h : c ∈ p ++ ([32] ++ joinL [32] (q :: r)) := h
    rcases List.mem_append.mp h with h | h
    · exact .inr ⟨p, List.mem_cons_self .., h⟩
    · rcases List.mem_append.mp h with h | h
      · exact .inl (List.mem_singleton.mp h)
      · rcases joinL_mem (q :: r) c h with h | ⟨x, hx, h⟩
        · exact .inl h
        · exact .inr ⟨x, List.mem_cons_of_mem _ hx, h⟩
theorem txtN_ok {ns : List Int} (h : ∀ x ∈ ns, 0 ≤ x) : PyData.strOk (txtN ns) = true := by
  unfold PyData.strOk
  rw [← Array.all_toList, List.all_eq_true]
  intro c hc
  rw [txtN_tl] at hc
  refine decide_eq_true ?_
  rcases joinL_mem _ _ hc with rfl | ⟨p, hp, hc⟩
  · decide
  · obtain ⟨q, hq, rfl⟩ := List.mem_map.mp hp
    obtain ⟨i, hi, rfl⟩ := List.mem_map.mp hq
    rw [nat_of (h i hi), tl_nst] at hc
    have := numL_all _ c hc
    omega
end LQ

/-! defs that may be run only where no repr is under way: the promise FnG beside FnOk; repr of data -/
namespace LG
open PySem PySem.Spec PyProof.Rows L2
structure FnG (P : Program) (w : World) (K : PySem.W.Frag) (mg : Str → Option Value) (base : Heap) (CX : CXT) (k : Nat) (f : Addr) (fd : FuncData) (ps : List Str) (sp : Sp) : Prop where
  arity : ∀ vs H Q E, sp vs H Q E → vs.length = ps.length
  does : ∀ (A : Around) (out : List Env) (s : Shared) (H : Hp) (ar : Args) (us : List Value) (vs : List V) (Q : VK) (E : XK), A.guards = some [] →
    Room k A → Env0 P w K mg base A out s H → BindsTo s fd ar (ps.zip us) → Vals vs us → sp vs H Q E → codeAny (model P w) A (.call (.ref f) ar) (CR CX out P w H s Q E) s
section
variable {P : Program} {w : World} {K : PySem.W.Frag} {mg : Str → Option Value} {base : Heap} {CX : CXT}
theorem FnG.up {j k : Nat} {f : Addr} {fd : FuncData} {ps : List Str} {sp : Sp} (F : FnG P w K mg base CX j f fd ps sp) (h : j ≤ k) : FnG P w K mg base CX k f fd ps sp :=
  ⟨F.arity, fun A out s H ar us vs Q E hg hr => F.does A out s H ar us vs Q E hg (hr.mono h)⟩
theorem fnG_of {k : Nat} {f : Addr} {name qual : Str} {params : Arguments} {body : List Stmt} {scope : Scope} {dV kV doc pm cdv ct oc : Value} {an od : Option Addr} {osl : Array (Option Value)} {N ps : List Str} {sp : Sp}
    (lk : K.lookup f = some ⟨oc, od, .func (PySem.W.fnOf name qual params body scope dV kV doc pm an cdv ct), osl⟩) (cd : PySem.W.codeIn K cdv qual = true) (S : FnScope N ps scope) (ar : ∀ vs H Q E, sp vs H Q E → vs.length = ps.length)
    (hb : ∀ (A : Around) (out : List Env) (s : Shared) (H : Hp) (vs : List V) (Q : VK) (E : XK), A.guards = some [] → Room k (A.deeper (envOfC qual scope s.heap.objs.size f cdv)) → sp vs H Q E →
      ∃ t, PSs (cxOf CX P w K mg base N qual scope f cdv A out s H E) body t ∧ t ⟨fun _ H1 => Q .non H1, Q, fun _ _ => False, fun _ _ => False⟩ (start N vs) H) :
    FnG P w K mg base CX (k + 1) f (PySem.W.fnOf name qual params body scope dV kV doc pm an cdv ct) ps sp := by
  constructor
  · exact ar
  intro A out s H args us vs Q E hgd hr e0 bnd rel want
  obtain ⟨t, der, wish⟩ := hb A out s H vs Q E hgd (hr.deeper _) want
  have old := fun b o (e : base.get? b = some o) => (e0.bs b o e).1
  have kin : K.In s.heap := e0.mod.kin.keeps old
  have slots : ∀ y ∈ ps.zip us, scope.names.lookup y.1 = some .local ∨ scope.names.lookup y.1 = some .cell ∧ ((cellsFrom (s.heap.objs.size + 1) scope.names []).lookup y.1).isSome = true := by
    rintro ⟨nm, v⟩ mem
    have z := S.par nm (List.of_mem_zip mem).1
    exact z.imp id fun c => ⟨c, PySem.W.cellsFrom_some _ _ _ (Or.inl c)⟩
  apply codeAny_call_function hr.depth (kin _ _ lk) rfl S.co S.gen rfl (PySem.W.codeRec_of kin cd)
  apply bnd
  apply wpAny_newFunctionEnv_cells S.kind slots
  rintro env rfl s1 inC
  refine ⟨(e0.mod.nolimit.keeps old).keeps inC.toInCall.keep, ?_⟩
  apply codeAny_func
  have J := inv_start (CX := CX) (E := E) S hr.hd e0 (ar _ _ _ _ want) rel inC
  apply wpAny_mono (der.run [] s1 (start N vs) H _ J wish)
  · intro fl s2 got
    cases fl with
    | next => obtain ⟨σ2, H2, J2, q⟩ := got; exact ⟨V.non, H2, J2.os, J2.bare, J2.base, J2.hok, rfl, q⟩
    | ret u => obtain ⟨v, σ2, H2, J2, rv, q⟩ := got; exact ⟨v, H2, J2.os, J2.bare, J2.base, J2.hok, rv, q⟩
    | brk => obtain ⟨_, _, _, q⟩ := got; exact q.elim
    | cont => obtain ⟨_, _, _, q⟩ := got; exact q.elim
  · exact fun _ _ z => z
/-- a def of the text by its body, where nothing is raised -/
theorem okG {x qual : Str} {st : Stmt} {f : Addr} {fd : FuncData} {N ps : List Str} {k : Nat} {sp : Sp} (F : Fun K x qual st f fd) (S : FnScope N ps (defScope st)) (ar : ∀ vs H Q E, sp vs H Q E → vs.length = ps.length)
    (hb : ∀ (cdv : Value) (A : Around) (out : List Env) (s : Shared) (H : Hp) (vs : List V) (Q : VK) (E : XK), A.guards = some [] → Room k (A.deeper (envOfC qual (defScope st) s.heap.objs.size f cdv)) → sp vs H Q E →
      ∃ t, PSs (cxOf CX0 P w K mg base N qual (defScope st) f cdv A out s H E).nox (defBody st) t ∧ t ⟨fun _ H1 => Q .non H1, Q, fun _ _ => False, fun _ _ => False⟩ (start N vs) H) : FnG P w K mg base CX0 (k + 1) f fd ps sp := by
  obtain ⟨oc, od, kV, doc, pm, an, cdv, ct, osl, rfl, lk, cd⟩ := F.ex
  refine fnG_of lk cd S ar fun A out s H vs Q E hgd hr want => ?_
  obtain ⟨t, der, wish⟩ := hb cdv A out s H vs Q E hgd hr want
  exact ⟨t, der.nox, wish⟩
theorem of_ok {k : Nat} {f : Addr} {fd : FuncData} {ps : List Str} {sp : Sp} (F : FnOk P w K mg base CX k f fd ps sp) : FnG P w K mg base CX k f fd ps sp :=
  ⟨F.len, fun A out s H ar us vs Q E _ hr => F.run A out s H ar us vs Q E hr⟩
end
section
variable {X : Cx} {CX : CXT} {k : Nat} {f : Addr} {fd : FuncData} {ps : List Str} {sp : Sp} {dvs : List V} {ds : List Value} {E : XK} {x : Str} {p pos : Pos} {e : Expr} {es : List Expr} {t : TA}
/-- f(e, ..), f such a def -/
theorem pe_callG (F : FnG X.prog X.w X.K X.mg X.base CX k f fd ps sp) (hgd : X.A.guards = some []) (hr : Room k X.A) (hg : Gl X x) (hm : X.mg x = some (.ref f)) (hk : PySem.W.keepIn X.K (.ref f) = true) (hb : Binds X.K fd ps ds) (hd : Vals dvs ds) (hx : Passes CX X E)
    (ha : PA X (e :: es) t) (hdb : (x == ("__debug__" : Str)) = false := by decide) (he : starEach (e :: es) X.env = (false, eval e X.env) :: starEach es X.env := by rfl) (hpl : (backTo pos (starEach es X.env)).any (·.1) = false := by rfl) :
    PE X (.Call (.Name x p) (e :: es) [] pos) (tCall sp dvs E t) := by
  constructor
  intro pins s σ H Q I want
  apply wpAny_Call_Name_kw (ld_glob I hg hm _ hdb)
  apply PySem.W.callWith_K (h₀ := X.base) I.ok.mod.kin hk (thn (ha.run pos pins s σ H _ I want) _) he hpl
  rintro us s1 ⟨vs, H1, J, rel, q⟩
  have rel2 : Vals (vs ++ dvs) (us ++ ds) := rel.append hd
  have len : (us ++ ds).length = ps.length := rel2.length.symm.trans (F.arity _ _ _ _ q)
  refine ⟨J.kIn, wpAny_call (codeAny_mono (F.does X.A X.stack s1 H1 ⟨us, []⟩ _ _ Q E hgd hr J.env0 (hb s1 us J.kIn len) rel2 q) ?_)⟩
  intro r s2 got
  match r, got with
  | .error err, got => exact hx pins σ H1 s1 err s2 J got
  | .ok (.ret u), got => exact J.after got
  | .ok .next, got => exact got.elim
  | .ok .brk, got => exact got.elim
  | .ok .cont, got => exact got.elim
/-- repr of a list or a tuple of data -/
def rRepr (K : PySem.W.Frag) : List V → Hp → VK → Prop := fun xs H Q => ∃ (a : Addr) (d : PyData), xs = [.ref a] ∧ Dp K H (.ref a) d ∧ d.showable = true ∧ SeqAt.shaped d = true ∧ d.shown.length ≤ sizeLine ∧ Q (.str d.shown) H
theorem call_repr (hgd : X.A.guards = some []) (hu : X.A.units + 66 < cLine) : CallR X (.builtin "repr") (rRepr X.K) := by
  rintro pins s σ H xs us Q I rel ⟨a, d, rfl, hd, sh, sp, len, q⟩
  obtain ⟨u, rfl, ru⟩ := vals1 rel
  obtain ⟨as, rd⟩ := Dp.reads I d (.ref a) u hd ru
  cases ru
  have dep := SeqAt.depth_of_shaped sp
  refine repr_of_reads' rd sh (PyData.noDict_hsm (PyData.hasDict_of_canLay d (SeqAt.canLay_of_shaped sp))) hgd (by omega) (fun _ _ z => z) (fun h1 u1 tk keep => ?_) len
  exact ⟨.str d.shown, H, I.kept keep, ⟨_, rfl⟩, q⟩
end
/-! the end of a law's row -/
theorem law_callG {P : Program} {w : World} {K : PySem.W.Frag} {mg mb : Str → Option Value} {k : Nat} {fa a : Addr} {fd : FuncData} {x : Str} {sp : Sp} {s : Shared} {vs : List Value} {ns : List Int}
    (kin : K.In s.heap) (gns : s.heap.Ns mainGlobals mg) (bns : s.heap.Ns builtinsNs mb) (hbb : ∀ x : Str, x ≠ "__name__" → mb x = bootBuiltins x) (lim : s.heap.NoLimit) (gens : s.gens = #[])
    (obj : s.heap.get? a = some { cls := .type "list", data := .seq vs.toArray }) (hin : IntsAre vs ns) (len : ns.length ≤ sizeLine) (hr : Room k callerA)
    (F : ∀ base : Heap, K.In base → base.Ns mainGlobals mg → FnG P w K mg base CX0 k fa fd [x] sp) (bnd : ∀ (s : Shared) (u : Value), BindsTo s fd ⟨[u], []⟩ [(x, u)])
    (want : ∀ H : Hp, Only H → SqL K H a (ns.map V.int) → sp [.ref a] H (fun v _ => v = .bl true) fun _ _ _ => False) :
    codeAny (model P w) callerA (.call (.ref fa) ⟨[.ref a], []⟩) (fun r s1 => r = .ok (.ret (.bool true)) ∧ OldK s.heap s1.heap ∧ s1.os = s.os ∧ AllBare s1.gens) s := by
  have rel := vals_ints hin
  have nlen := hin.length
  obtain ⟨H, hH⟩ : ∃ H : Hp, ∀ b, H b = if b = a ∧ K.lookup a = none then some (.frz { cls := .type "list", data := .seq vs.toArray } (.lst (ns.map V.int))) else none := ⟨_, fun b => rfl⟩
  have off : ∀ {b o}, s.heap.get? b = some o → (b = a → K.lookup a ≠ none) → H b = none := fun {b o} _ hne => by
    rw [hH, if_neg fun z => hne z.1 z.2]
  have at_ : ∀ b u, H b = some u → b = a ∧ K.lookup a = none ∧ u = .frz { cls := .type "list", data := .seq vs.toArray } (.lst (ns.map V.int)) := fun b u z => by
    rw [hH] at z
    by_cases c : b = a ∧ K.lookup a = none
    · rw [if_pos c] at z; exact ⟨c.1, c.2, (Option.some.inj z).symm⟩
    · rw [if_neg c] at z; cases z
  have only : Only H := fun b => by
    cases z : H b with
    | none => exact Or.inl rfl
    | some u => obtain ⟨_, _, rfl⟩ := at_ b u z; exact Or.inr ⟨_, _, rfl⟩
  have seq : SqL K H a (ns.map V.int) := by
    cases z : K.lookup a with
    | none => exact Or.inl (Or.inr ⟨_, by rw [hH, if_pos ⟨rfl, z⟩]⟩)
    | some o =>
      have e := kin a o z
      rw [obj] at e
      cases e
      exact Or.inr ⟨_, vs.toArray, _, z, rfl, rfl, rfl, by rw [List.size_toArray, nlen]; exact len, by simpa using rel⟩
  have hok : HOk P w H s.heap := fun b u z => by
    obtain ⟨rfl, _, rfl⟩ := at_ b u z
    exact ⟨obj, by rw [List.length_map]; exact len, vs, _, rel, obj⟩
  have kept : ∀ {b o}, s.heap.get? b = some o → H b = none → (hidT s.heap H).get? b = some o := fun e z => hidT_get e z
  have dicts : ∀ {b o es n}, s.heap.get? b = some o → o.data = .dict es n → H b = none := fun {b o es n} e d => off e fun q => by
    rw [q, obj] at e
    cases e
    have d2 : Data.seq vs.toArray _ = Data.dict es n := d
    cases d2
  have names : ∀ {b m}, s.heap.Ns b m → (hidT s.heap H).Ns b m := fun ⟨o, es, n, e, d, r⟩ => ⟨o, es, n, kept e (dicts e d), d, r⟩
  have kin2 : K.In (hidT s.heap H) := fun b o e => kept (kin b o e) (off (kin b o e) fun q => by rw [← q, e]; exact fun z => nomatch z)
  have lim2 : (hidT s.heap H).NoLimit := let ⟨mc, l1, l2⟩ := lim; ⟨mc, names l1, l2⟩
  have e0 : Env0 P w K mg (hidT s.heap H) callerA [] s H := ⟨rfl, ⟨kin2, names gns, ⟨mb, names bns, hbb⟩, lim2⟩, fun b o e => of_hidT e, Nat.le_of_eq (hidT_size _ _), trivial, fun b m => (by cases (show b ∈ ([] : List Addr) from m)), hok, .of_eq gens⟩
  refine codeAny_mono ((F _ kin2 (names gns)).does callerA [] s H ⟨[.ref a], []⟩ [.ref a] [.ref a] _ _ rfl hr e0 (bnd s (.ref a)) (.cons rfl .nil) (want H only seq)) ?_
  intro r s1 got
  match r, got with
  | .error _, got => exact got.elim
  | .ok .next, got => exact got.elim
  | .ok .brk, got => exact got.elim
  | .ok .cont, got => exact got.elim
  | .ok (.ret u), got =>
    obtain ⟨v, H1, os, bare, un, hok1, ru, q⟩ := got
    cases (show v = .bl true from q)
    cases (show u = Value.bool true from ru)
    refine ⟨rfl, OldK.of_keep fun b o e => ?_, os, bare⟩
    cases z : H b with
    | none => exact un.keep b o e z (by intro y; cases (show b ∈ ([] : List Addr) from y)) (by simp)
    | some u =>
      obtain ⟨rfl, _, rfl⟩ := at_ b u z
      have y := un.frzs b _ _ z
      rw [obj] at e
      cases e
      exact (hok1 b _ y).1
theorem walk_ofG {l : PySem.W.OpenLaw} {n k : Nat} {q : Program} {loose : List Str} {XP : (Str → Option Value) → Heap → Prop} {YP : World → Heap → Prop} {d : DefRec} {K : Params → PySem.W.Frag} {sp : PySem.W.Frag → Sp} {x : Str}
    (hn : l.most = some n) (hn2 : n ≤ sizeLine) (hdf : d.params.defaults = []) (hr : Room k callerA) (hY : ∀ (w : World) (h : Heap), YP w h → (K w.params).In h)
    (F : ∀ (w : World) (mg : Str → Option Value) (fa : Addr) (h : Heap), (K w.params).In h → h.Ns mainGlobals mg → mg d.name = some (.ref fa) →
      ∃ fd : FuncData, (∀ (s : Shared) (u : Value), BindsTo s fd ⟨[u], []⟩ [(x, u)]) ∧ ∀ base : Heap, (K w.params).In base → base.Ns mainGlobals mg → FnG l.prog w (K w.params) mg base CX0 k fa fd [x] (sp (K w.params)))
    (want : ∀ (K : PySem.W.Frag) (H : Hp) (a : Addr) (ns : List Int), ns.length ≤ n → Only H → SqL K H a (ns.map V.int) → sp K [.ref a] H (fun v _ => v = .bl true) fun _ _ _ => False) :
    PySem.W.WalkO q loose XP YP l.row.toRowW d [] (fun f vs => PySem.call f vs) := by
  apply Att.attach_call hn hdf
  intro w s0 s1 mg mb fa o pm cd doc a vs ns G Y ho hd hcd hmg obj hin len gens
  have kin := hY w _ Y
  obtain ⟨fd, bnd, does⟩ := F w mg fa _ kin G.T.g hmg
  exact law_callG kin G.T.g G.T.b G.T.builtins G.T.nolimit gens obj hin (Nat.le_trans len hn2) hr does bnd fun H o q => want _ H a ns len o q
end LG

namespace LT
open PySem PySem.Spec PyProof.Rows L2
section
variable {prog : Program} {w : World} {A : Around} {E : Value → Shared → Prop} {s : Shared}
/-- what is to be iterated is gathered into a new list; the heap does not get shorter -/
theorem gather {Q : List Value → Shared → Prop} (l : Addr) {T : String} {o : Obj} {its : Array Value} {n : Nat} (hT : T = "list" ∨ T = "tuple") (ho : s.heap.get? l = some o) (hc : o.cls = .type T) (hd : o.data = .seq its n) (hz : its.size ≤ sizeLine)
    (fin : ∀ h1 : Heap, s.heap.objs.size ≤ h1.objs.size → (∀ b u, s.heap.get? b = some u → h1.get? b = some u) → Q its.toList { s with heap := h1 }) : wpAny (model prog w) A (collect (.ref l)) Q E s := by
  unfold collect
  refine wpAny_bind (wpAny_runValue (codeAny_builtin PySem.F.entry_proto_collect ?_))
  rw [Around.under_plainId PySem.F.plain_proto_collect _]
  refine wpAny_bind (m := newList []) (wpAny_newObj_type ?_)
  refine wpAny_pure ⟨plainId_quiet PySem.F.plain_list_iadd _, codeAny_builtin PySem.F.entry_list_iadd ?_⟩
  rw [Around.under_plainId PySem.F.plain_list_iadd _]
  generalize hp : s.heap.push { cls := .type "list", data := .seq ([] : List Value).toArray } = h0
  have e0 : h0.get? s.heap.objs.size = some { cls := .type "list", data := .seq #[] 0 } := by rw [← hp]; exact Heap.get?_push_size _ rfl
  have k0 : ∀ b u, s.heap.get? b = some u → h0.get? b = some u := fun b u q => by rw [← hp]; exact Heap.get?_push_of_some _ q
  have z0 : s.heap.objs.size ≤ h0.objs.size := by rw [← hp, Heap.size_push]; exact Nat.le_succ _
  have e1 := Heap.get?_update_self (Obj.mapSeq (· ++ its)) e0 rfl
  have last : Q its.toList { s with heap := h0.update s.heap.objs.size (Obj.mapSeq (· ++ its)) } :=
    fin _ (by rw [Heap.size_update]; exact z0) fun b u q => (Heap.get?_update_other _ _ (Nat.ne_of_gt (Heap.lt_size q))).trans (k0 b u q)
  have tail : wpAny (model prog w) A (do match (← load s.heap.objs.size).data with
      | Data.seq xs _ => pure xs.toList
      | _ => unsupported "internal:collect") Q E { s with heap := h0.update s.heap.objs.size (Obj.mapSeq (· ++ its)) } := by
    refine wpAny_bind (wpAny_load e1 (wpAny_pure ?_))
    show Q ((#[] : Array Value) ++ its).toList _
    rw [show ((#[] : Array Value) ++ its).toList = its.toList by simp]
    exact last
  refine wpAny_mono (wpAny_extend_seq (hsz := hz) (A := A) (R := fun r t => r = .ok (.ret (.ref s.heap.objs.size)) ∧ t = { s with heap := h0.update s.heap.objs.size (Obj.mapSeq (· ++ its)) })
    (s := { s with heap := h0 }) _ l _ 0 hT e0 (k0 _ _ ho) hc hd ⟨rfl, rfl⟩) (fun r t q => ?_) fun _ t q => absurd q.1 (by simp)
  cases r with
  | done f =>
    obtain ⟨e, rfl⟩ := q
    cases e
    exact tail
  | again c => exact ⟨q.1, codeAny_mono q.2 fun r u hr => by obtain ⟨rfl, rfl⟩ := hr; exact tail⟩
open Srt SrtO in
/-- sorted(x), x a list or a tuple: a new list -/
theorem sorted_seq {l : Addr} {T : String} {o : Obj} {vs : List Value} {n : Nat} {ltv : Value → Value → Bool} {Q : Value → Shared → Prop} (O : Swo ltv) (hT : T = "list" ∨ T = "tuple") (ho : s.heap.get? l = some o) (hc : o.cls = .type T) (hd : o.data = .seq vs.toArray n) (hz : vs.length ≤ sizeLine)
    (hS : 2 ≤ vs.length → ∀ (h₁ : Heap) (a : Addr), h₁.get? a = some (seqObj "list" vs.toArray 0) → (∀ b o, s.heap.get? b = some o → b ≠ a ∧ h₁.get? b = some o) → SortableO prog w A.in1.in1 { s with heap := h₁ } a vs ltv)
    (h : ∀ (out : List Value) (p : Addr) (h' : Heap), Srtd ltv out → Stb ltv out vs → s.heap.objs.size ≤ p → (∃ e, h'.get? p = some (seqObj "list" out.toArray e)) → (∀ b o, s.heap.get? b = some o → h'.get? b = some o) → Q (.ref p) { s with heap := h' }) :
    wpAny (model prog w) A (call (.builtin "sorted") [.ref l]) Q E s := by
  refine Calls.call_function_entry kind_sorted plain_sorted entry_sorted (args_sorted1 _) ?_
  unfold Builtin.«sorted»
  refine wpAny_bind (m := checkCount "sorted" 1 1 _) (wpAny_pure ?_)
  refine wpAny_bind (gather l hT ho hc hd (by rw [List.size_toArray]; exact hz) fun h1 hz2 k1 => ?_)
  refine wpAny_bind (wpAny_newList ?_ (by simpa using hz))
  have hoL : (h1.push (seqObj "list" vs.toArray 0)).get? h1.objs.size = some (seqObj "list" vs.toArray 0) := Heap.get?_push_size _ rfl
  have keep : ∀ b o, s.heap.get? b = some o → b ≠ h1.objs.size ∧ (h1.push (seqObj "list" vs.toArray 0)).get? b = some o := fun b o q =>
    ⟨Nat.ne_of_lt (Heap.lt_size (k1 b o q)), Heap.get?_push_of_some _ (k1 b o q)⟩
  show wpAny _ _ _ _ _ { s with heap := h1.push (seqObj "list" vs.toArray 0) }
  refine wpAny_bind (wpAny_holding (wpAny_call_entry slot_list_sort ⟨_, hoL, rfl⟩ entry_list_sort (list_sort_ord O hoL hz (fun h2 => hS h2 _ _ hoL keep) fun out hs hb => ⟨_, rfl, ?_⟩) (args_list_sort _)))
  refine wpAny_pure ⟨_, rfl, h out _ _ hs hb hz2 (sortedHeap_at hoL) fun b o q => ?_⟩
  obtain ⟨ne, q1⟩ := keep b o q
  rw [sortedHeap_old ne (Heap.lt_size q1)]
  exact q1
end
/-- sorted(xs), xs a list or a tuple of ints -/
def rSortedE (K : PySem.W.Frag) : List V → Hp → VK → Prop := fun vs H Q => ∃ (a : Addr) (ns : List Int), vs = [V.ref a] ∧ (SqL K H a (ns.map V.int) ∨ SqT K H a (ns.map V.int)) ∧
  ∀ (ns' : List Int) (p : Addr), ns'.Perm ns → ns'.Pairwise (· ≤ ·) → H p = none → Q (.ref p) (upd H p (.lst (ns'.map V.int)))
theorem cr_sortedE {X : Cx} : CallR X (.builtin "sorted") (rSortedE X.K) := by
  intro pins s σ H vs us Q I r h
  obtain ⟨a, ns, rfl, hs, q⟩ := h
  rcases hs with hs | hs
  · exact cr_sortedI pins s σ H _ us Q I r ⟨a, ns, rfl, hs, q⟩
  obtain ⟨its, rv, ⟨o, ho, hc, n, hd⟩, hz⟩ := I.tuple hs
  rw [Vals.ref1 r]
  have hi := rv.ints
  refine sorted_seq SrtO.swo_int (.inr rfl) ho hc hd (by rw [← rv.length]; exact hz) (fun h2 h₁ a' _ _ => SrtO.ints_sortable hi h2) fun out p h' h1 h2 le at_ keep => ?_
  obtain ⟨k1, k2, k3⟩ := SrtO.ints_out hi h1 h2
  obtain ⟨ep, he'⟩ := at_
  have hlen : ((out.map SrtO.iv).map V.int).length ≤ sizeLine := by
    rw [List.length_map, k2.length_eq]
    rw [List.length_map] at hz
    exact hz
  exact ⟨.ref p, upd H p (.lst ((out.map SrtO.iv).map V.int)), I.laid (t' := s.toks) keep le ⟨hlen, out, ep, vals_of_ints k1, he'⟩, rfl, q _ _ k2 k3 (I.hok.fresh le)⟩
/-- len(set(xs)), xs a list or a tuple of ints, each once -/
def tLenSetS (K : PySem.W.Frag) (ta : TE) : TE := fun σ H Q => ta σ H fun x H1 => ∃ (l : Addr) (ns : List Int), x = .ref l ∧ (SqL K H1 l (ns.map V.int) ∨ SqT K H1 l (ns.map V.int)) ∧ ns.Nodup ∧ ns.length ≤ 4000 ∧ Q (.int (ns.length : Nat)) H1
theorem pe_lenSetS {X : Cx} {a : Expr} {ta : TE} {p p2 q pos : Pos} (hg : Gl X "len") (hm : X.mg "len" = none) (hg2 : Gl X "set") (hm2 : X.mg "set" = none) (ha : PE X a ta) (hc : X.calm = true := by rfl)
    (na : starEach [a] X.env = (false, eval a X.env) :: starEach [] X.env := by rfl) : PE X (.Call (.Name "len" p) [.Call (.Name "set" p2) [a] [] q] [] pos) (tLenSetS X.K ta) := by
  refine ⟨fun pins s σ H Q I h => ?_⟩
  refine Call_ (ld_blt I hg hm boot_len ?_)
  refine PyProof.Rows.callWith_builtin1 (PyProof.Rows.args_cons ?_ rfl) rfl rfl
  refine Call_ (ld_blt I hg2 hm2 boot_set ?_)
  refine PyProof.Rows.callWith_type1 (PyProof.Rows.args_cons (thn (ha.run pins s σ H _ I h) fun v s1 ⟨x, H1, I1, r1, q1⟩ => PyProof.Rows.args_nil ?_) na) na rfl
  obtain ⟨l, ns, rfl, hq, hnd, hl, q1⟩ := q1
  cases r1
  rcases hq with hq | hq
  · obtain ⟨its, r, pl, hz⟩ := I1.list hq
    have hlen : its.toArray.size = ns.length := by rw [List.size_toArray, ← r.length, List.length_map]
    refine call_set_list (I1.ok.hd hc) pl.isList (by simpa using RZ.intsAre_vals r) (by rw [hlen]; unfold scanBound; omega) fun h' tk hS hk => ?_
    refine PyProof.Rows.args_nil ?_
    rw [hlen, RZ.firstMet_nodup hnd ns.length (Nat.le_refl _), List.take_length] at hS
    obtain ⟨o, es, ep, t, ho, hex, hd, _, _, _, hf, hn⟩ := hS
    have I2 : Inv X pins σ H1 { s1 with heap := h', toks := tk } := I1.kept fun b o e => hk b o (Heap.lt_size e) e
    exact call_len_set ho hex hd hf (by rw [hn] <;> omega) ⟨.int ns.length, H1, I2.tok _, ⟨_, by rw [hn]⟩, q1⟩
  · obtain ⟨its, r, pl, hz⟩ := I1.tuple hq
    refine call_set_tupI ns (I1.ok.hd hc) (show s1.heap.IsTuple l its.toArray from pl) (by simpa using r.ints) (by unfold scanBound; omega) fun h' tk c R hcn hk => ?_
    refine PyProof.Rows.args_nil ?_
    obtain ⟨o, es, ep, t, ho, hex, hd, g, nd, mem, _, hf, hn, _⟩ := R
    have I2 : Inv X pins σ H1 { s1 with heap := h', toks := tk } := I1.kept fun b o e => hk b o e
    have hperm : (es.toList.map keyOf).Perm ns := (List.perm_ext_iff_of_nodup nd hnd).mpr fun k => by rw [← mem k, decide_eq_true_iff]
    have hes : es.size = ns.length := by have := hperm.length_eq; simpa using this
    exact call_len_set ho hex hd hf (by omega) ⟨.int ns.length, H1, I2.tok _, ⟨_, by rw [hes]⟩, q1⟩
/-- a dict comprehension over it: Pv by the turn and the heap (the new dict at D within) -/
theorem dc_it {J : It} {n : Nat} {G : Hp → Prop} {Y : Nat → Hp → V → Hp → Prop} (w : Walk J n G Y) {g : TG} {tt : TT} {tk tv : TE} {vs : List Nat} {σ : L2.St} {H1 : Hp} {D : Addr} {Qd : Hp → Prop} (Pv : Nat → Hp → Prop) (h0 : Pv 0 (upd H1 D (.dK []))) (hG : ∀ i H, i ≤ n → Pv i H → G H)
    (hs : ∀ i x H H', i < n → Pv i H → Y i H x H' → g x (wipe σ vs) H' fun σ2 H2 => wipe σ2 vs = wipe σ vs ∧ tt σ2 H2 fun b H3 =>
      if b = true then tk σ2 H3 fun y H4 => tv σ2 H4 fun z H5 => ∃ kvs k, y = kV k ∧ H5 D = some (.dK kvs) ∧ kvs.length < sizeLine ∧ Pv (i + 1) (upd H5 D (.dK (putK kvs k z))) else Pv (i + 1) H3) (hd : ∀ H, Pv n H → Qd H) :
    ∃ W : Nat → Nat → Hp → Prop, (∃ m, W 0 m (upd H1 D (.dK []))) ∧ ∀ i m H, W i m H →
      (J.stop i H ∧ Qd H) ∨ (J.go i H ∧ ∃ Nx : Hp → Prop, (∀ H', Nx H' → ∃ m', m' < m ∧ W (i + 1) m' H') ∧ ∀ x H', J.yld i H x H' → g x (wipe σ vs) H' fun σ2 H2 => wipe σ2 vs = wipe σ vs ∧ tt σ2 H2 fun b H3 =>
        if b = true then tk σ2 H3 fun y H4 => tv σ2 H4 fun z H5 => ∃ kvs k, y = kV k ∧ H5 D = some (.dK kvs) ∧ kvs.length < sizeLine ∧ Nx (upd H5 D (.dK (putK kvs k z))) else Nx H3) := by
  refine ⟨fun i m H => m = n - i ∧ i ≤ n ∧ Pv i H, ⟨n, by simp, Nat.zero_le _, h0⟩, ?_⟩
  rintro i m H ⟨rfl, hi, p⟩
  have q := hG i H hi p
  by_cases hlt : i < n
  · refine .inr ⟨w.goes i H hlt q, Pv (i + 1), fun H' p' => ⟨n - (i + 1), by omega, rfl, hlt, p'⟩, fun x H' y => hs i x H H' hlt p (w.yields i H x H' hlt q y)⟩
  · obtain rfl : i = n := by omega
    exact .inl ⟨w.stops H q, hd H p⟩
end LT

namespace LT
open PySem PySem.Spec PyProof.Rows L2
open Sem (wp)
open AutoSeq1 (wpAny_loadPart')
theorem meets_enum_tup (l : Addr) (items : Array Value) (n : Nat) (dct : Option Addr) (sl : Array (Option Value)) :
    Meets (Builtin.«enumerate.__new__» ⟨[.type "enumerate", .ref l], []⟩) (fun _ R s => s.heap.get? l = some { cls := .type "tuple", dict := dct, data := .seq items n, slots := sl } ∧
      R (.ok (.ret (.ref (s.heap.objs.size + 1))))
        { s with heap := (s.heap.push { cls := .type "tuple_iterator", data := .fields #[.ref l, .int 0 0] }).push { cls := .type "enumerate", data := .fields #[.none, .bool false, .ref s.heap.objs.size, rawInt 0, .none, .none] } }) :=
  .of_wp fun prog w A R s h => by
    obtain ⟨hp, g, d, tk, os⟩ := s
    obtain ⟨hl, h⟩ := h
    have sub := sub_enumerate
    have tup : Heap.IsTuple (Shared.heap ⟨hp, g, d, tk, os⟩) l items := ⟨_, hl, rfl, n, rfl⟩
    wp_walk using wpAny_loadPart' hl
    refine wpAny_stack_any fun st => wpAny_pure ?_
    have z : (hp.push { cls := .type "tuple_iterator", data := .fields #[.ref l, .int 0 0] }).objs.size = hp.objs.size + 1 := Heap.size_push ..
    split
    · rename_i c _ _ _ _ _
      cases (c == Value.type "enumerate")
      · wp_walk using wpAny_loadPart' hl, wpAny_pyIter_tuple tup
        exact ⟨_, rfl, by rw [z]; exact h⟩
      · wp_walk using wpAny_loadPart' hl, wpAny_pyIter_tuple tup
        exact ⟨_, rfl, by rw [z]; exact h⟩
    · wp_walk using wpAny_loadPart' hl, wpAny_pyIter_tuple tup
      exact ⟨_, rfl, by rw [z]; exact h⟩
section
variable {prog : Program} {w : World} {A : Around} {E : Value → Shared → Prop} {s : Shared}
theorem call_enum_tup {l : Addr} {items : Array Value} {Q : Value → Shared → Prop} (hl : s.heap.IsTuple l items)
    (h : ∀ h', IsEnum h' (s.heap.objs.size + 1) s.heap.objs.size 0 .none → h'.IsTupleIter s.heap.objs.size l 0 →
      (∀ b o, s.heap.get? b = some o → h'.get? b = some o) → Q (.ref (s.heap.objs.size + 1)) { s with heap := h' }) :
    wpAny (model prog w) A (call (.type "enumerate") [.ref l]) Q E s := by
  obtain ⟨⟨c, dct, dt, sl⟩, get, hc, n, hd⟩ := hl
  cases (show c = .type "tuple" from hc)
  cases (show dt = .seq items n from hd)
  refine callType_new F.called_enumerate (by decide) (F.typeCall_enumerate_1 _) (F.newCall_enumerate_1 _) (fun obj => F.args_object_init_2 obj _) F.entry_enumerate_new (meets_enum_tup l items n dct sl) ⟨get, ?_⟩
  have z : (s.heap.push { cls := .type "tuple_iterator", data := .fields #[.ref l, .int 0 0] }).objs.size = s.heap.objs.size + 1 := Heap.size_push ..
  have he := Heap.get?_push_size (s.heap.push { cls := .type "tuple_iterator", data := .fields #[.ref l, .int 0 0] }) (o := { cls := .type "enumerate", data := .fields #[.none, .bool false, .ref s.heap.objs.size, rawInt 0, .none, .none] }) rfl
  rw [z] at he
  exact ⟨⟨_, he, rfl⟩, h _ he ⟨_, Heap.get?_push_of_some _ (Heap.get?_push_size _ rfl), rfl, rfl⟩ fun b o x => Heap.get?_push_of_some _ (Heap.get?_push_of_some _ x)⟩
end
/-- the tuple at a, each item in a new pair with its place -/
def IteT (K : PySem.W.Frag) (a : Addr) : It :=
  ⟨fun i H => ∃ (xs : List V) (x : V), SqT K H a xs ∧ xs[i]? = some x, fun i H v H' => ∃ T x, v = .ref T ∧ H T = none ∧ H' = upd H T (.tup [.int (i : Nat), x]) ∧ ∀ xs, SqT K H a xs → xs[i]? = some x, fun i H => ∃ xs : List V, SqT K H a xs ∧ xs.length = i⟩
theorem apart_it {h : Heap} {it a : Addr} {i : Nat} {items : Array Value} (x : h.IsTupleIter it a i) (p : h.IsTuple a items) : a ≠ it := by
  rintro rfl
  obtain ⟨o, g, c, _⟩ := x
  obtain ⟨o2, g2, c2, _⟩ := p
  rw [g] at g2
  cases g2
  rw [c] at c2
  exact absurd c2 (by decide)
theorem turn_enumT {P : Program} {w : World} {K : PySem.W.Frag} {elts : List Expr} {kk : Nat} {tpos : Pos} (a e it : Addr) :
    Turn P w K (.Tuple elts kk tpos) (IteT K a) [e, it] e (fun i h => (∃ old, IsEnum h e it ((i : Nat) : Int) old) ∧ h.IsTupleIter it a i ∧ e ≠ it) where
  mem := List.mem_cons_self
  obj := fun i h ⟨⟨old, he⟩, ⟨o, ho, _, hd⟩, _⟩ b hb => by
    rcases List.mem_cons.mp hb with rfl | hb
    · exact ⟨_, he, fun v q => by cases q⟩
    · rw [List.mem_singleton.mp hb]; exact ⟨o, ho, fun v q => by rw [hd] at q; cases q⟩
  keep := fun i h h' ⟨⟨old, he⟩, hi, ne⟩ k => ⟨⟨old, k e List.mem_cons_self _ he⟩, hi.at fun o q => k it (List.mem_cons_of_mem _ List.mem_cons_self) o q, ne⟩
  item := by
    intro X hP hw hK hc i pins s σ H E I hf ⟨⟨old, he⟩, hit, ne⟩ ⟨xs, x, hq, hx⟩
    subst hP hw hK
    obtain ⟨its, rv, p, hz⟩ := I.tuple hq
    have tup : s.heap.IsTuple a its.toArray := p
    obtain ⟨u, hu, ru⟩ := rv.get hx
    have hi : i < its.toArray.size := by
      have := (List.getElem?_eq_some_iff.mp hu).1
      simpa using this
    have nai := apart_it hit tup
    have nea : e ≠ a := by
      rintro rfl
      obtain ⟨o2, g2, c2, _⟩ := tup
      rw [show s.heap.get? e = _ from he] at g2
      cases g2
      have c3 : Value.type "enumerate" = Value.type "tuple" := c2
      exact absurd c3 (by decide)
    have lte : e < s.heap.objs.size := Heap.lt_size he
    have lti : it < s.heap.objs.size := let ⟨_, q, _⟩ := hit; Heap.lt_size q
    refine wpAny_pyNext_enum_itemD (Draws.tuple (A := X.A.in1) (show X.A.in1.handled = none from I.ok.hd hc) it a nai its.toArray) he ⟨hit, tup⟩ hi ne (by simp [ne, nea]) fun y h1 tk hy out st new sz kept => ?_
    have ey : y = u := by
      have q : its.toArray[i]? = some u := by simpa using hu
      rw [q] at hy; exact (Option.some.inj hy).symm
    subst ey
    refine ⟨_, rfl, wpAny_letOwnedTupleGo_enum (s := { s with heap := h1, toks := tk + 1 }) out fun h2 he2 sb => ?_⟩
    have new2 := (sb.2 _ (Nat.ne_of_gt lte)).trans new
    have ob : ObjOk X.prog X.w (upd H s.heap.objs.size (.tup [.int (i : Nat), x])) h2 s.heap.objs.size (.tup [.int (i : Nat), x]) :=
      ⟨by show 2 ≤ sizeLine; decide, [.int i tk, y], .cons ⟨_, rfl⟩ (.cons ru .nil), ⟨_, new2, rfl, _, rfl⟩⟩
    have J : Inv X pins σ (upd H s.heap.objs.size (.tup [.int (i : Nat), x])) { s with heap := h2, toks := tk + 1 } :=
      I.turnedNew (ch := [e, it]) (fun b o nb q => (sb.2 b fun z => nb (by simp [z])).trans (kept b o (fun z => nb (by simp [z])) (fun z => nb (by simp [z])) q)) hf (Nat.le_refl _) ob
    refine ⟨.ref s.heap.objs.size, _, J, rfl, ⟨_, x, rfl, I.hok.fresh (Nat.le_refl _), rfl, fun ys hy => by rw [I.tuple_inj hy hq]; exact hx⟩, ⟨⟨y, ?_⟩, st.1.at fun o q => (sb.2 it ne.symm).trans q, ne⟩, fun b hb => ?_⟩
    · rw [show ((i + 1 : Nat) : Int) = (i : Int) + 1 by omega]; exact he2
    · have lt : b < s.heap.objs.size := by
        rcases List.mem_cons.mp hb with rfl | hb
        · exact lte
        · rw [List.mem_singleton.mp hb]; exact lti
      rw [upd_ne (Nat.ne_of_lt lt)]
      exact (hf b hb).1
  done := by
    intro X hP hw hK hc i pins s σ H E I hf ⟨⟨old, he⟩, hit, ne⟩ ⟨xs, hq, hx⟩
    subst hP hw hK
    obtain ⟨its, rv, p, hz⟩ := I.tuple hq
    have tup : s.heap.IsTuple a its.toArray := p
    have nai := apart_it hit tup
    have hl := rv.length
    have ei : i = its.toArray.size := by rw [List.size_toArray, ← hl]; exact hx.symm
    subst ei
    obtain ⟨f0, f1, f2, f3, f4, f5⟩ := hf it (by simp)
    exact wpAny_pyNext_enum_endD (Draws.tuple (A := X.A.in1) (show X.A.in1.handled = none from I.ok.hd hc) it a nai its.toArray) he ⟨hit, tup⟩ fun h1 eb => ⟨rfl, I.turned (t' := s.toks) (fun b o nb q => eb b o nb q) f0 f1 f3 f4 f5⟩
  self := fun A i s Q E ⟨⟨_, he⟩, _⟩ h => wpAny_pyIter_enum he h
def iEnumT (K : PySem.W.Frag) (ta : TA) : TI := fun σ H R => ta σ H fun vs H1 => ∃ a xs, vs = [.ref a] ∧ SqT K H1 a xs ∧ R (IteT K a) H1
/-- enumerate(t), t a tuple -/
theorem pi_enumT {X : Cx} {e : Expr} {ta : TA} {p pos tpos : Pos} {elts : List Expr} {kk : Nat} (hg : Gl X "enumerate") (hm : X.mg "enumerate" = none) (ha : PA X [e] ta) (hs : starEach [e] X.env = [(false, eval e X.env)] := by rfl) :
    PI X (.Tuple elts kk tpos) (.Call (.Name "enumerate" p) [e] [] pos) (iEnumT X.K ta) := by
  constructor
  intro pins s σ H R I want
  refine Call_ (ld_blt I hg hm boot_enumerate (PyProof.Rows.callWith_type1 (thn (ha.run pos pins s σ H _ I want) ?_) hs rfl))
  rintro us s1 ⟨vs, H1, J, rel, a, xs, rfl, hq, q⟩
  obtain ⟨u, rfl, ru⟩ := vals1 rel
  cases ru
  obtain ⟨its, rv, p2, hz⟩ := J.tuple hq
  refine call_enum_tup p2 fun h1 he hit keep => wpAny_pyIter_enum he ?_
  have J2 : Inv X pins σ H1 { s1 with heap := h1 } := J.kept (t' := s1.toks) keep
  refine ⟨s1.heap.objs.size + 1, [s1.heap.objs.size + 1, s1.heap.objs.size], _, _, H1, rfl, J2, turn_enumT a _ _, ⟨⟨.none, he⟩, hit, Nat.succ_ne_self _⟩, fun b hb => ?_, q⟩
  have le : s1.heap.objs.size ≤ b := by
    rcases List.mem_cons.mp hb with rfl | hb
    · exact Nat.le_add_right _ _
    · rw [List.mem_singleton.mp hb]; exact Nat.le_refl _
  exact J.fpOk le (J.hok.fresh le)
theorem walk_enumT {K : PySem.W.Frag} {a : Addr} {xs : List V} : Walk (IteT K a) xs.length (fun H => SqT K H a xs) (YPair (fun i => some (.int (i : Nat))) (fun i => xs[i]?)) := by
  refine ⟨fun i _ hi q => ⟨xs, xs[i], q, by simp [hi]⟩, fun _ q => ⟨xs, q, rfl⟩, fun i H v H' _ q y => ?_⟩
  obtain ⟨T, x, h1, h2, h3, h4⟩ := y
  exact ⟨T, .int (i : Nat), x, h1, h2, h3, rfl, h4 xs q⟩
/-- two derivations of one expression: either reading serves -/
theorem PE.or {X : Cx} {e : Expr} {t u : TE} (h1 : PE X e t) (h2 : PE X e u) : PE X e (fun σ H Q => t σ H Q ∨ u σ H Q) :=
  ⟨fun pins s σ H Q I w => w.elim (h1.run pins s σ H Q I) (h2.run pins s σ H Q I)⟩
theorem PI.or {X : Cx} {tg e : Expr} {t u : TI} (h1 : PI X tg e t) (h2 : PI X tg e u) : PI X tg e (fun σ H R => t σ H R ∨ u σ H R) :=
  ⟨fun pins s σ H R I w => w.elim (h1.run pins s σ H R I) (h2.run pins s σ H R I)⟩
end LT

namespace LT
open PySem PySem.Spec PyProof.Rows L2
/-- zip of the tuple at a and the list at b, as many turns as both have -/
def ItzTL (K : PySem.W.Frag) (a b : Addr) : It :=
  ⟨fun i H => ∃ (xs ys : List V) (x y : V), SqT K H a xs ∧ SqL K H b ys ∧ xs[i]? = some x ∧ ys[i]? = some y,
    fun i H v H' => ∃ T x y, v = .ref T ∧ H T = none ∧ H' = upd H T (.tup [x, y]) ∧ (∀ xs, SqT K H a xs → xs[i]? = some x) ∧ ∀ ys, SqL K H b ys → ys[i]? = some y,
    fun i H => ∃ xs ys : List V, SqT K H a xs ∧ SqL K H b ys ∧ xs.length = i ∧ ys.length = i⟩
theorem sep_tl {z TI TO i1 i2 a b : Addr} (D : ZipApart z TI TO i1 i2 a b) : ZipSep2 z TI TO i1 i2 [i1, a] [i2, b] where
  TIz := D.TIz
  TOz := D.TOz
  TITO := D.TITO
  TIi1 := D.TIi1
  mem1 := List.mem_cons_self
  zf1 := by simp [D.i1z.symm, D.l1z.symm]
  Tf1 := by simp [D.TOi1, D.l1TO.symm]
  TIi2 := D.TIi2
  mem2 := List.mem_cons_self
  zf2 := by simp [D.i2z.symm, D.l2z.symm]
  Tf2 := by simp [D.TOi2, D.l2TO.symm]
  sep1_2 := by simp [D.i12, D.l2i1.symm]
  sep2_1 := by simp [D.i12.symm, D.l1i2.symm]
theorem turn_zipTL {P : Program} {w : World} {K : PySem.W.Frag} {elts : List Expr} {kk : Nat} {tpos : Pos} {a b z TI TO i1 i2 : Addr} (D : ZipApart z TI TO i1 i2 a b) :
    Turn P w K (.Tuple elts kk tpos) (ItzTL K a b) [z, TI, TO, i1, i2] z (fun i h => IsZip h z TI TO .none ∧ IsTupOf2 h TI (.ref i1) (.ref i2) ∧ (∃ x y, IsTupOf2 h TO x y) ∧ h.IsTupleIter i1 a i ∧ h.IsListIter i2 b i) where
  mem := List.mem_cons_self
  obj := fun i h ⟨hz, hTI, ⟨x, y, hTO⟩, ⟨o1, e1, _, d1⟩, ⟨o2, e2, _, d2⟩⟩ c hc => by
    simp only [List.mem_cons, List.not_mem_nil, or_false] at hc
    rcases hc with rfl | rfl | rfl | rfl | rfl
    · exact ⟨_, hz, fun v q => by cases q⟩
    · exact ⟨_, hTI, fun v q => by cases q⟩
    · exact ⟨_, hTO, fun v q => by cases q⟩
    · exact ⟨o1, e1, fun v q => by rw [d1] at q; cases q⟩
    · exact ⟨o2, e2, fun v q => by rw [d2] at q; cases q⟩
  keep := fun i h h' ⟨hz, hTI, ⟨x, y, hTO⟩, h1, h2⟩ k =>
    ⟨k z (by simp) _ hz, k TI (by simp) _ hTI, ⟨x, y, k TO (by simp) _ hTO⟩, h1.at fun o q => k i1 (by simp) o q, h2.at fun o q => k i2 (by simp) o q⟩
  item := by
    intro X hP hw hK hc i pins s σ H E I hf ⟨hz, hTI, ⟨x0, y0, hTO⟩, h1, h2⟩ ⟨xs, ys, x, y, qx, qy, hx, hy⟩
    subst hP hw hK
    obtain ⟨its, rv, p, _⟩ := I.tuple qx
    obtain ⟨its2, rv2, p2, _⟩ := I.list qy
    have tup : s.heap.IsTuple a its.toArray := p
    obtain ⟨u, hu, ru⟩ := rv.get hx
    obtain ⟨u2, hu2, ru2⟩ := rv2.get hy
    have li : i < its.toArray.size := by have := (List.getElem?_eq_some_iff.mp hu).1; simpa using this
    have li2 : i < its2.toArray.size := by have := (List.getElem?_eq_some_iff.mp hu2).1; simpa using this
    have hh : X.A.in1.handled = none := I.ok.hd hc
    have ltz : z < s.heap.objs.size := Heap.lt_size hz
    refine wpAny_pyNext_zipD2_item (sep_tl D) (Draws.tuple hh i1 a D.l1i1 its.toArray) (Draws.list hh i2 b D.l2i2 its2.toArray) hz hTI hTO ⟨h1, tup⟩ ⟨h2, p2.isList⟩ li li2 fun v1 v2 h3 tk y1 y2 z3 TO3 st1 st2 new sz kept => ?_
    have ev1 : v1 = u := by
      have q : its.toArray[i]? = some u := by simpa using hu
      rw [q] at y1; exact (Option.some.inj y1).symm
    have ev2 : v2 = u2 := by
      have q : its2.toArray[i]? = some u2 := by simpa using hu2
      rw [q] at y2; exact (Option.some.inj y2).symm
    subst ev1 ev2
    refine ⟨_, rfl, wpAny_letOwnedTupleGo_zip (s := { s with heap := h3, toks := tk }) z3 fun h4 z4 sb => ?_⟩
    have new4 := (sb.2 _ (Nat.ne_of_gt ltz)).trans new
    have ob : ObjOk X.prog X.w (upd H s.heap.objs.size (.tup [x, y])) h4 s.heap.objs.size (.tup [x, y]) :=
      ⟨by show 2 ≤ sizeLine; decide, [v1, v2], .cons ru (.cons ru2 .nil), ⟨_, new4, rfl, _, rfl⟩⟩
    have J : Inv X pins σ (upd H s.heap.objs.size (.tup [x, y])) { s with heap := h4, toks := tk } :=
      I.turnedNew (ch := [z, TI, TO, i1, i2]) (fun c o nb q => (sb.2 c fun e => nb (by simp [e])).trans (kept c o (fun e => nb (by simp [e])) (fun e => nb (by simp [e])) (fun e => nb (by simp [e])) (fun e => nb (by simp [e])) q)) hf (Nat.le_refl _) ob
    refine ⟨.ref s.heap.objs.size, _, J, rfl, ⟨_, x, y, rfl, I.hok.fresh (Nat.le_refl _), rfl, fun l hl => by rw [I.tuple_inj hl qx]; exact hx, fun l hl => by rw [I.list_inj hl qy]; exact hy⟩, ⟨z4, ?_, ⟨v1, v2, ?_⟩, ?_, ?_⟩, fun c hm => ?_⟩
    · exact (sb.2 _ D.TIz).trans (kept _ _ D.TIz D.TITO D.TIi1 D.TIi2 hTI)
    · exact (sb.2 _ D.TOz).trans TO3
    · exact st1.1.at fun o q => (sb.2 _ D.i1z).trans q
    · exact st2.1.at fun o q => (sb.2 _ D.i2z).trans q
    · have lt : c < s.heap.objs.size := by
        have hm2 := hm
        simp only [List.mem_cons, List.not_mem_nil, or_false] at hm2
        rcases hm2 with rfl | rfl | rfl | rfl | rfl
        · exact ltz
        · exact Heap.lt_size hTI
        · exact Heap.lt_size hTO
        · obtain ⟨_, e1, _⟩ := h1; exact Heap.lt_size e1
        · obtain ⟨_, e2, _⟩ := h2; exact Heap.lt_size e2
      rw [upd_ne (Nat.ne_of_lt lt)]
      exact (hf c hm).1
  done := by
    intro X hP hw hK hc i pins s σ H E I hf ⟨hz, hTI, ⟨x0, y0, hTO⟩, h1, h2⟩ ⟨xs, ys, qx, qy, e1, e2⟩
    subst hP hw hK
    obtain ⟨its, rv, p, _⟩ := I.tuple qx
    obtain ⟨its2, rv2, p2, _⟩ := I.list qy
    have tup : s.heap.IsTuple a its.toArray := p
    have n1 : i = its.toArray.size := by rw [List.size_toArray, ← rv.length]; exact e1.symm
    have n2 : i = its2.toArray.size := by rw [List.size_toArray, ← rv2.length]; exact e2.symm
    have hh : X.A.in1.handled = none := I.ok.hd hc
    exact wpAny_pyNext_zipD2_end (sep_tl D) (Draws.tuple hh i1 a D.l1i1 its.toArray) (Draws.list hh i2 b D.l2i2 its2.toArray) hz hTI hTO ⟨h1, tup⟩ ⟨h2, p2.isList⟩ (Nat.le_of_eq n1) (Nat.le_of_eq n2) (.inl n1) fun h3 tk kept =>
      ⟨rfl, I.turnedL (ch := [z, TI, TO, i1, i2]) (fun c o nb q => kept c o (fun e => nb (by simp [e])) (fun e => nb (by simp [e])) (fun e => nb (by simp [e])) (fun e => nb (by simp [e])) q) hf⟩
  self := fun A i s Q E st h => wpAny_pyIter_zip st.1 h
def iZipTL (K : PySem.W.Frag) (ta : TA) : TI := fun σ H R => ta σ H fun vs H1 => ∃ a b xs ys, vs = [.ref a, .ref b] ∧ SqT K H1 a xs ∧ SqL K H1 b ys ∧ R (ItzTL K a b) H1
theorem pi_zipTL {X : Cx} {e e2 : Expr} {ta : TA} {p pos tpos : Pos} {elts : List Expr} {kk : Nat} (hg : Gl X "zip") (hm : X.mg "zip" = none) (ha : PA X [e, e2] ta)
    (hs : starEach [e, e2] X.env = (false, eval e X.env) :: starEach [e2] X.env := by rfl) (hpl : (backTo pos (starEach [e2] X.env)).any (·.1) = false := by rfl) :
    PI X (.Tuple elts kk tpos) (.Call (.Name "zip" p) [e, e2] [] pos) (iZipTL X.K ta) := by
  constructor
  intro pins s σ H R I want
  refine Call_ (ld_blt I hg hm PyProof.Rows.boot_zip (PyProof.Rows.callWith_type1 (thn (ha.run pos pins s σ H _ I want) ?_) hs hpl))
  rintro us s1 ⟨vs, H1, J, rel, a, b, xs, ys, rfl, qx, qy, q⟩
  obtain ⟨u1, u2, rfl, r1, r2⟩ := vals2 rel
  cases r1
  cases r2
  obtain ⟨its, rv, p1, _⟩ := J.tuple qx
  obtain ⟨its2, rv2, p2, _⟩ := J.list qy
  have la : a < s1.heap.objs.size := let ⟨_, g, _⟩ := p1; Heap.lt_size g
  refine zip_begins2 (begins_tuple a its.toArray) (begins_list b its2.toArray) p1 p2.isList fun h' hz hTI hTO g1 g2 sz keep => wpAny_pyIter_zip hz ?_
  have J2 : Inv X pins σ H1 { s1 with heap := h' } := J.kept (t' := s1.toks) keep
  refine ⟨s1.heap.objs.size + 4, [s1.heap.objs.size + 4, s1.heap.objs.size + 2, s1.heap.objs.size + 3, s1.heap.objs.size, s1.heap.objs.size + 1], _, _, H1, rfl, J2, turn_zipTL (PySem.W.ktu_apart s1.heap.objs.size a b la p2.lt),
    ⟨hz, hTI, ⟨_, _, hTO⟩, ⟨_, g1, rfl, rfl⟩, ⟨_, g2, rfl, rfl⟩⟩, fun c hc => ?_, q⟩
  have le : s1.heap.objs.size ≤ c := by
    simp only [List.mem_cons, List.not_mem_nil, or_false] at hc
    rcases hc with rfl | rfl | rfl | rfl | rfl <;> first | exact Nat.le_add_right _ _ | exact Nat.le_refl _
  exact J.fpOk le (J.hok.fresh le)
theorem walk_zipTL {K : PySem.W.Frag} {a b : Addr} {xs ys : List V} (hl : xs.length = ys.length) : Walk (ItzTL K a b) xs.length (fun H => SqT K H a xs ∧ SqL K H b ys) (YPair (fun i => xs[i]?) (fun i => ys[i]?)) := by
  refine ⟨fun i _ hi q => ⟨xs, ys, xs[i], ys[i]'(by omega), q.1, q.2, by simp [hi], by simp [show i < ys.length by omega]⟩, fun _ q => ⟨xs, ys, q.1, q.2, rfl, hl.symm⟩, fun i H v H' _ q y => ?_⟩
  obtain ⟨T, x, y2, h1, h2, h3, h4, h5⟩ := y
  exact ⟨T, x, y2, h1, h2, h3, h4 xs q.1, h5 ys q.2⟩
end LT

namespace LG
open PySem PySem.Spec PyProof.Rows L2
section
variable {X : Cx}
/-- repr of a bool -/
theorem call_repr_bl : CallR X (.builtin "repr") (fun xs H Q => ∃ b : Bool, xs = [.bl b] ∧ Q (.str (if b then "True" else "False")) H) := by
  intro pins s σ H xs us Q I r h
  obtain ⟨b, rfl, q⟩ := h
  obtain ⟨u, rfl, ru⟩ := vals1 r
  cases ru
  exact PySem.P.repr_of_bool ⟨.str _, H, I.tok _, ⟨_, rfl⟩, q⟩
/-- repr of data: lists, tuples, ints, bools -/
def rReprA (K : PySem.W.Frag) : List V → Hp → VK → Prop := fun xs H Q => (∃ b : Bool, xs = [.bl b] ∧ Q (.str (if b then "True" else "False")) H) ∨ (∃ i : Int, xs = [.int i] ∧ i.natAbs.log2 < 1920 ∧ Q (.str (toString i)) H) ∨ rRepr K xs H Q
theorem call_reprA (hgd : X.A.guards = some []) (hu : X.A.units + 66 < cLine) : CallR X (.builtin "repr") (rReprA X.K) := by
  intro pins s σ H xs us Q I r h
  rcases h with h | h | h
  · exact call_repr_bl pins s σ H xs us Q I r h
  · exact SkE.call_repr_int pins s σ H xs us Q I r h
  · exact call_repr hgd hu pins s σ H xs us Q I r h
end
end LG

/-! what the laws share: tests, values, the bag, lists or tuples -/
namespace LP
open PySem L2 LT LG
theorem iteD {c A B : Prop} [Decidable c] (hc : c) (h : A) : if decide c = true then A else B := by
  rw [if_pos (decide_eq_true hc)]; exact h
theorem iteX {c A B : Prop} [Decidable c] (hc : ¬ c) (h : B) : if decide c = true then A else B := by
  rw [if_neg (by rw [decide_eq_false hc]; exact Bool.false_ne_true)]; exact h
theorem iteNX {c A B : Prop} [Decidable c] (hc : ¬ c) (h : A) : if (!decide c) = true then A else B := by
  rw [decide_eq_false hc]; exact iteT h
theorem ite2d {c A B : Prop} [Decidable c] (h1 : c → A) (h2 : ¬ c → B) : if decide c = true then A else B := by
  by_cases h : c
  · exact iteD h (h1 h)
  · exact iteX h (h2 h)
theorem iteNB {b : Bool} {A B : Prop} (hb : b = true) (h : B) : if (!b) = true then A else B := by
  subst hb; exact iteF h
theorem iteNF {b : Bool} {A B : Prop} (hb : b = false) (h : A) : if (!b) = true then A else B := by
  subst hb; exact iteT h
theorem iteB {b : Bool} {A B : Prop} (hb : b = true) (h : A) : if b = true then A else B := by
  subst hb; exact iteT h
theorem iteBF {b : Bool} {A B : Prop} (hb : b = false) (h : B) : if b = true then A else B := by
  subst hb; exact iteF h
theorem idx_before {α : Type} [BEq α] [LawfulBEq α] {a : α} : ∀ {l : List α} {m : Nat}, m < l.idxOf a → l[m]? ≠ some a
  | [], m, h => by simp at h
  | b :: r, 0, h => by
    intro e
    have e1 : b = a := Option.some.inj e
    subst e1
    rw [List.idxOf_cons] at h
    simp at h
  | b :: r, m + 1, h => by
    rw [List.idxOf_cons] at h
    by_cases q : (b == a) = true
    · simp [q] at h
    · rw [Bool.not_eq_true] at q
      rw [q] at h
      have h' : m + 1 < r.idxOf a + 1 := h
      exact idx_before (l := r) (m := m) (by omega)
theorem idx_get {α : Type} [BEq α] [LawfulBEq α] {a : α} {l : List α} (h : a ∈ l) : l[l.idxOf a]? = some a := by
  have h1 := List.idxOf_lt_length_iff.mpr h
  rw [List.getElem?_eq_getElem h1]
  have h2 := List.findIdx_getElem (p := (· == a)) (xs := l) (w := h1)
  exact congrArg some (eq_of_beq h2)

theorem same_upd {H : Hp} {p : Addr} {o : HO} (h : H p = Option.none) : Same H (upd H p o) := fun b x e => by rw [upd_ne (ne_of_none e h)]; exact e
/-- all but the bag at b is as it was -/
def Fr (H H' : Hp) (b : Addr) : Prop := ∀ a o, H a = some o → a ≠ b → H' a = some o
theorem Fr.refl (H : Hp) (b : Addr) : Fr H H b := fun _ _ h _ => h
theorem Fr.trans {H H1 H2 : Hp} {b : Addr} (a : Fr H H1 b) (c : Fr H1 H2 b) : Fr H H2 b := fun x o h n => c x o (a x o h n) n
theorem Fr.of {H H' : Hp} {b : Addr} (s : Same H H') : Fr H H' b := fun a o h _ => s a o h
theorem Fr.free {H H' : Hp} {b l : Addr} (e : Fr H H' b) (hb : ∃ o, H b = some o) (h : H' l = Option.none) (h' : ∃ o, H' b = some o) : H l = Option.none := by
  cases q : H l with
  | none => rfl
  | some o =>
    by_cases hl : l = b
    · subst hl; obtain ⟨o', h'⟩ := h'; rw [h'] at h; cases h
    · rw [e l o q hl] at h; cases h
abbrev M61 : Int := 2305843009213693951
/-- the bag: the script's copy at l, the place in it, the rest of a large cell, the number of draws (at most d), the script's sum -/
structure Bag (H : Hp) (b l : Addr) (ns : List Int) (d : Nat) : Prop where
  ex : ∃ i c k t : Int, H b = some (.lst [.ref l, .int i, .int c, .int k, .int t]) ∧ 0 ≤ i ∧ i ≤ ns.length ∧ 0 ≤ k ∧ k ≤ d ∧ 0 ≤ t ∧ t < M61
  ls : H l = some (.lst (ns.map V.int))
  ne : l ≠ b
theorem Bag.mono {H : Hp} {b l : Addr} {ns : List Int} {d d' : Nat} (g : Bag H b l ns d) (h : d ≤ d') : Bag H b l ns d' := by
  obtain ⟨⟨i, c, k, t, h1, h2, h3, h4, h5, h6⟩, ls, ne⟩ := g
  exact ⟨⟨i, c, k, t, h1, h2, h3, h4, by omega, h6⟩, ls, ne⟩
theorem Bag.same {H H' : Hp} {b l : Addr} {ns : List Int} {d : Nat} (g : Bag H b l ns d) (s : Same H H') : Bag H' b l ns d := by
  obtain ⟨⟨i, c, k, t, h1, h2⟩, ls, ne⟩ := g
  exact ⟨⟨i, c, k, t, s _ _ h1, h2⟩, s _ _ ls, ne⟩

theorem flat_ints (l : List Int) : (l.map V.int).all flatV = true := by
  rw [List.all_eq_true]; intro v hv; obtain ⟨i, _, rfl⟩ := List.mem_map.mp hv; rfl
theorem in_ints {p : Int} {l : List Int} : inV (.int p) (l.map V.int) = decide (p ∈ l) := by
  induction l with
  | nil => rfl
  | cons a r ih =>
    show (eqV (.int a) (.int p) || inV (.int p) (r.map V.int)) = _
    rw [ih]
    show ((a == p) || decide (p ∈ r)) = _
    by_cases h : a = p
    · subst h; simp
    · have h2 : ¬ p = a := fun q => h q.symm
      simp [h, h2]

theorem Bag.nb {H : Hp} {b l : Addr} {ns : List Int} {d : Nat} (g : Bag H b l ns d) : ∃ o, H b = some o := let ⟨⟨_, _, _, _, h, _⟩, _, _⟩ := g; ⟨_, h⟩
theorem Bag.ne_new {H : Hp} {b l p : Addr} {ns : List Int} {d : Nat} (g : Bag H b l ns d) (hp : H p = none) : p ≠ b := by
  obtain ⟨o, h⟩ := g.nb
  exact (ne_of_none h hp).symm
theorem Bag.l_ne {H : Hp} {b l p : Addr} {ns : List Int} {d : Nat} (g : Bag H b l ns d) (hp : H p = none) : l ≠ p := ne_of_none g.ls hp

section
variable (K : PySem.W.Frag)
def sp__law_bag : Sp := fun vs H Q _ => ∃ (a : Addr) (ns : List Int), vs = [.ref a] ∧ SqL K H a (ns.map V.int) ∧ ns.length ≤ 63 ∧ ∀ (H' : Hp) (b l : Addr), Same H H' → H b = none → H l = none → Bag H' b l ns 0 → Q (.ref b) H'
def sp__law_stir : Sp := fun vs H Q _ => ∃ x y : Int, vs = [.int x, .int y] ∧ 0 ≤ x ∧ x < M61 ∧ 0 ≤ y ∧ y < 2 ^ 40 ∧ ∀ r : Int, Q (.int r) H
def sp__law_draw : Sp := fun vs H Q _ => ∃ (b l : Addr) (ns : List Int) (d : Nat) (n : Int), vs = [.ref b, .int n] ∧ Bag H b l ns d ∧ 0 < n ∧ n.natAbs.log2 < 9000 ∧ d < 1000000 ∧ ns.length ≤ 63 ∧
  ∀ (H' : Hp) (r : Int), 0 ≤ r → r < n → Bag H' b l ns (d + 1) → Fr H H' b → Q (.int r) H'


end
/-- what len asks of a list or a tuple -/
def rLenS (K : PySem.W.Frag) : List V → Hp → VK → Prop := fun vs H Q => ∃ a xs, vs = [.ref a] ∧ (SqL K H a xs ∨ SqT K H a xs) ∧ Q (.int xs.length) H
theorem u1 {k : Nat} {A : Around} (r : Room k A) : A.units + 1 < cLine := by have := r.un; omega
theorem u66 {k : Nat} {A : Around} (r : Room k A) : A.units + 66 < cLine := by have := r.un; omega
theorem ixN_at {n j : Nat} (h : j < n) : ixN n (j : Int) = some j := by
  unfold ixN; rw [if_pos (by omega), if_pos (by omega)]; congr 1
/-- a list or a tuple -/
def SqE (K : PySem.W.Frag) (H : Hp) (a : Addr) (xs : List V) : Prop := SqL K H a xs ∨ SqT K H a xs
theorem same_tup {K : PySem.W.Frag} {H H' : Hp} {a : Addr} {xs : List V} (e : Same H H') (h : SqT K H a xs) : SqT K H' a xs := by
  rcases h with (h | ⟨o, h⟩) | h
  · exact .inl (.inl (e _ _ h))
  · exact .inl (.inr ⟨o, e _ _ h⟩)
  · exact .inr h
theorem SqE.same {K : PySem.W.Frag} {H H' : Hp} {a : Addr} {xs : List V} (h : SqE K H a xs) (e : Same H H') : SqE K H' a xs := h.imp e.seq (same_tup e)
theorem SqE.l {K : PySem.W.Frag} {H : Hp} {a : Addr} {xs : List V} (h : H a = some (.lst xs)) : SqE K H a xs := .inl (SqL.of h)
theorem SqE.t {K : PySem.W.Frag} {H : Hp} {a : Addr} {xs : List V} (h : H a = some (.tup xs)) : SqE K H a xs := .inr (SqT.of h)
theorem rd_ix {K : PySem.W.Frag} {H : Hp} {a : Addr} {Q : VK} {xs : List V} {j : Nat} {v : V} {z : Int} (h : SqL K H a xs) (e : xs[j]? = some v) (hz : z = (j : Int)) (q : Q v H) : rIxL K (.ref a) (.int z) H Q :=
  ⟨a, xs, z, v, rfl, rfl, h, at_of hz e, q⟩
theorem int_at {ns : List Int} {j : Nat} {x : Int} (h : ns[j]? = some x) : (ns.map V.int)[j]? = some (V.int x) := by rw [List.getElem?_map, h]; rfl
theorem at_int {ns : List Int} {j : Nat} {v : V} (h : (ns.map V.int)[j]? = some v) : ∃ x, ns[j]? = some x ∧ v = .int x := by
  rw [List.getElem?_map] at h
  cases q : ns[j]? with
  | none => rw [q] at h; cases h
  | some x => rw [q] at h; cases h; exact ⟨x, rfl, rfl⟩
/-! a walk over a list or a tuple: one turn for both -/
theorem or_E {K : PySem.W.Frag} {H : Hp} {a : Addr} {xs : List V} {σ : St} {i : Nat} {R : It → Hp → Prop} (hE : SqE K H a xs) (hv : σ[i]? = some (some (.ref a))) (k : ∀ (J : It) (G : Hp → Prop), Walk J xs.length G (YAt xs) → (∀ H', Same H H' → G H') → R J H) :
    iList K (tVar i) σ H R ∨ iTup K (tVar i) σ H R := by
  rcases hE with h | h
  · exact .inl ⟨_, hv, a, rfl, ⟨_, h⟩, k _ _ walk_list fun H' s => s.seq h⟩
  · exact .inr ⟨_, hv, a, rfl, ⟨_, h⟩, k _ _ walk_tup fun H' s => same_tup s h⟩
theorem or_enumE {K : PySem.W.Frag} {H : Hp} {a : Addr} {xs : List V} {σ : St} {R : It → Hp → Prop} {ta : TA} (hE : SqE K H a xs) (hv : ∀ Q : List V → Hp → Prop, Q [.ref a] H → ta σ H Q)
    (k : ∀ (J : It) (G : Hp → Prop), Walk J xs.length G (YPair (fun i => some (.int (i : Nat))) (fun i => xs[i]?)) → (∀ H', Same H H' → G H') → R J H) :
    iEnum K ta σ H R ∨ iEnumT K ta σ H R := by
  rcases hE with h | h
  · exact .inl (hv _ ⟨a, xs, rfl, h, k _ _ walk_enum fun H' s => s.seq h⟩)
  · exact .inr (hv _ ⟨a, xs, rfl, h, k _ _ walk_enumT fun H' s => same_tup s h⟩)
theorem or_zipE {K : PySem.W.Frag} {H : Hp} {a : Addr} {xs ys : List V} {σ : St} {R : It → Hp → Prop} {ta : TA} (hE : SqE K H a xs) (hl : xs.length = ys.length)
    (hv : ∀ Q : List V → Hp → Prop, (∀ H1 p, Same H H1 → H p = none → H1 p = some (.lst ys) → Q [.ref a, .ref p] H1) → ta σ H Q)
    (k : ∀ (H1 : Hp) (p : Addr) (J : It) (G : Hp → Prop), Same H H1 → H p = none → H1 p = some (.lst ys) → Walk J xs.length G (YPair (fun i => xs[i]?) (fun i => ys[i]?)) → (∀ H', Same H1 H' → G H') → R J H1) :
    iZip K ta σ H R ∨ iZipTL K ta σ H R := by
  rcases hE with h | h
  · exact .inl (hv _ fun H1 p s np hp => ⟨a, p, xs, ys, rfl, s.seq h, SqL.of hp, k _ p _ _ s np hp (walk_zip (by omega)) fun H' t => ⟨t.seq (s.seq h), SqL.of (t _ _ hp)⟩⟩)
  · exact .inr (hv _ fun H1 p s np hp => ⟨a, p, xs, ys, rfl, same_tup s h, SqL.of hp, k _ p _ _ s np hp (walk_zipTL hl) fun H' t => ⟨same_tup t (same_tup s h), SqL.of (t _ _ hp)⟩⟩)
theorem ty_E {K : PySem.W.Frag} {H : Hp} {a : Addr} {xs : List V} (h : SqE K H a xs) : TyX K H (.ref a) (.type "list") ∨ TyX K H (.ref a) (.type "tuple") := by
  rcases h with ((h | ⟨o, h⟩) | ⟨dd, its, n, h1, h2⟩) | ((h | ⟨o, h⟩) | ⟨dd, its, n, h1, h2⟩)
  · exact .inl (.base (.lst h))
  · exact .inl (.base (.frz h))
  · exact .inl (.kList h1 h2.1)
  · exact .inr (.base (.tup h))
  · exact .inr (.fTuple h)
  · exact .inr (.kTuple h1 h2.1)
theorem kit_lt {K : PySem.W.Frag} : PySem.W.kitAny K (.type "list") [.type "list", .type "tuple"] = some true := kitAny_cons (b := true) (kit_ty (by decide +kernel)) (fun z => nomatch z) fun _ => rfl
theorem kit_tt {K : PySem.W.Frag} : PySem.W.kitAny K (.type "tuple") [.type "list", .type "tuple"] = some true := kitAny_cons (b := false) (kit_ty (by decide +kernel)) (fun _ => kitAny_cons (b := true) (kit_ty (by decide +kernel)) (fun z => nomatch z) fun _ => rfl) fun z => nomatch z
/-! patterns as texts -/
def sgn (b : Bool) : Nat := if b = true then 84 else 82
def pstr (l : List Bool) : Str := ⟨(l.map sgn).toArray⟩
theorem pstr_nil : pstr [] = ("" : Str) := by decide +kernel
theorem pstr_T (l : List Bool) : pstr l ++ ("T" : Str) = pstr (l ++ [true]) := by
  show (⟨(l.map sgn).toArray ++ ("T" : Str).cps⟩ : Str) = _
  rw [show ("T" : Str).cps = #[84] by decide +kernel]
  simp [pstr, sgn]
theorem pstr_R (l : List Bool) : pstr l ++ ("R" : Str) = pstr (l ++ [false]) := by
  show (⟨(l.map sgn).toArray ++ ("R" : Str).cps⟩ : Str) = _
  rw [show ("R" : Str).cps = #[82] by decide +kernel]
  simp [pstr, sgn]
theorem pstr_size (l : List Bool) : (pstr l).cps.size = l.length := by simp [pstr]
theorem pstr_at {l : List Bool} {i c : Nat} (h : (pstr l).cps[i]? = some c) : ∃ b, l[i]? = some b ∧ c = sgn b := by
  simp only [pstr, List.getElem?_toArray, List.getElem?_map] at h
  cases q : l[i]? with
  | none => rw [q] at h; cases h
  | some b => rw [q] at h; cases h; exact ⟨b, rfl, rfl⟩
theorem sgnT : (⟨#[sgn true]⟩ : Str) = ("T" : Str) := by decide +kernel
theorem sgnR : (⟨#[sgn false]⟩ : Str) = ("R" : Str) := by decide +kernel
theorem R_ne_T : ¬ ((⟨#[sgn false]⟩ : Str) = ("T" : Str)) := by decide +kernel
theorem vsT : V.str ⟨#[sgn true]⟩ = V.str "T" := congrArg V.str sgnT
theorem vsR : ¬ (V.str ⟨#[sgn false]⟩ = V.str "T") := fun h => R_ne_T (V.str.inj h)
theorem vsRR : V.str ⟨#[sgn false]⟩ = V.str "R" := congrArg V.str sgnR
theorem count_T (l : List Bool) : Txt.count (pstr l) ("T" : Str) = ((l.count true : Nat) : Int) := by
  rw [show ("T" : Str) = ⟨#[84]⟩ by decide +kernel, PyProof.Rows.count_cnt]
  show PyProof.Rows.cnt 84 (l.map sgn).toArray.toList = _
  rw [List.toList_toArray]
  induction l with
  | nil => rfl
  | cons b r ih =>
    rw [List.map_cons, PyProof.Rows.cnt_cons, ih]
    cases b with
    | true => rw [if_pos (by decide)]; simp; omega
    | false => rw [if_neg (by decide)]; simp
/-! dicts by place -/
def numK (ns : List Int) : List (Key × V) := ns.zipIdx.map fun p => (.inl p.1, .int (p.2 : Nat))
theorem numK_len (ns : List Int) : (numK ns).length = ns.length := by simp [numK]
theorem putK_new {kvs : List (Key × V)} {k : Key} {v : V} (h : ∀ q ∈ kvs, q.1 ≠ k) : putK kvs k v = kvs ++ [(k, v)] := by
  unfold putK
  rw [if_neg]
  intro q
  obtain ⟨x, hx, e⟩ := List.any_eq_true.mp q
  exact h x hx (of_decide_eq_true e)
theorem numK_snoc (ns : List Int) (x : Int) : numK (ns ++ [x]) = numK ns ++ [(.inl x, .int (ns.length : Nat))] := by
  unfold numK
  rw [List.zipIdx_append]
  simp
theorem numK_put {ns : List Int} {x : Int} (h : x ∉ ns) : putK (numK ns) (.inl x) (.int (ns.length : Nat)) = numK (ns ++ [x]) := by
  rw [numK_snoc, putK_new]
  intro q hq e
  obtain ⟨⟨a, i⟩, hp, rfl⟩ := List.mem_map.mp hq
  cases e
  exact h (List.mem_of_getElem? (List.mem_zipIdx_iff_getElem?.mp hp))
theorem numK_val {ns : List Int} (nd : ns.Nodup) {j : Nat} {x : Int} (h : ns[j]? = some x) : valV (numK ns) (.inl x) = some (.int (j : Nat)) := by
  unfold valV
  have key : (numK ns).find? (fun kv => decide (kv.1 = Sum.inl x)) = some (.inl x, .int (j : Nat)) := by
    obtain ⟨hj, e⟩ := List.getElem?_eq_some_iff.mp h
    rw [List.find?_eq_some_iff_getElem]
    refine ⟨decide_eq_true rfl, j, by rw [numK_len]; exact hj, ?_, fun m hm => ?_⟩
    · simp [numK, e]
    · have hm2 : m < ns.length := by omega
      have e2 : ((numK ns)[m]'(by rw [numK_len]; omega)).1 = Sum.inl ns[m] := by simp [numK]
      rw [e2, decide_eq_false]
      · rfl
      · intro z
        cases z
        exact Nat.ne_of_lt hm ((List.getElem_inj nd).mp e.symm)
  rw [key]; rfl

theorem seq_int {n : Nat} {z : Int} (h0 : 0 ≤ z) (h : z.toNat < n) : seqIndex? z n = some z.toNat := by
  unfold seqIndex?
  have e : (if z < 0 then z + (n : Int) else z) = z := if_neg (by omega)
  simp only [e]
  rw [if_pos (by rw [Bool.and_eq_true, decide_eq_true_iff, decide_eq_true_iff]; omega)]
theorem ixN_int {n : Nat} {z : Int} (h0 : 0 ≤ z) (h : z.toNat < n) : ixN n z = some z.toNat := by
  unfold ixN
  rw [if_pos h0, if_pos (by omega)]
theorem log_small {n : Nat} (h : n < 1024) : ((n : Int)).natAbs.log2 < 9000 := by
  rw [Int.natAbs_natCast]
  by_cases h0 : n = 0
  · subst h0; decide
  · exact Nat.lt_trans ((Nat.log2_lt h0).mpr (show n < 2 ^ 10 from h)) (by decide)
theorem erase_map {α β : Type} (f : α → β) : ∀ (l : List α) (k : Nat), (l.map f).eraseIdx k = (l.eraseIdx k).map f
  | [], _ => rfl
  | _ :: _, 0 => rfl
  | a :: r, k + 1 => by
    show f a :: (r.map f).eraseIdx k = f a :: (r.eraseIdx k).map f
    rw [erase_map f r k]
end LP

/-! the draws of the laws with a reel -/
namespace LP
open PySem L2
abbrev M127 : Int := 2 ^ 140
theorem log_m {t : Int} (h0 : 0 ≤ t) (h1 : t < 2 ^ 140) : t.natAbs.log2 < 200 := by
  by_cases z : t.natAbs = 0
  · rw [z]; decide
  · exact Nat.lt_trans ((Nat.log2_lt z).mpr (show t.natAbs < 2 ^ 140 by omega)) (by decide)
structure Reel (H : Hp) (b : Addr) (d : Nat) : Prop where
  ex : ∃ (g c : Addr) (gs cs : List Int) (k t : Int), H b = some (.lst [.ref g, .ref c, .int k, .int t]) ∧ H g = some (.lst (gs.map V.int)) ∧ H c = some (.lst (cs.map V.int)) ∧ g ≠ b ∧ c ≠ b ∧ 0 < cs.length ∧ cs.length ≤ 64 ∧ gs.length ≤ 63 ∧ (∀ x ∈ cs, 0 ≤ x ∧ x < 1000003) ∧ 0 ≤ k ∧ k ≤ d ∧ 0 ≤ t ∧ t < M127
theorem Reel.mono {H : Hp} {b : Addr} {d d' : Nat} (r : Reel H b d) (h : d ≤ d') : Reel H b d' := by
  obtain ⟨g, c, gs, cs, k, t, a1, a2, a3, a4, a5, a6, a7, a8, a9, a10, a11, a12⟩ := r.ex
  exact ⟨⟨g, c, gs, cs, k, t, a1, a2, a3, a4, a5, a6, a7, a8, a9, a10, by omega, a12⟩⟩
theorem Reel.same {H H' : Hp} {b : Addr} {d : Nat} (r : Reel H b d) (s : Same H H') : Reel H' b d := by
  obtain ⟨g, c, gs, cs, k, t, a1, a2, a3, a4⟩ := r.ex
  exact ⟨⟨g, c, gs, cs, k, t, s _ _ a1, s _ _ a2, s _ _ a3, a4⟩⟩
theorem Reel.nb {H : Hp} {b : Addr} {d : Nat} (r : Reel H b d) : ∃ o, H b = some o := let ⟨_, _, _, _, _, _, h, _⟩ := r.ex; ⟨_, h⟩
theorem Reel.ne_new {H : Hp} {b p : Addr} {d : Nat} (r : Reel H b d) (hp : H p = none) : p ≠ b := by
  obtain ⟨o, h⟩ := r.nb
  exact (ne_of_none h hp).symm
/-- an address that is no part of the reel at b -/
def Apart (H : Hp) (b a : Addr) : Prop := a ≠ b ∧ ∀ xs, H b = some (.lst xs) → V.ref a ∉ xs
theorem Reel.new {H : Hp} {b p : Addr} {d : Nat} (r : Reel H b d) (hp : H p = none) : Apart H b p := by
  refine ⟨r.ne_new hp, fun xs hx hm => ?_⟩
  obtain ⟨g, c, gs, cs, k, t, a1, a2, a3, _⟩ := r.ex
  rw [a1] at hx; cases hx
  simp at hm
  rcases hm with rfl | rfl
  · rw [hp] at a2; cases a2
  · rw [hp] at a3; cases a3
theorem Reel.upd {H : Hp} {b a : Addr} {d : Nat} {o : HO} (r : Reel H b d) (h : Apart H b a) : Reel (L2.upd H a o) b d := by
  obtain ⟨g, c, gs, cs, k, t, a1, a2, a3, a4⟩ := r.ex
  have n := h.2 _ a1
  have n1 : g ≠ a := fun e => n (by rw [e]; simp)
  have n2 : c ≠ a := fun e => n (by rw [e]; simp)
  exact ⟨⟨g, c, gs, cs, k, t, by rw [upd_ne (Ne.symm h.1)]; exact a1, by rw [upd_ne n1]; exact a2, by rw [upd_ne n2]; exact a3, a4⟩⟩
theorem Apart.upd {H : Hp} {b a c : Addr} {o : HO} (h : Apart H b a) (hc : c ≠ b) : Apart (L2.upd H c o) b a := ⟨h.1, fun xs hx => h.2 xs (by rw [upd_ne (Ne.symm hc)] at hx; exact hx)⟩
section
variable (K : PySem.W.Frag)
def sp__law_reel : Sp := fun vs H Q _ => ∃ (a : Addr) (ns : List Int), vs = [.ref a] ∧ SqL K H a (ns.map V.int) ∧ ns.length ≤ 63 ∧ ∀ (H' : Hp) (b : Addr), Same H H' → H b = none → Reel H' b 0 → Q (.ref b) H'
def sp__law_draw_r : Sp := fun vs H Q _ => ∃ (b : Addr) (d : Nat) (n : Int), vs = [.ref b, .int n] ∧ Reel H b d ∧ 0 < n ∧ n.natAbs.log2 < 9000 ∧ d < 1000000 ∧
  ∀ (H' : Hp) (r : Int), 0 ≤ r → r < n → Reel H' b (d + 1) → Fr H H' b → (∀ a, Apart H b a → H a ≠ none → Apart H' b a) → Q (.int r) H'
def sp__law_shuffled_r : Sp := fun vs H Q _ => ∃ (b : Addr) (d : Nat) (p : Addr) (xs : List Int), vs = [.ref b, .ref p] ∧ Reel H b d ∧ d < 900000 ∧ H p = some (.lst (xs.map V.int)) ∧ xs.length ≤ 400 ∧ p ≠ b ∧
  ∀ (H' : Hp) (q : Addr) (ys : List Int), Reel H' b (d + xs.length) → Fr H H' b → (∀ a, Apart H b a → H a ≠ none → Apart H' b a) → H q = none → ys.Perm xs → H' q = some (.lst (ys.map V.int)) → Apart H' b q → Q (.ref q) H'
end
end LP

namespace LX
open PySem PySem.Spec PyProof.Rows L2 LG
/-- repr, of None too -/
def rReprN (K : PySem.W.Frag) : List V → Hp → VK → Prop := fun xs H Q => (xs = [.non] ∧ Q (.str "None") H) ∨ rReprA K xs H Q
theorem call_reprN {X : Cx} (hgd : X.A.guards = some []) (hu : X.A.units + 66 < cLine) : CallR X (.builtin "repr") (rReprN X.K) := by
  intro pins s σ H xs us Q I r h
  rcases h with h | h
  · obtain ⟨rfl, q⟩ := h
    obtain ⟨u, rfl, ru⟩ := vals1 r
    cases ru
    exact PySem.P.repr_of_none ⟨.str _, H, I.tok _, ⟨_, rfl⟩, q⟩
  · exact call_reprA hgd hu pins s σ H xs us Q I r h
end LX

/-! xs[::e], e of 1 or -1 -/
namespace LX
open PySem PySem.Spec PyProof.Rows L2
section
variable {X : Cx}
def kStep (K : PySem.W.Frag) (x : V) (Q : VK) : Option Int → Hp → Prop := fun o H2 => ∃ a xs, x = .ref a ∧ (o = some 1 ∨ o = some (-1)) ∧ SqL K H2 a xs ∧ ∀ p, H2 p = none → Q (.ref p) (upd H2 p (.lst (if o = some 1 then xs else xs.reverse)))
def tStepL (K : PySem.W.Frag) (te tk : TE) : TE := fun σ H Q => te σ H fun x H1 => tPart tk σ H1 (kStep K x Q)
theorem pick_one (its : List Value) : slicePick its.toArray none none (some 1) = its.toArray := by
  have e : slicePick its.toArray none none (some 1) = slicePick its.toArray none none none := rfl
  rw [e, slicePick_cut, HT.sIx_none, HT.sIx_none]
  simp
theorem pe_stepL {e st : Expr} {te tk : TE} {p3 pos : Pos} (he : PE X e te) (hk : PE X st tk) : PE X (.Subscript e (.Slice none none (some st) p3) pos) (tStepL X.K te tk) := by
  refine ⟨fun pins s σ H Q I h => ?_⟩
  refine Subscript_ (thn (he.run pins s σ H _ I h) fun v s1 ⟨x, H1, I1, r1, q1⟩ => ?_)
  have hst : PO X (some st) (tPart tk) := po_some hk
  refine wpAny_Slice (thn (po_none.run pins s1 σ H1 (fun o H2 => o = none ∧ H2 = H1) I1 ⟨rfl, rfl⟩) fun vl s2 ⟨l, H2, I2, pl, el, e2⟩ => ?_)
  subst el e2
  refine thn (po_none.run pins s2 σ H2 (fun o H3 => o = none ∧ H3 = H2) I2 ⟨rfl, rfl⟩) fun vu s3 ⟨u, H3, I3, pu, eu, e3⟩ => ?_
  subst eu e3
  refine thn (hst.run pins s3 σ H3 _ I3 q1) fun vs s4 ⟨o, H4, I4, ps, a, xs, ex, eo, hx, q⟩ => ?_
  subst ex
  cases r1
  have I5 : Inv X pins σ H4 { s4 with heap := s4.heap.push { cls := .type "slice", data := .fields #[vl, vu, vs] } } := I4.kept (t' := s4.toks) fun b ob q => Heap.get?_push_of_some _ q
  obtain ⟨its, r, ht, hz⟩ := I5.list hx
  have hlen := r.length
  show wpAny (model X.prog X.w) X.A (subscriptTail e (.Slice none none (some st) p3) (.ref a) (.ref s4.heap.objs.size)) (EP X pins σ Q) X.xe { s4 with heap := s4.heap.push { cls := .type "slice", data := .fields #[vl, vu, vs] } }
  refine tail_any (ops := [.ref a, .ref s4.heap.objs.size]) ht.isList.typeIs (PySem.slot_list_getitem.lookup) ?_ (by with_unfolding_all rfl)
  rcases eo with rfl | rfl
  · refine wpAny_getItem_list_slice ht.isList (Heap.IsSliceOf.new _ vl vu vs) pl pu ps (by decide) ?_ (by rw [List.size_toArray]; omega)
    rw [pick_one]
    refine ⟨.ref _, _, I5.laid (t' := s4.toks) (o := .lst (if (some 1 : Option Int) = some 1 then xs else xs.reverse)) (fun b ob q => Heap.get?_push_of_some _ q) (Nat.le_refl _) ?_, rfl, q _ (I5.hok.fresh (Nat.le_refl _))⟩
    rw [if_pos rfl]
    exact ⟨hz, _, 0, r, Heap.get?_push_size _ rfl⟩
  · refine wpAny_getItem_list_slice ht.isList (Heap.IsSliceOf.new _ vl vu vs) pl pu ps (by decide) ?_ (by rw [List.size_toArray]; omega)
    rw [PySem.W.krv_pick]
    refine ⟨.ref _, _, I5.laid (t' := s4.toks) (o := .lst (if (some (-1) : Option Int) = some 1 then xs else xs.reverse)) (fun b ob q => Heap.get?_push_of_some _ q) (Nat.le_refl _) ?_, rfl, q _ (I5.hok.fresh (Nat.le_refl _))⟩
    rw [if_neg (by decide)]
    exact ⟨by rw [List.length_reverse]; exact hz, _, 0, r.reverse, Heap.get?_push_size _ rfl⟩
end
end LX

/-! own __len__ and own == of instances -/
namespace LX
open PySem PySem.Spec PyProof.Rows L2
section
variable {X : Cx} {CX : CXT} {k : Nat} {C g : Addr} {fd : FuncData} {ps : List Str} {sp : Sp} {E : XK}
/-- len(x), x an instance whose class has its own __len__ -/
def rLenOwn (C : Addr) (sp : Sp) (E : XK) : List V → Hp → VK → Prop := fun xs H Q => ∃ a dx fs, xs = [.ref a] ∧ H a = some (.ins C dx fs) ∧ sp [.ref a] H (fun z H' => ∃ i, z = .int i ∧ 0 ≤ i ∧ i < 2 ^ 63 ∧ Q z H') E
theorem call_lenOwn (M : Meth X.K C "__len__" g) (F : FnOk X.prog X.w X.K X.mg X.base CX k g fd ps sp) (hr : Room (k + 1) X.A) (hb : Binds X.K fd ps []) (hx : Passes CX X E) : CallR X (.builtin "len") (rLenOwn C sp E) := by
  intro pins s σ H xs us Q I r h
  obtain ⟨a, dx, fs, rfl, ha, q⟩ := h
  obtain ⟨u, rfl, ru⟩ := r.one
  cases (show u = Value.ref a from ru)
  obtain ⟨mA, J, _⟩ := ins_get I.hok ha
  obtain ⟨od, J, _⟩ := J.look
  obtain ⟨m, hF⟩ := I.fr
  have G := F.raw hb (.nil)
  have run := wpAny_call (SlX.run_at (Q := fun z H' => ∃ i, z = .int i ∧ 0 ≤ i ∧ i < 2 ^ 63 ∧ Q z H') (us := [.ref a]) (ws := [.ref a]) G hr.in1 I.env0.in1 hx I (.cons rfl .nil) q)
  refine PySem.W.len_K hF I.ok.mod.kin J M.at_ M.fn (wpAny_mono run (fun w s' z => ?_) fun _ _ x => x)
  obtain ⟨z', H', I', rz, i, ei, i0, i1, qz⟩ := z
  subst ei
  obtain ⟨t, e⟩ := (show ∃ t, w = Value.int i t from rz)
  cases e
  exact ⟨⟨i0, i1⟩, .int i, H', I'.tok _, ⟨_, rfl⟩, qz⟩
/-- x == y, x an instance whose class has its own ==, y no instance of a class below -/
def rEqOwn (K : PySem.W.Frag) (C : Addr) (sp : Sp) (E : XK) : R2 := fun x y H Q => ∃ a dx fs b dy gs, x = .ref a ∧ y = .ref b ∧ H a = some (.ins C dx fs) ∧ H b = some (.ins C dy gs) ∧ sp [x, y] H Q E
theorem op_eqOwn (M : Meth X.K C "__eq__" g) (F : FnOk X.prog X.w X.K X.mg X.base CX k g fd ps sp) (hr : Room k X.A) (hb : Binds X.K fd ps []) (hx : Passes CX X E) : OpR X (compareOp .Eq) (rEqOwn X.K C sp E) := by
  intro pins s σ H x y v u Q I rx ry h
  obtain ⟨a, dx, fs, b, dy, gs, rfl, rfl, ha, hb', q⟩ := h
  cases (show v = Value.ref a from rx)
  cases (show u = Value.ref b from ry)
  obtain ⟨mA, J, _⟩ := ins_get I.hok ha
  obtain ⟨mB, J', _⟩ := ins_get I.hok hb'
  obtain ⟨od, J, _⟩ := J.look
  obtain ⟨od', J', _⟩ := J'.look
  obtain ⟨m, hF⟩ := I.fr
  have G := F.raw hb (.nil)
  show wpAny (model X.prog X.w) X.A (richCompare .Eq (.ref a) (.ref b)) (EP X pins σ Q) X.xe s
  refine PySem.W.cmp_K (op := .Eq) (tb := .ref C) hr.units0 hF I.ok.mod.kin J J'.type (by simp [PySem.W.notFirst]) M.at_ M.fn ?_
  have run := wpAny_call (run_fnR (Q := Q) (us := [.ref a, .ref b]) (vs := [.ref a, .ref b]) G hr hx I (.cons rfl (.cons rfl .nil)) q)
  refine wpAny_mono run (fun w s' z => ?_) fun _ _ x => x
  obtain ⟨z', H', I', rz, qz⟩ := z
  exact SlX.cmpback rz ⟨z', H', I', rz, qz⟩
end
end LX

namespace LX
open PySem PySem.Spec PyProof.Rows L2
/-! ### a sign, n times -/
def repS (c : Nat) (n : Int) : Str := ⟨Array.replicate n.toNat c⟩
theorem rep_fold (c : Nat) : ∀ (k : Nat) (a : Array Nat), (List.replicate k #[c]).foldl (· ++ ·) a = a ++ Array.replicate k c
  | 0, a => by simp
  | k + 1, a => by
    rw [List.replicate_succ, List.foldl_cons, rep_fold c k]
    apply Array.toList_inj.mp
    simp [List.replicate_succ]
theorem op_mulS {X : Cx} : OpR X (binaryOp .Mult) (fun x y H Q => ∃ (c : Nat) (n : Int), x = .str ⟨#[c]⟩ ∧ y = .int n ∧ -1000 ≤ n ∧ n ≤ 1000 ∧ Q (.str (repS c n)) H) := by
  intro pins s σ H x y v u Q I rx ry h
  obtain ⟨c, n, rfl, rfl, h0, h1, q⟩ := h
  obtain ⟨t, rfl⟩ := rx
  obtain ⟨t', rfl⟩ := ry
  have el : (⟨#[c]⟩ : Str).length = 1 := rfl
  refine P.mul_str (by
      have a1 : ¬ n < -(2 ^ 63 : Int) := by omega
      have a2 : ¬ n ≥ 2 ^ 63 := by omega
      rw [decide_eq_false a1, decide_eq_false a2]; rfl) (fun g1 _ g3 => ?_) (fun g1 _ => ?_) ?_
  · rw [el] at g3
    have : (1 : Int) ≤ (2 ^ 63 - 1) / n := by
      rw [Int.le_ediv_iff_mul_le (by omega)]; omega
    have g4 : ((1 : Nat) : Int) > (2 ^ 63 - 1) / n := g3
    omega
  · rw [el]
    refine decide_eq_false ?_
    have : n.toNat ≤ 1000 := by omega
    intro q2
    have q3 : 1 * n.toNat > 1000 := Nat.lt_of_lt_of_le (by decide +kernel) (Nat.le_of_lt q2)
    omega
  · by_cases g1 : n < 1
    · rw [if_pos g1]
      have e : repS c n = Str.empty := by
        unfold repS
        rw [show n.toNat = 0 by omega]; rfl
      rw [e] at q
      exact ⟨by decide, ⟨.str Str.empty, H, I.tok _, ⟨_, rfl⟩, q⟩⟩
    · rw [if_neg g1]
      by_cases g2 : n = 1
      · subst g2
        rw [if_pos (by rfl)]
        exact ⟨.str ⟨#[c]⟩, H, I, ⟨_, rfl⟩, q⟩
      · rw [if_neg (by
          rw [el]
          have : (n == 1) = false := by rw [beq_eq_false_iff_ne]; exact g2
          rw [this]; decide)]
        have e : (⟨(List.replicate n.toNat (⟨#[c]⟩ : Str).cps).foldl (· ++ ·) #[]⟩ : Str) = repS c n := by
          unfold repS
          rw [show (⟨#[c]⟩ : Str).cps = #[c] from rfl, rep_fold]
          simp
        rw [e]
        refine ⟨?_, ⟨.str _, H, I.tok _, ⟨_, rfl⟩, q⟩⟩
        show (repS c n).length ≤ sizeLine
        show (Array.replicate n.toNat c).size ≤ sizeLine
        rw [Array.size_replicate]
        exact Nat.le_trans (show n.toNat ≤ 1000 by omega) (by decide +kernel)
end LX

namespace LX
open PySem PySem.Spec PyProof.Rows L2
/-! ### t[::-1] of a tuple -/
theorem applied_rev {prog : Program} {w : World} {A : Around} {E : Value → Shared → Prop} {s : Shared} {sl : Addr} {vl vu vs : Value} {n : Nat} {Q : Int × Int × Nat → Shared → Prop} (hs : s.heap.IsSliceOf sl vl vu vs) (pl : IsPart vl none) (pu : IsPart vu none) (ps : IsPart vs (some (-1)))
    (h : Q ((n : Int) - 1, -1, n) s) : wpAny (model prog w) A (Builtin.Slice.sliceApplied (.ref sl) (pure (n : Int))) Q E s := by
  obtain ⟨os, hos, hcs, hds⟩ := id hs
  unfold Builtin.Slice.sliceApplied Builtin.Slice.sliceFields
  refine wpAny_bind (wpAny_bind (wpAny_field hos hds (x := vl) rfl (wpAny_bind (wpAny_field hos hds (x := vu) rfl (wpAny_bind (wpAny_field hos hds (x := vs) rfl (wpAny_pure ?_)))))))
  refine wpAny_bind (HT.slicePart_ ps ?_)
  show wpAny _ _ (if ((-1 : Int) == 0) = true then _ else _) _ _ s
  rw [if_neg (by decide)]
  refine wpAny_bind (HT.slicePart_ pl (wpAny_bind (HT.slicePart_ pu (wpAny_bind (wpAny_pure ?_)))))
  show wpAny _ _ (match Builtin.Slice.sliceAdjust none none (-1) (n : Int) with | (lo, hi) => pure (lo, (-1 : Int), Builtin.Slice.slicePlaces lo hi (-1))) _ _ s
  have e : Builtin.Slice.sliceAdjust none none (-1) (n : Int) = ((n : Int) - 1, -1) := by
    unfold Builtin.Slice.sliceAdjust
    simp
  rw [e]
  have e2 : Builtin.Slice.slicePlaces ((n : Int) - 1) (-1) (-1) = n := by
    unfold Builtin.Slice.slicePlaces
    by_cases z : n = 0
    · subst z; rfl
    · rw [if_neg (by decide), if_pos (by omega), show (n : Int) - 1 - -1 - 1 = (n : Int) - 1 by omega, show (- -1 : Int) = 1 by decide, Int.ediv_one]
      omega
  show wpAny _ _ (pure ((n : Int) - 1, (-1 : Int), Builtin.Slice.slicePlaces ((n : Int) - 1) (-1) (-1))) _ _ s
  rw [e2]
  exact wpAny_pure h
theorem fmc {α β : Type} {f g : α → Option β} : ∀ {l : List α}, (∀ a ∈ l, f a = g a) → l.filterMap f = l.filterMap g
  | [], _ => rfl
  | a :: r, h => by rw [List.filterMap_cons, List.filterMap_cons, h a List.mem_cons_self, fmc fun b hb => h b (List.mem_cons_of_mem _ hb)]
theorem pick_rev (xs : Array Value) : ((List.range xs.size).filterMap fun (m : Nat) => xs[((xs.size : Int) - 1 + (m : Int) * (-1)).toNat]?).toArray = xs.toList.reverse.toArray := by
  have e := PySem.W.krv_pick xs
  unfold slicePick at e
  rw [PySem.W.krv_bounds] at e
  rw [← e]
  show _ = ((sliceRange ((xs.size : Int) - 1) (-1) (-1)).filterMap (xs[·]?)).toArray
  rw [PySem.W.krv_sliceRange, List.filterMap_map]
  congr 1
  refine fmc fun m hm => ?_
  have := List.mem_range.mp hm
  show _ = xs[xs.size - 1 - m]?
  congr 1
  omega
theorem getItem_tuple_rev {prog : Program} {w : World} {A : Around} {E : Value → Shared → Prop} {s : Shared} {t sl : Addr} {items : Array Value} {vl vu vs : Value} {Q : Value → Shared → Prop} (ht : IsTup s.heap t items) (hs : s.heap.IsSliceOf sl vl vu vs) (pl : IsPart vl none) (pu : IsPart vu none) (ps : IsPart vs (some (-1)))
    (h : Q (.ref s.heap.objs.size) { s with heap := s.heap.push { cls := .type "tuple", data := .seq items.toList.reverse.toArray } })
    (hsz : items.size ≤ sizeLine) : wpAny (model prog w) A (getItem (.ref t) (.ref sl)) Q E s := by
  have htake : sizeOk (.seq items.toList.reverse.toArray) := by
    show items.toList.reverse.toArray.size ≤ sizeLine
    rw [List.size_toArray, List.length_reverse, Array.length_toList]
    exact hsz
  obtain ⟨os, hos, hcs, hds⟩ := id hs
  have hTs : s.TypeIs (.ref sl) "slice" := ⟨os, hos, hcs⟩
  unfold getItem
  try with_reducible refine wpAny_holding ?_
  first | refine wpAny_bind (wpAny_pure ?_) | skip
  refine wpAny_bind (wpAny_sequenceKey ht.typeIs (by decide) ?_)
  refine wpAny_bind (wpAny_callSpecial?_slot (name := Str.ofString "__getitem__") ht.typeIs PyProof.Rows.slot_tuple_getitem
    (wpAny_call_entry PyProof.Rows.slot_tuple_getitem ht.typeIs PyProof.Rows.entry_tuple_getitem ?_ (PyProof.Rows.args_tuple_getitem _ _)))
  show wpAny _ _ (Builtin.Tuple.tupleItemsOf (.ref t) >>= _) _ _ s
  refine wpAny_bind (tupleItemsOf_ ht ?_)
  refine wpAny_bind (wpAny_typeOf hTs ?_)
  rw [if_pos (by decide)]
  refine wpAny_bind (applied_rev hs pl pu ps ?_)
  have hno : ¬ ((((items.size : Int) - 1) == 0 && (-1 : Int) == 1 && items.size == items.size) = true) := by
    intro q
    rw [Bool.and_eq_true, Bool.and_eq_true] at q
    exact absurd q.1.2 (by decide)
  show wpAny _ _ (if (((items.size : Int) - 1) == 0 && (-1 : Int) == 1 && items.size == items.size) = true then _ else _) _ _ s
  rw [if_neg hno, pick_rev]
  first
    | exact wpAny_bind (m := Builtin.Tuple.tupleExact _) (wpAny_newObj_type (wpAny_pure ⟨_, rfl, wpAny_pure h⟩) htake)
    | exact wpAny_bind (m := Builtin.Tuple.tupleExact _) (wpAny_newObj_type (wpAny_bind (wpAny_pure (wpAny_pure ⟨_, rfl, wpAny_pure h⟩))) htake)
    | exact wpAny_bind (wpAny_bind (m := Builtin.Tuple.tupleExact _) (wpAny_newObj_type (wpAny_pure (wpAny_pure ⟨_, rfl, wpAny_pure h⟩)) htake))
    | exact wpAny_bind (wpAny_bind (m := Builtin.Tuple.tupleExact _) (wpAny_newObj_type (wpAny_pure ⟨_, rfl, wpAny_pure h⟩) htake))
def tRevT (K : PySem.W.Frag) (te : TE) : TE := fun σ H Q => te σ H fun x H1 => ∃ a xs, x = .ref a ∧ SqT K H1 a xs ∧ ∀ p, H1 p = none → Q (.ref p) (upd H1 p (.tup xs.reverse))
theorem pe_revT {X : Cx} {e : Expr} {te : TE} {k : Nat} {p1 p2 p3 pos : Pos} (he : PE X e te) : PE X (.Subscript e (.Slice none none (some (.UnaryOp .USub (.Constant (.int 1) k p1) p2)) p3) pos) (tRevT X.K te) := by
  refine ⟨fun pins s σ H Q I h => ?_⟩
  refine Subscript_ (thn (he.run pins s σ H _ I h) fun v s1 ⟨x, H1, I1, r1, q1⟩ => ?_)
  obtain ⟨a, xs, ex, hx, q⟩ := q1
  subst ex
  cases r1
  have hst : PO X (some (.UnaryOp .USub (.Constant (.int 1) k p1) p2)) (tPart (tUn (rU fun i => .int (-i)) (tC (.int 1)))) := po_some (pe_un un_neg pe_int)
  refine wpAny_Slice (thn (po_none.run pins s1 σ H1 (fun o H2 => o = none ∧ H2 = H1) I1 ⟨rfl, rfl⟩) fun vl s2 ⟨l, H2, I2, pl, el, e2⟩ => ?_)
  subst el e2
  refine thn (po_none.run pins s2 σ H2 (fun o H3 => o = none ∧ H3 = H2) I2 ⟨rfl, rfl⟩) fun vu s3 ⟨u, H3, I3, pu, eu, e3⟩ => ?_
  subst eu e3
  refine thn (hst.run pins s3 σ H3 (fun o H4 => o = some (-1) ∧ H4 = H3) I3 ⟨1, rfl, -1, rfl, rfl, rfl⟩) fun vs s4 ⟨o, H4, I4, ps, eo, e4⟩ => ?_
  subst eo e4
  have I5 : Inv X pins σ H4 { s4 with heap := s4.heap.push { cls := .type "slice", data := .fields #[vl, vu, vs] } } := I4.kept (t' := s4.toks) fun b ob q => Heap.get?_push_of_some _ q
  obtain ⟨its, r, ht, hz⟩ := I5.tuple hx
  have hlen := r.length
  show wpAny (model X.prog X.w) X.A (subscriptTail e (.Slice none none (some (.UnaryOp .USub (.Constant (.int 1) k p1) p2)) p3) (.ref a) (.ref s4.heap.objs.size)) (EP X pins σ Q) X.xe { s4 with heap := s4.heap.push { cls := .type "slice", data := .fields #[vl, vu, vs] } }
  refine tail_any (ops := [.ref a, .ref s4.heap.objs.size]) ht.typeIs (PyProof.Rows.slot_tuple_getitem.lookup) ?_ (by with_unfolding_all rfl)
  refine getItem_tuple_rev ht (Heap.IsSliceOf.new _ vl vu vs) pl pu ps ?_ (by rw [List.size_toArray]; omega)
  refine ⟨.ref _, _, I5.laid (t' := s4.toks) (o := .tup xs.reverse) (fun b ob q => Heap.get?_push_of_some _ q) (Nat.le_refl _) ?_, rfl, q _ (I5.hok.fresh (Nat.le_refl _))⟩
  exact ⟨by rw [List.length_reverse]; exact hz, _, r.reverse, IsTup.new _ _⟩
/-! ### max(xs, default=d) of a list of ints -/
def rMaxDef (K : PySem.W.Frag) : List V → List V → Hp → VK → Prop := fun vs zs H Q => ∃ (a : Addr) (ns : List Int) (d : V), vs = [.ref a] ∧ zs = [d] ∧ SqL K H a (ns.map V.int) ∧ (ns = [] → Q d H) ∧ (ns ≠ [] → ∀ m, m ∈ ns → (∀ y ∈ ns, y ≤ m) → Q (.int m) H)
theorem cr_maxDef {X : Cx} (hc : X.calm = true) : CallRK X (.builtin "max") [Str.ofString "default"] (rMaxDef X.K) := by
  intro pins s σ H vs zs us ws Q I r rz h
  obtain ⟨a, ns, d, rfl, rfl, hs, q0, q1⟩ := h
  obtain rfl := Vals.ref1 r
  obtain ⟨w1, rfl, e1⟩ := vals1 rz
  obtain ⟨its, rv, hl, _⟩ := I.list hs
  have hi := rv.ints
  have hh : X.A.handled = none := I.ok.hd hc
  obtain ⟨xs, e⟩ := hi.allInts.items
  have hn : numsOf (intItems xs).toList = ns := by rw [← e]; exact hi.numsOf
  rw [nums_intItems] at hn
  have hl2 := hl.isList
  rw [e] at hl2
  refine PySem.call_max_walkD (PySem.W.iter_listW (A := X.A.in1) hh hl2 fun s₂ e2 W st hfp hw hk => ?_)
  refine ⟨_, _, _, _, _, _, _, s.heap, (fun i j => decide (numAt xs i > numAt xs j)), rfl, W, st, hfp, hw, hk, fun hz s' m => ?_, fun hp => ⟨fun i j vi vj s3 Q3 E3 _ hi hj h3 => CmpOf.ints_gt (numAt xs) (fun _ _ => intItems_at) i j vi vj s3 Q3 E3 hi hj h3, fun v s' hP m => ?_⟩⟩
  · obtain ⟨h', tk, rfl, hk'⟩ := PySem.W.moved_old e2 rfl m
    refine ⟨d, H, I.kept hk', e1, q0 ?_⟩
    rw [← hn]
    have : xs.size = 0 := by simpa [intItems] using hz
    rw [Array.eq_empty_of_size_eq_zero this]; rfl
  · obtain ⟨h', tk, rfl, hk'⟩ := PySem.W.moved_old e2 rfl m
    have hp2 : 0 < xs.size := by simpa [intItems] using hp
    have hsz : (intItems xs).size = xs.size := by simp [intItems]
    rw [hsz] at hP
    obtain ⟨t, rfl⟩ := intItems_at hP
    obtain ⟨h1, h2⟩ := argBest_gt (numAt xs) (xs.size - 1)
    refine ⟨.int _, H, I.kept hk', ⟨_, rfl⟩, q1 ?_ _ ?_ fun y hy => ?_⟩
    · intro z
      rw [← hn] at z
      have := congrArg List.length z
      rw [List.length_map, Array.length_toList, List.length_nil] at this
      omega
    · rw [← hn, numAt_eq]; exact PySem.getD_mem (by rw [List.length_map, Array.length_toList]; omega)
    · rw [← hn] at hy
      obtain ⟨j, hj, rfl⟩ := mem_getD hy
      rw [List.length_map, Array.length_toList] at hj
      rw [← numAt_eq]; exact h2 j (by omega)
end LX

namespace LX
open PySem PySem.Spec PyProof.Rows L2
/-! ### list(zip(xs, ys)) of two lists -/
theorem nolen_zip : typeLookup (.type "zip") "__len__" = pure none := by rw [typeLookup_type, builtinLookup_eq_fast]; kernel_rfl
theorem nohint_zip : typeLookup (.type "zip") "__length_hint__" = pure none := by rw [typeLookup_type, builtinLookup_eq_fast]; kernel_rfl
def ZSt (z TI TO i1 i2 l1 l2 S : Addr) (h : Heap) (j : Nat) : Prop := IsPair h TI (.ref i1) (.ref i2) ∧ h.IsListIter i1 l1 j ∧ h.IsListIter i2 l2 j ∧
  ((IsZip h z TI TO .none ∧ ∃ a b, IsPair h TO a b) ∨ ∃ T f oT, IsZipHeld h z TI TO T f ∧ h.get? T = some oT ∧ T ≠ z ∧ T ≠ i1 ∧ T ≠ i2 ∧ T ≠ S)
theorem ZSt.at {z TI TO i1 i2 l1 l2 S : Addr} {h h' : Heap} {j : Nat} (x : ZSt z TI TO i1 i2 l1 l2 S h j) (hS : S ≠ z ∧ S ≠ TI ∧ S ≠ TO ∧ S ≠ i1 ∧ S ≠ i2) (k : ∀ b o, b ≠ S → h.get? b = some o → h'.get? b = some o) : ZSt z TI TO i1 i2 l1 l2 S h' j := by
  obtain ⟨a, b, c, d⟩ := x
  refine ⟨k _ _ hS.2.1.symm a, b.at fun o e => k _ o hS.2.2.2.1.symm e, c.at fun o e => k _ o hS.2.2.2.2.symm e, ?_⟩
  rcases d with ⟨d, u, v, e⟩ | ⟨T, f, oT, d, e, n1, n2, n3, n4⟩
  · exact .inl ⟨k _ _ hS.1.symm d, u, v, k _ _ hS.2.2.1.symm e⟩
  · exact .inr ⟨T, f, oT, k _ _ hS.1.symm d, k _ _ n4 e, n1, n2, n3, n4⟩
/-- the tuples made so far -/
def Zd (H1 H : Hp) (xs ys : List V) (Ts : List Addr) : Prop := ∀ (i : Nat) T x y, Ts[i]? = some T → xs[i]? = some x → ys[i]? = some y → H1 T = none ∧ H T = some (.tup [x, y])
section
variable {X : Cx} {pins : List (Addr × Obj)} {σ : L2.St} {z TI TO i1 i2 l1 l2 S : Addr} {H1 : Hp} {xs ys : List V} {A : Around} {R : Result → Shared → Prop} {res : Value}
theorem zip_loop (hh : A.handled = none) (D : ZipApart z TI TO i1 i2 l1 l2) (hS : S ≠ z ∧ S ≠ TI ∧ S ≠ TO ∧ S ≠ i1 ∧ S ≠ i2) (hl : xs.length = ys.length) (hz : xs.length ≤ 1000) (q1 : SqL X.K H1 l1 xs) (q2 : SqL X.K H1 l2 ys) (hS0 : H1 S = none) :
    ∀ (k j : Nat) (s : Shared) (H : Hp) (Ts : List Addr), xs.length - j = k → j ≤ xs.length → Inv X pins σ H s → (∀ b ∈ [z, TI, TO, i1, i2], FpOk X pins H b) → ZSt z TI TO i1 i2 l1 l2 S s.heap j → (∀ b ∈ [z, TI, TO, i1, i2], b < s.heap.objs.size) →
    Same H1 H → H S = some (.lst (Ts.map V.ref)) → Ts.length = j → Zd H1 H xs ys Ts →
    (∀ (s' : Shared) (H' : Hp) (Us : List Addr), Inv X pins σ H' s' → Same H1 H' → H' S = some (.lst (Us.map V.ref)) → Us.length = xs.length → Zd H1 H' xs ys Us → R (.ok (.ret res)) s') →
    codeAny (model X.prog X.w) A (.builtin "list.extend.loop" ⟨[.ref S, .ref z, res], []⟩) R s := by
  intro k
  induction k with
  | zero =>
    intro j s H Ts hk hj I hf st lt sm hHS hT zd fin
    have hj2 : j = xs.length := by omega
    obtain ⟨its, rv, p1, _⟩ := I.list (sm.seq q1)
    obtain ⟨its2, rv2, p2, _⟩ := I.list (sm.seq q2)
    have e1 := rv.length
    have hend : its.toArray[j]? = none ∨ its2.toArray[j]? = none := .inl (Array.getElem?_eq_none (by rw [List.size_toArray]; omega))
    refine codeAny_builtin F.entry_extend_loop ?_
    rw [Around.under_plainId F.plain_extend_loop _]
    show wpAny _ A.in1 (pyNext (.ref z) >>= _) _ _ s
    obtain ⟨s1, s2, s3, s4⟩ := st
    rcases s4 with ⟨g1, a, b, g2⟩ | ⟨T, f, oT, g1, g2, n1, n2, n3, n4⟩
    · refine wpAny_bind (wpAny_pyNext_zip_end (A := A.in1) hh D g1 s1 g2 s2 s3 p1.isList p2.isList hend fun h' hk' => ?_)
      refine wpAny_pure (fin _ H Ts (I.turnedL (ch := [z, TI, TO, i1, i2]) (t' := s.toks) (fun c o nb q => hk' c o (fun e => nb (by simp [e])) (fun e => nb (by simp [e])) (fun e => nb (by simp [e])) (fun e => nb (by simp [e])) q) hf) sm hHS (by omega) zd)
    · refine wpAny_bind (wpAny_pyNext_zip_end_held (A := A.in1) hh D g1 g2 s1 s2 s3 p1.isList p2.isList hend fun h' hk' => ?_)
      refine wpAny_pure (fin _ H Ts (I.turnedL (ch := [z, TI, TO, i1, i2]) (t' := s.toks) (fun c o nb q => hk' c o (fun e => nb (by simp [e])) (fun e => nb (by simp [e])) (fun e => nb (by simp [e])) q) hf) sm hHS (by omega) zd)
  | succ k ih =>
    intro j s H Ts hk hj I hf st lt sm hHS hT zd fin
    have hlt : j < xs.length := by omega
    obtain ⟨its, rv, p1, _⟩ := I.list (sm.seq q1)
    obtain ⟨its2, rv2, p2, _⟩ := I.list (sm.seq q2)
    have ex := List.getElem?_eq_getElem hlt
    have ey := List.getElem?_eq_getElem (l := ys) (i := j) (by omega)
    generalize xs[j] = x at ex
    generalize ys[j]'(by omega) = y at ey
    obtain ⟨u, hu, ru⟩ := rv.get ex
    obtain ⟨u2, hu2, ru2⟩ := rv2.get ey
    have hu' : its.toArray[j]? = some u := by simpa using hu
    have hu2' : its2.toArray[j]? = some u2 := by simpa using hu2
    refine codeAny_builtin F.entry_extend_loop ?_
    rw [Around.under_plainId F.plain_extend_loop _]
    show wpAny _ A.in1 (pyNext (.ref z) >>= _) _ _ s
    have hTn : H s.heap.objs.size = none := I.hok.fresh (Nat.le_refl _)
    have tail : ∀ (h' : Heap), IsPair h' s.heap.objs.size u u2 → h'.objs.size = s.heap.objs.size + 1 → ZSt z TI TO i1 i2 l1 l2 S h' (j + 1) → (∀ c o, c ∉ [z, TI, TO, i1, i2] → s.heap.get? c = some o → h'.get? c = some o) →
        wpAny (model X.prog X.w) A.in1 (do let x ← pure (some (Value.ref s.heap.objs.size)); match x with
          | none => ret res
          | some x => do Builtin.List.listUpdate (.ref S) (·.push x); again (.builtin "list.extend.loop" ⟨[.ref S, .ref z, res], []⟩)) (fun fin s' => match fin with | .done f => R (.ok f) s' | .again c' => c'.quiet = true ∧ codeAny (model X.prog X.w) A c' R s') (fun e s' => R (.error e) s') { s with heap := h' } := by
      intro h' pr sz st' kp
      have ob : ObjOk X.prog X.w (upd H s.heap.objs.size (.tup [x, y])) h' s.heap.objs.size (.tup [x, y]) :=
        ⟨by show 2 ≤ sizeLine; decide, [u, u2], .cons ru (.cons ru2 .nil), ⟨_, pr, rfl, _, rfl⟩⟩
      have J : Inv X pins σ (upd H s.heap.objs.size (.tup [x, y])) { s with heap := h', toks := s.toks } := I.turnedNew (ch := [z, TI, TO, i1, i2]) kp hf (Nat.le_refl _) ob
      have hST : S ≠ s.heap.objs.size := ne_of_none hHS hTn
      have hH2 : (upd H s.heap.objs.size (.tup [x, y])) S = some (.lst (Ts.map V.ref)) := by rw [upd_ne hST]; exact hHS
      obtain ⟨z0, itS, n, rS, lS, eS⟩ := J.lstM hH2
      rw [List.length_map] at lS
      have J2 := J.lset (its' := itS ++ [.ref s.heap.objs.size]) (ys := Ts.map V.ref ++ [V.ref s.heap.objs.size]) (f := fun a => a.push (.ref s.heap.objs.size)) (t' := s.toks) hH2 eS (by simp) (rS.append (.cons (show L2.RelV (V.ref s.heap.objs.size) (.ref s.heap.objs.size) from rfl) .nil)) (by
        rw [List.length_append, List.length_map]
        exact Nat.le_of_lt (small1000 (by show Ts.length + 1 ≤ 1000; omega)))
      refine wpAny_bind (wpAny_pure ?_)
      show wpAny _ A.in1 (updateSeq S (·.push (.ref s.heap.objs.size)) >>= _) _ _ _
      refine wpAny_bind (wpAny_updateSeq eS rfl (wpAny_pure ⟨plainId_quiet F.plain_extend_loop _, ?_⟩) (by rw [List.size_toArray]; exact Nat.le_of_lt (small1000 (by omega))) (by
        rw [Array.size_push, List.size_toArray]
        exact Nat.le_succ_of_le (Nat.le_of_lt (small1000 (by omega)))))
      refine ih (j + 1) _ _ (Ts ++ [s.heap.objs.size]) (by omega) hlt J2 (fun b hb => ?_) (st'.at hS fun b o hb e => (Heap.get?_update_other _ _ (Ne.symm hb)).trans e) (fun b hb => ?_) ?_ (by rw [upd_same, List.map_append]; rfl) (by rw [List.length_append, hT]; rfl) ?_ fin
      · have q := hf b hb
        refine ⟨?_, q.2⟩
        have nb : b ≠ S := fun e => by
          have q0 := q.1
          rw [e, hHS] at q0; cases q0
        rw [upd_ne nb, upd_ne (Nat.ne_of_lt (lt b hb))]
        exact q.1
      · have l0 := lt b hb
        show b < (h'.update S _).objs.size
        rw [Heap.size_update, sz]
        exact Nat.lt_succ_of_lt l0
      · intro b o hb
        rw [upd_ne (ne_of_none hb hS0), upd_ne (ne_of_none (sm _ _ hb) hTn)]
        exact sm _ _ hb
      · intro i T a b e1 e2 e3
        by_cases c : i < Ts.length
        · rw [List.getElem?_append_left c] at e1
          obtain ⟨w1, w2⟩ := zd i T a b e1 e2 e3
          have nT : T ≠ S := fun e => by rw [e, hHS] at w2; cases w2
          exact ⟨w1, by rw [upd_ne nT, upd_ne (ne_of_none w2 hTn)]; exact w2⟩
        · rw [List.getElem?_append_right (by omega)] at e1
          cases w : i - Ts.length with
          | zero =>
            rw [w] at e1
            cases e1
            have ij : i = j := by
              have c2 : Ts.length ≤ i := Nat.le_of_not_lt c
              have w2 : i - Ts.length = 0 := w
              omega
            subst ij
            rw [ex] at e2
            rw [ey] at e3
            cases e2; cases e3
            exact ⟨sm.free hTn, by rw [upd_ne hST.symm, upd_same]⟩
          | succ m => rw [w] at e1; simp at e1
    obtain ⟨s1, s2, s3, s4⟩ := st
    rcases s4 with ⟨g1, a, b, g2⟩ | ⟨T, f, oT, g1, g2, n1, n2, n3, n4⟩
    · refine wpAny_bind (wpAny_pyNext_zip_item (A := A.in1) D g1 s1 g2 s2 s3 p1.isList p2.isList hu' hu2' fun h' a1 a2 a3 a4 a5 a6 hk' => ?_)
      have n0 : s.heap.objs.size ≠ S := (ne_of_none hHS hTn).symm
      refine tail h' a5 a6 ⟨hk' _ _ D.TIz D.TITO D.TIi1 D.TIi2 s1, a3, a4, .inr ⟨_, false, _, a1, a5, Nat.ne_of_gt (lt z (by simp)), Nat.ne_of_gt (lt i1 (by simp)), Nat.ne_of_gt (lt i2 (by simp)), n0⟩⟩ fun c o nb q => hk' c o (fun e => nb (by simp [e])) (fun e => nb (by simp [e])) (fun e => nb (by simp [e])) (fun e => nb (by simp [e])) q
    · refine wpAny_bind (wpAny_pyNext_zip_item_held (A := A.in1) D g1 g2 s1 s2 s3 p1.isList p2.isList hu' hu2' fun h' a1 a3 a4 a5 a6 hk' => ?_)
      refine tail h' a5 a6 ⟨hk' _ _ D.TIz D.TIi1 D.TIi2 s1, a3, a4, .inr ⟨T, true, oT, a1, hk' _ _ n1 n2 n3 g2, n1, n2, n3, n4⟩⟩ fun c o nb q => hk' c o (fun e => nb (by simp [e])) (fun e => nb (by simp [e])) (fun e => nb (by simp [e])) q
theorem list_zip_call (hh : A.handled = none) {s : Shared} {H : Hp} {Q : Value → Shared → Prop} {E : Value → Shared → Prop} (I : Inv X pins σ H s) (D : ZipApart z TI TO i1 i2 l1 l2) (hl : xs.length = ys.length) (hz : xs.length ≤ 1000) (q1 : SqL X.K H l1 xs) (q2 : SqL X.K H l2 ys)
    (hf : ∀ b ∈ [z, TI, TO, i1, i2], FpOk X pins H b) (hZ : IsZip s.heap z TI TO .none) (hTI : IsPair s.heap TI (.ref i1) (.ref i2)) (hTO : ∃ a b, IsPair s.heap TO a b) (h1 : s.heap.IsListIter i1 l1 0) (h2 : s.heap.IsListIter i2 l2 0)
    (fin : ∀ (s' : Shared) (H' : Hp) (S : Addr) (Us : List Addr), Inv X pins σ H' s' → Same H H' → H S = none → H' S = some (.lst (Us.map V.ref)) → Us.length = xs.length → Zd H H' xs ys Us → Q (.ref S) s') :
    wpAny (model X.prog X.w) A (call (.type "list") [.ref z]) Q E s := by
  refine callType_codes (Q₁ := fun obj s₁ => obj = .ref s.heap.objs.size ∧ s₁ = { s with heap := s.heap.push { cls := .type "list", data := .seq #[] } }) PySem.F.called_list (PySem.F.typeCall_list_1 _) PySem.F.entry_list_init
    (code_list_new _ ⟨rfl, rfl⟩) fun obj s₁ h₁ => ?_
  obtain ⟨rfl, rfl⟩ := h₁
  have hS : (s.heap.push { cls := .type "list", data := .seq #[] }).get? s.heap.objs.size = some { cls := .type "list", data := .seq #[] } := Heap.get?_push_size _ rfl
  refine ⟨⟨_, hS, rfl⟩, PySem.F.args_list_init_2 _ _, ?_⟩
  have sz0 : (s.heap.push { cls := .type "list", data := .seq #[] }).objs.size = s.heap.objs.size + 1 := Heap.size_push ..
  have hSn : H s.heap.objs.size = none := I.hok.fresh (Nat.le_refl _)
  have ltz : z < s.heap.objs.size := Heap.lt_size hZ
  have lTI : TI < s.heap.objs.size := Heap.lt_size hTI
  have lTO : TO < s.heap.objs.size := let ⟨_, _, q⟩ := hTO; Heap.lt_size q
  have li1 : i1 < s.heap.objs.size := let ⟨_, q, _⟩ := h1; Heap.lt_size q
  have li2 : i2 < s.heap.objs.size := let ⟨_, q, _⟩ := h2; Heap.lt_size q
  have I1 : Inv X pins σ (upd H s.heap.objs.size (.lst [])) { s with heap := s.heap.push { cls := .type "list", data := .seq #[] }, toks := s.toks } := I.lnew (its := []) .nil (by decide)
  have hHS : (upd H s.heap.objs.size (.lst [])) s.heap.objs.size = some (.lst []) := upd_same
  show wpAny _ _ (do let old ← Builtin.List.listItems (.ref s.heap.objs.size); Builtin.List.listUpdate (.ref s.heap.objs.size) (fun _ => #[]); letGo old.toList.reverse; Builtin.List.listExtendWith (.ref s.heap.objs.size) (.ref z) .none) _ _ _
  refine wpAny_bind ?_
  unfold Builtin.List.listItems
  refine wpAny_bind (wpAny_seqItems hS rfl (wpAny_pure ?_))
  show wpAny _ _ (updateSeq s.heap.objs.size (fun _ => #[]) >>= fun _ => letGo (#[] : Array Value).toList.reverse >>= fun _ => Builtin.List.listExtendWith (.ref s.heap.objs.size) (.ref z) .none) _ _ _
  refine wpAny_bind (wpAny_updateSeq hS rfl ?_)
  have hS₂ := Heap.get?_update_self (Obj.mapSeq (fun _ => (#[] : Array Value))) hS rfl
  have I2 := I1.lset (its' := []) (ys := []) (f := fun _ => #[]) (t' := s.toks) hHS hS rfl .nil (by decide)
  rw [upd_upd] at I2
  have k2 : ∀ b o, b ≠ s.heap.objs.size → s.heap.get? b = some o → ((s.heap.push { cls := .type "list", data := .seq #[] }).update s.heap.objs.size (Obj.mapSeq (fun _ => (#[] : Array Value)))).get? b = some o := fun b o hb e => (Heap.get?_update_other _ _ (Ne.symm hb)).trans (Heap.get?_push_of_some _ e)
  have sz2 : ((s.heap.push { cls := .type "list", data := .seq #[] }).update s.heap.objs.size (Obj.mapSeq (fun _ => (#[] : Array Value)))).objs.size = s.heap.objs.size + 1 := by rw [Heap.size_update, sz0]
  generalize ((s.heap.push { cls := .type "list", data := .seq #[] }).update s.heap.objs.size (Obj.mapSeq (fun _ => (#[] : Array Value)))) = h2' at hS₂ I2 k2 sz2
  refine wpAny_bind (wpAny_letGo ?_)
  unfold Builtin.List.listExtendWith
  have hT2 : Shared.TypeIs { s with heap := h2' } (.ref z) "zip" := ⟨_, k2 _ _ (Nat.ne_of_lt ltz) hZ, rfl⟩
  refine wpAny_bind (wpAny_typeOf hT2 ?_)
  have e1 : Builtin.List.listSameRef (.ref s.heap.objs.size) (.ref z) = false := by simp [Builtin.List.listSameRef, Nat.ne_of_gt ltz]
  simp only [e1, show (Value.type "zip" == Value.type "list") = false by decide, show (Value.type "zip" == Value.type "tuple") = false by decide, Bool.or_false, Bool.false_eq_true, if_false]
  refine wpAny_bind (wpAny_pyIter_zip (k2 _ _ (Nat.ne_of_lt ltz) hZ) ?_)
  refine wpAny_bind (wpAny_holding ?_)
  unfold Builtin.List.listLengthHint
  refine wpAny_bind (wpAny_specialOf hT2 nolen_zip ?_)
  show wpAny _ _ (specialOf (Value.ref z) (Str.ofString "__length_hint__") >>= _) _ _ _
  refine wpAny_bind (wpAny_specialOf hT2 nohint_zip ?_)
  refine wpAny_pure ?_
  show wpAny _ _ (rule "list.extend.makes-room" >>= fun _ => Builtin.List.listTouch (.ref s.heap.objs.size) >>= fun _ =>
    again (.builtin "list.extend.loop" ⟨[.ref s.heap.objs.size, .ref z, .none], []⟩)) _ _ _
  refine wpAny_bind (wpAny_rule ?_)
  refine wpAny_bind ?_
  show wpAny _ _ (updateSeq s.heap.objs.size (·.push .none) >>= fun _ => updateSeq s.heap.objs.size (·.pop)) _ _ _
  refine wpAny_bind (wpAny_updateSeq hS₂ rfl ?_)
  have hS₃ := Heap.get?_update_self (Obj.mapSeq (·.push Value.none)) hS₂ rfl
  refine wpAny_updateSeq hS₃ rfl ?_
  have I4 := I2.lset (its' := []) (ys := []) (f := fun a => (a.push Value.none).pop) (t' := s.toks) upd_same hS₂ rfl .nil (by decide)
  have eqU : (h2'.update s.heap.objs.size (Obj.mapSeq (·.push Value.none))).update s.heap.objs.size (Obj.mapSeq (·.pop)) = (h2'.update s.heap.objs.size (Obj.mapSeq (·.push Value.none))).update s.heap.objs.size (Obj.mapSeq (·.pop)) := rfl
  have J4 : Inv X pins σ (upd H s.heap.objs.size (.lst [])) { s with heap := (h2'.update s.heap.objs.size (Obj.mapSeq (·.push Value.none))).update s.heap.objs.size (Obj.mapSeq (·.pop)), toks := s.toks } := by
    have z := I2.write (x := s.heap.objs.size) (e := s.heap.objs.size) (o := .lst []) (h' := (h2'.update s.heap.objs.size (Obj.mapSeq (·.push Value.none))).update s.heap.objs.size (Obj.mapSeq (·.pop))) (t' := s.toks) (by rw [upd_same]; exact trivial) (.inl rfl)
      (fun b u hb hu => (Heap.get?_update_other _ _ (Ne.symm hb)).trans ((Heap.get?_update_other _ _ (Ne.symm hb)).trans hu)) ⟨_, Heap.get?_update_self _ hS₃ rfl⟩ ⟨by decide, [], _, .nil, Heap.get?_update_self _ hS₃ rfl⟩
    rw [upd_upd] at z
    exact z
  have sm : Same H (upd H s.heap.objs.size (.lst [])) := fun b x e => by rw [upd_ne (ne_of_none e hSn)]; exact e
  have k4 : ∀ b o, b ≠ s.heap.objs.size → s.heap.get? b = some o → ((h2'.update s.heap.objs.size (Obj.mapSeq (·.push Value.none))).update s.heap.objs.size (Obj.mapSeq (·.pop))).get? b = some o := fun b o hb e => (Heap.get?_update_other _ _ (Ne.symm hb)).trans ((Heap.get?_update_other _ _ (Ne.symm hb)).trans (k2 b o hb e))
  refine wpAny_pure ⟨plainId_quiet F.plain_extend_loop _, zip_loop (A := A.in1) (S := s.heap.objs.size) hh D ⟨Nat.ne_of_gt ltz, Nat.ne_of_gt lTI, Nat.ne_of_gt lTO, Nat.ne_of_gt li1, Nat.ne_of_gt li2⟩ hl hz q1 q2 hSn _ 0 _ _ [] rfl (Nat.zero_le _) J4 (fun b hb => ?_) ?_ (fun b hb => ?_) sm upd_same rfl (fun i T x y e => by simp at e) fun s' H' Us J sm2 hU lU zd => ?_⟩
  · have q := hf b hb
    refine ⟨?_, q.2⟩
    have nb : b ≠ s.heap.objs.size := by
      simp only [List.mem_cons, List.not_mem_nil, or_false] at hb
      rcases hb with rfl | rfl | rfl | rfl | rfl
      · exact Nat.ne_of_lt ltz
      · exact Nat.ne_of_lt lTI
      · exact Nat.ne_of_lt lTO
      · exact Nat.ne_of_lt li1
      · exact Nat.ne_of_lt li2
    rw [upd_ne nb]
    exact q.1
  · obtain ⟨a, b, hTO⟩ := hTO
    exact ⟨k4 _ _ (Nat.ne_of_lt lTI) hTI, h1.at fun o e => k4 _ o (Nat.ne_of_lt li1) e, h2.at fun o e => k4 _ o (Nat.ne_of_lt li2) e, .inl ⟨k4 _ _ (Nat.ne_of_lt ltz) hZ, a, b, k4 _ _ (Nat.ne_of_lt lTO) hTO⟩⟩
  · have lt2 : b < s.heap.objs.size := by
      simp only [List.mem_cons, List.not_mem_nil, or_false] at hb
      rcases hb with rfl | rfl | rfl | rfl | rfl <;> assumption
    show b < ((h2'.update s.heap.objs.size (Obj.mapSeq (·.push Value.none))).update s.heap.objs.size (Obj.mapSeq (·.pop))).objs.size
    rw [Heap.size_update, Heap.size_update, sz2]
    exact Nat.lt_succ_of_lt lt2
  · exact ⟨rfl, fin s' H' _ Us J sm2 hSn hU lU zd⟩
end
/-- what list(zip(e, f)) asks: two lists of one length; behind it a new list of new pairs -/
def tListZip (K : PySem.W.Frag) (ta : TA) : TE := fun σ H Q => ta σ H fun vs H1 => ∃ (a b : Addr) (xs ys : List V), vs = [.ref a, .ref b] ∧ SqL K H1 a xs ∧ SqL K H1 b ys ∧ xs.length = ys.length ∧ xs.length ≤ 1000 ∧
  ∀ (H2 : Hp) (p : Addr) (Us : List Addr), Same H1 H2 → H1 p = none → H2 p = some (.lst (Us.map V.ref)) → Us.length = xs.length → Zd H1 H2 xs ys Us → Q (.ref p) H2
theorem pe_listZip {X : Cx} {e e2 : Expr} {ta : TA} {p p2 pos pos2 : Pos} (hc : X.calm = true) (hg : Gl X "list") (hm : X.mg "list" = none) (hg2 : Gl X "zip") (hm2 : X.mg "zip" = none) (ha : PA X [e, e2] ta)
    (hs : starEach [e, e2] X.env = (false, eval e X.env) :: starEach [e2] X.env := by rfl) (hpl : (backTo pos2 (starEach [e2] X.env)).any (·.1) = false := by rfl)
    (na : starEach [.Call (.Name "zip" p2) [e, e2] [] pos2] X.env = (false, eval (.Call (.Name "zip" p2) [e, e2] [] pos2) X.env) :: starEach [] X.env := by rfl) :
    PE X (.Call (.Name "list" p) [.Call (.Name "zip" p2) [e, e2] [] pos2] [] pos) (tListZip X.K ta) := by
  refine ⟨fun pins s σ H Q I want => ?_⟩
  refine Call_ (ld_blt I hg hm boot_list (PyProof.Rows.callWith_type1 (args_cons (Q := fun us s1 => wpAny (model X.prog X.w) X.A (call (.type "list") us) (EP X pins σ Q) X.xe s1) ?_ na) na))
  refine Call_ (ld_blt I hg2 hm2 PyProof.Rows.boot_zip (PyProof.Rows.callWith_type1 (thn (ha.run pos2 pins s σ H _ I want) ?_) hs hpl))
  rintro us s1 ⟨vs, H1, J, rel, a, b, xs, ys, rfl, qx, qy, hl, hz, q⟩
  obtain ⟨u1, u2, rfl, r1, r2⟩ := vals2 rel
  cases r1
  cases r2
  obtain ⟨its, rv, p1, _⟩ := J.list qx
  obtain ⟨its2, rv2, p3, _⟩ := J.list qy
  have la : a < s1.heap.objs.size := p1.lt
  refine zip_begins2 (begins_list a its.toArray) (begins_list b its2.toArray) p1.isList p3.isList fun h' hz2 hTI hTO g1 g2 sz keep => args_nil ?_
  have J2 : Inv X pins σ H1 { s1 with heap := h' } := J.kept (t' := s1.toks) keep
  refine list_zip_call (J.ok.hd hc) J2 (PySem.W.ktu_apart s1.heap.objs.size a b la p3.lt) hl hz qx qy (fun c hc2 => ?_) hz2 hTI ⟨_, _, hTO⟩ ⟨_, g1, rfl, rfl⟩ ⟨_, g2, rfl, rfl⟩ fun s' H' S Us I' sm n0 hU lU zd => ⟨.ref S, H', I', rfl, q H' S Us sm n0 hU lU zd⟩
  have le : s1.heap.objs.size ≤ c := by
    simp only [List.mem_cons, List.not_mem_nil, or_false] at hc2
    rcases hc2 with rfl | rfl | rfl | rfl | rfl <;> omega
  exact J.fpOk le (J.hok.fresh le)
end LX

namespace LX
open PySem PySem.Spec PyProof.Rows L2
variable {X : Cx}
/-- name = {k: v for ..} on one line, the name a local -/
theorem ps_setDc {i : Nat} {y : Str} {py : Pos} {kx vx tg iter : Expr} {ifs : List Expr} {scope : Scope} {own : List (Str × Nat)} {pos spos : Pos} {wi : TI} {g : TG} {tt : TT} {tk tv : TE} (hc : X.calm = true) (hN : X.N.Nodup) (hy : X.N[i]? = some y) (hyl : X.env.scope.names.lookup y = some .local)
    (hsw : swapsWith (.DictComp kx vx [⟨tg, iter, ifs, 0⟩] scope pos) (some (.Name y py)) spos.line X.env = pure true) (hi : PI X tg iter wi) (ok : BlkOk X.N X.env.scope scope own)
    (hg : ∀ (s : Shared) (H : Hp) (C : Addr) (cl : List (Str × Addr)) (fp : List Addr), PG (X.blk s H scope (compEnvC scope cl C X.env) fp) tg g) (ht : ∀ (s : Shared) (H : Hp) (C : Addr) (cl : List (Str × Addr)) (fp : List Addr), PTs (X.blk s H scope (compEnvC scope cl C X.env) fp) ifs tt)
    (hk : ∀ (s : Shared) (H : Hp) (C : Addr) (cl : List (Str × Addr)) (fp : List Addr), PE (X.blk s H scope (compEnvC scope cl C X.env) fp) kx tk)
    (he : ∀ (s : Shared) (H : Hp) (C : Addr) (cl : List (Str × Addr)) (fp : List Addr), PE (X.blk s H scope (compEnvC scope cl C X.env) fp) vx tv) (hs : ∀ x, foldedSetIterable iter X.env x = pure x := by intro _; rfl) :
    PS X (.Assign [.Name y py] (.DictComp kx vx [⟨tg, iter, ifs, 0⟩] scope pos) spos) (tAsg (tDc wi g tt tk tv (own.map (·.2))) (gName i)) := by
  refine ⟨fun pins s σ H D I h => ?_⟩
  rw [exec_Assign_Name_used _ _ _ _ hsw]
  refine wpAny_bind (wpAny_standAt (wpAny_bind ?_))
  show wpAny _ X.A (do let _ ← comprehension (.DictComp kx vx [⟨tg, iter, ifs, 0⟩] scope pos) scope X.env (firstIterPos [⟨tg, iter, ifs, 0⟩] pos) newDict false (eval iter X.env) (some (assign (.Name y py) X.env))) _ _ s
  have h : tDc wi g tt tk tv (own.map (·.2)) σ H (fun x H1 => gName i x σ H1 D.nx) := h
  refine wpAny_bind (thn (dc_core (Qf := fun _ s' => SP X pins D .next s') hc hN I hi ok hg ht hk he hs h fun L C s' m H' I' q hn f => ?_) fun _ s' hq => wpAny_pure (wpAny_pure hq))
  show wpAny _ _ (assign (.Name y py) X.env (.ref L)) _ _ _
  refine wpAny_assign_Name (store_ok2 (v := V.ref L) I' hN hy (.inl hyl) rfl (fun s2 I2 ⟨a, sb, ha⟩ => ?_) (.inr hyl))
  obtain ⟨f0, f1, f2, f3, f4, f5⟩ := f
  have haC : C ≠ a := by
    rcases ha with z | z
    · rw [z]; exact f1
    · exact fun e => f4 y a z e.symm
  refine ⟨m, hn.sameBut sb haC, fun h3 sb3 => ?_⟩
  exact ⟨_, H', I2.turned (t' := s2.toks) (fun b o hb e => (sb3.2 b hb).trans e) f0 f1 f3 f4 f5, q⟩
theorem sw_trueD {kx vx : Expr} {gs : List Comprehension} {scope : Scope} {pos py : Pos} {y : Str} {l : Nat} {env : Env} (hk : env.scope.kind = .function) (hy : env.scope.names.lookup y = some .local) (hl : (py.line == pos.line) = true)
    (ha : (scope.names.any fun (n, k) => n == y && (k == .local || k == .cell)) = false) : swapsWith (.DictComp kx vx gs scope pos) (some (.Name y py)) l env = pure true := by
  have ky : env.kindOf y = some .local := hy
  have hb : env.blockKind = .function := by unfold Env.blockKind; rw [hk]; rfl
  unfold swapsWith
  simp only [hb, ky, ha, Expr.pos, hl]
  rfl
end LX

/-! max of a list or a tuple of ints -/
namespace LX
open PySem PySem.Spec PyProof.Rows L2 LP
def rMaxE (K : PySem.W.Frag) : List V → Hp → VK → Prop := fun vs H Q => ∃ (a : Addr) (ns : List Int), vs = [.ref a] ∧ SqE K H a (ns.map V.int) ∧ ns ≠ [] ∧ ∀ m, m ∈ ns → (∀ y ∈ ns, y ≤ m) → Q (.int m) H
theorem cr_maxE {X : Cx} (hc : X.calm = true) : CallR X (.builtin "max") (rMaxE X.K) := by
  intro pins s σ H vs us Q I r h
  obtain ⟨a, ns, rfl, hs, hne, q1⟩ := h
  rcases hs with hs | hs
  · exact cr_max hc pins s σ H [.ref a] us Q I r ⟨a, ns, rfl, hs, List.length_pos_iff.mpr hne, fun m hm hy => q1 m hm hy⟩
  obtain rfl := Vals.ref1 r
  obtain ⟨its, rv, hl, _⟩ := I.tuple hs
  have hi := rv.ints
  have hh : X.A.handled = none := I.ok.hd hc
  obtain ⟨xs, e⟩ := hi.allInts.items
  have hn : numsOf (intItems xs).toList = ns := by rw [← e]; exact hi.numsOf
  rw [nums_intItems] at hn
  have hl2 : s.heap.IsTuple a its.toArray := by
    obtain ⟨o, h1, h2, n, h3⟩ := hl
    first | exact ⟨o, h1, h2, n, h3⟩ | exact ⟨o, h1, h2, ⟨n, h3⟩⟩ | exact ⟨o, n, h1, h2, h3⟩
  rw [e] at hl2
  have hp2 : 0 < xs.size := by
    rcases Nat.eq_zero_or_pos xs.size with z | z
    · exfalso; apply hne; rw [← hn, Array.eq_empty_of_size_eq_zero z]; rfl
    · exact z
  refine PySem.call_max_walkH (PySem.W.iter_tupleW (A := X.A.in1) hh hl2 fun s₂ e2 W st hfp hw hk => ?_)
  refine ⟨_, _, _, _, _, _, _, s.heap, (fun i j => decide (numAt xs i > numAt xs j)), rfl, W, st, hfp, by simpa [intItems] using hp2, hw, hk, fun i j vi vj s3 Q3 E3 _ hi hj h3 => CmpOf.ints_gt (numAt xs) (fun _ _ => intItems_at) i j vi vj s3 Q3 E3 hi hj h3, fun v s' hP m => ?_⟩
  obtain ⟨h', tk, rfl, hk'⟩ := PySem.W.moved_old e2 rfl m
  have hsz : (intItems xs).size = xs.size := by simp [intItems]
  rw [hsz] at hP
  obtain ⟨t, rfl⟩ := intItems_at hP
  obtain ⟨h1, h2⟩ := argBest_gt (numAt xs) (xs.size - 1)
  refine ⟨.int _, H, I.kept hk', ⟨_, rfl⟩, q1 _ ?_ fun y hy => ?_⟩
  · rw [← hn, numAt_eq]; exact PySem.getD_mem (by rw [List.length_map, Array.length_toList]; omega)
  · rw [← hn] at hy
    obtain ⟨j, hj, rfl⟩ := mem_getD hy
    rw [List.length_map, Array.length_toList] at hj
    rw [← numAt_eq]; exact h2 j (by omega)
end LX

/-! steps: one lemma a reading, by its head; heaps are told apart by names, not by what they are made of -/
namespace LS
open PySem L2 LT LG LP LX
/-! ## frames -/
theorem Same.fr_new {H0 H H' : Hp} {p : Addr} (s : Same H0 H) (f : Fr H H' p) (n : H0 p = none) : Same H0 H' := fun a o h => f a o (s a o h) (ne_of_none h n)
theorem Fr.same {H0 H H' : Hp} {b : Addr} (f : Fr H0 H b) (s : Same H H') : Fr H0 H' b := fun a o h n => s a o (f a o h n)
theorem Fr.fr_new {H0 H H' : Hp} {b p : Addr} (s : Fr H0 H b) (f : Fr H H' p) (n : H0 p = none) : Fr H0 H' b := fun a o h nb => f a o (s a o h nb) (ne_of_none h n)
theorem Fr.upd {H : Hp} {p : Addr} {o : HO} : Fr H (upd H p o) p := fun a u h n => by rw [upd_ne n]; exact h
theorem fr_seq {K : PySem.W.Frag} {H H' : Hp} {a p : Addr} {xs : List V} (f : Fr H H' p) (h : SqL K H a xs) (n : a ≠ p) : SqL K H' a xs := by
  rcases h with (h | ⟨o, h⟩) | h
  · exact .inl (.inl (f _ _ h n))
  · exact .inl (.inr ⟨o, f _ _ h n⟩)
  · exact .inr h
theorem fr_tup {K : PySem.W.Frag} {H H' : Hp} {a p : Addr} {xs : List V} (f : Fr H H' p) (h : SqT K H a xs) (n : a ≠ p) : SqT K H' a xs := by
  rcases h with (h | ⟨o, h⟩) | h
  · exact .inl (.inl (f _ _ h n))
  · exact .inl (.inr ⟨o, f _ _ h n⟩)
  · exact .inr h
theorem free_same {H H' : Hp} {p : Addr} (s : Same H H') (h : H' p = none) : H p = none := s.free h
theorem free_fr {H H' : Hp} {b p : Addr} {o : HO} (f : Fr H H' b) (hb : H' b = some o) (h : H' p = none) : H p = none := by
  cases q : H p with
  | none => rfl
  | some u =>
    by_cases e : p = b
    · subst e; rw [hb] at h; cases h
    · rw [f p u q e] at h; cases h
theorem ne_il {H : Hp} {a b C dx : Addr} {fs : List (Str × V)} {ys : List V} (h : H a = some (.ins C dx fs)) (h' : H b = some (.lst ys)) : a ≠ b := ne_of h h' (by intro z; cases z)
theorem ne_li {H : Hp} {a b C dx : Addr} {fs : List (Str × V)} {ys : List V} (h' : H b = some (.ins C dx fs)) (h : H a = some (.lst ys)) : a ≠ b := ne_of h h' (by intro z; cases z)
theorem ne_lt {H : Hp} {a b : Addr} {xs ys : List V} (h : H a = some (.lst xs)) (h' : H b = some (.tup ys)) : a ≠ b := ne_of h h' (by intro z; cases z)
theorem ne_tl {H : Hp} {a b : Addr} {xs ys : List V} (h : H a = some (.tup xs)) (h' : H b = some (.lst ys)) : a ≠ b := ne_of h h' (by intro z; cases z)
/-! ## what the search for facts about heaps goes by -/
theorem hp_s {H H' : Hp} {p : Addr} {o : HO} (s : Same H H') (h : H p = some o) : H' p = some o := s p o h
theorem hp_f {H H' : Hp} {b p : Addr} {o : HO} (f : Fr H H' b) (h : H p = some o) (n : p ≠ b) : H' p = some o := f p o h n
theorem sq_o {K : PySem.W.Frag} {H : Hp} {p : Addr} {xs : List V} (h : H p = some (.lst xs)) : SqL K H p xs := SqL.of h
theorem sq_s {K : PySem.W.Frag} {H H' : Hp} {p : Addr} {xs : List V} (s : Same H H') (h : SqL K H p xs) : SqL K H' p xs := s.seq h
theorem sq_f {K : PySem.W.Frag} {H H' : Hp} {b p : Addr} {xs : List V} (f : Fr H H' b) (h : SqL K H p xs) (n : p ≠ b) : SqL K H' p xs := fr_seq f h n
theorem tu_o {K : PySem.W.Frag} {H : Hp} {p : Addr} {xs : List V} (h : H p = some (.tup xs)) : SqT K H p xs := SqT.of h
theorem tu_s {K : PySem.W.Frag} {H H' : Hp} {p : Addr} {xs : List V} (s : Same H H') (h : SqT K H p xs) : SqT K H' p xs := same_tup s h
theorem tu_f {K : PySem.W.Frag} {H H' : Hp} {b p : Addr} {xs : List V} (f : Fr H H' b) (h : SqT K H p xs) (n : p ≠ b) : SqT K H' p xs := fr_tup f h n
theorem se_l {K : PySem.W.Frag} {H : Hp} {p : Addr} {xs : List V} (h : H p = some (.lst xs)) : SqE K H p xs := .inl (SqL.of h)
theorem se_t {K : PySem.W.Frag} {H : Hp} {p : Addr} {xs : List V} (h : H p = some (.tup xs)) : SqE K H p xs := .inr (SqT.of h)
theorem se_q {K : PySem.W.Frag} {H : Hp} {p : Addr} {xs : List V} (h : SqL K H p xs) : SqE K H p xs := .inl h
theorem se_u {K : PySem.W.Frag} {H : Hp} {p : Addr} {xs : List V} (h : SqT K H p xs) : SqE K H p xs := .inr h
theorem se_s {K : PySem.W.Frag} {H H' : Hp} {p : Addr} {xs : List V} (s : Same H H') (h : SqE K H p xs) : SqE K H' p xs := h.same s
theorem se_f {K : PySem.W.Frag} {H H' : Hp} {b p : Addr} {xs : List V} (f : Fr H H' b) (h : SqE K H p xs) (n : p ≠ b) : SqE K H' p xs := h.imp (fun h => fr_seq f h n) fun h => fr_tup f h n
theorem sm_s {H0 H H' : Hp} (s : Same H H') (h : Same H0 H) : Same H0 H' := h.trans s
theorem sm_f {H0 H H' : Hp} {p : Addr} (f : Fr H H' p) (h : Same H0 H) (n : H0 p = none) : Same H0 H' := Same.fr_new h f n
theorem fr_s {H0 H H' : Hp} {b : Addr} (s : Same H H') (h : Fr H0 H b) : Fr H0 H' b := Fr.same h s
theorem fr_b {H0 H H' : Hp} {b : Addr} (f : Fr H H' b) (h : Fr H0 H b) : Fr H0 H' b := h.trans f
theorem fr_n {H0 H H' : Hp} {b p : Addr} (f : Fr H H' p) (h : Fr H0 H b) (n : H0 p = none) : Fr H0 H' b := Fr.fr_new h f n
theorem ne_a {H : Hp} {a b : Addr} {o : HO} (h' : H b = none) (h : H a = some o) : a ≠ b := ne_of_none h h'
theorem ne_b {H : Hp} {a b : Addr} {o : HO} (h' : H a = none) (h : H b = some o) : a ≠ b := (ne_of_none h h').symm
theorem no_s {H H' : Hp} {p : Addr} (h : H' p = none) (s : Same H H') : H p = none := s.free h
theorem no_f {H H' : Hp} {b p : Addr} {o : HO} (h : H' p = none) (f : Fr H H' b) (hb : H' b = some o) : H p = none := free_fr f hb h
theorem sz {n : Nat} (h : n ≤ 100000) : n ≤ sizeLine := Nat.le_trans h (by decide)
theorem szl {n : Nat} (h : n < 100000) : n < sizeLine := Nat.lt_of_lt_of_le h (by decide)
theorem at_g {α : Type} {xs : List α} {j : Nat} {v : α} {z : Int} (hz : z = (j : Int)) (e : xs[j]? = some v) : atI xs z = some v := by
  subst hz
  unfold atI
  rw [ixN_at (List.getElem?_eq_some_iff.mp e).1]
  exact e
theorem cut_to (xs : List V) (i : Nat) : cutV xs none (some (i : Int)) = xs.take i := by
  unfold cutV
  rw [HT.sIx_none, HT.sIx_nat, List.drop_zero, Nat.sub_zero]
  rcases Nat.lt_or_ge i xs.length with h | h
  · rw [Nat.min_eq_left (by omega)]
  · rw [Nat.min_eq_right (by omega), List.take_of_length_le (Nat.le_refl _), List.take_of_length_le h]
theorem cut_from (xs : List V) (i : Nat) : cutV xs (some (i : Int)) none = xs.drop i := by
  unfold cutV
  rw [HT.sIx_none, HT.sIx_nat]
  rcases Nat.lt_or_ge i xs.length with h | h
  · rw [Nat.min_eq_left (by omega), List.take_of_length_le (by rw [List.length_drop]; omega)]
  · rw [Nat.min_eq_right (by omega), List.drop_of_length_le (Nat.le_refl _), List.drop_of_length_le h, List.take_nil]
theorem flat_rep {α : Type} (n : Nat) (x : α) : (List.replicate n [x]).flatten = List.replicate n x := by
  induction n with
  | zero => rfl
  | succ m ih => rw [List.replicate_succ, List.flatten_cons, List.replicate_succ, ih]; rfl
/-! ## rules by name -/
def rListOf (K : PySem.W.Frag) : List V → Hp → VK → Prop := fun xs H Q => ∃ p ys, xs = [.ref p] ∧ (SqL K H p ys ∨ SqT K H p ys) ∧ ∀ l, H l = none → Q (.ref l) (upd H l (.lst ys))
def rIsN : R2 := fun x y H Q => y = .non ∧ Q (.bl (decide (x = .non))) H
def rNotN : R2 := fun x y H Q => y = .non ∧ Q (.bl (!decide (x = .non))) H
def rInt1 : List V → Hp → VK → Prop := fun xs H Q => (∃ i, xs = [.int i] ∧ Q (.int i) H) ∨ ∃ k, xs = [.bl k] ∧ Q (.int (if k then 1 else 0)) H
def rStrI : List V → Hp → VK → Prop := fun xs H Q => ∃ i, xs = [.int i] ∧ i.natAbs.log2 < 1920 ∧ Q (.str (toString i)) H
def rIntS : List V → Hp → VK → Prop := fun xs H Q => ∃ a n, xs = [.str a] ∧ PySem.intText? a = some n ∧ a.length ≤ 640 ∧ Q (.int n) H
def rAddS : R2 := fun x y H Q => ∃ i j, x = .str i ∧ y = .str j ∧ i.length + j.length ≤ sizeLine ∧ Q (.str (i ++ j)) H
def rSplit : V → List V → Hp → VK → Prop := fun x xs H Q => ∃ a b, x = .str a ∧ xs = [.str b] ∧ (b.length == 0) = false ∧ a.length + 2 ≤ sizeLine ∧ rNewStrs (Txt.split a b) H Q
def rJoin (K : PySem.W.Frag) : V → List V → Hp → VK → Prop := fun x xs H Q => ∃ a p, ∃ ys : List Str, x = .str a ∧ xs = [.ref p] ∧ (SqL K H p (ys.map V.str) ∨ SqT K H p (ys.map V.str)) ∧
    (ys.map (·.length)).sum + ys.length * a.length ≤ 16777216 ∧ Q (.str (Txt.join a ys)) H
def rLenT : List V → Hp → VK → Prop := fun xs H Q => ∃ z, xs = [.str z] ∧ z.length ≤ sizeLine ∧ Q (.int z.length) H
def rAbs : List V → Hp → VK → Prop := fun xs H Q => ∃ i, xs = [.int i] ∧ Q (.int (if i < 0 then -i else i)) H
def rMin2 : List V → Hp → VK → Prop := fun xs H Q => ∃ i j, xs = [.int i, .int j] ∧ Q (.int (if j < i then j else i)) H
def rMax2 : List V → Hp → VK → Prop := fun xs H Q => ∃ i j, xs = [.int i, .int j] ∧ Q (.int (if j > i then j else i)) H
section
variable {X : Cx}
theorem call_abs : CallR X (.builtin "abs") rAbs := L2.call_abs
theorem call_min2 (hc : X.calm = true) : CallR X (.builtin "min") rMin2 := L2.call_min2 hc
theorem call_max2 (hc : X.calm = true) : CallR X (.builtin "max") rMax2 := L2.call_max2 hc
theorem call_len : CallR X (.builtin "len") (rLenS X.K) := call_len_seq
theorem call_lenT : CallR X (.builtin "len") rLenT := call_len_str
theorem call_list : CallR X (.type "list") (rListOf X.K) := call_list_of
theorem op_isN : OpR X (compareOp .Is) rIsN := L2.op_isN
theorem op_notN : OpR X (compareOp .IsNot) rNotN := L2.op_notN
theorem call_int1 : CallR X (.type "int") rInt1 := L2.call_int1
theorem call_strI : CallR X (.type "str") rStrI := L2.call_str_int
theorem call_intS : CallR X (.type "int") rIntS := L2.call_int_str
theorem op_addS : OpR X (binaryOp .Add) rAddS := L2.op_add_str
theorem mt_split : MtR X "str.split" rSplit := L2.mt_split
theorem mt_join : MtR X "str.join" (rJoin X.K) := L2.mt_join
end
/-! ## the reel -/
/-- from H to H' by draws, new objects and stores to what was new -/
structure RT (H H' : Hp) (b : Addr) (d : Nat) : Prop where
  r : Reel H' b d
  f : Fr H H' b
  a : ∀ a, Apart H b a → H a ≠ none → Apart H' b a
theorem Reel.up {H : Hp} {b : Addr} {d d' : Nat} (r : Reel H b d) (h : d ≤ d') : Reel H b d' := r.mono h
theorem reel_fr {H H' : Hp} {b p : Addr} {d : Nat} (r : Reel H b d) (f : Fr H H' p) (ap : Apart H b p) : Reel H' b d := by
  obtain ⟨g, c, gs, cs, k, t, a1, a2, a3, a4⟩ := r.ex
  have n := ap.2 _ a1
  exact ⟨⟨g, c, gs, cs, k, t, f _ _ a1 (Ne.symm ap.1), f _ _ a2 fun e => n (by rw [e]; simp), f _ _ a3 fun e => n (by rw [e]; simp), a4⟩⟩
theorem ap_same {H H' : Hp} {b a : Addr} {d : Nat} (s : Same H H') (r : Reel H b d) (h : Apart H b a) : Apart H' b a := by
  obtain ⟨g, c, gs, cs, k, t, a1, _⟩ := r.ex
  exact ⟨h.1, fun xs hx => by rw [s _ _ a1] at hx; cases hx; exact h.2 _ a1⟩
theorem ap_fr {H H' : Hp} {b a p : Addr} {d : Nat} (f : Fr H H' p) (ap : Apart H b p) (r : Reel H b d) (h : Apart H b a) : Apart H' b a := by
  obtain ⟨g, c, gs, cs, k, t, a1, _⟩ := r.ex
  exact ⟨h.1, fun xs hx => by rw [f _ _ a1 (Ne.symm ap.1)] at hx; cases hx; exact h.2 _ a1⟩
theorem rt_refl {H : Hp} {b : Addr} {d : Nat} (r : Reel H b d) : RT H H b d := ⟨r, Fr.refl _ _, fun _ h _ => h⟩
theorem rt_s {H H1 H' : Hp} {b : Addr} {d : Nat} (s : Same H1 H') (t : RT H H1 b d) : RT H H' b d := ⟨t.r.same s, Fr.same t.f s, fun a h n => ap_same s t.r (t.a a h n)⟩
theorem rt_t {H H1 H' : Hp} {b : Addr} {d d' : Nat} (u : RT H1 H' b d') (t : RT H H1 b d) : RT H H' b d' := ⟨u.r, t.f.trans u.f, fun a h n => u.a a (t.a a h n) (by
  obtain ⟨o, ho⟩ := Option.ne_none_iff_exists'.mp n
  rw [t.f _ _ ho h.1]; simp)⟩
theorem rt_f {H H1 H' : Hp} {b p : Addr} {d : Nat} (f : Fr H1 H' p) (t : RT H H1 b d) (n : H p = none) (ap : Apart H1 b p) : RT H H' b d := ⟨reel_fr t.r f ap, Fr.fr_new t.f f n, fun a h n => ap_fr f ap t.r (t.a a h n)⟩
theorem rt_mono {H H' : Hp} {b : Addr} {d d' : Nat} (t : RT H H' b d) (h : d ≤ d') : RT H H' b d' := ⟨t.r.mono h, t.f, t.a⟩
theorem rl_t {H H' : Hp} {b : Addr} {d : Nat} (t : RT H H' b d) : Reel H' b d := t.r
theorem rl_s {H H' : Hp} {b : Addr} {d : Nat} (s : Same H H') (r : Reel H b d) : Reel H' b d := r.same s
theorem rl_f {H H' : Hp} {b p : Addr} {d : Nat} (f : Fr H H' p) (r : Reel H b d) (ap : Apart H b p) : Reel H' b d := reel_fr r f ap
theorem ap_new {H H' : Hp} {b p : Addr} {d : Nat} (n : H p = none) (s : Same H H') (r : Reel H b d) : Apart H' b p := ap_same s r (r.new n)
theorem ap_s {H H' : Hp} {b a : Addr} {d : Nat} (s : Same H H') (h : Apart H b a) (r : Reel H b d) : Apart H' b a := ap_same s r h
theorem ap_t {H H' : Hp} {b a : Addr} {d : Nat} {o : HO} (t : RT H H' b d) (h : Apart H b a) (e : H a = some o) : Apart H' b a := t.a a h (by rw [e]; simp)
theorem ap_f {H H' : Hp} {b a p : Addr} {d : Nat} (f : Fr H H' p) (h : Apart H b a) (ap : Apart H b p) (r : Reel H b d) : Apart H' b a := ap_fr f ap r h
theorem ne_ap {H : Hp} {b a : Addr} (h : Apart H b a) : a ≠ b := h.1
theorem ne_rl {H : Hp} {b p : Addr} {d : Nat} (n : H p = none) (r : Reel H b d) : p ≠ b := r.ne_new n
theorem hp_t {H H' : Hp} {b p : Addr} {d : Nat} {o : HO} (t : RT H H' b d) (h : H p = some o) (n : p ≠ b) : H' p = some o := t.f p o h n
theorem sq_t {K : PySem.W.Frag} {H H' : Hp} {b p : Addr} {d : Nat} {xs : List V} (t : RT H H' b d) (h : SqL K H p xs) (n : p ≠ b) : SqL K H' p xs := fr_seq t.f h n
theorem tu_t {K : PySem.W.Frag} {H H' : Hp} {b p : Addr} {d : Nat} {xs : List V} (t : RT H H' b d) (h : SqT K H p xs) (n : p ≠ b) : SqT K H' p xs := fr_tup t.f h n
theorem se_tt {K : PySem.W.Frag} {H H' : Hp} {b p : Addr} {d : Nat} {xs : List V} (t : RT H H' b d) (h : SqE K H p xs) (n : p ≠ b) : SqE K H' p xs := se_f t.f h n
theorem no_t {H H' : Hp} {b p : Addr} {d : Nat} (h : H' p = none) (t : RT H H' b d) : H p = none := by
  obtain ⟨o, ho⟩ := t.r.nb
  exact free_fr t.f ho h
theorem fr_t {H0 H H' : Hp} {b : Addr} {d : Nat} (t : RT H H' b d) (h : Fr H0 H b) : Fr H0 H' b := h.trans t.f
/-! ## frames about some objects -/
structure FrL (H H' : Hp) (L : List Addr) : Prop where
  k : ∀ a o, H a = some o → a ∉ L → H' a = some o
  l : ∀ a ∈ L, H' a ≠ none
def Trk (H : Hp) (L : List Addr) : Prop := ∀ a ∈ L, H a ≠ none
theorem trk_nil {H : Hp} : Trk H [] := fun a h => by cases h
theorem trk_cons {H : Hp} {a : Addr} {o : HO} {L : List Addr} (h : H a = some o) (t : Trk H L) : Trk H (a :: L) := fun b hb => by
  rcases List.mem_cons.mp hb with rfl | hb
  · rw [h]; simp
  · exact t b hb
theorem ni_nil {a : Addr} : a ∉ ([] : List Addr) := by simp
theorem ni_cons {a b : Addr} {L : List Addr} (h : a ≠ b) (t : a ∉ L) : a ∉ b :: L := fun q => by
  rcases List.mem_cons.mp q with e | e
  · exact h e
  · exact t e
theorem mem_hd {a : Addr} {L : List Addr} : a ∈ a :: L := List.mem_cons_self ..
theorem mem_tl {a b : Addr} {L : List Addr} (h : a ∈ L) : a ∈ b :: L := List.mem_cons_of_mem _ h
theorem fl_refl {H : Hp} {L : List Addr} (t : Trk H L) : FrL H H L := ⟨fun _ _ h _ => h, t⟩
theorem fl_s {H H1 H' : Hp} {L : List Addr} (s : Same H1 H') (f : FrL H H1 L) : FrL H H' L := ⟨fun a o h n => s a o (f.k a o h n), fun a ha => by
  obtain ⟨o, ho⟩ := Option.ne_none_iff_exists'.mp (f.l a ha)
  rw [s _ _ ho]; simp⟩
theorem fl_m {H H1 H' : Hp} {L : List Addr} {p : Addr} {o : HO} (g : Fr H1 H' p) (f : FrL H H1 L) (hp : p ∈ L) (e : H' p = some o) : FrL H H' L := ⟨fun a u h n => g a u (f.k a u h n) fun z => n (z ▸ hp), fun a ha => by
  by_cases z : a = p
  · rw [z, e]; simp
  · obtain ⟨u, hu⟩ := Option.ne_none_iff_exists'.mp (f.l a ha)
    rw [g _ _ hu z]; simp⟩
theorem fl_n {H H1 H' : Hp} {L : List Addr} {p : Addr} {o : HO} (g : Fr H1 H' p) (f : FrL H H1 L) (n : H p = none) (e : H' p = some o) : FrL H H' L := ⟨fun a u h m => g a u (f.k a u h m) (ne_of_none h n), fun a ha => by
  by_cases z : a = p
  · rw [z, e]; simp
  · obtain ⟨u, hu⟩ := Option.ne_none_iff_exists'.mp (f.l a ha)
    rw [g _ _ hu z]; simp⟩
theorem fl_l {H H1 H' : Hp} {L : List Addr} (g : FrL H1 H' L) (f : FrL H H1 L) : FrL H H' L := ⟨fun a u h n => g.k a u (f.k a u h n) n, g.l⟩
theorem fl_lm {H H1 H' : Hp} {L M : List Addr} (g : FrL H1 H' M) (f : FrL H H1 L) (hs : ∀ a ∈ M, a ∈ L) : FrL H H' L := ⟨fun a u h n => g.k a u (f.k a u h n) fun q => n (hs a q), fun a ha => by
  by_cases q : a ∈ M
  · exact g.l a q
  · obtain ⟨u, hu⟩ := Option.ne_none_iff_exists'.mp (f.l a ha)
    rw [g.k _ _ hu q]; simp⟩
theorem sub_nil {L : List Addr} : ∀ a ∈ ([] : List Addr), a ∈ L := fun a h => by cases h
theorem sub_cons {a : Addr} {L M : List Addr} (h : a ∈ L) (t : ∀ b ∈ M, b ∈ L) : ∀ b ∈ a :: M, b ∈ L := fun b hb => by
  rcases List.mem_cons.mp hb with rfl | hb
  · exact h
  · exact t b hb
theorem sm_l {H0 H H' : Hp} {L : List Addr} (f : FrL H H' L) (s : Same H0 H) (n : ∀ a ∈ L, H0 a = none) : Same H0 H' := fun a o h => f.k a o (s a o h) fun q => by rw [n a q] at h; cases h
theorem hp_l {H H' : Hp} {L : List Addr} {p : Addr} {o : HO} (f : FrL H H' L) (h : H p = some o) (n : p ∉ L) : H' p = some o := f.k p o h n
theorem sq_l {K : PySem.W.Frag} {H H' : Hp} {L : List Addr} {p : Addr} {xs : List V} (f : FrL H H' L) (h : SqL K H p xs) (n : p ∉ L) : SqL K H' p xs := by
  rcases h with (h | ⟨o, h⟩) | h
  · exact .inl (.inl (f.k _ _ h n))
  · exact .inl (.inr ⟨o, f.k _ _ h n⟩)
  · exact .inr h
theorem tu_l {K : PySem.W.Frag} {H H' : Hp} {L : List Addr} {p : Addr} {xs : List V} (f : FrL H H' L) (h : SqT K H p xs) (n : p ∉ L) : SqT K H' p xs := by
  rcases h with (h | ⟨o, h⟩) | h
  · exact .inl (.inl (f.k _ _ h n))
  · exact .inl (.inr ⟨o, f.k _ _ h n⟩)
  · exact .inr h
theorem no_l {H H' : Hp} {L : List Addr} {p : Addr} (h : H' p = none) (f : FrL H H' L) : H p = none := by
  cases q : H p with
  | none => rfl
  | some u =>
    by_cases e : p ∈ L
    · exact absurd h (f.l p e)
    · rw [f.k p u q e] at h; cases h
def ApL (H : Hp) (b : Addr) (L : List Addr) : Prop := ∀ a ∈ L, Apart H b a
theorem al_nil {H : Hp} {b : Addr} : ApL H b [] := fun a h => by cases h
theorem al_cons {H : Hp} {b a : Addr} {L : List Addr} (h : Apart H b a) (t : ApL H b L) : ApL H b (a :: L) := fun c hc => by
  rcases List.mem_cons.mp hc with rfl | hc
  · exact h
  · exact t c hc
theorem rl_l {H H' : Hp} {b : Addr} {d : Nat} {L : List Addr} (f : FrL H H' L) (r : Reel H b d) (al : ApL H b L) : Reel H' b d := by
  obtain ⟨g, c, gs, cs, k, t, a1, a2, a3, a4⟩ := r.ex
  have n : ∀ x, V.ref x ∈ [V.ref g, .ref c, .int k, .int t] → x ∉ L := fun x hx hl => (al x hl).2 _ a1 hx
  exact ⟨⟨g, c, gs, cs, k, t, f.k _ _ a1 fun q => (al b q).1 rfl, f.k _ _ a2 (n g (by simp)), f.k _ _ a3 (n c (by simp)), a4⟩⟩
theorem ap_l {H H' : Hp} {b a : Addr} {d : Nat} {L : List Addr} (f : FrL H H' L) (h : Apart H b a) (al : ApL H b L) (r : Reel H b d) : Apart H' b a := by
  obtain ⟨g, c, gs, cs, k, t, a1, _⟩ := r.ex
  exact ⟨h.1, fun xs hx => by rw [f.k _ _ a1 fun q => (al b q).1 rfl] at hx; cases hx; exact h.2 _ a1⟩
section
variable {K : PySem.W.Frag} {σ : L2.St} {H : Hp} {Q : VK} {D : Ends} {QA : List V → Hp → Prop} {QB : Bool → Hp → Prop}
/-! ## expressions -/
theorem var {i : Nat} {v : V} (h : σ[i]? = some (some v)) (q : Q v H) : tVar i σ H Q := ⟨v, h, q⟩
theorem con {v : V} (q : Q v H) : tC v σ H Q := q
theorem op {r : R2} {ta tb : TE} (h : ta σ H fun x H1 => tb σ H1 fun y H2 => r x y H2 Q) : tOp r ta tb σ H Q := h
theorem un {r : V → Hp → VK → Prop} {ta : TE} (h : ta σ H fun x H1 => r x H1 Q) : tUn r ta σ H Q := h
theorem tcons {ta : TE} {tr : TA} (h : ta σ H fun x H1 => tr σ H1 fun xs H2 => QA (x :: xs) H2) : tCons ta tr σ H QA := h
theorem tnil (h : QA [] H) : tNil σ H QA := h
theorem tcb {r : List V → Hp → VK → Prop} {t : TA} (h : t σ H fun vs H1 => r vs H1 Q) : tCB r t σ H Q := h
theorem tcall {sp : Sp} {dvs : List V} {E : XK} {t : TA} (h : t σ H fun vs H1 => sp (vs ++ dvs) H1 Q E) : tCall sp dvs E t σ H Q := h
theorem tsl {r : V → Option Int → Option Int → Hp → VK → Prop} {te : TE} {tl th : TO} (h : te σ H fun x H1 => tl σ H1 fun l H2 => th σ H2 fun u H3 => r x l u H3 Q) : tSl r te tl th σ H Q := h
theorem tnop {QO : Option Int → Hp → Prop} (h : QO none H) : tNoPart σ H QO := h
def kPart (QO : Option Int → Hp → Prop) : VK := fun x H1 => ∃ i, x = .int i ∧ QO (some i) H1
theorem tpart {te : TE} {QO : Option Int → Hp → Prop} (h : te σ H (kPart QO)) : tPart te σ H QO := h
theorem k_part {i : Int} {QO : Option Int → Hp → Prop} (q : QO (some i) H) : kPart QO (.int i) H := ⟨i, rfl, q⟩
def kB (QB : Bool → Hp → Prop) : VK := fun x H1 => ∃ k, x = .bl k ∧ QB k H1
theorem k_b {b : Bool} (q : QB b H) : kB QB (.bl b) H := ⟨b, rfl, q⟩
theorem ttest {te : TE} (h : te σ H (kB QB)) : tTest te σ H QB := h
theorem tb {te : TE} (h : te σ H (kB QB)) : tB te σ H QB := h
theorem tyes (h : QB true H) : tYes σ H QB := h
theorem tand {t u : TT} (h : t σ H fun c H1 => if c = true then u σ H1 QB else QB false H1) : tAnd t u σ H QB := h
theorem tor {t u : TT} (h : t σ H fun c H1 => if c = true then QB true H1 else u σ H1 QB) : tOr t u σ H QB := h
theorem tnot {t : TT} (h : t σ H fun c H1 => QB (!c) H1) : tNot t σ H QB := h
theorem tif {t : TT} {ta tb : TE} (h : t σ H fun c H1 => if c = true then ta σ H1 Q else tb σ H1 Q) : tIf t ta tb σ H Q := h
def kAV (tb : TE) (σ : L2.St) (Q : VK) : VK := fun x H1 => ∃ c, x = .bl c ∧ if c = true then tb σ H1 Q else Q (.bl false) H1
theorem tandv {ta tb : TE} (h : ta σ H (kAV tb σ Q)) : tAndV ta tb σ H Q := h
theorem k_av {tb : TE} {c : Bool} (h : if c = true then tb σ H Q else Q (.bl false) H) : kAV tb σ Q (.bl c) H := ⟨c, rfl, h⟩
def kOV (tb : TE) (σ : L2.St) (Q : VK) : VK := fun x H1 => ∃ c, x = .bl c ∧ if c = true then Q (.bl true) H1 else tb σ H1 Q
theorem torv {ta tb : TE} (h : ta σ H (kOV tb σ Q)) : tOrV ta tb σ H Q := h
theorem k_ov {tb : TE} {c : Bool} (h : if c = true then Q (.bl true) H else tb σ H Q) : kOV tb σ Q (.bl c) H := ⟨c, rfl, h⟩
def kNV (Q : VK) : VK := fun x H1 => ∃ c, x = .bl c ∧ Q (.bl (!c)) H1
theorem tnotv {ta : TE} (h : ta σ H (kNV Q)) : tNotV ta σ H Q := h
theorem k_nv {c : Bool} (h : Q (.bl (!c)) H) : kNV Q (.bl c) H := ⟨c, rfl, h⟩
def kCh (r r' : R2) (tc : TE) (σ : L2.St) (y : V) (Q : VK) : VK := fun z H3 => ∃ k, z = .bl k ∧ if k = true then tc σ H3 fun x H4 => r' y x H4 Q else Q (.bl false) H3
theorem tchain {r r' : R2} {ta tb tc : TE} (h : ta σ H fun x H1 => tb σ H1 fun y H2 => r x y H2 (kCh r r' tc σ y Q)) : tChain r r' ta tb tc σ H Q := h
theorem k_ch {r r' : R2} {tc : TE} {y : V} {k : Bool} (h : if k = true then tc σ H fun x H4 => r' y x H4 Q else Q (.bl false) H) : kCh r r' tc σ y Q (.bl k) H := ⟨k, rfl, h⟩
theorem ift {A B : Prop} (h : A) : if true = true then A else B := by rw [if_pos rfl]; exact h
theorem iff_ {A B : Prop} (h : B) : if false = true then A else B := by rw [if_neg Bool.false_ne_true]; exact h
theorem ifnt {A B : Prop} (h : B) : if (!true) = true then A else B := by rw [if_neg (by decide)]; exact h
theorem ifnf {A B : Prop} (h : A) : if (!false) = true then A else B := by rw [if_pos (by decide)]; exact h
theorem if2 {c A B : Prop} [Decidable c] (h1 : c → A) (h2 : ¬ c → B) : if decide c = true then A else B := ite2d h1 h2
theorem ifn2 {c A B : Prop} [Decidable c] (h1 : ¬ c → A) (h2 : c → B) : if (!decide c) = true then A else B := by
  by_cases h : c
  · rw [decide_eq_true h]; exact ifnt (h2 h)
  · rw [decide_eq_false h]; exact ifnf (h1 h)
theorem of_iff {A B : Prop} (h : if false = true then A else B) : B := by rw [if_neg Bool.false_ne_true] at h; exact h
/-- two ways that go on alike -/
theorem tail_t {c A X : Prop} [Decidable c] (h : c → X → A) (x : X) : if decide c = true then A else X := ite2d (fun hc => h hc x) fun _ => x
theorem tail_e {c A X : Prop} [Decidable c] (h : ¬ c → X → A) (x : X) : if decide c = true then X else A := ite2d (fun _ => x) fun hc => h hc x
/-! ## values -/
theorem ri0 {g : Int → Int → V} {i j : Int} (q : Q (g i j) H) : rI0 g (.int i) (.int j) H Q := ⟨i, j, rfl, rfl, q⟩
theorem ri {C : Int → Int → Prop} {g : Int → Int → V} {i j : Int} (c : C i j) (q : Q (g i j) H) : rI C g (.int i) (.int j) H Q := ⟨i, j, rfl, rfl, c, q⟩
theorem ru {g : Int → V} {i : Int} (q : Q (g i) H) : rU g (.int i) H Q := ⟨i, rfl, q⟩
theorem req_i {x y : Int} (q : Q (.bl (decide (x = y))) H) : rEq (.int x) (.int y) H Q := ⟨rfl, by rw [show decide (V.int x = V.int y) = decide (x = y) from decide_eq_decide.mpr ⟨V.int.inj, congrArg _⟩]; exact q⟩
theorem rne_i {x y : Int} (q : Q (.bl (!decide (x = y))) H) : rNe (.int x) (.int y) H Q := ⟨rfl, by rw [show decide (V.int x = V.int y) = decide (x = y) from decide_eq_decide.mpr ⟨V.int.inj, congrArg _⟩]; exact q⟩
theorem req_s {x y : Str} (q : Q (.bl (decide (x = y))) H) : rEq (.str x) (.str y) H Q := ⟨rfl, by rw [show decide (V.str x = V.str y) = decide (x = y) from decide_eq_decide.mpr ⟨V.str.inj, congrArg _⟩]; exact q⟩
theorem rne_s {x y : Str} (q : Q (.bl (!decide (x = y))) H) : rNe (.str x) (.str y) H Q := ⟨rfl, by rw [show decide (V.str x = V.str y) = decide (x = y) from decide_eq_decide.mpr ⟨V.str.inj, congrArg _⟩]; exact q⟩
theorem req_b {x y : Bool} (q : Q (.bl (decide (x = y))) H) : rEq (.bl x) (.bl y) H Q := ⟨rfl, by rw [show decide (V.bl x = V.bl y) = decide (x = y) from decide_eq_decide.mpr ⟨V.bl.inj, congrArg _⟩]; exact q⟩
theorem rne_b {x y : Bool} (q : Q (.bl (!decide (x = y))) H) : rNe (.bl x) (.bl y) H Q := ⟨rfl, by rw [show decide (V.bl x = V.bl y) = decide (x = y) from decide_eq_decide.mpr ⟨V.bl.inj, congrArg _⟩]; exact q⟩
theorem rne_same {x : V} (h : scal x x = true) (q : Q (.bl false) H) : rNe x x H Q := ⟨h, by rw [decide_eq_true rfl]; exact q⟩
theorem req_same {x : V} (h : scal x x = true) (q : Q (.bl true) H) : rEq x x H Q := ⟨h, by rw [decide_eq_true rfl]; exact q⟩
theorem req {x y : V} (h : scal x y = true) (q : Q (.bl (decide (x = y))) H) : rEq x y H Q := ⟨h, q⟩
theorem rne {x y : V} (h : scal x y = true) (q : Q (.bl (!decide (x = y))) H) : rNe x y H Q := ⟨h, q⟩
theorem rixl {p : Addr} {xs : List V} {i : Int} {v : V} (h : SqL K H p xs) (e : atI xs i = some v) (q : Q v H) : rIxL K (.ref p) (.int i) H Q := ⟨p, xs, i, v, rfl, rfl, h, e, q⟩
theorem rixt {p : Addr} {xs : List V} {i : Int} {v : V} (h : SqT K H p xs) (e : atI xs i = some v) (q : Q v H) : rIxT K (.ref p) (.int i) H Q := ⟨p, xs, i, v, rfl, rfl, h, e, q⟩
theorem rixl_n {p : Addr} {xs : List V} {j : Nat} {i : Int} {v : V} (h : SqL K H p xs) (e : xs[j]? = some v) (hz : i = (j : Int)) (q : Q v H) : rIxL K (.ref p) (.int i) H Q := ⟨p, xs, i, v, rfl, rfl, h, at_of hz e, q⟩
theorem rixt_n {p : Addr} {xs : List V} {j : Nat} {i : Int} {v : V} (h : SqT K H p xs) (e : xs[j]? = some v) (hz : i = (j : Int)) (q : Q v H) : rIxT K (.ref p) (.int i) H Q := ⟨p, xs, i, v, rfl, rfl, h, at_of hz e, q⟩
theorem rixs {z : Str} {i : Int} {j c : Nat} (hz : z.length ≤ 100000) (e : z.cps.toList[j]? = some c) (hi : i = (j : Int)) (q : Q (.str ⟨#[c]⟩) H) : rIxS (.str z) (.int i) H Q := ⟨z, i, c, rfl, rfl, sz hz, at_g hi e, q⟩
theorem rin_l {neg : Bool} {x : V} {p : Addr} {xs : List V} (h : SqL K H p xs) (hx : flatV x = true) (ha : xs.all flatV = true) (q : Q (.bl (if neg then !inV x xs else inV x xs)) H) : rIn K neg x (.ref p) H Q := ⟨p, xs, rfl, .inl h, hx, ha, q⟩
theorem rin_i {n : Int} {p : Addr} {xs : List Int} (h : SqL K H p (xs.map V.int)) (q : Q (.bl (decide (n ∈ xs))) H) : rIn K false (.int n) (.ref p) H Q := rin_l h rfl (flat_ints _) (by rw [in_ints]; exact q)
theorem rni_i {n : Int} {p : Addr} {xs : List Int} (h : SqL K H p (xs.map V.int)) (q : Q (.bl (!decide (n ∈ xs))) H) : rIn K true (.int n) (.ref p) H Q := rin_l h rfl (flat_ints _) (by rw [in_ints]; exact q)
theorem rlen_l {p : Addr} {xs : List V} (h : SqL K H p xs) (q : Q (.int (xs.length : Nat)) H) : rLenS K [.ref p] H Q := ⟨p, xs, rfl, .inl h, q⟩
theorem rlen_t {p : Addr} {xs : List V} (h : SqT K H p xs) (q : Q (.int (xs.length : Nat)) H) : rLenS K [.ref p] H Q := ⟨p, xs, rfl, .inr h, q⟩
theorem rlen_li {p : Addr} {xs : List Int} (h : SqL K H p (xs.map V.int)) (q : Q (.int (xs.length : Nat)) H) : rLenS K [.ref p] H Q := ⟨p, _, rfl, .inl h, by rw [List.length_map]; exact q⟩
theorem rlen_ls {p : Addr} {xs : List Str} (h : SqL K H p (xs.map V.str)) (q : Q (.int (xs.length : Nat)) H) : rLenS K [.ref p] H Q := ⟨p, _, rfl, .inl h, by rw [List.length_map]; exact q⟩
theorem rlen_E {p : Addr} {xs : List V} (h : SqE K H p xs) (q : Q (.int (xs.length : Nat)) H) : rLenS K [.ref p] H Q := ⟨p, xs, rfl, h, q⟩
theorem rlen_Ei {p : Addr} {xs : List Int} (h : SqE K H p (xs.map V.int)) (q : Q (.int (xs.length : Nat)) H) : rLenS K [.ref p] H Q := ⟨p, _, rfl, h, by rw [List.length_map]; exact q⟩
/-! ## new objects -/
def kTup (Q : VK) : List V → Hp → Prop := fun xs H1 => xs.length ≤ sizeLine ∧ ∀ p, H1 p = none → Q (.ref p) (upd H1 p (.tup xs))
theorem ttup {t : TA} (h : t σ H (kTup Q)) : tTup t σ H Q := h
theorem k_tup {xs : List V} (hz : xs.length ≤ sizeLine) (k : ∀ (p : Addr) (H' : Hp), H p = none → Same H H' → H' p = some (.tup xs) → Q (.ref p) H') : kTup Q xs H := ⟨hz, fun p np => k p _ np (same_upd np) upd_same⟩
def kLst (Q : VK) : List V → Hp → Prop := fun xs H1 => xs.length ≤ sizeLine ∧ ∀ p, H1 p = none → Q (.ref p) (upd H1 p (.lst xs))
theorem tlst {t : TA} (h : t σ H (kLst Q)) : tLst t σ H Q := h
theorem k_lst {xs : List V} (hz : xs.length ≤ sizeLine) (k : ∀ (p : Addr) (H' : Hp), H p = none → Same H H' → H' p = some (.lst xs) → Q (.ref p) H') : kLst Q xs H := ⟨hz, fun p np => k p _ np (same_upd np) upd_same⟩
theorem rsll {a : Addr} {xs : List V} {lo hi : Option Int} (h : SqL K H a xs) (k : ∀ (p : Addr) (H' : Hp), H p = none → Same H H' → H' p = some (.lst (cutV xs lo hi)) → Q (.ref p) H') : rSlL K (.ref a) lo hi H Q := ⟨a, xs, rfl, h, fun p np => k p _ np (same_upd np) upd_same⟩
theorem rcat {l b : Addr} {xs zs : List V} (h1 : H l = some (.lst xs)) (h2 : H b = some (.lst zs)) (hz : xs.length + zs.length ≤ sizeLine) (k : ∀ (p : Addr) (H' : Hp), H p = none → Same H H' → H' p = some (.lst (xs ++ zs)) → Q (.ref p) H') : rCat (.ref l) (.ref b) H Q := ⟨l, b, xs, zs, rfl, rfl, h1, h2, hz, fun p np => k p _ np (same_upd np) upd_same⟩
theorem list_l {r : List V → Hp → VK → Prop} (hr : r = fun xs H Q => ∃ p ys, xs = [.ref p] ∧ (SqL K H p ys ∨ SqT K H p ys) ∧ ∀ l, H l = none → Q (.ref l) (upd H l (.lst ys))) {a : Addr} {xs : List V} (h : SqL K H a xs)
    (k : ∀ (p : Addr) (H' : Hp), H p = none → Same H H' → H' p = some (.lst xs) → Q (.ref p) H') : r [.ref a] H Q := by
  subst hr; exact ⟨a, xs, rfl, .inl h, fun p np => k p _ np (same_upd np) upd_same⟩
theorem new_strs {ys : List Str} (k : ∀ (p : Addr) (H' : Hp), H p = none → Same H H' → H' p = some (.lst (ys.map V.str)) → Q (.ref p) H') : rNewStrs ys H Q := fun p np => k p _ np (same_upd np) upd_same
theorem rlist_l {a : Addr} {xs : List V} (h : SqL K H a xs) (k : ∀ (p : Addr) (H' : Hp), H p = none → Same H H' → H' p = some (.lst xs) → Q (.ref p) H') : rListOf K [.ref a] H Q := ⟨a, xs, rfl, .inl h, fun p np => k p _ np (same_upd np) upd_same⟩
theorem risn_i {i : Int} (q : Q (.bl false) H) : rIsN (.int i) .non H Q := ⟨rfl, q⟩
theorem risn_b {i : Bool} (q : Q (.bl false) H) : rIsN (.bl i) .non H Q := ⟨rfl, q⟩
theorem risn_s {i : Str} (q : Q (.bl false) H) : rIsN (.str i) .non H Q := ⟨rfl, q⟩
theorem risn_n (q : Q (.bl true) H) : rIsN .non .non H Q := ⟨rfl, q⟩
theorem rnotn_i {i : Int} (q : Q (.bl true) H) : rNotN (.int i) .non H Q := ⟨rfl, q⟩
theorem rnotn_n (q : Q (.bl false) H) : rNotN .non .non H Q := ⟨rfl, q⟩
theorem rint_b {b : Bool} (q : Q (.int (if b then 1 else 0)) H) : rInt1 [.bl b] H Q := .inr ⟨b, rfl, q⟩
theorem rint_i {i : Int} (q : Q (.int i) H) : rInt1 [.int i] H Q := .inl ⟨i, rfl, q⟩
theorem rstr_i {i : Int} (h : i.natAbs.log2 < 1920) (q : Q (.str (toString i)) H) : rStrI [.int i] H Q := ⟨i, rfl, h, q⟩
theorem rint_s {a : Str} {n : Int} (h : PySem.intText? a = some n) (hl : a.length ≤ 640) (q : Q (.int n) H) : rIntS [.str a] H Q := ⟨a, n, rfl, h, hl, q⟩
theorem radds {a b : Str} (h : a.length + b.length ≤ 100000) (q : Q (.str (a ++ b)) H) : rAddS (.str a) (.str b) H Q := ⟨a, b, rfl, rfl, sz h, q⟩
theorem rsplit {a b : Str} (hb : (b.length == 0) = false) (hl : a.length ≤ 99998) (k : ∀ (p : Addr) (H' : Hp), H p = none → Same H H' → H' p = some (.lst ((Txt.split a b).map V.str)) → Q (.ref p) H') : rSplit (.str a) [.str b] H Q := ⟨a, b, rfl, rfl, hb, sz (by omega), new_strs k⟩
theorem rjoin {a : Str} {p : Addr} {ys : List Str} (h : SqL K H p (ys.map V.str)) (hz : (ys.map (·.length)).sum + ys.length * a.length ≤ 16777216) (q : Q (.str (Txt.join a ys)) H) : rJoin K (.str a) [.ref p] H Q := ⟨a, p, ys, rfl, rfl, .inl h, hz, q⟩
theorem tstep {te tk : TE} (h : te σ H fun x H1 => tPart tk σ H1 (kStep K x Q)) : tStepL K te tk σ H Q := h
theorem k_step {a : Addr} {xs : List V} {z : Int} (hz : z = 1 ∨ z = -1) (h : SqL K H a xs) (k : ∀ (p : Addr) (H' : Hp), H p = none → Same H H' → H' p = some (.lst (if z = 1 then xs else xs.reverse)) → Q (.ref p) H') : kStep K (.ref a) Q (some z) H :=
  ⟨a, xs, rfl, hz.imp (congrArg _) (congrArg _), h, fun p np => by
    have e : (if (some z : Option Int) = some 1 then xs else xs.reverse) = (if z = 1 then xs else xs.reverse) := by
      by_cases q : z = 1
      · rw [if_pos q, if_pos (by rw [q])]
      · rw [if_neg q, if_neg (fun w => q (Option.some.inj w))]
    rw [e]
    exact k p _ np (same_upd np) upd_same⟩
/-! ## isinstance -/
theorem isi {x : V} {c : String} {a : String} {b : Bool} (ty : TyX K H x (.type a)) (h : kitB a c = some b) (q : Q (.bl b) H) : rIsi K [x, .ty c] H Q := ⟨x, .ty c, .type a, .type c, b, rfl, .ty c, ty, kit_ty h, q⟩
theorem isi_i {n : Int} {c : String} {b : Bool} (h : kitB "int" c = some b) (q : Q (.bl b) H) : rIsi K [.int n, .ty c] H Q := isi (.base (.int n)) h q
theorem isi_s {n : Str} {c : String} {b : Bool} (h : kitB "str" c = some b) (q : Q (.bl b) H) : rIsi K [.str n, .ty c] H Q := isi (.base (.str n)) h q
theorem isi_l {a : Addr} {xs : List V} {c : String} {b : Bool} (s : SqL K H a xs) (h : kitB "list" c = some b) (q : Q (.bl b) H) : rIsi K [.ref a, .ty c] H Q := by
  refine isi (a := "list") ?_ h q
  rcases s with (s | ⟨o, s⟩) | ⟨dd, its, n, h1, h2⟩
  · exact .base (.lst s)
  · exact .base (.frz s)
  · exact .kList h1 h2.1
theorem isi_t {a : Addr} {xs : List V} {c : String} {b : Bool} (s : SqT K H a xs) (h : kitB "tuple" c = some b) (q : Q (.bl b) H) : rIsi K [.ref a, .ty c] H Q := by
  refine isi (a := "tuple") ?_ h q
  rcases s with (s | ⟨o, s⟩) | ⟨dd, its, n, h1, h2⟩
  · exact .base (.tup s)
  · exact .fTuple s
  · exact .kTuple h1 h2.1
theorem kit_no (a : String) (h1 : kitB a "list" = some false) (h2 : kitB a "tuple" = some false) : PySem.W.kitAny K (.type a) [.type "list", .type "tuple"] = some false :=
  kitAny_cons (b := false) (kit_ty h1) (fun _ => kitAny_cons (b := false) (kit_ty h2) (fun _ => kitAny_nil) fun z => nomatch z) fun z => nomatch z
theorem isi_int_int {n : Int} (q : Q (.bl true) H) : rIsi K [.int n, .ty "int"] H Q := isi (a := "int") (b := true) (.base (.int n)) (by decide +kernel) q
theorem isi_int_bool {n : Int} (q : Q (.bl false) H) : rIsi K [.int n, .ty "bool"] H Q := isi (a := "int") (b := false) (.base (.int n)) (by decide +kernel) q
theorem isi_int_str {n : Int} (q : Q (.bl false) H) : rIsi K [.int n, .ty "str"] H Q := isi (a := "int") (b := false) (.base (.int n)) (by decide +kernel) q
theorem isi_str_int {n : Str} (q : Q (.bl false) H) : rIsi K [.str n, .ty "int"] H Q := isi (a := "str") (b := false) (.base (.str n)) (by decide +kernel) q
theorem isi_str_bool {n : Str} (q : Q (.bl false) H) : rIsi K [.str n, .ty "bool"] H Q := isi (a := "str") (b := false) (.base (.str n)) (by decide +kernel) q
theorem isi_str_str {n : Str} (q : Q (.bl true) H) : rIsi K [.str n, .ty "str"] H Q := isi (a := "str") (b := true) (.base (.str n)) (by decide +kernel) q
theorem isi_bool_int {n : Bool} (q : Q (.bl true) H) : rIsi K [.bl n, .ty "int"] H Q := isi (a := "bool") (b := true) (.base (.bl n)) (by decide +kernel) q
theorem isi_bool_bool {n : Bool} (q : Q (.bl true) H) : rIsi K [.bl n, .ty "bool"] H Q := isi (a := "bool") (b := true) (.base (.bl n)) (by decide +kernel) q
theorem isi_bool_str {n : Bool} (q : Q (.bl false) H) : rIsi K [.bl n, .ty "str"] H Q := isi (a := "bool") (b := false) (.base (.bl n)) (by decide +kernel) q
theorem isi_non_int (q : Q (.bl false) H) : rIsi K [.non, .ty "int"] H Q := isi (a := "NoneType") (b := false) (.base .non) (by decide +kernel) q
theorem isi_non_bool (q : Q (.bl false) H) : rIsi K [.non, .ty "bool"] H Q := isi (a := "NoneType") (b := false) (.base .non) (by decide +kernel) q
theorem isi_non_str (q : Q (.bl false) H) : rIsi K [.non, .ty "str"] H Q := isi (a := "NoneType") (b := false) (.base .non) (by decide +kernel) q
theorem isi_list_int {a : Addr} {xs : List V} (s : SqL K H a xs) (q : Q (.bl false) H) : rIsi K [.ref a, .ty "int"] H Q := isi_l (b := false) s (by decide +kernel) q
theorem isi_list_bool {a : Addr} {xs : List V} (s : SqL K H a xs) (q : Q (.bl false) H) : rIsi K [.ref a, .ty "bool"] H Q := isi_l (b := false) s (by decide +kernel) q
theorem isi_list_str {a : Addr} {xs : List V} (s : SqL K H a xs) (q : Q (.bl false) H) : rIsi K [.ref a, .ty "str"] H Q := isi_l (b := false) s (by decide +kernel) q
theorem isi_list_list {a : Addr} {xs : List V} (s : SqL K H a xs) (q : Q (.bl true) H) : rIsi K [.ref a, .ty "list"] H Q := isi_l (b := true) s (by decide +kernel) q
theorem isi_list_tuple {a : Addr} {xs : List V} (s : SqL K H a xs) (q : Q (.bl false) H) : rIsi K [.ref a, .ty "tuple"] H Q := isi_l (b := false) s (by decide +kernel) q
theorem isi_tuple_int {a : Addr} {xs : List V} (s : SqT K H a xs) (q : Q (.bl false) H) : rIsi K [.ref a, .ty "int"] H Q := isi_t (b := false) s (by decide +kernel) q
theorem isi_tuple_bool {a : Addr} {xs : List V} (s : SqT K H a xs) (q : Q (.bl false) H) : rIsi K [.ref a, .ty "bool"] H Q := isi_t (b := false) s (by decide +kernel) q
theorem isi_tuple_str {a : Addr} {xs : List V} (s : SqT K H a xs) (q : Q (.bl false) H) : rIsi K [.ref a, .ty "str"] H Q := isi_t (b := false) s (by decide +kernel) q
theorem isi_tuple_list {a : Addr} {xs : List V} (s : SqT K H a xs) (q : Q (.bl false) H) : rIsi K [.ref a, .ty "list"] H Q := isi_t (b := false) s (by decide +kernel) q
theorem isi_tuple_tuple {a : Addr} {xs : List V} (s : SqT K H a xs) (q : Q (.bl true) H) : rIsi K [.ref a, .ty "tuple"] H Q := isi_t (b := true) s (by decide +kernel) q
/-- (list, tuple) made on the way -/
theorem isiT_i {n : Int} {p : Addr} (h : H p = some (.tup [.ty "list", .ty "tuple"])) (q : Q (.bl false) H) : rIsiT K [.int n, .ref p] H Q :=
  ⟨_, p, _, .type "int", [.type "list", .type "tuple"], false, rfl, h, .cons (.ty _) (.cons (.ty _) .nil), .base (.int n), kit_no "int" (by decide +kernel) (by decide +kernel), q⟩
theorem isiT_s {n : Str} {p : Addr} (h : H p = some (.tup [.ty "list", .ty "tuple"])) (q : Q (.bl false) H) : rIsiT K [.str n, .ref p] H Q :=
  ⟨_, p, _, .type "str", [.type "list", .type "tuple"], false, rfl, h, .cons (.ty _) (.cons (.ty _) .nil), .base (.str n), kit_no "str" (by decide +kernel) (by decide +kernel), q⟩
theorem isiT_b {n : Bool} {p : Addr} (h : H p = some (.tup [.ty "list", .ty "tuple"])) (q : Q (.bl false) H) : rIsiT K [.bl n, .ref p] H Q :=
  ⟨_, p, _, .type "bool", [.type "list", .type "tuple"], false, rfl, h, .cons (.ty _) (.cons (.ty _) .nil), .base (.bl n), kit_no "bool" (by decide +kernel) (by decide +kernel), q⟩
theorem isiT_n {p : Addr} (h : H p = some (.tup [.ty "list", .ty "tuple"])) (q : Q (.bl false) H) : rIsiT K [.non, .ref p] H Q :=
  ⟨_, p, _, .type "NoneType", [.type "list", .type "tuple"], false, rfl, h, .cons (.ty _) (.cons (.ty _) .nil), .base .non, kit_no "NoneType" (by decide +kernel) (by decide +kernel), q⟩
theorem isiT_E {a : Addr} {xs : List V} {p : Addr} (s : SqE K H a xs) (h : H p = some (.tup [.ty "list", .ty "tuple"])) (q : Q (.bl true) H) : rIsiT K [.ref a, .ref p] H Q := by
  rcases ty_E s with hx | hx
  · exact ⟨_, p, _, .type "list", [.type "list", .type "tuple"], true, rfl, h, .cons (.ty _) (.cons (.ty _) .nil), hx, kit_lt, q⟩
  · exact ⟨_, p, _, .type "tuple", [.type "list", .type "tuple"], true, rfl, h, .cons (.ty _) (.cons (.ty _) .nil), hx, kit_tt, q⟩
theorem tthen {te : TE} {k : V → Hp → VK → Prop} (h : te σ H fun x H1 => k x H1 Q) : tThen te k σ H Q := h
theorem tup_l {p : Addr} {xs : List V} (h : SqL K H p xs) (k : ∀ (q : Addr) (H' : Hp), H q = none → Same H H' → H' q = some (.tup xs) → Q (.ref q) H') : L2.kTup K (.ref p) H Q := .inl ⟨p, xs, rfl, h, fun q nq => k q _ nq (same_upd nq) upd_same⟩
theorem tup_t {p : Addr} {xs : List V} (h : SqT K H p xs) (q : Q (.ref p) H) : L2.kTup K (.ref p) H Q := .inr ⟨p, xs, rfl, h, q⟩
theorem rabs {i : Int} (q : Q (.int (i.natAbs : Nat)) H) : rAbs [.int i] H Q := ⟨i, rfl, by
  rw [show (if i < 0 then -i else i) = ((i.natAbs : Nat) : Int) by split <;> omega]; exact q⟩
theorem ixe {i j : Nat} {p : Addr} {z : Int} {m : Nat} {xs : List V} {v : V} (h1 : σ[i]? = some (some (.ref p))) (h2 : σ[j]? = some (some (.int z))) (h : SqE K H p xs) (e : xs[m]? = some v) (hz : z = (m : Int)) (q : Q v H) : tOp (rIxL K) (tVar i) (tVar j) σ H Q ∨ tOp (rIxT K) (tVar i) (tVar j) σ H Q := by
  rcases h with h | h
  · exact .inl ⟨_, h1, _, h2, p, xs, z, v, rfl, rfl, h, at_of hz e, q⟩
  · exact .inr ⟨_, h1, _, h2, p, xs, z, v, rfl, rfl, h, at_of hz e, q⟩
theorem rrep1 {p : Addr} {x : V} {n : Nat} (h : H p = some (.lst [x])) (hn : n ≤ 100000) (k : ∀ (q : Addr) (H' : Hp), H q = none → Same H H' → H' q = some (.lst (List.replicate n x)) → Q (.ref q) H') : rRep (.ref p) (.int n) H Q := ⟨p, n, [x], rfl, rfl, h, by omega, by omega, sz (by simp; exact hn), fun q nq => by
  have e : (List.replicate ((n : Nat) : Int).toNat [x]).flatten = List.replicate n x := by
    rw [show ((n : Nat) : Int).toNat = n by omega]
    exact flat_rep n x
  show Q (.ref q) (upd H q (.lst (List.replicate ((n : Nat) : Int).toNat [x]).flatten))
  rw [e]
  exact k q _ nq (same_upd nq) upd_same⟩
/-- while -/
def kWc (W : Nat → L2.St → Hp → Prop) (m : Nat) (tb : TS) (D : Ends) (σ : L2.St) : Bool → Hp → Prop := fun b H1 => if b = true then ∃ N : L2.St → Hp → Prop, (∀ σ' H', N σ' H' → ∃ m', m' < m ∧ W m' σ' H') ∧ tb { D with nx := N, ct := N, bk := D.nx } σ H1 else D.nx σ H1
theorem while_ {c : TT} {tb : TS} (W : Nat → L2.St → Hp → Prop) (m : Nat) (h0 : W m σ H) (hs : ∀ m σ H, W m σ H → c σ H (kWc W m tb D σ)) : tWhile c tb D σ H := ⟨W, ⟨m, h0⟩, hs⟩
theorem k_wt {W : Nat → L2.St → Hp → Prop} {m : Nat} {tb : TS} (h : tb { D with nx := fun σ' H' => ∃ m', m' < m ∧ W m' σ' H', ct := fun σ' H' => ∃ m', m' < m ∧ W m' σ' H', bk := D.nx } σ H) : kWc W m tb D σ true H := ⟨_, fun _ _ z => z, h⟩
theorem k_wf {W : Nat → L2.St → Hp → Prop} {m : Nat} {tb : TS} (h : D.nx σ H) : kWc W m tb D σ false H := h
theorem rmin2 {i j : Int} (q : Q (.int (min i j)) H) : rMin2 [.int i, .int j] H Q := ⟨i, j, rfl, by
  rw [show (if j < i then j else i) = min i j by rw [Int.min_def]; split <;> split <;> omega]; exact q⟩
theorem rmax2 {i j : Int} (q : Q (.int (max i j)) H) : rMax2 [.int i, .int j] H Q := ⟨i, j, rfl, by
  rw [show (if j > i then j else i) = max i j by rw [Int.max_def]; split <;> split <;> omega]; exact q⟩
/-! ## instances -/
def kFl (K : PySem.W.Frag) (f : Str) (Q : VK) : VK := fun x H1 => ∃ a C dx fs v, x = .ref a ∧ H1 a = some (.ins C dx fs) ∧ Cls K C ∧ NoAttr K C f ∧ fs.lookup f = some v ∧ Q v H1
theorem tfld {ta : TE} {f : Str} (h : ta σ H (kFl K f Q)) : tFld K ta f σ H Q := h
theorem k_fl {a C dx : Addr} {fs : List (Str × V)} {f : Str} {v : V} (h : H a = some (.ins C dx fs)) (c : Cls K C) (n : NoAttr K C f) (e : fs.lookup f = some v) (q : Q v H) : kFl K f Q (.ref a) H := ⟨a, C, dx, fs, v, rfl, h, c, n, e, q⟩
def kMe (C : Addr) (m : Str) (t : TA) (σ : L2.St) (R : List V → Hp → Prop) : VK := fun x H1 => ∃ a dx fs, x = .ref a ∧ H1 a = some (.ins C dx fs) ∧ fs.lookup m = none ∧ t σ H1 fun vs H2 => R (x :: vs) H2
theorem tmeth {C : Addr} {m : Str} {sp : Sp} {dvs : List V} {E : XK} {ta : TE} {t : TA} (h : ta σ H (kMe C m t σ fun vs H2 => sp (vs ++ dvs) H2 Q E)) : tMeth C m sp dvs E ta t σ H Q := h
theorem k_me {a C dx : Addr} {m : Str} {fs : List (Str × V)} {t : TA} {R : List V → Hp → Prop} (h : H a = some (.ins C dx fs)) (e : fs.lookup m = none) (q : t σ H fun vs H2 => R (.ref a :: vs) H2) : kMe C m t σ R (.ref a) H := ⟨a, dx, fs, rfl, h, e, q⟩
def kMk (C : Addr) (sp : Sp) (dvs : List V) (E : XK) (Q : VK) : List V → Hp → Prop := fun vs H1 => ∀ x dx, H1 x = none → H1 dx = none → dx ≠ x → sp (.ref x :: (vs ++ dvs)) (upd (upd H1 dx (.own x)) x (.ins C dx [])) (fun v H2 => v = .non ∧ Q (.ref x) H2) E
theorem tmake {C : Addr} {sp : Sp} {dvs : List V} {E : XK} {t : TA} (h : t σ H (kMk C sp dvs E Q)) : tMake C sp dvs E t σ H Q := h
theorem k_mk {C : Addr} {sp : Sp} {dvs : List V} {E : XK} {vs : List V} (k : ∀ (x dx : Addr) (H' : Hp), H x = none → H dx = none → Same H H' → H' x = some (.ins C dx []) → sp (.ref x :: (vs ++ dvs)) H' (fun v H2 => v = .non ∧ Q (.ref x) H2) E) : kMk C sp dvs E Q vs H :=
  fun x dx nx nd ne => k x dx _ nx nd (fun a o h => by rw [upd_ne (ne_of_none h nx), upd_ne (ne_of_none h nd)]; exact h) upd_same
def kSf (K : PySem.W.Frag) (f : Str) (y : V) (D : Ends) (σ : L2.St) : VK := fun x H2 => ∃ a C dx fs, x = .ref a ∧ H2 a = some (.ins C dx fs) ∧ Cls K C ∧ NoAttr K C f ∧ fs.length < 1000 ∧ D.nx σ (upd H2 a (.ins C dx (putF f y fs)))
theorem tsfld {ta tv : TE} {f : Str} (h : tv σ H fun y H1 => ta σ H1 (kSf K f y D σ)) : sFld K ta tv f D σ H := h
theorem k_sf {a C dx : Addr} {f : Str} {y : V} {fs gs : List (Str × V)} (h : H a = some (.ins C dx fs)) (c : Cls K C) (n : NoAttr K C f) (hl : fs.length < 1000) (e : putF f y fs = gs) (q : ∀ H' : Hp, Fr H H' a → H' a = some (.ins C dx gs) → D.nx σ H') : kSf K f y D σ (.ref a) H := ⟨a, C, dx, fs, rfl, h, c, n, hl, by
  subst e
  exact q _ Fr.upd upd_same⟩
def kPr (C : Addr) (sp : Sp) (dvs : List V) (E : XK) (Q : VK) : VK := fun x H1 => ∃ a dx fs, x = .ref a ∧ H1 a = some (.ins C dx fs) ∧ sp (.ref a :: dvs) H1 Q E
theorem tprop {C : Addr} {sp : Sp} {dvs : List V} {E : XK} {ta : TE} (h : ta σ H (kPr C sp dvs E Q)) : tProp C sp dvs E ta σ H Q := h
theorem k_pr {a C dx : Addr} {sp : Sp} {dvs : List V} {E : XK} {fs : List (Str × V)} (h : H a = some (.ins C dx fs)) (q : sp (.ref a :: dvs) H Q E) : kPr C sp dvs E Q (.ref a) H := ⟨a, dx, fs, rfl, h, q⟩
theorem rlen_own {a C dx : Addr} {fs : List (Str × V)} {sp : Sp} {E : XK} (h : H a = some (.ins C dx fs)) (q : sp [.ref a] H (fun z H' => ∃ i, z = .int i ∧ 0 ≤ i ∧ i < 2 ^ 63 ∧ Q z H') E) : LX.rLenOwn C sp E [.ref a] H Q := ⟨a, dx, fs, rfl, h, q⟩
theorem rmaxe {a : Addr} {ns : List Int} (h : SqE K H a (ns.map V.int)) (hne : ns ≠ []) (k : ∀ m, m ∈ ns → (∀ y ∈ ns, y ≤ m) → Q (.int m) H) : LX.rMaxE K [.ref a] H Q := ⟨a, ns, rfl, h, hne, k⟩
theorem rall {a : Addr} {bs : List Bool} (h : SqL K H a (bs.map V.bl)) (q : Q (.bl (bs.all id)) H) : rAll K [.ref a] H Q := ⟨a, bs, rfl, h, q⟩
def kRv (K : PySem.W.Frag) (Q : VK) : VK := fun x H1 => ∃ a xs, x = .ref a ∧ SqL K H1 a xs ∧ ∀ p, H1 p = none → Q (.ref p) (upd H1 p (.lst xs.reverse))
theorem trevl {te : TE} (h : te σ H (kRv K Q)) : tRevL K te σ H Q := h
theorem k_rv {a : Addr} {xs : List V} (h : SqL K H a xs) (k : ∀ (p : Addr) (H' : Hp), H p = none → Same H H' → H' p = some (.lst xs.reverse) → Q (.ref p) H') : kRv K Q (.ref a) H := ⟨a, xs, rfl, h, fun p np => k p _ np (same_upd np) upd_same⟩
def kR3 (R : It → Hp → Prop) : List V → Hp → Prop := fun vs H1 => ∃ (i j c : Int) (n : Nat), vs = [.int i, .int j, .int c] ∧ RgC i j c n ∧ R (Itc i c n) H1
theorem irng3 {ta : TA} {R : It → Hp → Prop} (h : ta σ H (kR3 R)) : iRng3 ta σ H R := h
theorem k_r3 {i j c : Int} {n : Nat} {R : It → Hp → Prop} (h : RgC i j c n) (q : R (Itc i c n) H) : kR3 R [.int i, .int j, .int c] H := ⟨i, j, c, n, rfl, h, q⟩
/-! ## stores -/
theorem rset {p : Addr} {xs : List V} {k : Int} {j : Nat} {v : V} {QH : Hp → Prop} (h : H p = some (.lst xs)) (e : ixN xs.length k = some j) (q : ∀ H' : Hp, Fr H H' p → H' p = some (.lst (xs.set j v)) → QH H') : rSetL (.ref p) (.int k) v H QH := ⟨p, xs, k, j, rfl, rfl, h, e, q _ Fr.upd upd_same⟩
theorem rapp {p : Addr} {xs : List V} {y : V} (h : H p = some (.lst xs)) (hz : xs.length < sizeLine) (q : ∀ H' : Hp, Fr H H' p → H' p = some (.lst (xs ++ [y])) → Q .non H') : rAppend (.ref p) [y] H Q := ⟨p, xs, y, rfl, rfl, h, hz, q _ Fr.upd upd_same⟩
theorem rpopi {p : Addr} {xs : List V} {i : Int} {k : Nat} {y : V} (h : H p = some (.lst xs)) (h1 : -(2 ^ 63) ≤ i) (h2 : i < 2 ^ 63) (e : seqIndex? i xs.length = some k) (hx : xs[k]? = some y) (q : ∀ H' : Hp, Fr H H' p → H' p = some (.lst (xs.eraseIdx k)) → Q y H') : rPopAt (.ref p) [.int i] H Q := ⟨p, xs, i, k, y, rfl, rfl, h, h1, h2, e, hx, q _ Fr.upd upd_same⟩
theorem rrem {p : Addr} {ns : List Int} {n : Int} {k : Nat} (h : H p = some (.lst (ns.map V.int))) (e : ns[k]? = some n) (hm : ∀ m : Nat, m < k → ns[m]? ≠ some n) (q : ∀ H' : Hp, Fr H H' p → H' p = some (.lst ((ns.eraseIdx k).map V.int)) → Q .non H') : rRemI (.ref p) [.int n] H Q := ⟨p, ns, n, k, rfl, rfl, h, e, hm, q _ Fr.upd upd_same⟩
theorem rindex {p : Addr} {ys : List V} {y z : V} {j : Nat} (h : SqL K H p ys) (fy : flatV y = true) (fl : ys.all flatV = true) (e : ys[j]? = some z) (ez : eqV z y = true) (hm : ∀ (m : Nat) (z' : V), m < j → ys[m]? = some z' → eqV z' y = false) (q : Q (.int (j : Nat)) H) : rIndex K (.ref p) [y] H Q := ⟨p, ys, y, j, z, rfl, rfl, h, fy, fl, e, ez, hm, q⟩
theorem rpop {p : Addr} {xs : List V} {y : V} (h : H p = some (.lst (xs ++ [y]))) (q : ∀ H' : Hp, Fr H H' p → H' p = some (.lst xs) → Q y H') : rPop (.ref p) [] H Q := ⟨p, xs ++ [y], y, rfl, rfl, h, by simp, by rw [List.dropLast_concat]; exact q _ Fr.upd upd_same⟩
theorem rrev {p : Addr} {xs : List V} (h : H p = some (.lst xs)) (q : ∀ H' : Hp, Fr H H' p → H' p = some (.lst xs.reverse) → Q .non H') : rReverse (.ref p) [] H Q := ⟨p, xs, rfl, rfl, h, q _ Fr.upd upd_same⟩
theorem tbm {T : String} {r : V → List V → Hp → VK → Prop} {to : TE} {t : TA} (h : to σ H fun x H1 => tyV K T x H1 ∧ t σ H1 fun xs H2 => r x xs H2 Q) : tBM K T r to t σ H Q := h
theorem tbm0 {T : String} {r : V → List V → Hp → VK → Prop} {to : TE} (h : to σ H fun x H1 => tyV K T x H1 ∧ r x [] H1 Q) : tBM0 K T r to σ H Q := h
theorem ty_l {p : Addr} {xs : List V} {P : Prop} (h : SqL K H p xs) (q : P) : tyV K "list" (.ref p) H ∧ P := ⟨.inl ⟨rfl, xs, h⟩, q⟩
theorem tm0 {r : V → List V → Hp → VK → Prop} {to : TE} (h : to σ H fun x H1 => (∃ a, x = .str a) ∧ r x [] H1 Q) : tM0 r to σ H Q := h
theorem tm1 {r : V → List V → Hp → VK → Prop} {to te : TE} (h : to σ H fun x H1 => (∃ a, x = .str a) ∧ te σ H1 fun y H2 => r x [y] H2 Q) : tM1 r to te σ H Q := h
theorem is_str {a : Str} {P : Prop} (h : P) : (∃ z, V.str a = V.str z) ∧ P := ⟨⟨a, rfl⟩, h⟩
theorem ex_s0 {P : Str → Prop} {a : Str} (h : P a) : ∃ z, V.str a = V.str z ∧ ([] : List V) = [] ∧ True ∧ P z := ⟨a, rfl, rfl, trivial, h⟩
/-! ## ways that meet -/
theorem if_join {c : Prop} [Decidable c] {t u : TS} (A : L2.St → Hp → Prop)
    (h1 : c → ∀ D' : Ends, D'.rt = D.rt → (∀ σ' H', A σ' H' → D'.nx σ' H') → t D' σ H) (h2 : ¬ c → ∀ D' : Ends, D'.rt = D.rt → (∀ σ' H', A σ' H' → D'.nx σ' H') → u D' σ H)
    (k : ∀ σ' H', A σ' H' → D.nx σ' H') : if decide c = true then t D σ H else u D σ H := ite2d (fun hc => h1 hc D rfl k) fun hc => h2 hc D rfl k
theorem ifn_join {c : Prop} [Decidable c] {t u : TS} (A : L2.St → Hp → Prop)
    (h1 : ¬ c → ∀ D' : Ends, D'.rt = D.rt → (∀ σ' H', A σ' H' → D'.nx σ' H') → t D' σ H) (h2 : c → ∀ D' : Ends, D'.rt = D.rt → (∀ σ' H', A σ' H' → D'.nx σ' H') → u D' σ H)
    (k : ∀ σ' H', A σ' H' → D.nx σ' H') : if (!decide c) = true then t D σ H else u D σ H := ifn2 (fun hc => h1 hc D rfl k) fun hc => h2 hc D rfl k
theorem ifb_join {b : Bool} {t u : TS} (A : L2.St → Hp → Prop)
    (h1 : b = true → ∀ D' : Ends, D'.rt = D.rt → (∀ σ' H', A σ' H' → D'.nx σ' H') → t D' σ H) (h2 : b = false → ∀ D' : Ends, D'.rt = D.rt → (∀ σ' H', A σ' H' → D'.nx σ' H') → u D' σ H)
    (k : ∀ σ' H', A σ' H' → D.nx σ' H') : if b = true then t D σ H else u D σ H := by
  cases b with
  | true => exact ift (h1 rfl D rfl k)
  | false => exact iff_ (h2 rfl D rfl k)
theorem exp_join {c : Prop} [Decidable c] {ta tb : TE} (A : V → Hp → Prop) (h1 : c → ∀ Q' : VK, (∀ v H', A v H' → Q' v H') → ta σ H Q') (h2 : ¬ c → ∀ Q' : VK, (∀ v H', A v H' → Q' v H') → tb σ H Q')
    (k : ∀ v H', A v H' → Q v H') : if decide c = true then ta σ H Q else tb σ H Q := ite2d (fun hc => h1 hc Q k) fun hc => h2 hc Q k
theorem seq_cut {t u : TS} (A : L2.St → Hp → Prop) (h1 : ∀ D' : Ends, D'.rt = D.rt → (∀ σ' H', A σ' H' → D'.nx σ' H') → t D' σ H) (h2 : ∀ σ' H', A σ' H' → u D σ' H') : tSeq t u D σ H := h1 { D with nx := u D } rfl h2
/-! ## statements -/
theorem tseq {t u : TS} (h : t { D with nx := u D } σ H) : tSeq t u D σ H := h
theorem tnext (h : D.nx σ H) : tNext D σ H := h
theorem tdrop {te : TE} (h : te σ H fun _ H1 => D.nx σ H1) : tDrop te D σ H := h
theorem tret {te : TE} (h : te σ H D.rt) : tRet te D σ H := h
theorem tretn (h : D.rt .non H) : tRetN D σ H := h
theorem tifs {c : TT} {t u : TS} (h : c σ H fun b H1 => if b = true then t D σ H1 else u D σ H1) : tIfS c t u D σ H := h
theorem tasg {te : TE} {g : TG} (h : te σ H fun x H1 => g x σ H1 D.nx) : tAsg te g D σ H := h
theorem gname {i : Nat} {v : V} {QG : L2.St → Hp → Prop} (h : QG (σ.set i (some v)) H) : gName i v σ H QG := h
theorem gtup {n : Nat} {t : TGs} {a : Addr} {xs : List V} {QG : L2.St → Hp → Prop} (h : SqT K H a xs) (hn : xs.length = n) (q : t xs σ H QG) : gTup K n t (.ref a) σ H QG := ⟨a, xs, rfl, h, hn, q⟩
theorem gunl {n : Nat} {t : TGs} {a : Addr} {xs : List V} {QG : L2.St → Hp → Prop} (h : SqL K H a xs) (hn : xs.length = n) (q : t xs σ H QG) : gUnl K n t (.ref a) σ H QG := ⟨a, xs, rfl, h, hn, q⟩
theorem gnil {QG : L2.St → Hp → Prop} (h : QG σ H) : gNil [] σ H QG := ⟨rfl, h⟩
theorem gcons {t : TG} {u : TGs} {v : V} {r : List V} {QG : L2.St → Hp → Prop} (h : t v σ H fun σ' H' => u r σ' H' QG) : gCons t u (v :: r) σ H QG := ⟨v, r, rfl, h⟩
theorem gsub {to ti : TE} {t : TSet} {v : V} {QG : L2.St → Hp → Prop} (h : to σ H fun o H1 => ti σ H1 fun i H2 => t o i v H2 fun H3 => QG σ H3) : gSub to ti t v σ H QG := h
def kPar (i j : Nat) (D : Ends) (σ : L2.St) : List V → Hp → Prop := fun vs H1 => ∃ v w, vs = [v, w] ∧ D.nx ((σ.set i (some v)).set j (some w)) H1
theorem tpar {i j : Nat} {ta : TA} (h : ta σ H (kPar i j D σ)) : tPar i j ta D σ H := h
theorem k_par {i j : Nat} {v w : V} (h : D.nx ((σ.set i (some v)).set j (some w)) H) : kPar i j D σ [v, w] H := ⟨v, w, rfl, h⟩
def kPar3 (i j l : Nat) (D : Ends) (σ : L2.St) : List V → Hp → Prop := fun vs H1 => ∃ u v w, vs = [u, v, w] ∧ D.nx (((σ.set i (some u)).set j (some v)).set l (some w)) H1
theorem tpar3 {i j l : Nat} {ta : TA} (h : ta σ H (kPar3 i j l D σ)) : tPar3 i j l ta D σ H := h
theorem k_par3 {i j l : Nat} {u v w : V} (h : D.nx (((σ.set i (some u)).set j (some v)).set l (some w)) H) : kPar3 i j l D σ [u, v, w] H := ⟨u, v, w, rfl, h⟩
theorem taug {i : Nat} {x : V} {te : TE} {ti : TIp} (e : σ[i]? = some (some x)) (h : te σ H fun y H1 => ti x y H1 fun z H2 => D.nx (σ.set i (some z)) H2) : tAug i te ti D σ H := ⟨x, e, h⟩
theorem ipi {f : Int → Int → Int} {i j : Int} (q : Q (.int (f i j)) H) : ipI f (.int i) (.int j) H Q := ⟨i, j, rfl, rfl, q⟩
/-! ## shapes of rules without a name -/
theorem ex_ss {P : Str → Str → Prop} {a b : Str} (h : P a b) : ∃ i j, V.str a = V.str i ∧ V.str b = V.str j ∧ P i j := ⟨a, b, rfl, rfl, h⟩
theorem ex_s1 {P : Str → Prop} {a : Str} (h : P a) : ∃ z, [V.str a] = [V.str z] ∧ P z := ⟨a, rfl, h⟩
theorem ex_i1 {P : Int → Prop} {a : Int} (h : P a) : ∃ z, [V.int a] = [V.int z] ∧ P z := ⟨a, rfl, h⟩
theorem ex_int_b {P R : Int → Prop} {b : Bool} (h : R (if b then 1 else 0)) : (∃ i, [V.bl b] = [V.int i] ∧ P i) ∨ ∃ k, [V.bl b] = [V.bl k] ∧ R (if k then 1 else 0) := .inr ⟨b, rfl, h⟩
theorem and_rfl {α : Type} {a : α} {P : Prop} (h : P) : a = a ∧ P := ⟨rfl, h⟩
theorem and_tr {P : Prop} (h : P) : True ∧ P := ⟨trivial, h⟩
theorem is_non {Q : Bool → Prop} (h : Q true) : Q (decide (V.non = V.non)) := by rw [decide_eq_true rfl]; exact h
end
/-! ## loops -/
section
variable {J : It} {n : Nat} {G : Hp → Prop} {Y : Nat → Hp → V → Hp → Prop} {K : PySem.W.Frag}
/-- what a comprehension has made so far stands at D -/
def lcP (D : Addr) (Pv : Nat → List V → Hp → Prop) (i : Nat) (H : Hp) : Prop := ∃ acc, H D = some (.lst acc) ∧ acc.length ≤ i ∧ Pv i acc H
def kLc (D : Addr) (Nx : Hp → Prop) : VK := fun y H4 => ∃ acc, H4 D = some (.lst acc) ∧ acc.length < sizeLine ∧ Nx (upd H4 D (.lst (acc ++ [y])))
theorem k_lc {D : Addr} {Pv : Nat → List V → Hp → Prop} {i : Nat} {y : V} {H : Hp} {acc : List V} (h : H D = some (.lst acc)) (hl : acc.length ≤ i) (hz : i ≤ 99999) (q : ∀ H5 : Hp, Fr H H5 D → H5 D = some (.lst (acc ++ [y])) → Pv (i + 1) (acc ++ [y]) H5) : kLc D (lcP D Pv (i + 1)) y H :=
  ⟨acc, h, Nat.lt_of_lt_of_le (Nat.lt_of_le_of_lt (Nat.le_trans hl hz) (by decide : 99999 < 100000)) (by decide), acc ++ [y], upd_same, by rw [List.length_append]; exact Nat.succ_le_succ hl, q _ Fr.upd upd_same⟩
theorem k_lc0 {D : Addr} {Pv : Nat → List V → Hp → Prop} {i : Nat} {H : Hp} {acc : List V} (h : H D = some (.lst acc)) (hl : acc.length ≤ i) (q : Pv (i + 1) acc H) : lcP D Pv (i + 1) H := ⟨acc, h, Nat.le_succ_of_le hl, q⟩
/-- a comprehension: Pv by the turn, what is made so far and the heap; the new list D is told apart -/
theorem lc_gen (w : Walk J n G Y) {g : TG} {tt : TT} {te : TE} {vs : List Nat} {σ : L2.St} {H1 : Hp} {D : Addr} {Qd : Hp → Prop} (hD : H1 D = none) (Pv : Nat → List V → Hp → Prop)
    (h0 : ∀ H', Same H1 H' → H' D = some (.lst []) → Pv 0 [] H') (hG : ∀ i acc H, i ≤ n → H D = some (.lst acc) → Pv i acc H → G H)
    (hs : ∀ i acc x H H', i < n → acc.length ≤ i → H D = some (.lst acc) → Pv i acc H → Y i H x H' → g x (wipe σ vs) H' fun σ2 H2 => wipe σ2 vs = wipe σ vs ∧ tt σ2 H2 fun b H3 =>
      if b = true then te σ2 H3 (kLc D (lcP D Pv (i + 1))) else lcP D Pv (i + 1) H3)
    (hd : ∀ acc H, H D = some (.lst acc) → acc.length ≤ n → Pv n acc H → Qd H) :
    ∃ W : Nat → Nat → Hp → Prop, (∃ m, W 0 m (upd H1 D (.lst []))) ∧ ∀ i m H, W i m H →
      (J.stop i H ∧ Qd H) ∨ (J.go i H ∧ ∃ Nx : Hp → Prop, (∀ H', Nx H' → ∃ m', m' < m ∧ W (i + 1) m' H') ∧ ∀ x H', J.yld i H x H' → g x (wipe σ vs) H' fun σ2 H2 => wipe σ2 vs = wipe σ vs ∧ tt σ2 H2 fun b H3 =>
        if b = true then te σ2 H3 fun y H4 => ∃ acc, H4 D = some (.lst acc) ∧ acc.length < sizeLine ∧ Nx (upd H4 D (.lst (acc ++ [y]))) else Nx H3) :=
  lc_it w (lcP D Pv) ⟨[], upd_same, Nat.le_refl _, h0 _ (same_upd hD) upd_same⟩ (fun i H hi ⟨acc, h1, _, h2⟩ => hG i acc H hi h1 h2) (fun i x H H' hi ⟨acc, h1, hl, h2⟩ y => hs i acc x H H' hi hl h1 h2 y) fun H ⟨acc, h1, hl, h2⟩ => hd acc H h1 hl h2
/-- a comprehension that makes one value of each item and changes nothing -/
theorem lc_map {xs : List V} (w : Walk J xs.length G (YAt xs)) (hz : xs.length ≤ 99999) {g : TG} {tt : TT} {te : TE} {vs : List Nat} {σ : L2.St} {H1 : Hp} {D : Addr} {Qd : Hp → Prop} (hD : H1 D = none) (F : V → V)
    (hG : ∀ H', Same H1 H' → G H')
    (hs : ∀ x Hq, x ∈ xs → Same H1 Hq → ∀ (KK : VK) (KN : Hp → Prop), (∀ H5, Same Hq H5 → KK (F x) H5) → g x (wipe σ vs) Hq fun σ2 H2 => wipe σ2 vs = wipe σ vs ∧ tt σ2 H2 fun b H3 => if b = true then te σ2 H3 KK else KN H3)
    (hd : ∀ H, Same H1 H → H D = some (.lst (xs.map F)) → Qd H) :
    ∃ W : Nat → Nat → Hp → Prop, (∃ m, W 0 m (upd H1 D (.lst []))) ∧ ∀ i m H, W i m H →
      (J.stop i H ∧ Qd H) ∨ (J.go i H ∧ ∃ Nx : Hp → Prop, (∀ H', Nx H' → ∃ m', m' < m ∧ W (i + 1) m' H') ∧ ∀ x H', J.yld i H x H' → g x (wipe σ vs) H' fun σ2 H2 => wipe σ2 vs = wipe σ vs ∧ tt σ2 H2 fun b H3 =>
        if b = true then te σ2 H3 fun y H4 => ∃ acc, H4 D = some (.lst acc) ∧ acc.length < sizeLine ∧ Nx (upd H4 D (.lst (acc ++ [y]))) else Nx H3) :=
  lc_gen w hD (fun i acc H => Same H1 H ∧ acc = (xs.take i).map F) (fun H' s _ => ⟨s, by rw [List.take_zero]; rfl⟩) (fun i acc H _ _ h => hG H h.1)
    (fun i acc x H H' hi hl hH ⟨s, ha⟩ ⟨e, hx⟩ => by
      subst e
      refine hs x H' (List.mem_of_getElem? hx) s _ _ fun H5 s5 => k_lc (s5 _ _ hH) hl (by omega) fun H6 f h6 => ⟨Same.fr_new (s.trans s5) f hD, ?_⟩
      rw [ha, List.take_add_one, hx, List.map_append]; rfl)
    fun acc H hH _ ⟨s, ha⟩ => hd H s (by rw [hH, ha, List.take_length])
end
theorem ypair {xs ys : Nat → Option V} {i : Nat} {H H' : Hp} {v : V} (h : YPair xs ys i H v H') : ∃ T x y, v = .ref T ∧ H T = none ∧ Same H H' ∧ H' T = some (.tup [x, y]) ∧ xs i = some x ∧ ys i = some y := by
  obtain ⟨T, x, y, e, nT, rfl, h1, h2⟩ := h
  exact ⟨T, x, y, e, nT, same_upd nT, upd_same, h1, h2⟩
/-! ## loops by name -/
section
variable {K : PySem.W.Frag} {σ : L2.St} {H : Hp} {Q : VK} {D : Ends} {R : It → Hp → Prop}
def kFor (g : TG) (tb : TS) (D : Ends) (σ : L2.St) : It → Hp → Prop := fun J H1 => ∃ W : Nat → Nat → L2.St → Hp → Prop, (∃ m, W 0 m σ H1) ∧ ∀ i m σ H, W i m σ H →
  (J.stop i H ∧ D.nx σ H) ∨ (J.go i H ∧ ∃ N : L2.St → Hp → Prop, (∀ σ' H', N σ' H' → ∃ m', m' < m ∧ W (i + 1) m' σ' H') ∧ ∀ x H', J.yld i H x H' → g x σ H' fun σ2 H2 => tb { D with nx := N, ct := N, bk := D.nx } σ2 H2)
theorem tfor {wi : TI} {g : TG} {tb : TS} (h : wi σ H (kFor g tb D σ)) : tFor wi g tb D σ H := h
def kLcS (g : TG) (tt : TT) (te : TE) (vs : List Nat) (σ : L2.St) (Q : VK) : It → Hp → Prop := fun J H1 => ∀ D, H1 D = none → ∃ W : Nat → Nat → Hp → Prop, (∃ m, W 0 m (upd H1 D (.lst []))) ∧ ∀ i m H, W i m H →
  (J.stop i H ∧ Q (.ref D) H) ∨ (J.go i H ∧ ∃ Nx : Hp → Prop, (∀ H', Nx H' → ∃ m', m' < m ∧ W (i + 1) m' H') ∧ ∀ x H', J.yld i H x H' → g x (wipe σ vs) H' fun σ2 H2 => wipe σ2 vs = wipe σ vs ∧ tt σ2 H2 fun b H3 =>
    if b = true then te σ2 H3 fun y H4 => ∃ acc, H4 D = some (.lst acc) ∧ acc.length < sizeLine ∧ Nx (upd H4 D (.lst (acc ++ [y]))) else Nx H3)
theorem tlc {wi : TI} {g : TG} {tt : TT} {te : TE} {vs : List Nat} (h : wi σ H (kLcS g tt te vs σ Q)) : tLc wi g tt te vs σ H Q := h
def kIL (K : PySem.W.Frag) (R : It → Hp → Prop) : VK := fun x H1 => ∃ a, x = .ref a ∧ (∃ xs, SqL K H1 a xs) ∧ R (Itl K a) H1
theorem ilist {tl : TE} (h : tl σ H (kIL K R)) : iList K tl σ H R := h
theorem k_il {a : Addr} {xs : List V} (h : SqL K H a xs) (q : R (Itl K a) H) : kIL K R (.ref a) H := ⟨a, rfl, ⟨xs, h⟩, q⟩
def kIT (K : PySem.W.Frag) (R : It → Hp → Prop) : VK := fun x H1 => ∃ a, x = .ref a ∧ (∃ xs, SqT K H1 a xs) ∧ R (Itt K a) H1
theorem itup {tl : TE} (h : tl σ H (kIT K R)) : iTup K tl σ H R := h
theorem k_it {a : Addr} {xs : List V} (h : SqT K H a xs) (q : R (Itt K a) H) : kIT K R (.ref a) H := ⟨a, rfl, ⟨xs, h⟩, q⟩
def kIS (R : It → Hp → Prop) : VK := fun v H1 => ∃ x, v = .str x ∧ R (Its x) H1
theorem istr {te : TE} (h : te σ H (kIS R)) : iStr te σ H R := h
theorem k_is {x : Str} (q : R (Its x) H) : kIS R (.str x) H := ⟨x, rfl, q⟩
def kR1 (R : It → Hp → Prop) : List V → Hp → Prop := fun vs H1 => ∃ j : Int, vs = [.int j] ∧ -(2 ^ 62) ≤ j ∧ j < 2 ^ 62 ∧ R (Itr 0 j.toNat) H1
theorem irng1 {ta : TA} (h : ta σ H (kR1 R)) : iRng1 ta σ H R := h
theorem k_r1 {j : Int} (h1 : -(2 ^ 62) ≤ j) (h2 : j < 2 ^ 62) (q : R (Itr 0 j.toNat) H) : kR1 R [.int j] H := ⟨j, rfl, h1, h2, q⟩
theorem k_r1n {n : Nat} (h2 : n < 2 ^ 62) (q : R (Itr 0 n) H) : kR1 R [.int n] H := ⟨n, rfl, by omega, by omega, q⟩
def kR2 (R : It → Hp → Prop) : List V → Hp → Prop := fun vs H1 => ∃ i j : Int, vs = [.int i, .int j] ∧ (-(2 ^ 62) ≤ i ∧ i < 2 ^ 62 ∧ -(2 ^ 62) ≤ j ∧ j < 2 ^ 62) ∧ R (Itr i (j - i).toNat) H1
theorem irng2 {ta : TA} (h : ta σ H (kR2 R)) : iRng2 ta σ H R := h
theorem k_r2 {i j : Int} (h1 : -(2 ^ 62) ≤ i) (h2 : i < 2 ^ 62) (h3 : -(2 ^ 62) ≤ j) (h4 : j < 2 ^ 62) (q : R (Itr i (j - i).toNat) H) : kR2 R [.int i, .int j] H := ⟨i, j, rfl, ⟨h1, h2, h3, h4⟩, q⟩
def kEn (K : PySem.W.Frag) (R : It → Hp → Prop) : List V → Hp → Prop := fun vs H1 => ∃ a xs, vs = [.ref a] ∧ SqL K H1 a xs ∧ R (Ite K a) H1
theorem ienum {ta : TA} (h : ta σ H (kEn K R)) : iEnum K ta σ H R := h
theorem k_en {a : Addr} {xs : List V} (h : SqL K H a xs) (q : R (Ite K a) H) : kEn K R [.ref a] H := ⟨a, xs, rfl, h, q⟩
def kZip (K : PySem.W.Frag) (R : It → Hp → Prop) : List V → Hp → Prop := fun vs H1 => ∃ a b xs ys, vs = [.ref a, .ref b] ∧ SqL K H1 a xs ∧ SqL K H1 b ys ∧ R (Itz K a b) H1
theorem izip {ta : TA} (h : ta σ H (kZip K R)) : iZip K ta σ H R := h
theorem k_zip {a b : Addr} {xs ys : List V} (h : SqL K H a xs) (h' : SqL K H b ys) (q : R (Itz K a b) H) : kZip K R [.ref a, .ref b] H := ⟨a, b, xs, ys, rfl, h, h', q⟩
/-- list(range(..)) -/
def kLR (Q : VK) : Int → Int → Hp → Prop := fun a b H1 => RgOk a b ∧ ∀ q, H1 q = none → Q (.ref q) (upd H1 q (.lst (rgV a b)))
theorem tlstrg {te : L2.St → Hp → (Int → Int → Hp → Prop) → Prop} (h : te σ H (kLR Q)) : tLstRg te σ H Q := h
theorem k_lr {n : Nat} (hn : n ≤ 100000) (k : ∀ (p : Addr) (H' : Hp), H p = none → Same H H' → H' p = some (.lst (rgV 0 n)) → Q (.ref p) H') : kLR Q 0 n H :=
  ⟨RgOk.of_le (by decide) (by omega) (by decide) (by omega), fun p np => k p _ np (same_upd np) upd_same⟩
def kG1 (QR : Int → Int → Hp → Prop) : VK := fun x H1 => ∃ n, x = .int n ∧ QR 0 n H1
theorem trg1 {ta : TE} {QR : Int → Int → Hp → Prop} (h : ta σ H (kG1 QR)) : tRg1 ta σ H QR := h
theorem k_g1 {n : Int} {QR : Int → Int → Hp → Prop} (q : QR 0 n H) : kG1 QR (.int n) H := ⟨n, rfl, q⟩
end
section
variable {J : It} {n : Nat} {G : Hp → Prop} {Y : Nat → Hp → V → Hp → Prop} {K : PySem.W.Frag}
theorem for_ (w : Walk J n G Y) {g : TG} {tb : TS} {D : Ends} {σ : L2.St} {H : Hp} (Pv : Nat → L2.St → Hp → Prop) (h0 : Pv 0 σ H) (hG : ∀ i σ H, i ≤ n → Pv i σ H → G H)
    (hs : ∀ i x σ H H', i < n → Pv i σ H → Y i H x H' → g x σ H' fun σ2 H2 => tb { D with nx := Pv (i + 1), ct := Pv (i + 1), bk := D.nx } σ2 H2) (hd : ∀ σ H, Pv n σ H → D.nx σ H) : kFor g tb D σ J H := for_it w Pv h0 hG hs hd
theorem comp (w : Walk J n G Y) {g : TG} {tt : TT} {te : TE} {vs : List Nat} {σ : L2.St} {H1 : Hp} {Q : VK} (Pv : Addr → Nat → List V → Hp → Prop)
    (h0 : ∀ D H', H1 D = none → Same H1 H' → H' D = some (.lst []) → Pv D 0 [] H') (hG : ∀ D i acc H, i ≤ n → H1 D = none → H D = some (.lst acc) → Pv D i acc H → G H)
    (hs : ∀ D i acc x H H', H1 D = none → i < n → acc.length ≤ i → H D = some (.lst acc) → Pv D i acc H → Y i H x H' → g x (wipe σ vs) H' fun σ2 H2 => wipe σ2 vs = wipe σ vs ∧ tt σ2 H2 fun b H3 =>
      if b = true then te σ2 H3 (kLc D (lcP D (Pv D) (i + 1))) else lcP D (Pv D) (i + 1) H3)
    (hd : ∀ D acc H, H1 D = none → H D = some (.lst acc) → acc.length ≤ n → Pv D n acc H → Q (.ref D) H) : kLcS g tt te vs σ Q J H1 :=
  fun D hD => lc_gen w hD (Pv D) (fun H' => h0 D H' hD) (fun i acc H hi => hG D i acc H hi hD) (fun i acc x H H' => hs D i acc x H H' hD) fun acc H => hd D acc H hD
theorem map_ {xs : List V} (w : Walk J xs.length G (YAt xs)) (hz : xs.length ≤ 99999) {g : TG} {tt : TT} {te : TE} {vs : List Nat} {σ : L2.St} {H1 : Hp} {Q : VK} (F : V → V)
    (hG : ∀ H', Same H1 H' → G H')
    (hs : ∀ x Hq, x ∈ xs → Same H1 Hq → ∀ (KK : VK) (KN : Hp → Prop), (∀ H5, Same Hq H5 → KK (F x) H5) → g x (wipe σ vs) Hq fun σ2 H2 => wipe σ2 vs = wipe σ vs ∧ tt σ2 H2 fun b H3 => if b = true then te σ2 H3 KK else KN H3)
    (hd : ∀ D H, H1 D = none → Same H1 H → H D = some (.lst (xs.map F)) → Q (.ref D) H) : kLcS g tt te vs σ Q J H1 :=
  fun D hD => lc_map w hz hD F hG hs fun H => hd D H hD
end
section
variable {P : Program} {w : World} {K : PySem.W.Frag} {mg : Str → Option Value} {base : Heap} {CX : CXT} {k : Nat} {f : Addr} {fd : FuncData} {ps : List Str} {sp sp' : Sp}
theorem fn_imp (F : FnOk P w K mg base CX k f fd ps sp) (h : ∀ vs H Q E, sp' vs H Q E → sp vs H Q E) : FnOk P w K mg base CX k f fd ps sp' :=
  ⟨fun vs H Q E x => F.len _ _ _ _ (h _ _ _ _ x), fun A out s H ar us vs Q E hr e b r x => F.run A out s H ar us vs Q E hr e b r (h _ _ _ _ x)⟩
theorem fn_no : FnOk P w K mg base CX 0 f fd ps (fun _ _ _ _ => False) := ⟨fun _ _ _ _ x => x.elim, fun _ _ _ _ _ _ _ _ _ _ _ _ _ x => x.elim⟩
end
end LS
namespace LP
open PySem L2 LT LG LX
def sp__law_draw_t : Sp := fun vs H Q _ => ∃ (b : Addr) (d : Nat) (n : Int), vs = [.ref b, .int n] ∧ Reel H b d ∧ 0 < n ∧ n.natAbs.log2 < 9000 ∧ d < 1000000 ∧
  ∀ (H' : Hp) (r : Int), 0 ≤ r → r < n → LS.RT H H' b (d + 1) → Q (.int r) H'
def sp__law_shuffled_t : Sp := fun vs H Q _ => ∃ (b : Addr) (d : Nat) (p : Addr) (xs : List Int), vs = [.ref b, .ref p] ∧ Reel H b d ∧ d < 900000 ∧ H p = some (.lst (xs.map V.int)) ∧ xs.length ≤ 400 ∧ p ≠ b ∧
  ∀ (H' : Hp) (q : Addr) (ys : List Int), LS.RT H H' b (d + xs.length) → H q = none → ys.Perm xs → H' q = some (.lst (ys.map V.int)) → Apart H' b q → Q (.ref q) H'
theorem draw_t {vs : List V} {H : Hp} {Q : VK} {E : XK} (h : sp__law_draw_t vs H Q E) : sp__law_draw_r vs H Q E := by
  obtain ⟨b, d, n, rfl, R, h1, h2, h3, k⟩ := h
  exact ⟨b, d, n, rfl, R, h1, h2, h3, fun H' r r0 r1 R' F A => k H' r r0 r1 ⟨R', F, A⟩⟩
end LP

/-! small data: what repr and == ask of it -/
namespace LG
open PySem L2
structure Sm (d : PyData) (k w : Nat) : Prop where
  sh : d.showable = true
  ls : d.leavesShort 40 = true
  cl : d.canLay0 = true
  dp : d.depth ≤ k
  wt : d.weight ≤ w
theorem Sm.mono {d : PyData} {k w k' w' : Nat} (h : Sm d k w) (hk : k ≤ k') (hw : w ≤ w') : Sm d k' w' := ⟨h.sh, h.ls, h.cl, Nat.le_trans h.dp hk, Nat.le_trans h.wt hw⟩
theorem Sm.int {i : Int} (hb : i.natAbs < 10 ^ 31) : Sm (.int i) 0 121 := by
  have hlog : i.natAbs.log2 < 1920 := by
    by_cases z : i.natAbs = 0
    · rw [z]; decide
    · exact Nat.lt_trans ((Nat.log2_lt z).mpr (show i.natAbs < 2 ^ 120 from Nat.lt_trans hb (by decide))) (by decide)
  have hlen : (PyData.shown (.int i)).length ≤ 40 := by
    have e := int_text_length_le10 (k := 31) (by decide) hb
    show (Str.ofString (toString i)).length ≤ 40
    rw [ofString_length]; omega
  refine ⟨?_, ?_, rfl, Nat.le_refl _, ?_⟩
  · simp only [PyData.showable, decide_eq_true_eq]; exact hlog
  · simp only [PyData.leavesShort, decide_eq_true_eq]; exact hlen
  · simp only [PyData.weight]
    split
    · omega
    · rename_i z
      have z2 : i.natAbs ≠ 0 := fun q => z (by simp [Int.natAbs_eq_zero.mp q])
      have := (Nat.log2_lt z2).mpr (show i.natAbs < 2 ^ 120 from Nat.lt_trans hb (by decide))
      omega
theorem Sm.non : Sm .none 0 0 := ⟨rfl, rfl, rfl, Nat.le_refl _, Nat.le_refl _⟩
theorem Sm.bl (b : Bool) : Sm (.bool b) 0 0 := ⟨rfl, rfl, rfl, Nat.le_refl _, Nat.le_refl _⟩
theorem Sm.all {k w : Nat} : ∀ {l : List PyData}, (∀ d ∈ l, Sm d k w) → PyData.showableAll l = true ∧ PyData.leavesShortAll 40 l = true ∧ PyData.canLayAll0 l = true ∧ PyData.depthAll l ≤ k ∧ PyData.weightAll l ≤ (w + 1) * l.length
  | [], _ => ⟨rfl, rfl, rfl, Nat.zero_le _, Nat.zero_le _⟩
  | d :: r, h => by
    obtain ⟨a, b, c, e, f⟩ := Sm.all (l := r) fun x hx => h x (List.mem_cons_of_mem _ hx)
    have g := h d List.mem_cons_self
    refine ⟨?_, ?_, ?_, ?_, ?_⟩
    · simp only [PyData.showableAll, Bool.and_eq_true]; exact ⟨g.sh, a⟩
    · simp only [PyData.leavesShortAll, Bool.and_eq_true]; exact ⟨g.ls, b⟩
    · simp only [PyData.canLayAll0, Bool.and_eq_true]; exact ⟨g.cl, c⟩
    · simp only [PyData.depthAll]
      have := g.dp
      omega
    · simp only [PyData.weightAll, List.length_cons]
      have := g.wt
      rw [Nat.mul_succ]
      omega
theorem Sm.list {k w : Nat} {l : List PyData} (h : ∀ d ∈ l, Sm d k w) : Sm (.list l) (k + 1) ((w + 1) * l.length) := by
  obtain ⟨a, b, c, e, f⟩ := Sm.all h
  exact ⟨by simp only [PyData.showable]; exact a, by simp only [PyData.leavesShort]; exact b, by simp only [PyData.canLay0]; exact c, by simp only [PyData.depth]; omega, by simp only [PyData.weight]; exact f⟩
theorem Sm.tup {k w : Nat} {l : List PyData} (h : ∀ d ∈ l, Sm d k w) : Sm (.tuple l) (k + 1) ((w + 1) * l.length) := by
  obtain ⟨a, b, c, e, f⟩ := Sm.all h
  exact ⟨by simp only [PyData.showable]; exact a, by simp only [PyData.leavesShort]; exact b, by simp only [PyData.canLay0]; exact c, by simp only [PyData.depth]; omega, by simp only [PyData.weight]; exact f⟩
theorem Sm.ok {d : PyData} {k w : Nat} (h : Sm d k w) (hk : k ≤ 64) (hw : w ≤ 200000) : d.showable = true ∧ SeqAt.shaped d = true ∧ d.shown.length ≤ sizeLine := by
  refine ⟨h.sh, ?_, ?_⟩
  · unfold SeqAt.shaped
    rw [Bool.and_eq_true, decide_eq_true_iff]
    exact ⟨h.cl, Nat.le_trans h.dp hk⟩
  · have := PyData.shown_le 40 (by decide) _ h.ls
    have e : (40 + 2) * d.weight ≤ 42 * 200000 := Nat.mul_le_mul_left _ (Nat.le_trans h.wt hw)
    exact Nat.le_trans this (Nat.le_trans (show _ ≤ 9000000 by omega) (by decide))
theorem dpAll_of {K : PySem.W.Frag} {H : Hp} : ∀ {vs : List V} {ds : List PyData}, vs.length = ds.length → (∀ (i : Nat) v d, vs[i]? = some v → ds[i]? = some d → Dp K H v d) → DpAll K H vs ds
  | [], [], _, _ => .nil
  | v :: vs, d :: ds, h, g => .cons (g 0 v d rfl rfl) (dpAll_of (by simpa using h) fun i x y h1 h2 => g (i + 1) x y h1 h2)
  | [], _ :: _, h, _ => by simp at h
  | _ :: _, [], h, _ => by simp at h
end LG

/-! data of lists and tuples: repr and == -/
namespace LS
open PySem L2 LT LG LP LX
section
variable {K : PySem.W.Frag} {H : Hp} {Q : VK}
def dI (ns : List Int) : PyData := .list (ns.map PyData.int)
def dS (ns : List Str) : PyData := .list (ns.map PyData.str)
theorem dpA_i : ∀ l : List Int, DpAll K H (l.map V.int) (l.map PyData.int)
  | [] => .nil
  | i :: r => .cons (.int i) (dpA_i r)
theorem dpA_s : ∀ l : List Str, DpAll K H (l.map V.str) (l.map PyData.str)
  | [] => .nil
  | i :: r => .cons (.str i) (dpA_s r)
theorem dp_i {p : Addr} {ns : List Int} (h : SqL K H p (ns.map V.int)) : Dp K H (.ref p) (dI ns) := .lst h (dpA_i _)
theorem dp_s {p : Addr} {ns : List Str} (h : SqL K H p (ns.map V.str)) : Dp K H (.ref p) (dS ns) := .lst h (dpA_s _)
theorem dp_it {p : Addr} {ns : List Int} (h : SqT K H p (ns.map V.int)) : Dp K H (.ref p) (.tuple (ns.map PyData.int)) := .tup h (dpA_i _)
theorem dp_E {p : Addr} {ns : List Int} (h : SqE K H p (ns.map V.int)) : ∃ d, (d = dI ns ∨ d = .tuple (ns.map PyData.int)) ∧ ∀ H', SqE K H' p (ns.map V.int) → True := ⟨_, .inl rfl, fun _ _ => trivial⟩
mutual
theorem dp_same {H' : Hp} (s : Same H H') : ∀ {v : V} {d : PyData}, Dp K H v d → Dp K H' v d
  | _, _, .non => .non
  | _, _, .bl b => .bl b
  | _, _, .int i => .int i
  | _, _, .str x => .str x
  | _, _, .lst h a => .lst (s.seq h) (dpA_same s a)
  | _, _, .tup h a => .tup (same_tup s h) (dpA_same s a)
theorem dpA_same {H' : Hp} (s : Same H H') : ∀ {vs : List V} {ds : List PyData}, DpAll K H vs ds → DpAll K H' vs ds
  | _, _, .nil => .nil
  | _, _, .cons h t => .cons (dp_same s h) (dpA_same s t)
end
theorem dpA_len : ∀ {vs : List V} {ds : List PyData}, DpAll K H vs ds → vs.length = ds.length
  | _, _, .nil => rfl
  | _, _, .cons _ t => by rw [List.length_cons, List.length_cons, dpA_len t]
theorem dpA_get : ∀ {vs : List V} {ds : List PyData} {i : Nat} {d : PyData}, DpAll K H vs ds → ds[i]? = some d → ∃ v, vs[i]? = some v ∧ Dp K H v d
  | _, _, _, _, .nil, e => by simp at e
  | _, _, 0, d, .cons h _, e => by simp at e; subst e; exact ⟨_, rfl, h⟩
  | _, _, i + 1, d, .cons _ t, e => by
    obtain ⟨v, h1, h2⟩ := dpA_get (i := i) (d := d) t (by simpa using e)
    exact ⟨v, by simpa using h1, h2⟩
theorem clA_i (l : List Int) : PyData.canLayAll0 (l.map PyData.int) = true := by
  induction l with
  | nil => rfl
  | cons i r ih => simp [PyData.canLayAll0, PyData.canLay0, ih]
theorem dpthA_i (l : List Int) : PyData.depthAll (l.map PyData.int) = 0 := by
  induction l with
  | nil => rfl
  | cons i r ih => simp [PyData.depthAll, PyData.depth, ih]
theorem clA_s (l : List Str) (h : ∀ x ∈ l, PyData.strOk x = true) : PyData.canLayAll0 (l.map PyData.str) = true := by
  induction l with
  | nil => rfl
  | cons i r ih => simp [PyData.canLayAll0, PyData.canLay0, ih fun x hx => h x (List.mem_cons_of_mem _ hx), h i (List.mem_cons_self ..)]
theorem dpthA_s (l : List Str) : PyData.depthAll (l.map PyData.str) = 0 := by
  induction l with
  | nil => rfl
  | cons i r ih => simp [PyData.depthAll, PyData.depth, ih]
theorem sh_i (l : List Int) : SeqAt.shaped (dI l) = true := by simp [SeqAt.shaped, dI, PyData.canLay0, PyData.depth, clA_i, dpthA_i]
theorem sh_s (l : List Str) (h : ∀ x ∈ l, PyData.strOk x = true) : SeqAt.shaped (dS l) = true := by simp [SeqAt.shaped, dS, PyData.canLay0, PyData.depth, clA_s l h, dpthA_s]
theorem eqvA_i : ∀ a b : List Int, PyData.eqvAll (a.map PyData.int) (b.map PyData.int) = decide (a = b)
  | [], [] => by simp [PyData.eqvAll]
  | [], _ :: _ => by simp [PyData.eqvAll]
  | _ :: _, [] => by simp [PyData.eqvAll]
  | x :: r, y :: t => by
    simp only [List.map_cons, PyData.eqvAll, eqvA_i r t]
    by_cases e : x = y
    · subst e; simp [PyData.eqv]
    · have : (x == y) = false := beq_eq_false_iff_ne.mpr e
      simp [PyData.eqv, e, this]
theorem eqvA_s : ∀ a b : List Str, PyData.eqvAll (a.map PyData.str) (b.map PyData.str) = decide (a = b)
  | [], [] => by simp [PyData.eqvAll]
  | [], _ :: _ => by simp [PyData.eqvAll]
  | _ :: _, [] => by simp [PyData.eqvAll]
  | x :: r, y :: t => by
    simp only [List.map_cons, PyData.eqvAll, eqvA_s r t]
    by_cases e : x = y
    · subst e; simp [PyData.eqv]
    · have : (x == y) = false := beq_eq_false_iff_ne.mpr e
      simp [PyData.eqv, e, this]
theorem eqv_i (a b : List Int) : PyData.eqv (dI a) (dI b) = decide (a = b) := by simp only [dI, PyData.eqv]; exact eqvA_i a b
theorem eqv_s (a b : List Str) : PyData.eqv (dS a) (dS b) = decide (a = b) := by simp only [dS, PyData.eqv]; exact eqvA_s a b
theorem reqd {x y : V} {d e : PyData} (h1 : Dp K H x d) (h2 : Dp K H y e) (s1 : SeqAt.shaped d = true) (s2 : SeqAt.shaped e = true) (q : Q (.bl (PyData.eqv d e)) H) : rEqD K x y H Q := ⟨d, e, h1, h2, s1, s2, q⟩
theorem rned {x y : V} {d e : PyData} (h1 : Dp K H x d) (h2 : Dp K H y e) (s1 : SeqAt.shaped d = true) (s2 : SeqAt.shaped e = true) (q : Q (.bl (!PyData.eqv d e)) H) : rNeD K x y H Q := ⟨d, e, h1, h2, s1, s2, q⟩
theorem req_il {a b : Addr} {x y : List Int} (h1 : SqL K H a (x.map V.int)) (h2 : SqL K H b (y.map V.int)) (q : Q (.bl (decide (x = y))) H) : rEqD K (.ref a) (.ref b) H Q := reqd (dp_i h1) (dp_i h2) (sh_i _) (sh_i _) (by rw [eqv_i]; exact q)
theorem rne_il {a b : Addr} {x y : List Int} (h1 : SqL K H a (x.map V.int)) (h2 : SqL K H b (y.map V.int)) (q : Q (.bl (!decide (x = y))) H) : rNeD K (.ref a) (.ref b) H Q := rned (dp_i h1) (dp_i h2) (sh_i _) (sh_i _) (by rw [eqv_i]; exact q)
theorem req_sl {a b : Addr} {x y : List Str} (o1 : ∀ z ∈ x, PyData.strOk z = true) (o2 : ∀ z ∈ y, PyData.strOk z = true) (h1 : SqL K H a (x.map V.str)) (h2 : SqL K H b (y.map V.str)) (q : Q (.bl (decide (x = y))) H) : rEqD K (.ref a) (.ref b) H Q := reqd (dp_s h1) (dp_s h2) (sh_s _ o1) (sh_s _ o2) (by rw [eqv_s]; exact q)
theorem rne_sl {a b : Addr} {x y : List Str} (o1 : ∀ z ∈ x, PyData.strOk z = true) (o2 : ∀ z ∈ y, PyData.strOk z = true) (h1 : SqL K H a (x.map V.str)) (h2 : SqL K H b (y.map V.str)) (q : Q (.bl (!decide (x = y))) H) : rNeD K (.ref a) (.ref b) H Q := rned (dp_s h1) (dp_s h2) (sh_s _ o1) (sh_s _ o2) (by rw [eqv_s]; exact q)
theorem rrepr {a : Addr} {d : PyData} {k w : Nat} (h : Dp K H (.ref a) d) (s : Sm d k w) (hk : k ≤ 64) (hw : w ≤ 200000) (q : Q (.str d.shown) H) : rReprN K [.ref a] H Q := by
  obtain ⟨a1, a2, a3⟩ := s.ok hk hw
  exact .inr (.inr (.inr ⟨a, d, rfl, h, a1, a2, a3, q⟩))
theorem rrepr_i {i : Int} (h : i.natAbs.log2 < 1920) (q : Q (.str (toString i)) H) : rReprN K [.int i] H Q := .inr (.inr (.inl ⟨i, rfl, h, q⟩))
theorem rrepr_n (q : Q (.str "None") H) : rReprN K [.non] H Q := .inl ⟨rfl, q⟩
theorem rrepr_b {b : Bool} (q : Q (.str (if b then "True" else "False")) H) : rReprN K [.bl b] H Q := .inr (.inl ⟨b, rfl, q⟩)
theorem sm_small {i : Int} (h : i.natAbs < 1024) : Sm (.int i) 0 10 := by
  have g := Sm.int (i := i) (Nat.lt_trans h (by decide))
  refine ⟨g.sh, g.ls, g.cl, g.dp, ?_⟩
  simp only [PyData.weight]
  split
  · omega
  · rename_i z
    have z2 : i.natAbs ≠ 0 := fun q => z (by simp [Int.natAbs_eq_zero.mp q])
    have := (Nat.log2_lt z2).mpr (show i.natAbs < 2 ^ 10 from h)
    omega
theorem sm_smalls {ns : List Int} (h : ∀ x ∈ ns, x.natAbs < 1024) : Sm (dI ns) 1 (11 * ns.length) := by
  have := Sm.list (k := 0) (w := 10) (l := ns.map PyData.int) (fun d hd => by obtain ⟨i, hi, rfl⟩ := List.mem_map.mp hd; exact sm_small (h i hi))
  rw [List.length_map] at this
  exact this
theorem sm_smallsT {ns : List Int} (h : ∀ x ∈ ns, x.natAbs < 1024) : Sm (.tuple (ns.map PyData.int)) 1 (11 * ns.length) := by
  have := Sm.tup (k := 0) (w := 10) (l := ns.map PyData.int) (fun d hd => by obtain ⟨i, hi, rfl⟩ := List.mem_map.mp hd; exact sm_small (h i hi))
  rw [List.length_map] at this
  exact this
theorem sm_ints {ns : List Int} (h : ∀ x ∈ ns, x.natAbs < 10 ^ 31) : Sm (dI ns) 1 (122 * ns.length) := by
  have := Sm.list (k := 0) (w := 121) (l := ns.map PyData.int) (fun d hd => by obtain ⟨i, hi, rfl⟩ := List.mem_map.mp hd; exact Sm.int (h i hi))
  rw [List.length_map] at this
  exact this
theorem sm_intsT {ns : List Int} (h : ∀ x ∈ ns, x.natAbs < 10 ^ 31) : Sm (.tuple (ns.map PyData.int)) 1 (122 * ns.length) := by
  have := Sm.tup (k := 0) (w := 121) (l := ns.map PyData.int) (fun d hd => by obtain ⟨i, hi, rfl⟩ := List.mem_map.mp hd; exact Sm.int (h i hi))
  rw [List.length_map] at this
  exact this
end
end LS

namespace LR
/-! the mirror: a shelf, stp by stp -/
abbrev Op := Bool × Int
structure Sim where
  books : List (Option Int)
  out : List Int
  filled : List Int
  most : Int
def rangeI (n : Nat) : List Int := (List.range n).map fun k : Nat => (k : Int)
def simInit (n : Nat) : Sim := ⟨(rangeI n).map some, [], [], 0⟩
def gap (l : List (Option Int)) : Nat := l.idxOf none
def mx (i j : Int) : Int := if j > i then j else i
def stp (s : Sim) (o : Op) : Option Sim :=
  if o.1 = true then
    if 0 ≤ o.2 then
      match s.books[o.2.toNat]? with
      | some (some b) => some ⟨s.books.set o.2.toNat none, s.out ++ [b], s.filled, mx s.most ((s.out ++ [b]).length : Nat)⟩
      | _ => none
    else none
  else if o.2 ∈ s.out then some ⟨s.books.set (gap s.books) (some o.2), s.out.erase o.2, s.filled ++ [(gap s.books : Int)], mx s.most ((s.out.erase o.2).length : Nat)⟩
  else none
def run (s : Sim) : List Op → Option Sim
  | [] => some s
  | o :: os => (stp s o).bind fun t => run t os
theorem run_nil {s : Sim} : run s [] = some s := rfl
theorem run_append {s : Sim} {a b : List Op} : run s (a ++ b) = (run s a).bind fun t => run t b := by
  induction a generalizing s with
  | nil => rfl
  | cons o os ih =>
    show (stp s o).bind (fun t => run t (os ++ b)) = ((stp s o).bind fun t => run t os).bind fun t => run t b
    cases stp s o with
    | none => rfl
    | some t => exact ih
theorem run_snoc {s t u : Sim} {a : List Op} {o : Op} (h : run s a = some t) (h2 : stp t o = some u) : run s (a ++ [o]) = some u := by
  rw [run_append, h]
  show (stp t o).bind _ = _
  rw [h2]; rfl
theorem run_take {s e : Sim} {ops : List Op} (h : run s ops = some e) (i : Nat) : ∃ t, run s (ops.take i) = some t ∧ run t (ops.drop i) = some e := by
  have h2 : run s (ops.take i ++ ops.drop i) = some e := by rw [List.take_append_drop]; exact h
  rw [run_append] at h2
  cases q : run s (ops.take i) with
  | none => rw [q] at h2; cases h2
  | some t => rw [q] at h2; exact ⟨t, rfl, h2⟩
theorem run_stp {s e : Sim} {ops : List Op} (h : run s ops = some e) {i : Nat} {o : Op} (hi : ops[i]? = some o) : ∃ t u, run s (ops.take i) = some t ∧ stp t o = some u ∧ run s (ops.take (i + 1)) = some u := by
  obtain ⟨t, h1, h2⟩ := run_take h i
  obtain ⟨hl, e1⟩ := List.getElem?_eq_some_iff.mp hi
  have e2 : ops.drop i = o :: ops.drop (i + 1) := by rw [List.drop_eq_getElem_cons hl, e1]
  rw [e2] at h2
  have h3 : (stp t o).bind (fun u => run u (ops.drop (i + 1))) = some e := h2
  cases q : stp t o with
  | none => rw [q] at h3; cases h3
  | some u =>
    refine ⟨t, u, h1, q, ?_⟩
    rw [List.take_add_one, hi]
    exact run_snoc h1 q
/-! ### what is always so -/
structure Good (n : Nat) (s : Sim) : Prop where
  len : s.books.length = n
  perm : (s.books.filterMap id ++ s.out).Perm (rangeI n)
  out_le : (s.out.length : Int) ≤ s.most
theorem rangeI_length (n : Nat) : (rangeI n).length = n := by simp [rangeI]
theorem rangeI_nodup (n : Nat) : (rangeI n).Nodup := by
  unfold rangeI
  refine List.Pairwise.map _ (fun a b h => ?_) (List.nodup_range (n := n))
  intro e; exact h (Int.ofNat.inj e)
theorem rangeI_sorted (n : Nat) : (rangeI n).Pairwise (· ≤ ·) := by
  unfold rangeI
  refine List.Pairwise.map _ (fun a b h => ?_) (List.pairwise_lt_range (n := n))
  exact Int.ofNat_le.mpr (Nat.le_of_lt h)
theorem rangeI_get {n k : Nat} (h : k < n) : (rangeI n)[k]? = some (k : Int) := by
  unfold rangeI
  rw [List.getElem?_map, List.getElem?_range h]; rfl
theorem mem_rangeI {n : Nat} {x : Int} : x ∈ rangeI n ↔ 0 ≤ x ∧ x < n := by
  unfold rangeI
  rw [List.mem_map]
  constructor
  · rintro ⟨k, hk, rfl⟩
    have := List.mem_range.mp hk
    omega
  · intro ⟨h1, h2⟩
    exact ⟨x.toNat, List.mem_range.mpr (by omega), by omega⟩
theorem rangeI_succ (n : Nat) : rangeI (n + 1) = rangeI n ++ [(n : Int)] := by
  unfold rangeI
  rw [List.range_succ, List.map_append]; rfl
theorem fm_some (l : List Int) : (l.map some).filterMap id = l := by
  induction l with
  | nil => rfl
  | cons a r ih => show a :: (r.map some).filterMap id = a :: r; rw [ih]
theorem good_init (n : Nat) : Good n (simInit n) := by
  refine ⟨?_, ?_, ?_⟩
  · show ((rangeI n).map some).length = n
    rw [List.length_map, rangeI_length]
  · show (((rangeI n).map some).filterMap id ++ []).Perm _
    rw [List.append_nil, fm_some]
  · show ((0 : Nat) : Int) ≤ 0
    decide
theorem fm_set_none {b : Int} : ∀ {l : List (Option Int)} {p : Nat}, l[p]? = some (some b) → (b :: (l.set p none).filterMap id).Perm (l.filterMap id)
  | [], p, h => by simp at h
  | a :: r, 0, h => by
    have e : a = some b := Option.some.inj h
    subst e
    exact List.Perm.refl _
  | none :: r, p + 1, h => fm_set_none (l := r) (p := p) h
  | some a :: r, p + 1, h => by
    have ih := fm_set_none (l := r) (p := p) h
    show (b :: a :: (r.set p none).filterMap id).Perm (a :: r.filterMap id)
    exact (List.Perm.swap a b _).trans (ih.cons a)
theorem fm_set_some {b : Int} : ∀ {l : List (Option Int)} {p : Nat}, l[p]? = some none → ((l.set p (some b)).filterMap id).Perm (b :: l.filterMap id)
  | [], p, h => by simp at h
  | a :: r, 0, h => by
    have e : a = none := Option.some.inj h
    subst e
    exact List.Perm.refl _
  | none :: r, p + 1, h => fm_set_some (l := r) (p := p) h
  | some a :: r, p + 1, h => by
    have ih := fm_set_some (b := b) (l := r) (p := p) h
    show (a :: (r.set p (some b)).filterMap id).Perm (b :: a :: r.filterMap id)
    exact (ih.cons a).trans (List.Perm.swap b a _)
theorem fm_full : ∀ {l : List (Option Int)}, none ∉ l → (l.filterMap id).length = l.length
  | [], _ => rfl
  | none :: r, h => absurd List.mem_cons_self h
  | some a :: r, h => by
    show ((a :: r.filterMap id)).length = (some a :: r).length
    rw [List.length_cons, List.length_cons, fm_full fun q => h (List.mem_cons_of_mem _ q)]
theorem fm_len (l : List (Option Int)) : (l.filterMap id).length ≤ l.length := List.length_filterMap_le _ _
theorem gap_lt {l : List (Option Int)} (h : none ∈ l) : gap l < l.length := List.idxOf_lt_length_iff.mpr h
theorem gap_get {l : List (Option Int)} (h : none ∈ l) : l[gap l]? = some none := by
  have h1 := gap_lt h
  rw [List.getElem?_eq_getElem h1]
  have h2 := List.findIdx_getElem (p := (· == none)) (xs := l) (w := h1)
  exact congrArg some (eq_of_beq h2)
theorem gap_least : ∀ {l : List (Option Int)} {k : Nat}, l[k]? = some none → gap l ≤ k
  | [], k, h => by simp at h
  | none :: r, k, h => by unfold gap; rw [List.idxOf_cons]; simp
  | some a :: r, 0, h => by cases h
  | some a :: r, k + 1, h => by
    have ih := gap_least (l := r) (k := k) h
    unfold gap at ih ⊢
    rw [List.idxOf_cons]
    simp
    exact ih
theorem gap_before {l : List (Option Int)} {k : Nat} {x : Option Int} (hk : k < gap l) (h : l[k]? = some x) : x ≠ none := by
  intro e
  subst e
  exact absurd (gap_least h) (Nat.not_le.mpr hk)
theorem Good.gap {n : Nat} {s : Sim} (g : Good n s) {b : Int} (hb : b ∈ s.out) : none ∈ s.books := by
  refine Classical.byContradiction fun h => ?_
  have h1 := fm_full h
  have h2 := g.perm.length_eq
  rw [List.length_append, rangeI_length, h1, g.len] at h2
  have h3 : s.out.length = 0 := by omega
  rw [List.eq_nil_of_length_eq_zero h3] at hb
  cases hb
theorem mx_ge (i j : Int) : i ≤ mx i j ∧ j ≤ mx i j := by unfold mx; split <;> omega
theorem stp_take {s u : Sim} {p : Int} (h : stp s (true, p) = some u) : 0 ≤ p ∧ ∃ b, s.books[p.toNat]? = some (some b) ∧ u = ⟨s.books.set p.toNat none, s.out ++ [b], s.filled, mx s.most ((s.out ++ [b]).length : Nat)⟩ := by
  unfold stp at h
  rw [if_pos rfl] at h
  by_cases hp : 0 ≤ p
  · rw [if_pos (show 0 ≤ ((true, p) : Op).2 from hp)] at h
    refine ⟨hp, ?_⟩
    dsimp only at h
    split at h
    · rename_i b e
      exact ⟨b, e, (Option.some.inj h).symm⟩
    · cases h
  · rw [if_neg (show ¬ 0 ≤ ((true, p) : Op).2 from hp)] at h
    cases h
theorem stp_take_of {s : Sim} {p : Int} {b : Int} (hp : 0 ≤ p) (e : s.books[p.toNat]? = some (some b)) : stp s (true, p) = some ⟨s.books.set p.toNat none, s.out ++ [b], s.filled, mx s.most ((s.out ++ [b]).length : Nat)⟩ := by
  unfold stp
  rw [if_pos rfl, if_pos (show 0 ≤ ((true, p) : Op).2 from hp)]
  dsimp only
  rw [e]
theorem stp_ret {s u : Sim} {b : Int} (h : stp s (false, b) = some u) : b ∈ s.out ∧ u = ⟨s.books.set (gap s.books) (some b), s.out.erase b, s.filled ++ [(gap s.books : Int)], mx s.most ((s.out.erase b).length : Nat)⟩ := by
  unfold stp at h
  rw [if_neg (show ¬ ((false, b) : Op).1 = true from Bool.false_ne_true)] at h
  by_cases hb : b ∈ s.out
  · rw [if_pos (show ((false, b) : Op).2 ∈ s.out from hb)] at h
    exact ⟨hb, (Option.some.inj h).symm⟩
  · rw [if_neg (show ¬ ((false, b) : Op).2 ∈ s.out from hb)] at h
    cases h
theorem stp_ret_of {s : Sim} {b : Int} (hb : b ∈ s.out) : stp s (false, b) = some ⟨s.books.set (gap s.books) (some b), s.out.erase b, s.filled ++ [(gap s.books : Int)], mx s.most ((s.out.erase b).length : Nat)⟩ := by
  unfold stp
  rw [if_neg (show ¬ ((false, b) : Op).1 = true from Bool.false_ne_true), if_pos (show ((false, b) : Op).2 ∈ s.out from hb)]
theorem good_stp {n : Nat} {s u : Sim} {o : Op} (g : Good n s) (h : stp s o = some u) : Good n u := by
  obtain ⟨w, x⟩ := o
  cases w with
  | true =>
    obtain ⟨hp, b, e, rfl⟩ := stp_take h
    refine ⟨?_, ?_, ?_⟩
    · show (s.books.set _ none).length = n
      rw [List.length_set]; exact g.len
    · show ((s.books.set x.toNat none).filterMap id ++ (s.out ++ [b])).Perm _
      refine List.Perm.trans ?_ g.perm
      have h1 := fm_set_none e
      rw [← List.append_assoc]
      refine (List.perm_append_singleton b _).trans ?_
      exact List.Perm.append_right s.out h1
    · exact (mx_ge _ _).2
  | false =>
    obtain ⟨hb, rfl⟩ := stp_ret h
    have hg := g.gap hb
    refine ⟨?_, ?_, ?_⟩
    · show (s.books.set _ _).length = n
      rw [List.length_set]; exact g.len
    · show ((s.books.set (LR.gap s.books) (some x)).filterMap id ++ s.out.erase x).Perm _
      refine List.Perm.trans ?_ g.perm
      have h1 := fm_set_some (b := x) (gap_get hg)
      refine (List.Perm.append_right _ h1).trans ?_
      have h2 := List.perm_cons_erase hb
      refine List.Perm.trans ?_ (List.Perm.append_left _ h2.symm)
      exact List.perm_middle.symm
    · exact (mx_ge _ _).2
theorem good_run {n : Nat} {ops : List Op} : ∀ {s e : Sim}, Good n s → run s ops = some e → Good n e := by
  induction ops with
  | nil => intro s e g h; cases h; exact g
  | cons o os ih =>
    intro s e g h
    have h' : (stp s o).bind (fun t => run t os) = some e := h
    cases q : stp s o with
    | none => rw [q] at h'; cases h'
    | some t => rw [q] at h'; exact ih (good_stp g q) h'
theorem Good.nodup {n : Nat} {s : Sim} (g : Good n s) : (s.books.filterMap id ++ s.out).Nodup := g.perm.nodup_iff.mpr (rangeI_nodup n)
/-! ### the filled places and the greatest number -/
def rets (ops : List Op) : Nat := (ops.filter fun o => !o.1).length
theorem stp_grow {s u : Sim} {o : Op} (h : stp s o = some u) : (∃ m, u.filled = s.filled ++ m ∧ m.length = rets [o]) ∧ s.most ≤ u.most := by
  obtain ⟨w, x⟩ := o
  cases w with
  | true =>
    obtain ⟨hp, b, e, rfl⟩ := stp_take h
    exact ⟨⟨[], (List.append_nil _).symm, rfl⟩, (mx_ge _ _).1⟩
  | false =>
    obtain ⟨hb, rfl⟩ := stp_ret h
    exact ⟨⟨_, rfl, rfl⟩, (mx_ge _ _).1⟩
theorem run_grow {ops : List Op} : ∀ {s e : Sim}, run s ops = some e → (∃ m, e.filled = s.filled ++ m ∧ m.length = rets ops) ∧ s.most ≤ e.most := by
  induction ops with
  | nil => intro s e h; cases h; exact ⟨⟨[], (List.append_nil _).symm, rfl⟩, Int.le_refl _⟩
  | cons o os ih =>
    intro s e h
    have h' : (stp s o).bind (fun t => run t os) = some e := h
    cases q : stp s o with
    | none => rw [q] at h'; cases h'
    | some t =>
      rw [q] at h'
      obtain ⟨⟨m1, e1, l1⟩, k1⟩ := stp_grow q
      obtain ⟨⟨m2, e2, l2⟩, k2⟩ := ih h'
      refine ⟨⟨m1 ++ m2, by rw [e2, e1, List.append_assoc], ?_⟩, Int.le_trans k1 k2⟩
      rw [List.length_append, l1, l2]
      unfold rets
      rw [← List.length_append, ← List.filter_append]; rfl
/-! ### a longer shelf -/
def ext (n : Nat) (s : Sim) : Sim := { s with books := s.books ++ [some (n : Int)] }
theorem init_ext (n : Nat) : simInit (n + 1) = ext n (simInit n) := by
  unfold simInit ext
  simp [rangeI_succ]
theorem gap_append {l : List (Option Int)} (h : none ∈ l) (m : List (Option Int)) : gap (l ++ m) = gap l := by
  unfold gap
  rw [List.idxOf_append, if_pos h]
theorem stp_ext {n : Nat} {s u : Sim} {o : Op} (g : Good n s) (h : stp s o = some u) : stp (ext n s) o = some (ext n u) := by
  obtain ⟨w, x⟩ := o
  cases w with
  | true =>
    obtain ⟨hp, b, e, rfl⟩ := stp_take h
    have hl := (List.getElem?_eq_some_iff.mp e).1
    have e2 : (ext n s).books[x.toNat]? = some (some b) := by
      show (s.books ++ _)[x.toNat]? = _
      rw [List.getElem?_append_left hl]; exact e
    rw [stp_take_of hp e2]
    show some (Sim.mk ((s.books ++ [some (n : Int)]).set x.toNat none) _ _ _) = some (Sim.mk (s.books.set x.toNat none ++ [some (n : Int)]) _ _ _)
    rw [List.set_append_left _ _ hl]; rfl
  | false =>
    obtain ⟨hb, rfl⟩ := stp_ret h
    have hg := g.gap hb
    have hl := gap_lt hg
    rw [stp_ret_of (s := ext n s) hb]
    show some (Sim.mk ((s.books ++ [some (n : Int)]).set (LR.gap (s.books ++ [some (n : Int)])) (some x)) _ (s.filled ++ [(LR.gap (s.books ++ [some (n : Int)]) : Int)]) _) = some (Sim.mk (s.books.set (LR.gap s.books) (some x) ++ [some (n : Int)]) _ _ _)
    rw [gap_append hg, List.set_append_left _ _ hl]; rfl
theorem run_ext {n : Nat} {ops : List Op} : ∀ {s e : Sim}, Good n s → run s ops = some e → run (ext n s) ops = some (ext n e) := by
  induction ops with
  | nil => intro s e g h; cases h; rfl
  | cons o os ih =>
    intro s e g h
    have h' : (stp s o).bind (fun t => run t os) = some e := h
    cases q : stp s o with
    | none => rw [q] at h'; cases h'
    | some t =>
      rw [q] at h'
      show (stp (ext n s) o).bind _ = _
      rw [stp_ext g q]
      exact ih (good_stp g q) h'
/-! ### what one stp changes -/
theorem filter_range_eq {n p : Nat} (h : p < n) (f : Nat → Bool) (hf : ∀ k, k < n → (f k = true ↔ k = p)) : (List.range n).filter f = [p] := by
  have h1 : ((List.range n).filter f).Nodup := (List.nodup_range (n := n)).filter _
  refine List.Perm.eq_singleton ?_ |>.symm ▸ rfl
  exact (List.perm_ext_iff_of_nodup h1 (by simp)).mpr fun a => by
    rw [List.mem_filter, List.mem_range, List.mem_singleton]
    constructor
    · intro ⟨a1, a2⟩; exact (hf a a1).mp a2
    · intro e; subst e; exact ⟨h, (hf a h).mpr rfl⟩
theorem set_differs {l : List (Option Int)} {p : Nat} {x v : Option Int} (hp : l[p]? = some x) (hx : x ≠ v) (k : Nat) : l[k]? ≠ (l.set p v)[k]? ↔ k = p := by
  have hl := (List.getElem?_eq_some_iff.mp hp).1
  rw [List.getElem?_set]
  by_cases e : p = k
  · subst e
    rw [if_pos rfl, if_pos hl, hp]
    constructor
    · intro _; rfl
    · intro _ q; exact hx (Option.some.inj q)
  · rw [if_neg e]
    constructor
    · intro q; exact absurd rfl q
    · intro q; exact absurd q.symm e
theorem sorted_eq {l m : List Int} (h : l.Perm m) (h1 : l.Pairwise (· ≤ ·)) (h2 : m.Pairwise (· ≤ ·)) : l = m :=
  List.Perm.eq_of_pairwise (fun a b _ _ h1 h2 => Int.le_antisymm h1 h2) h1 h2 h
end LR

/-! shelves and live shelves: what stands in the heap, and what their methods promise -/
namespace LP
open PySem L2 LT LG LX LR
def vo : Option Int → V
  | some i => .int i
  | none => .non
def kst (b : Bool) : Str := if b then "take" else "return"
def opv (o : Op) : List V := [.str (kst o.1), .int o.2]
/-- a step: the operation, the place, the number among the books out -/
structure Stp where
  op : Op
  place : Int
  num : Nat
def OpsOk (H : Hp) (as : List Addr) (os : List Op) : Prop := as.length = os.length ∧ ∀ (i : Nat) a o, as[i]? = some a → os[i]? = some o → H a = some (.tup (opv o))
def StepsOk (H : Hp) (as : List Addr) (ss : List Stp) : Prop := as.length = ss.length ∧ ∀ (i : Nat) a t, as[i]? = some a → ss[i]? = some t → ∃ o, H a = some (.tup [.ref o, .int t.place, .int t.num]) ∧ H o = some (.tup (opv t.op))
/-- what is no list is kept -/
def KN (H H' : Hp) : Prop := ∀ a o, H a = some o → (∀ xs, o ≠ .lst xs) → H' a = some o
theorem kn_s {H H' : Hp} (s : Same H H') : KN H H' := fun a o h _ => s a o h
theorem kn_f {H H' : Hp} {p : Addr} {xs : List V} (f : Fr H H' p) (h : H p = some (.lst xs)) : KN H H' := fun a o e n => f a o e fun q => by
  subst q; rw [h] at e; cases e; exact n _ rfl
theorem kn_t {H H' : Hp} {b : Addr} {d d' : Nat} (t : LS.RT H H' b d) (r : Reel H b d') : KN H H' := by
  obtain ⟨g, c, gs, cs, k, t', a1, _⟩ := r.ex
  exact kn_f t.f a1
def Lists (H : Hp) (L : List Addr) : Prop := ∀ a ∈ L, ∃ xs, H a = some (.lst xs)
theorem kn_l {H H' : Hp} {L : List Addr} (f : LS.FrL H H' L) (h : Lists H L) : KN H H' := fun a o e n => f.k a o e fun q => by
  obtain ⟨xs, hx⟩ := h a q
  rw [hx] at e; cases e; exact n _ rfl
theorem li_nil {H : Hp} : Lists H [] := fun a h => by cases h
theorem li_cons {H : Hp} {a : Addr} {xs : List V} {L : List Addr} (h : H a = some (.lst xs)) (t : Lists H L) : Lists H (a :: L) := fun b hb => by
  rcases List.mem_cons.mp hb with rfl | hb
  · exact ⟨xs, h⟩
  · exact t b hb
theorem OpsOk.kn {H H' : Hp} {as : List Addr} {os : List Op} (h : OpsOk H as os) (k : KN H H') : OpsOk H' as os := ⟨h.1, fun i a o ha ho => k _ _ (h.2 i a o ha ho) (fun xs q => by cases q)⟩
theorem StepsOk.kn {H H' : Hp} {as : List Addr} {ss : List Stp} (h : StepsOk H as ss) (k : KN H H') : StepsOk H' as ss := ⟨h.1, fun i a t ha ht => by
  obtain ⟨o, h1, h2⟩ := h.2 i a t ha ht
  exact ⟨o, k _ _ h1 (fun xs q => by cases q), k _ _ h2 (fun xs q => by cases q)⟩⟩
theorem ops_s {H H' : Hp} {as : List Addr} {os : List Op} (s : Same H H') (h : OpsOk H as os) : OpsOk H' as os := h.kn (kn_s s)
theorem OpsOk.snoc {H : Hp} {as : List Addr} {os : List Op} {a : Addr} {o : Op} (h : OpsOk H as os) (e : H a = some (.tup (opv o))) : OpsOk H (as ++ [a]) (os ++ [o]) := by
  refine ⟨by simp [h.1], fun i x y hx hy => ?_⟩
  rcases Nat.lt_or_ge i as.length with q | q
  · rw [List.getElem?_append_left q] at hx
    rw [List.getElem?_append_left (by rw [← h.1]; exact q)] at hy
    exact h.2 i x y hx hy
  · rw [List.getElem?_append_right q] at hx
    rw [List.getElem?_append_right (by rw [← h.1]; exact q), ← h.1] at hy
    cases z : i - as.length with
    | zero => rw [z] at hx hy; cases hx; cases hy; exact e
    | succ n => rw [z] at hx; simp at hx
theorem StepsOk.snoc {H : Hp} {as : List Addr} {os : List Stp} {a q : Addr} {o : Stp} (h : StepsOk H as os) (e : H a = some (.tup [.ref q, .int o.place, .int o.num])) (e2 : H q = some (.tup (opv o.op))) : StepsOk H (as ++ [a]) (os ++ [o]) := by
  refine ⟨by simp [h.1], fun i x y hx hy => ?_⟩
  rcases Nat.lt_or_ge i as.length with q | q
  · rw [List.getElem?_append_left q] at hx
    rw [List.getElem?_append_left (by rw [← h.1]; exact q)] at hy
    exact h.2 i x y hx hy
  · rw [List.getElem?_append_right q] at hx
    rw [List.getElem?_append_right (by rw [← h.1]; exact q), ← h.1] at hy
    cases z : i - as.length with
    | zero => rw [z] at hx hy; cases hx; cases hy; exact ⟨_, e, e2⟩
    | succ n => rw [z] at hx; simp at hx
/-- the shelf at sh -/
structure Shf (C : Addr) (H : Hp) (sh dx bl ol : Addr) (s : Sim) : Prop where
  ob : H sh = some (.ins C dx [("books", .ref bl), ("out", .ref ol)])
  bk : H bl = some (.lst (s.books.map vo))
  ou : H ol = some (.lst (s.out.map V.int))
  ne : bl ≠ ol
/-- the objects of a live shelf -/
structure Ad where
  (lx dl sh ds bl ol st : Addr)
def Ad.L (A : Ad) : List Addr := [A.bl, A.ol, A.st]
structure Lv (C D : Addr) (H : Hp) (A : Ad) (s : Sim) (ss : List Stp) : Prop where
  ob : H A.lx = some (.ins C A.dl [("_shelf", .ref A.sh), ("_steps", .ref A.st)])
  sf : Shf D H A.sh A.ds A.bl A.ol s
  ex : ∃ as, H A.st = some (.lst (as.map V.ref)) ∧ StepsOk H as ss
  n1 : A.bl ≠ A.st
  n2 : A.ol ≠ A.st
theorem Lv.move {C D : Addr} {H H' : Hp} {A : Ad} {s : Sim} {ss : List Stp} (l : Lv C D H A s ss) (k : KN H H') (h : ∀ a ∈ A.L, ∀ xs, H a = some (.lst xs) → H' a = some (.lst xs)) : Lv C D H' A s ss := by
  obtain ⟨as, h1, h2⟩ := l.ex
  exact ⟨k _ _ l.ob (fun xs q => by cases q), ⟨k _ _ l.sf.ob (fun xs q => by cases q), h _ (by simp [Ad.L]) _ l.sf.bk, h _ (by simp [Ad.L]) _ l.sf.ou, l.sf.ne⟩, ⟨as, h _ (by simp [Ad.L]) _ h1, h2.kn k⟩, l.n1, l.n2⟩
theorem Lv.lists {C D : Addr} {H : Hp} {A : Ad} {s : Sim} {ss : List Stp} (l : Lv C D H A s ss) : Lists H A.L := by
  obtain ⟨as, h1, h2⟩ := l.ex
  intro a ha
  simp [Ad.L] at ha
  rcases ha with rfl | rfl | rfl
  · exact ⟨_, l.sf.bk⟩
  · exact ⟨_, l.sf.ou⟩
  · exact ⟨_, h1⟩
theorem lv_s {C D : Addr} {H H' : Hp} {A : Ad} {s : Sim} {ss : List Stp} (e : Same H H') (l : Lv C D H A s ss) : Lv C D H' A s ss := l.move (kn_s e) fun a _ xs h => e _ _ h
theorem lv_f {C D : Addr} {H H' : Hp} {A : Ad} {s : Sim} {ss : List Stp} {p : Addr} {xs : List V} (f : Fr H H' p) (l : Lv C D H A s ss) (hp : H p = some (.lst xs)) (n : p ∉ A.L) : Lv C D H' A s ss :=
  l.move (kn_f f hp) fun a ha xs h => f _ _ h fun q => n (q ▸ ha)
theorem lv_t {C D : Addr} {H H' : Hp} {A : Ad} {s : Sim} {ss : List Stp} {b : Addr} {d d' : Nat} (t : LS.RT H H' b d) (l : Lv C D H A s ss) (r : Reel H b d') (al : LS.ApL H b A.L) : Lv C D H' A s ss :=
  l.move (kn_t t r) fun a ha xs h => t.f _ _ h (al a ha).1
theorem lv_l {C D : Addr} {H H' : Hp} {A : Ad} {s : Sim} {ss : List Stp} {L : List Addr} (f : LS.FrL H H' L) (l : Lv C D H A s ss) (hl : Lists H L) (n : ∀ a ∈ A.L, a ∉ L) : Lv C D H' A s ss :=
  l.move (kn_l f hl) fun a ha xs h => f.k _ _ h (n a ha)
theorem Lv.trk {C D : Addr} {H : Hp} {A : Ad} {s : Sim} {ss : List Stp} (l : Lv C D H A s ss) : LS.Trk H A.L := fun a ha => by
  obtain ⟨xs, h⟩ := l.lists a ha
  rw [h]; simp
/-- an apart list stays apart -/
theorem al_s {H H' : Hp} {b : Addr} {d : Nat} {L : List Addr} (s : Same H H') (h : LS.ApL H b L) (r : Reel H b d) : LS.ApL H' b L := fun a ha => LS.ap_s s (h a ha) r
theorem al_t {H H' : Hp} {b : Addr} {d : Nat} {L : List Addr} (t : LS.RT H H' b d) (h : LS.ApL H b L) (k : LS.Trk H L) : LS.ApL H' b L := fun a ha => t.a a (h a ha) (k a ha)
theorem al_l {H H' : Hp} {b : Addr} {d : Nat} {L M : List Addr} (f : LS.FrL H H' M) (h : LS.ApL H b L) (al : LS.ApL H b M) (r : Reel H b d) : LS.ApL H' b L := fun a ha => LS.ap_l f (h a ha) al r
theorem al_f {H H' : Hp} {b p : Addr} {d : Nat} {L : List Addr} (f : Fr H H' p) (h : LS.ApL H b L) (ap : Apart H b p) (r : Reel H b d) : LS.ApL H' b L := fun a ha => LS.ap_f f (h a ha) ap r
/-! ## the law's own model -/
structure Md where
  (m bk ou dn : Addr)
structure Mdl (H : Hp) (M : Md) (s : Sim) (os : List Op) : Prop where
  m : H M.m = some (.lst [.ref M.bk, .ref M.ou, .ref M.dn])
  bk : H M.bk = some (.lst (s.books.map vo))
  ou : H M.ou = some (.lst (s.out.map V.int))
  ex : ∃ as, H M.dn = some (.lst (as.map V.ref)) ∧ OpsOk H as os
def Md.L (M : Md) : List Addr := [M.m, M.bk, M.ou, M.dn]
theorem Mdl.move {H H' : Hp} {M : Md} {s : Sim} {os : List Op} (l : Mdl H M s os) (k : KN H H') (h : ∀ a ∈ M.L, ∀ xs, H a = some (.lst xs) → H' a = some (.lst xs)) : Mdl H' M s os := by
  obtain ⟨as, h1, h2⟩ := l.ex
  exact ⟨h _ (by simp [Md.L]) _ l.m, h _ (by simp [Md.L]) _ l.bk, h _ (by simp [Md.L]) _ l.ou, ⟨as, h _ (by simp [Md.L]) _ h1, h2.kn k⟩⟩
theorem md_s {H H' : Hp} {M : Md} {s : Sim} {os : List Op} (e : Same H H') (l : Mdl H M s os) : Mdl H' M s os := l.move (kn_s e) fun a _ xs h => e _ _ h
theorem md_f {H H' : Hp} {M : Md} {s : Sim} {os : List Op} {p : Addr} {xs : List V} (f : Fr H H' p) (l : Mdl H M s os) (hp : H p = some (.lst xs)) (n : p ∉ M.L) : Mdl H' M s os :=
  l.move (kn_f f hp) fun a ha xs h => f _ _ h fun q => n (q ▸ ha)
theorem md_t {H H' : Hp} {M : Md} {s : Sim} {os : List Op} {b : Addr} {d d' : Nat} (t : LS.RT H H' b d) (l : Mdl H M s os) (r : Reel H b d') (al : LS.ApL H b M.L) : Mdl H' M s os :=
  l.move (kn_t t r) fun a ha xs h => t.f _ _ h (al a ha).1
theorem md_l {H H' : Hp} {M : Md} {s : Sim} {os : List Op} {L : List Addr} (f : LS.FrL H H' L) (l : Mdl H M s os) (hl : Lists H L) (n : ∀ a ∈ M.L, a ∉ L) : Mdl H' M s os :=
  l.move (kn_l f hl) fun a ha xs h => f.k _ _ h (n a ha)
theorem Mdl.trk {H : Hp} {M : Md} {s : Sim} {os : List Op} (l : Mdl H M s os) : LS.Trk H M.L := fun a ha => by
  obtain ⟨as, h1, _⟩ := l.ex
  simp [Md.L] at ha
  rcases ha with rfl | rfl | rfl | rfl
  · rw [l.m]; simp
  · rw [l.bk]; simp
  · rw [l.ou]; simp
  · rw [h1]; simp
/-- addresses that were free are no old ones -/
def NoL (H : Hp) (L : List Addr) : Prop := ∀ a ∈ L, H a = none
theorem ap_no {H H' : Hp} {L M : List Addr} (n : NoL H L) (t : LS.Trk H M) : ∀ a ∈ L, a ∉ M := fun a ha q => t a q (n a ha)
theorem ap_no' {H H' : Hp} {L M : List Addr} (n : NoL H M) (t : LS.Trk H L) : ∀ a ∈ L, a ∉ M := fun a ha q => t a ha (n a q)
theorem al_no {H : Hp} {b : Addr} {d : Nat} {L : List Addr} (n : NoL H L) (r : Reel H b d) : LS.ApL H b L := fun a ha => r.new (n a ha)
theorem no_sL {H H' : Hp} {L : List Addr} (s : Same H H') (n : NoL H' L) : NoL H L := fun a ha => s.free (n a ha)
/-! ## lists made by walks -/
def gapsTo (l : List (Option Int)) : Nat → List Int
  | 0 => []
  | i + 1 => gapsTo l i ++ (match l[i]? with | some none => [(i : Int)] | _ => [])
def gapsL (l : List (Option Int)) : List Int := gapsTo l l.length
def thereTo (l : List (Option Int)) : Nat → List Int
  | 0 => []
  | i + 1 => thereTo l i ++ (match l[i]? with | some (some _) => [(i : Int)] | _ => [])
def thereL (l : List (Option Int)) : List Int := thereTo l l.length
theorem gapsTo_len (l : List (Option Int)) : ∀ i, (gapsTo l i).length ≤ i
  | 0 => Nat.le_refl _
  | i + 1 => by
    have := gapsTo_len l i
    show (gapsTo l i ++ _).length ≤ i + 1
    rw [List.length_append]
    split <;> simp <;> omega
theorem gapsTo_lt {l : List (Option Int)} : ∀ {i : Nat} {x : Int}, x ∈ gapsTo l i → 0 ≤ x ∧ x < i
  | 0, x, h => by simp [gapsTo] at h
  | i + 1, x, h => by
    have h : x ∈ gapsTo l i ++ (match l[i]? with | some none => [(i : Int)] | _ => []) := h
    rcases List.mem_append.mp h with h | h
    · have := gapsTo_lt h; omega
    · split at h
      · have : x = (i : Int) := List.mem_singleton.mp h
        omega
      · cases h
theorem thereTo_mem {l : List (Option Int)} : ∀ {i : Nat} {x : Int}, x ∈ thereTo l i → 0 ≤ x ∧ ∃ b, l[x.toNat]? = some (some b)
  | 0, x, h => by simp [thereTo] at h
  | i + 1, x, h => by
    have h : x ∈ thereTo l i ++ (match l[i]? with | some (some _) => [(i : Int)] | _ => []) := h
    rcases List.mem_append.mp h with h | h
    · exact thereTo_mem h
    · cases q : l[i]? with
      | none => rw [q] at h; cases h
      | some o =>
        cases o with
        | none => rw [q] at h; cases h
        | some b =>
          rw [q] at h
          have : x = (i : Int) := List.mem_singleton.mp h
          subst this
          exact ⟨by omega, b, q⟩
theorem thereTo_len (l : List (Option Int)) : ∀ i, (thereTo l i).length ≤ i
  | 0 => Nat.le_refl _
  | i + 1 => by
    have := thereTo_len l i
    show (thereTo l i ++ _).length ≤ i + 1
    rw [List.length_append]
    split <;> simp <;> omega
/-- a shelf with no book has all of them out -/
theorem thereTo_nil {l : List (Option Int)} : ∀ {i : Nat}, thereTo l i = [] → ∀ j, j < i → ∀ b, l[j]? ≠ some (some b)
  | 0, _, j, hj, _ => by omega
  | i + 1, h, j, hj, b => by
    have h : thereTo l i ++ (match l[i]? with | some (some _) => [(i : Int)] | _ => []) = [] := h
    obtain ⟨h1, h2⟩ := List.append_eq_nil_iff.mp h
    by_cases e : j = i
    · subst e
      intro q
      rw [q] at h2
      cases h2
    · exact thereTo_nil h1 j (by omega) b
def due (s : Sim) (o : Op) : Int := if o.1 = true then (match s.books[o.2.toNat]? with | some (some b) => b | _ => 0) else (gap s.books : Int)
section
variable (K : PySem.W.Frag) (C D : Addr)
def sp_is_whole : Sp := fun vs H Q _ => ∃ n : Int, vs = [.int n] ∧ Q (.bl true) H
def sp_is_number : Sp := fun vs H Q _ => ∃ n c : Int, vs = [.int n, .int c] ∧ 0 ≤ n ∧ n < c ∧ Q (.bl true) H
def sp_check_size : Sp := fun vs H Q _ => ∃ n : Int, vs = [.int n] ∧ 1 ≤ n ∧ n ≤ 200 ∧ Q .non H
def sp_Shelf_init : Sp := fun vs H Q _ => ∃ (p dx : Addr) (n : Nat), vs = [.ref p, .int n] ∧ n ≤ 200 ∧ H p = some (.ins D dx []) ∧ ∀ (H' : Hp) (bl ol : Addr), Fr H H' p → Shf D H' p dx bl ol (simInit n) → H bl = none → H ol = none → Q .non H'
def sp_Shelf_can_take : Sp := fun vs H Q _ => ∃ (sh dx bl ol : Addr) (s : Sim) (p : Int), vs = [.ref sh, .int p] ∧ Shf D H sh dx bl ol s ∧ Q (.bl (stp s (true, p)).isSome) H
def sp_Shelf_can_return : Sp := fun vs H Q _ => ∃ (sh dx bl ol : Addr) (s : Sim) (p : Int), vs = [.ref sh, .int p] ∧ Shf D H sh dx bl ol s ∧ Q (.bl (stp s (false, p)).isSome) H
def sp_Shelf_first_gap : Sp := fun vs H Q _ => ∃ (sh dx bl ol : Addr) (s : Sim), vs = [.ref sh] ∧ Shf D H sh dx bl ol s ∧ none ∈ s.books ∧ Q (.int (gap s.books : Nat)) H
def sp_Shelf_take_from : Sp := fun vs H Q _ => ∃ (sh dx bl ol : Addr) (s u : Sim) (p : Int), vs = [.ref sh, .int p] ∧ Shf D H sh dx bl ol s ∧ stp s (true, p) = some u ∧ s.books.length ≤ 200 ∧ s.out.length ≤ 200 ∧
  ∀ H' : Hp, LS.FrL H H' [bl, ol] → Shf D H' sh dx bl ol u → Q (.int (due s (true, p))) H'
def sp_Shelf_put_back : Sp := fun vs H Q _ => ∃ (sh dx bl ol : Addr) (s u : Sim) (p : Int), vs = [.ref sh, .int p] ∧ Shf D H sh dx bl ol s ∧ stp s (false, p) = some u ∧ none ∈ s.books ∧ s.books.length ≤ 200 ∧
  ∀ H' : Hp, LS.FrL H H' [bl, ol] → Shf D H' sh dx bl ol u → Q (.int (due s (false, p))) H'
def sp_LiveShelf_init : Sp := fun vs H Q _ => ∃ (p dx : Addr) (n : Nat), vs = [.ref p, .int n] ∧ 1 ≤ n ∧ n ≤ 200 ∧ H p = some (.ins C dx []) ∧ ∀ (H' : Hp) (A : Ad), A.lx = p → Fr H H' p → Lv C D H' A (simInit n) [] → NoL H A.L → H A.sh = none → Q .non H'
def sp_LiveShelf_len : Sp := fun vs H Q _ => ∃ (A : Ad) (s : Sim) (ss : List Stp), vs = [.ref A.lx] ∧ Lv C D H A s ss ∧ Q (.int ss.length) H
def sp_LiveShelf_is_complete : Sp := fun vs H Q _ => ∃ (A : Ad) (s : Sim) (ss : List Stp), vs = [.ref A.lx] ∧ Lv C D H A s ss ∧ Q (.bl (decide (s.out = []))) H
def sp_LiveShelf_take_book : Sp := fun vs H Q _ => ∃ (A : Ad) (s u : Sim) (ss : List Stp) (p : Int) (n : Nat), vs = [.ref A.lx, .int p] ∧ Lv C D H A s ss ∧ Good n s ∧ n ≤ 200 ∧ stp s (true, p) = some u ∧ ss.length ≤ 1000 ∧
  ∀ H' : Hp, LS.FrL H H' A.L → Lv C D H' A u (ss ++ [⟨(true, p), p, s.out.length⟩]) → Q (.int (due s (true, p))) H'
def sp_LiveShelf_return_book : Sp := fun vs H Q _ => ∃ (A : Ad) (s u : Sim) (ss : List Stp) (p : Int) (n : Nat), vs = [.ref A.lx, .int p] ∧ Lv C D H A s ss ∧ Good n s ∧ n ≤ 200 ∧ stp s (false, p) = some u ∧ ss.length ≤ 1000 ∧
  ∀ H' : Hp, LS.FrL H H' A.L → Lv C D H' A u (ss ++ [⟨(false, p), gap s.books, s.out.idxOf p⟩]) → Q (.int (due s (false, p))) H'
def sp_LiveShelf_current_books : Sp := fun vs H Q _ => ∃ (A : Ad) (s : Sim) (ss : List Stp), vs = [.ref A.lx] ∧ Lv C D H A s ss ∧ ∀ (p : Addr) (H' : Hp), H p = none → Same H H' → H' p = some (.lst (s.books.map vo)) → Q (.ref p) H'
def sp_LiveShelf_current_gaps : Sp := fun vs H Q _ => ∃ (A : Ad) (s : Sim) (ss : List Stp), vs = [.ref A.lx] ∧ Lv C D H A s ss ∧ s.books.length ≤ 200 ∧ ∀ (p : Addr) (H' : Hp), H p = none → Same H H' → H' p = some (.lst ((gapsL s.books).map V.int)) → Q (.ref p) H'
def sp_LiveShelf_current_out : Sp := fun vs H Q _ => ∃ (A : Ad) (s : Sim) (ss : List Stp), vs = [.ref A.lx] ∧ Lv C D H A s ss ∧ ∀ (p : Addr) (H' : Hp), H p = none → Same H H' → H' p = some (.lst (s.out.map V.int)) → Q (.ref p) H'
def sp_LiveShelf_current_schedule : Sp := fun vs H Q _ => ∃ (A : Ad) (s : Sim) (ss : List Stp), vs = [.ref A.lx] ∧ Lv C D H A s ss ∧ ss.length ≤ 1000 ∧ ∀ (p : Addr) (H' : Hp) (as : List Addr), H p = none → Same H H' → H' p = some (.lst (as.map V.ref)) → OpsOk H' as (ss.map (·.op)) → Q (.ref p) H'
def sp_LiveShelf_place_of : Sp := fun vs H Q _ => ∃ (A : Ad) (s : Sim) (ss : List Stp) (x : Int) (n : Nat), vs = [.ref A.lx, .int x] ∧ Lv C D H A s ss ∧ Good n s ∧ 0 ≤ x ∧ x < n ∧ Q (if some x ∈ s.books then .int (s.books.idxOf (some x) : Nat) else .non) H
/-! ## of the laws -/
def sp__law_moved : Sp := fun vs H Q _ => ∃ (M : Md) (s u : Sim) (os : List Op) (n : Nat) (o : Op), vs = [.ref M.m, .str (kst o.1), .int o.2] ∧ Mdl H M s os ∧ Good n s ∧ n ≤ 200 ∧ stp s o = some u ∧ os.length ≤ 1000 ∧
  ∀ (H' : Hp) (t : Addr) (M' : Md), Same H H' → H t = none → NoL H M'.L → Mdl H' M' u (os ++ [o]) → H' t = some (.tup [.ref M'.m, .int (due s o)]) → Q (.ref t) H'
def sp__law_next : Sp := fun vs H Q _ => ∃ (b : Addr) (d : Nat) (M : Md) (s : Sim) (os : List Op) (n : Nat), vs = [.ref b, .ref M.m] ∧ Reel H b d ∧ d < 900000 ∧ Mdl H M s os ∧ LS.ApL H b M.L ∧ Good n s ∧ 1 ≤ n ∧ n ≤ 200 ∧
  ∀ (H' : Hp) (t : Addr) (o : Op) (u : Sim), LS.RT H H' b (d + 2) → H t = none → H' t = some (.tup (opv o)) → stp s o = some u → Q (.ref t) H'
def sp__law_shows : Sp := fun vs H Q _ => ∃ (A : Ad) (M : Md) (s : Sim) (ss : List Stp) (n : Nat), vs = [.ref A.lx, .ref M.m] ∧ Lv C D H A s ss ∧ Mdl H M s (ss.map (·.op)) ∧ Good n s ∧ n ≤ 200 ∧ ss.length ≤ 400 ∧ (∀ t ∈ ss, 0 ≤ t.op.2 ∧ t.op.2 < 200) ∧ ∀ H' : Hp, Same H H' → Q (.bl true) H'
def sp__law_changed : Sp := fun vs H Q _ => ∃ (A : Ad) (s : Sim) (ss : List Stp) (n : Nat), vs = [.ref A.lx] ∧ Lv C D H A s ss ∧ Good n s ∧ n ≤ 200 ∧ ss.length ≤ 1000 ∧ ∀ H' : Hp, Same H H' → Q .non H'
def sp_law : Sp := fun vs H Q _ => ∃ (a : Addr) (ns : List Int), vs = [.ref a] ∧ SqL K H a (ns.map V.int) ∧ ns.length ≤ 63 ∧ ∀ H', Q (.bl true) H'
end
/-! ## data -/
def dO : Option Int → PyData
  | some i => .int i
  | none => .none
def dB (l : List (Option Int)) : PyData := .list (l.map dO)
def dOp (o : Op) : PyData := .tuple [.str (kst o.1), .int o.2]
def dDone (os : List Op) : PyData := .list (os.map dOp)
section
variable {K : PySem.W.Frag} {H : Hp}
theorem dpA_vo : ∀ l : List (Option Int), DpAll K H (l.map vo) (l.map dO)
  | [] => .nil
  | none :: r => .cons .non (dpA_vo r)
  | some i :: r => .cons (.int i) (dpA_vo r)
theorem dp_b {p : Addr} {l : List (Option Int)} (h : SqL K H p (l.map vo)) : Dp K H (.ref p) (dB l) := .lst h (dpA_vo _)
theorem dp_op {a : Addr} {o : Op} (h : H a = some (.tup (opv o))) : Dp K H (.ref a) (dOp o) := .tup (SqT.of h) (.cons (.str _) (.cons (.int _) .nil))
theorem dp_done {p : Addr} {as : List Addr} {os : List Op} (h : SqL K H p (as.map V.ref)) (ho : OpsOk H as os) : Dp K H (.ref p) (dDone os) := by
  refine .lst h (LG.dpAll_of (by rw [List.length_map, List.length_map, ho.1]) fun i v d hv hd => ?_)
  rw [List.getElem?_map] at hv hd
  cases q : as[i]? with
  | none => rw [q] at hv; cases hv
  | some a =>
    cases r : os[i]? with
    | none => rw [r] at hd; cases hd
    | some o =>
      rw [q] at hv; rw [r] at hd
      cases hv; cases hd
      exact dp_op (ho.2 i a o q r)
theorem sm_kst (b : Bool) : LG.Sm (.str (kst b)) 0 6 := by
  cases b
  · exact ⟨rfl, by decide +kernel, by decide +kernel, Nat.le_refl _, by decide +kernel⟩
  · exact ⟨rfl, by decide +kernel, by decide +kernel, Nat.le_refl _, by decide +kernel⟩
theorem sm_op {o : Op} (h : o.2.natAbs < 1024) : LG.Sm (dOp o) 1 22 := by
  have := LG.Sm.tup (k := 0) (w := 10) (l := [.str (kst o.1), .int o.2]) (fun d hd => by
    rcases List.mem_cons.mp hd with rfl | hd
    · exact (sm_kst _).mono (Nat.le_refl _) (by decide)
    · rw [List.mem_singleton.mp hd]; exact LS.sm_small h)
  exact this
theorem sm_done {os : List Op} (h : ∀ o ∈ os, o.2.natAbs < 1024) : LG.Sm (dDone os) 2 (23 * os.length) := by
  have := LG.Sm.list (k := 1) (w := 22) (l := os.map dOp) (fun d hd => by obtain ⟨o, ho, rfl⟩ := List.mem_map.mp hd; exact sm_op (h o ho))
  rw [List.length_map] at this
  exact this
theorem sm_b {l : List (Option Int)} (h : ∀ x, some x ∈ l → x.natAbs < 1024) : LG.Sm (dB l) 1 (11 * l.length) := by
  have := LG.Sm.list (k := 0) (w := 10) (l := l.map dO) (fun d hd => by
    obtain ⟨o, ho, rfl⟩ := List.mem_map.mp hd
    cases o with
    | none => exact LG.Sm.non.mono (Nat.le_refl _) (by decide)
    | some x => exact LS.sm_small (h x ho))
  rw [List.length_map] at this
  exact this
end
theorem flat_vo' (l : List (Option Int)) : (l.map vo).all flatV = true := by
  rw [List.all_eq_true]; intro v hv; obtain ⟨i, _, rfl⟩ := List.mem_map.mp hv; cases i <;> rfl
theorem in_vo {x : Int} {l : List (Option Int)} : inV (.int x) (l.map vo) = decide (some x ∈ l) := by
  induction l with
  | nil => rfl
  | cons a r ih =>
    show (eqV (vo a) (.int x) || inV (.int x) (r.map vo)) = _
    rw [ih]
    cases a with
    | none =>
      show (false || decide (some x ∈ r)) = _
      simp
    | some b =>
      show ((b == x) || decide (some x ∈ r)) = _
      by_cases e : b = x
      · subst e; simp
      · have h2 : ¬ x = b := fun q => e q.symm
        simp [e, h2]
theorem rin_vo {K : PySem.W.Frag} {H : Hp} {Q : VK} {x : Int} {p : Addr} {l : List (Option Int)} (h : SqL K H p (l.map vo)) (q : Q (.bl (decide (some x ∈ l))) H) : rIn K false (.int x) (.ref p) H Q := LS.rin_l h rfl (flat_vo' _) (by rw [in_vo]; exact q)
theorem eqv_b (l : List (Option Int)) : PyData.eqv (dB l) (dB l) = true := by
  have : ∀ l : List (Option Int), PyData.eqvAll (l.map dO) (l.map dO) = true := fun l => by
    induction l with
    | nil => simp [PyData.eqvAll]
    | cons a r ih =>
      simp only [List.map_cons, PyData.eqvAll, ih]
      cases a <;> simp [dO, PyData.eqv]
  simp only [dB, PyData.eqv]
  exact this l
theorem sh_b (l : List (Option Int)) : SeqAt.shaped (dB l) = true := by
  have h1 : ∀ l : List (Option Int), PyData.canLayAll0 (l.map dO) = true := fun l => by
    induction l with
    | nil => rfl
    | cons i r ih => cases i <;> simp [PyData.canLayAll0, PyData.canLay0, dO, ih]
  have h2 : ∀ l : List (Option Int), PyData.depthAll (l.map dO) = 0 := fun l => by
    induction l with
    | nil => rfl
    | cons i r ih => cases i <;> simp [PyData.depthAll, PyData.depth, dO, ih]
  simp [SeqAt.shaped, dB, PyData.canLay0, PyData.depth, h1, h2]
def plO (s : Sim) (x : Int) : Option Int := if some x ∈ s.books then some (s.books.idxOf (some x) : Nat) else none
theorem plV (s : Sim) (x : Int) : (if some x ∈ s.books then V.int (s.books.idxOf (some x) : Nat) else .non) = vo (plO s x) := by
  unfold plO; split <;> rfl
theorem due_range {n : Nat} {s u : Sim} {o : Op} (g : Good n s) (h : stp s o = some u) : 0 ≤ due s o ∧ due s o < n := by
  obtain ⟨k, p⟩ := o
  cases k with
  | true =>
    obtain ⟨h0, b, hx, _⟩ := stp_take h
    have e : due s (true, p) = b := by unfold due; rw [if_pos rfl, hx]
    rw [e]
    exact mem_rangeI.mp (g.perm.subset (List.mem_append_left _ (List.mem_filterMap.mpr ⟨some b, List.mem_of_getElem? hx, rfl⟩)))
  | false =>
    obtain ⟨hb, _⟩ := stp_ret h
    have hg := gap_lt (g.gap hb)
    have e : due s (false, p) = (gap s.books : Nat) := by unfold due; rw [if_neg (by simp)]
    have := g.len
    rw [e]; omega
theorem num_range {n : Nat} {s u : Sim} {o : Op} (g : Good n s) (h : stp s o = some u) : 0 ≤ o.2 ∧ o.2 < n := by
  obtain ⟨k, p⟩ := o
  cases k with
  | true =>
    obtain ⟨h0, b, hx, _⟩ := stp_take h
    have := (List.getElem?_eq_some_iff.mp hx).1
    have := g.len
    exact ⟨h0, by show p < n; omega⟩
  | false =>
    obtain ⟨hb, _⟩ := stp_ret h
    exact mem_rangeI.mp (g.perm.subset (List.mem_append_right _ hb))
end LP

/-! operations reverted, and shelves made again -/
namespace LP
open PySem L2 LT LG LX LR
def rIns : V → List V → Hp → VK → Prop := fun x vs H Q => ∃ (l : Addr) (xs : List V) (i : Int) (y : V), x = .ref l ∧ vs = [.int i, y] ∧ H l = some (.lst xs) ∧ xs.length < sizeLine ∧ 0 ≤ i ∧ i < 2 ^ 63 ∧ Q .non (upd H l (.lst (xs.take i.toNat ++ [y] ++ xs.drop i.toNat)))
theorem mt_ins {X : Cx} : MtR X "list.insert" rIns := mt_insert
theorem rins {H : Hp} {Q : VK} {p : Addr} {xs : List V} {i : Int} {y : V} (h : H p = some (.lst xs)) (hz : xs.length < sizeLine) (h0 : 0 ≤ i) (h1 : i < 2 ^ 63) (q : ∀ H' : Hp, Fr H H' p → H' p = some (.lst (xs.take i.toNat ++ [y] ++ xs.drop i.toNat)) → Q .non H') : rIns (.ref p) [.int i, y] H Q :=
  ⟨p, xs, i, y, rfl, rfl, h, hz, h0, h1, q _ LS.Fr.upd upd_same⟩
def stOf (s : Sim) (o : Op) : Stp := ⟨o, if o.1 = true then o.2 else (gap s.books : Nat), if o.1 = true then s.out.length else s.out.idxOf o.2⟩
inductive Pst (n : Nat) : List Stp → Sim → Prop
  | nil : Pst n [] (simInit n)
  | snoc {ss s o u} : Pst n ss s → stp s o = some u → Pst n (ss ++ [stOf s o]) u
theorem Pst.good {n : Nat} {ss : List Stp} {s : Sim} (h : Pst n ss s) : Good n s := by
  induction h with
  | nil => exact good_init n
  | snoc _ h ih => exact good_stp ih h
theorem Pst.run {n : Nat} {ss : List Stp} {s : Sim} (h : Pst n ss s) : LR.run (simInit n) (ss.map (·.op)) = some s := by
  induction h with
  | nil => rfl
  | snoc _ h ih => rw [List.map_append]; exact run_snoc ih h
theorem Pst.eq {n : Nat} {ss : List Stp} {s t : Sim} (h : Pst n ss s) (k : Pst n ss t) : s = t := by
  have := h.run.symm.trans k.run
  exact Option.some.inj this
theorem Pst.last {n : Nat} {ss : List Stp} {t : Stp} {u : Sim} (h : Pst n (ss ++ [t]) u) : ∃ s o, Pst n ss s ∧ stp s o = some u ∧ t = stOf s o := by
  generalize e : ss ++ [t] = r at h
  cases h with
  | nil => exact absurd (congrArg List.length e) (by simp)
  | @snoc ss' s o _ h1 h2 =>
    obtain ⟨e1, e2⟩ := List.append_inj' e rfl
    cases e1; cases e2
    exact ⟨s, o, h1, h2, rfl⟩
theorem Pst.at {n : Nat} {ss : List Stp} {s : Sim} (h : Pst n ss s) : ∀ {i : Nat}, i < ss.length → ∃ t u o, Pst n (ss.take i) t ∧ stp t o = some u ∧ ss[i]? = some (stOf t o) ∧ ss.take (i + 1) = ss.take i ++ [stOf t o] := by
  induction h with
  | nil => intro i hi; simp at hi
  | @snoc ss s o u h1 h2 ih =>
    intro i hi
    rw [List.length_append] at hi
    simp only [List.length_singleton] at hi
    by_cases e : i = ss.length
    · subst e
      refine ⟨s, u, o, ?_, h2, ?_, ?_⟩
      · rw [List.take_left]; exact h1
      · rw [List.getElem?_append_right (Nat.le_refl _), Nat.sub_self]; rfl
      · rw [List.take_left, List.take_of_length_le (by simp)]
    · have hi : i < ss.length := by omega
      obtain ⟨t, u', o', a, b, c, d⟩ := ih hi
      refine ⟨t, u', o', ?_, b, ?_, ?_⟩
      · rw [List.take_append_of_le_length (by omega)]; exact a
      · rw [List.getElem?_append_left hi]; exact c
      · rw [List.take_append_of_le_length (by omega), List.take_append_of_le_length (by omega)]; exact d
theorem Pst.full {n : Nat} {ss : List Stp} {s t : Sim} (h : Pst n ss s) (k : Pst n (ss.take ss.length) t) : t = s := by
  rw [List.take_length] at k; exact k.eq h
/-! ## back -/
theorem set_back {α : Type _} {l : List α} {p : Nat} {x y : α} (h : l[p]? = some x) : (l.set p y).set p x = l := by
  rw [List.set_set]
  obtain ⟨hl, rfl⟩ := List.getElem?_eq_some_iff.mp h
  exact List.set_getElem_self hl
theorem und_take {s u : Sim} {p : Int} (h : stp s (true, p) = some u) : 0 ≤ p ∧ p.toNat < u.books.length ∧ ∃ b, u.out = s.out ++ [b] ∧ u.books.set p.toNat (some b) = s.books := by
  obtain ⟨h0, b, hb, rfl⟩ := stp_take h
  refine ⟨h0, ?_, b, rfl, set_back hb⟩
  show p.toNat < (s.books.set _ _).length
  rw [List.length_set]
  exact (List.getElem?_eq_some_iff.mp hb).1
theorem ins_back {l : List Int} {b : Int} (h : b ∈ l) : (l.erase b).take (l.idxOf b) ++ [b] ++ (l.erase b).drop (l.idxOf b) = l := by
  have hk : l.idxOf b < l.length := List.idxOf_lt_length_iff.mpr h
  have hg : l[l.idxOf b]? = some b := idx_get h
  rw [List.erase_eq_eraseIdx_of_idxOf rfl, List.eraseIdx_eq_take_drop_succ]
  have e1 : (l.take (l.idxOf b)).length = l.idxOf b := by rw [List.length_take]; omega
  rw [List.take_left' e1, List.drop_left' e1]
  obtain ⟨_, e2⟩ := List.getElem?_eq_some_iff.mp hg
  have e3 : l.drop (l.idxOf b) = b :: l.drop (l.idxOf b + 1) := by rw [List.drop_eq_getElem_cons hk, e2]
  rw [List.append_assoc, show [b] ++ l.drop (l.idxOf b + 1) = l.drop (l.idxOf b) from e3.symm, List.take_append_drop]
theorem und_ret {s u : Sim} {b : Int} (hg : none ∈ s.books) (h : stp s (false, b) = some u) : u.books[gap s.books]? = some (some b) ∧ u.books.set (gap s.books) none = s.books ∧ u.out.take (s.out.idxOf b) ++ [b] ++ u.out.drop (s.out.idxOf b) = s.out ∧ s.out.idxOf b ≤ u.out.length ∧ u.out.length < s.out.length := by
  obtain ⟨hb, rfl⟩ := stp_ret h
  have hk : s.out.idxOf b < s.out.length := List.idxOf_lt_length_iff.mpr hb
  have hl : (s.out.erase b).length = s.out.length - 1 := List.length_erase_of_mem hb
  refine ⟨?_, set_back (gap_get hg), ins_back hb, ?_, ?_⟩
  · show (s.books.set (gap s.books) (some b))[gap s.books]? = _
    rw [List.getElem?_set_self (gap_lt hg)]
  · show _ ≤ (s.out.erase b).length
    omega
  · show (s.out.erase b).length < _
    omega
theorem StepsOk.last {H : Hp} {as : List Addr} {ss : List Stp} {t : Stp} (h : StepsOk H as (ss ++ [t])) : ∃ as' a q, as = as' ++ [a] ∧ StepsOk H as' ss ∧ H a = some (.tup [.ref q, .int t.place, .int t.num]) ∧ H q = some (.tup (opv t.op)) := by
  obtain ⟨hl, hk⟩ := h
  rw [List.length_append, List.length_singleton] at hl
  rcases List.eq_nil_or_concat as with rfl | ⟨as', a, rfl⟩
  · simp at hl
  · rw [List.concat_eq_append] at hl hk ⊢
    rw [List.length_append, List.length_singleton] at hl
    have hl : as'.length = ss.length := by omega
    obtain ⟨q, h1, h2⟩ := hk as'.length a t (by rw [List.getElem?_append_right (Nat.le_refl _), Nat.sub_self]; rfl) (by rw [List.getElem?_append_right (by omega), hl, Nat.sub_self]; rfl)
    refine ⟨as', a, q, rfl, ⟨hl, fun i x y hx hy => ?_⟩, h1, h2⟩
    have hx' := (List.getElem?_eq_some_iff.mp hx).1
    exact hk i x y (by rw [List.getElem?_append_left hx']; exact hx) (by rw [List.getElem?_append_left (by omega)]; exact hy)
theorem same_frl {H H3 H4 : Hp} {L : List Addr} (s : Same H H3) (f : LS.FrL H3 H4 L) (n : NoL H L) : Same H H4 := fun a o h => f.k a o (s a o h) fun q => by rw [n a q] at h; cases h
theorem same_fr {H H3 H4 : Hp} {p : Addr} (s : Same H H3) (f : Fr H3 H4 p) (n : H p = none) : Same H H4 := fun a o h => f a o (s a o h) fun q => by rw [q, n] at h; cases h
section
variable (K : PySem.W.Frag) (C D : Addr)
def sp_Shelf_revert_take : Sp := fun vs H Q _ => ∃ (sh dx bl ol : Addr) (s u : Sim) (p : Int), vs = [.ref sh, .int p] ∧ Shf D H sh dx bl ol u ∧ stp s (true, p) = some u ∧
  ∀ H' : Hp, LS.FrL H H' [bl, ol] → Shf D H' sh dx bl ol s → Q .non H'
def sp_Shelf_revert_return : Sp := fun vs H Q _ => ∃ (sh dx bl ol : Addr) (s u : Sim) (p : Int), vs = [.ref sh, .int (gap s.books : Nat), .int (s.out.idxOf p : Nat)] ∧ Shf D H sh dx bl ol u ∧ stp s (false, p) = some u ∧ none ∈ s.books ∧ s.out.length ≤ 200 ∧
  ∀ H' : Hp, LS.FrL H H' [bl, ol] → Shf D H' sh dx bl ol s → Q .non H'
def sp_LiveShelf_undo : Sp := fun vs H Q _ => ∃ (A : Ad) (s u : Sim) (ss : List Stp) (o : Op) (n : Nat), vs = [.ref A.lx] ∧ Lv C D H A u (ss ++ [stOf s o]) ∧ Good n s ∧ n ≤ 200 ∧ stp s o = some u ∧
  ∀ H' : Hp, LS.FrL H H' A.L → Lv C D H' A s ss → Q .non H'
def sp_perform_all : Sp := fun vs H Q _ => ∃ (A : Ad) (p : Addr) (as : List Addr) (s : Sim) (ss : List Stp) (n : Nat), vs = [.ref A.lx, .ref p] ∧ Lv C D H A (simInit n) [] ∧ H p = some (.lst (as.map V.ref)) ∧ p ∉ A.L ∧ OpsOk H as (ss.map (·.op)) ∧ Pst n ss s ∧ n ≤ 200 ∧ ss.length ≤ 1000 ∧
  ∀ H' : Hp, LS.FrL H H' A.L → Lv C D H' A s ss → Q .non H'
def sp_LiveShelf_duplicate : Sp := fun vs H Q _ => ∃ (A : Ad) (s : Sim) (ss : List Stp) (n : Nat), vs = [.ref A.lx] ∧ Lv C D H A s ss ∧ Pst n ss s ∧ 1 ≤ n ∧ n ≤ 200 ∧ ss.length ≤ 1000 ∧
  ∀ (H' : Hp) (A' : Ad), Same H H' → Lv C D H' A' s ss → NoL H A'.L → H A'.lx = none → Q (.ref A'.lx) H'
end
end LP

/-! live shelves beside the models that they had: one moves, the other stays -/
namespace LP
open PySem L2 LT LG LX LR
structure MvF (H H' : Hp) (b : Addr) (L : List Addr) (d : Nat) : Prop where
  r : Reel H' b d
  k : ∀ a o, H a = some o → a ≠ b → a ∉ L → H' a = some o
  a : ∀ a, Apart H b a → H a ≠ none → Apart H' b a
  t : ∀ a, H a ≠ none → H' a ≠ none
theorem some_of {H : Hp} {a : Addr} (h : H a ≠ none) : ∃ o, H a = some o := by
  cases e : H a with
  | none => exact absurd e h
  | some o => exact ⟨o, rfl⟩
theorem mv_s {H H' : Hp} {b : Addr} {L : List Addr} {d : Nat} (s : Same H H') (r : Reel H b d) : MvF H H' b L d := ⟨r.same s, fun a o h _ _ => s a o h, fun a h _ => LS.ap_s s h r, fun a h => by
  obtain ⟨o, e⟩ := some_of h
  rw [s a o e]; simp⟩
theorem mv_t {H H' : Hp} {b : Addr} {L : List Addr} {d : Nat} (t : LS.RT H H' b d) : MvF H H' b L d := ⟨t.r, fun a o h n _ => t.f a o h n, t.a, fun a h => by
  obtain ⟨o, e⟩ := some_of h
  by_cases q : a = b
  · subst q
    obtain ⟨o, h⟩ := t.r.nb
    rw [h]; simp
  · rw [t.f a o e q]; simp⟩
theorem mv_l {H H' : Hp} {b : Addr} {L M : List Addr} {d : Nat} (f : LS.FrL H H' M) (hs : ∀ a ∈ M, a ∈ L) (al : LS.ApL H b M) (r : Reel H b d) : MvF H H' b L d := ⟨LS.rl_l f r al, fun a o h _ n => f.k a o h (fun q => n (hs a q)), fun a h _ => LS.ap_l f h al r, fun a h => by
  by_cases q : a ∈ M
  · exact f.l a q
  · obtain ⟨o, e⟩ := some_of h
    rw [f.k a o e q]; simp⟩
theorem mv_f {H H' : Hp} {b p : Addr} {L : List Addr} {d : Nat} {o : HO} (f : Fr H H' p) (hs : p ∈ L) (ap : Apart H b p) (h' : H' p = some o) (r : Reel H b d) : MvF H H' b L d := ⟨LS.rl_f f r ap, fun a o h _ n => f a o h (fun q => n (q ▸ hs)), fun a h _ => LS.ap_f f h ap r, fun a h => by
  by_cases q : a = p
  · rw [q, h']; simp
  · obtain ⟨o, e⟩ := some_of h
    rw [f a o e q]; simp⟩
theorem MvF.trans {H H1 H2 : Hp} {b : Addr} {L : List Addr} {d d' : Nat} (h : MvF H H1 b L d) (k : MvF H1 H2 b L d') : MvF H H2 b L d' := ⟨k.r, fun a o e n m => k.k a o (h.k a o e n m) n m, fun a e n => k.a a (h.a a e n) (h.t a n), fun a n => k.t a (h.t a n)⟩
theorem MvF.sub {H H' : Hp} {b : Addr} {L M : List Addr} {d : Nat} (h : MvF H H' b L d) (s : ∀ a ∈ L, a ∈ M) : MvF H H' b M d := ⟨h.r, fun a o e n m => h.k a o e n fun q => m (s a q), h.a, h.t⟩
theorem MvF.up {H H' : Hp} {b : Addr} {L : List Addr} {d d' : Nat} (h : MvF H H' b L d) (s : d ≤ d') : MvF H H' b L d' := ⟨h.r.mono s, h.k, h.a, h.t⟩
theorem kn_m {H H' : Hp} {b : Addr} {L : List Addr} {d d' : Nat} (f : MvF H H' b L d) (r : Reel H b d') (h : Lists H L) : KN H H' := fun a o e n => f.k a o e (fun q => by
    subst q
    obtain ⟨g, c, gs, cs, k, t, a1, _⟩ := r.ex
    rw [a1] at e; cases e; exact n _ rfl) fun q => by
    obtain ⟨xs, hx⟩ := h a q
    rw [hx] at e; cases e; exact n _ rfl
/-- a live shelf at A, and the list at pa of the models that it had; F is kept for another -/
structure Par (C D : Addr) (H : Hp) (b : Addr) (F : List Addr) (A : Ad) (pa : Addr) (Ms : List Md) (n : Nat) (s : Sim) (ss : List Stp) : Prop where
  lv : Lv C D H A s ss
  ps : Pst n ss s
  ls : H pa = some (.lst (Ms.map fun M => V.ref M.m))
  len : Ms.length = ss.length + 1
  md : ∀ (i : Nat) M, Ms[i]? = some M → ∃ t, Pst n (ss.take i) t ∧ Mdl H M t ((ss.take i).map (·.op))
  apm : ∀ M ∈ Ms, LS.ApL H b M.L ∧ (∀ x ∈ M.L, x ∉ pa :: A.L) ∧ ∀ x ∈ M.L, x ∉ F
  ap : LS.ApL H b (pa :: A.L)
  np : pa ∉ A.L
  df : ∀ x ∈ pa :: A.L, x ∉ F
section
variable {C D : Addr} {H H' : Hp} {b : Addr} {F : List Addr} {A : Ad} {pa : Addr} {Ms : List Md} {n : Nat} {s : Sim} {ss : List Stp}
theorem Par.lists (p : Par C D H b F A pa Ms n s ss) : Lists H (pa :: A.L) := li_cons p.ls p.lv.lists
theorem Par.trk (p : Par C D H b F A pa Ms n s ss) : LS.Trk H (pa :: A.L) := fun a ha => by
  obtain ⟨xs, h⟩ := p.lists a ha
  rw [h]; simp
theorem Par.mdt (p : Par C D H b F A pa Ms n s ss) {M : Md} (h : M ∈ Ms) : LS.Trk H M.L := by
  obtain ⟨i, hi⟩ := List.getElem?_of_mem h
  obtain ⟨t, _, m⟩ := p.md i M hi
  exact m.trk
theorem Par.mv {d d' : Nat} (p : Par C D H b F A pa Ms n s ss) (f : MvF H H' b F d) (r : Reel H b d') (h : Lists H F) : Par C D H' b F A pa Ms n s ss := by
  have kn := kn_m f r h
  have kp : ∀ a ∈ pa :: A.L, ∀ xs, H a = some (.lst xs) → H' a = some (.lst xs) := fun a ha xs e => f.k a _ e (p.ap a ha).1 (p.df a ha)
  exact ⟨p.lv.move kn fun a ha => kp a (List.mem_cons_of_mem _ ha), p.ps, kp pa (List.mem_cons_self ..) _ p.ls, p.len, fun i M hM => by
      obtain ⟨t, h1, h2⟩ := p.md i M hM
      have hm := p.apm M (List.mem_of_getElem? hM)
      exact ⟨t, h1, h2.move kn fun a ha xs e => f.k a _ e (hm.1 a ha).1 (hm.2.2 a ha)⟩,
    fun M hM => ⟨fun a ha => f.a a ((p.apm M hM).1 a ha) (p.mdt hM a ha), (p.apm M hM).2⟩,
    fun a ha => f.a a (p.ap a ha) (p.trk a ha), p.np, p.df⟩
/-- the models, when only the shelf and its list move -/
theorem Par.mds {d d' : Nat} (p : Par C D H b F A pa Ms n s ss) (f : MvF H H' b (pa :: A.L) d) (r : Reel H b d') : (∀ (i : Nat) M, Ms[i]? = some M → ∃ t, Pst n (ss.take i) t ∧ Mdl H' M t ((ss.take i).map (·.op))) ∧ (∀ M ∈ Ms, LS.ApL H' b M.L ∧ (∀ x ∈ M.L, x ∉ pa :: A.L) ∧ ∀ x ∈ M.L, x ∉ F) := by
  have kn := kn_m f r p.lists
  refine ⟨fun i M hM => ?_, fun M hM => ⟨fun a ha => f.a a ((p.apm M hM).1 a ha) (p.mdt hM a ha), (p.apm M hM).2⟩⟩
  obtain ⟨t, h1, h2⟩ := p.md i M hM
  have hm := p.apm M (List.mem_of_getElem? hM)
  exact ⟨t, h1, h2.move kn fun a ha xs e => f.k a _ e (hm.1 a ha).1 (hm.2.1 a ha)⟩
theorem Par.last (p : Par C D H b F A pa Ms n s ss) : ∃ M, Ms[ss.length]? = some M ∧ M ∈ Ms ∧ Mdl H M s (ss.map (·.op)) := by
  have hl : ss.length < Ms.length := by rw [p.len]; omega
  have e : Ms[ss.length]? = some Ms[ss.length] := List.getElem?_eq_getElem hl
  obtain ⟨t, h1, h2⟩ := p.md _ _ e
  obtain rfl := p.ps.full h1
  rw [List.take_length] at h2
  exact ⟨_, e, List.getElem_mem hl, h2⟩
theorem Par.push {d d' : Nat} {o : Op} {u : Sim} {M' : Md} (p : Par C D H b F A pa Ms n s ss) (hu : stp s o = some u) (m : MvF H H' b (pa :: A.L) d) (r : Reel H b d') (l : Lv C D H' A u (ss ++ [stOf s o])) (e : H' pa = some (.lst ((Ms ++ [M']).map fun M => V.ref M.m))) (md' : Mdl H' M' u (ss.map (·.op) ++ [o])) (ap' : LS.ApL H' b M'.L) (n1 : ∀ x ∈ M'.L, x ∉ pa :: A.L) (n2 : ∀ x ∈ M'.L, x ∉ F) : Par C D H' b F A pa (Ms ++ [M']) n u (ss ++ [stOf s o]) := by
  obtain ⟨mds, apm⟩ := p.mds m r
  refine ⟨l, p.ps.snoc hu, e, by rw [List.length_append, List.length_append, p.len]; rfl, fun i M hM => ?_, fun M hM => ?_, fun a ha => m.a a (p.ap a ha) (p.trk a ha), p.np, p.df⟩
  · by_cases q : i < Ms.length
    · rw [List.getElem?_append_left q] at hM
      rw [List.take_append_of_le_length (by have := p.len; omega)]
      exact mds i M hM
    · have hi := (List.getElem?_eq_some_iff.mp hM).1
      rw [List.length_append, List.length_singleton] at hi
      have : i = Ms.length := by omega
      subst this
      rw [List.getElem?_append_right (Nat.le_refl _), Nat.sub_self] at hM
      cases hM
      rw [List.take_of_length_le (by rw [List.length_append, List.length_singleton, p.len]; exact Nat.le_refl _), List.map_append]
      exact ⟨u, p.ps.snoc hu, md'⟩
  · rcases List.mem_append.mp hM with q | q
    · exact apm M q
    · rw [List.mem_singleton.mp q]
      exact ⟨ap', n1, n2⟩
theorem Par.pop {d d' : Nat} {o : Op} {u : Sim} {M : Md} (p : Par C D H b F A pa (Ms ++ [M]) n u (ss ++ [stOf s o])) (hs : Pst n ss s) (m : MvF H H' b (pa :: A.L) d) (r : Reel H b d') (l : Lv C D H' A s ss) (e : H' pa = some (.lst (Ms.map fun M => V.ref M.m))) : Par C D H' b F A pa Ms n s ss := by
  obtain ⟨mds, apm⟩ := p.mds m r
  have hl := p.len
  rw [List.length_append, List.length_append, List.length_singleton, List.length_singleton] at hl
  refine ⟨l, hs, e, by omega, fun i M0 hM => ?_, fun M0 hM => apm M0 (List.mem_append_left _ hM), fun a ha => m.a a (p.ap a ha) (p.trk a ha), p.np, p.df⟩
  have hi := (List.getElem?_eq_some_iff.mp hM).1
  have := mds i M0 (by rw [List.getElem?_append_left hi]; exact hM)
  rw [List.take_append_of_le_length (by omega)] at this
  exact this
theorem Par.cut {u : Sim} {t : Stp} (p : Par C D H b F A pa Ms n u (ss ++ [t])) : ∃ Ms' M, Ms = Ms' ++ [M] := by
  rcases List.eq_nil_or_concat Ms with rfl | ⟨Ms', M, rfl⟩
  · have := p.len; simp at this
  · exact ⟨Ms', M, List.concat_eq_append ..⟩
theorem at_last {Ms : List Md} {k : Nat} {M : Md} (h : Ms[k]? = some M) (e : Ms.length = k + 1) : atI (Ms.map fun M => V.ref M.m) (-1) = some (.ref M.m) := by
  have : ixN Ms.length (-1) = some k := by
    rw [e]
    unfold ixN
    rw [if_neg (by omega), if_pos (by omega)]
    congr 1; omega
  simp [atI, this, h]
theorem Par.start {M : Md} (l : Lv C D H A (simInit n) []) (m : Mdl H M (simInit n) []) (e : H pa = some (.lst [V.ref M.m])) (np : pa ∉ A.L) (ap : LS.ApL H b (pa :: A.L)) (am : LS.ApL H b M.L) (dm : ∀ x ∈ M.L, x ∉ pa :: A.L) : Par C D H b [] A pa [M] n (simInit n) [] :=
  ⟨l, .nil, e, rfl, fun i M0 hM => by
    cases i with
    | zero => cases hM; exact ⟨_, .nil, m⟩
    | succ i => simp at hM, fun M0 hM => by
    rw [List.mem_singleton.mp hM]
    exact ⟨am, dm, fun x _ q => by cases q⟩, ap, np, fun x _ q => by cases q⟩
theorem Par.dup {d : Nat} {A' : Ad} {pn : Addr} (p : Par C D H b F A pa Ms n s ss) (r : Reel H b d) (s1 : Same H H') (l' : Lv C D H' A' s ss) (no : NoL H A'.L) (hn : H pn = none) (nn : pn ∉ A'.L) (e : H' pn = some (.lst (Ms.map fun M => V.ref M.m))) : Par C D H' b (pn :: A'.L) A pa Ms n s ss ∧ Par C D H' b (pa :: A.L) A' pn Ms n s ss := by
  have noc : NoL H (pn :: A'.L) := fun x hx => by
    rcases List.mem_cons.mp hx with rfl | hx
    · exact hn
    · exact no x hx
  have mds : ∀ (i : Nat) M, Ms[i]? = some M → ∃ t, Pst n (ss.take i) t ∧ Mdl H' M t ((ss.take i).map (·.op)) := fun i M hM => by
    obtain ⟨t, h1, h2⟩ := p.md i M hM
    exact ⟨t, h1, md_s s1 h2⟩
  have apm : ∀ M ∈ Ms, LS.ApL H' b M.L := fun M hM => al_s s1 (p.apm M hM).1 r
  have dm : ∀ M ∈ Ms, ∀ x ∈ M.L, x ∉ pn :: A'.L := fun M hM x hx q => p.mdt hM x hx (noc x q)
  refine ⟨⟨lv_s s1 p.lv, p.ps, s1 _ _ p.ls, p.len, mds, fun M hM => ⟨apm M hM, (p.apm M hM).2.1, dm M hM⟩, al_s s1 p.ap r, p.np, fun x hx q => p.trk x hx (noc x q)⟩, ⟨l', p.ps, e, p.len, mds, fun M hM => ⟨apm M hM, dm M hM, (p.apm M hM).2.1⟩, al_s s1 (al_no noc r) r, nn, fun x hx q => p.trk x q (noc x hx)⟩⟩
theorem Pst.bnd (h : Pst n ss s) (hn : n ≤ 200) : ∀ t ∈ ss, 0 ≤ t.op.2 ∧ t.op.2 < 200 := by
  induction h with
  | nil => intro t ht; cases ht
  | snoc h1 h2 ih =>
    intro t ht
    rcases List.mem_append.mp ht with q | q
    · exact ih t q
    · rw [List.mem_singleton.mp q]
      have := num_range h1.good h2
      exact ⟨this.1, by show _ < (200 : Int); have := this.2; show (_ : Int) < 200; exact Int.lt_of_lt_of_le this (by omega)⟩
end
section
variable (K : PySem.W.Frag) (C D : Addr)
def sp__law_moves : Sp := fun vs H Q _ => ∃ (b : Addr) (d : Nat) (F : List Addr) (A : Ad) (pa : Addr) (Ms : List Md) (n : Nat) (s : Sim) (ss : List Stp), vs = [.ref b, .ref A.lx, .ref pa] ∧ Reel H b d ∧ d < 800000 ∧ Par C D H b F A pa Ms n s ss ∧ Lists H F ∧ 1 ≤ n ∧ n ≤ 200 ∧ ss.length ≤ 390 ∧
  ∀ (H' : Hp) (Ms' : List Md) (u : Sim) (ss' : List Stp), MvF H H' b (pa :: A.L) (d + 2) → Par C D H' b F A pa Ms' n u ss' → ss'.length = ss.length + 1 → Q (.bl true) H'
def sp__law_undone : Sp := fun vs H Q _ => ∃ (b : Addr) (d : Nat) (F : List Addr) (A : Ad) (pa : Addr) (Ms : List Md) (n : Nat) (s : Sim) (ss : List Stp) (many : Nat), vs = [.ref A.lx, .ref pa, .int many] ∧ Reel H b d ∧ Par C D H b F A pa Ms n s ss ∧ n ≤ 200 ∧ many ≤ 1000 ∧ ss.length ≤ 390 ∧
  ∀ (H' : Hp) (Ms' : List Md) (u : Sim) (ss' : List Stp), MvF H H' b (pa :: A.L) d → Par C D H' b F A pa Ms' n u ss' → ss'.length = ss.length - many → Q (.bl true) H'
end
end LP

/-! == and != of an instance with its own ==, beside any value -/
namespace LX
open PySem PySem.Spec PySem.W PyProof.Rows L2
section
variable {prog : Program} {w : World} {A A₀ : Around} {E : Value → Shared → Prop} {s : Shared} {K : Frag} {x C L f : Addr} {h₀ : Heap} {m : Str → Option Value} {ox : Obj} {od : Option Obj} {b tb : Value}
theorem ne_entry {Q : Fin → Shared → Prop} (X : K.In s.heap) (I : InstAt s.heap x ox C od) (hs : findIn K (.ref C) "__eq__" = some (some (.ref f))) (hf : isFn K (.ref f) = true) (hu : A.units < cLine)
    (h : wpAny (model prog w) A (call (.ref f) [.ref x, b]) (fun v s' => ∃ r, v = .bool r ∧ Q (.done (.ret (.bool (!r)))) s') E s) : wpAny (model prog w) A (Builtin.«object.__ne__» ⟨[.ref x, b], []⟩) Q E s := by
  unfold Builtin.«object.__ne__»
  repeat (first
    | with_reducible refine wpAny_cRoomFor hu ?_
    | (refine wpAny_bind (m := callSpecialIfBound? (.ref x) (Str.ofString "__eq__") [b])
        (ifBound_K X I hs hf (wpAny_mono h (fun r s' hr => by
          obtain ⟨b, rfl, hq⟩ := hr
          repeat (first | exact hq | exact wpAny_pure hq | exact wpAny_truthy_bool hq | (refine wpAny_bind (m := truthy (.bool _)) (wpAny_truthy_bool ?_)) | wp_step)) fun _ _ e => e)))
    | wp_step)
theorem call_ne {Q : Value → Shared → Prop} (X : K.In s.heap) (I : InstAt s.heap x ox C od) (ho : mroIn K C (.type "object") = some true) (hs : findIn K (.ref C) "__eq__" = some (some (.ref f))) (hf : isFn K (.ref f) = true) (hu : A.units + 1 < cLine)
    (h : wpAny (model prog w) A.in1 (call (.ref f) [.ref x, b]) (fun v s' => ∃ r, v = .bool r ∧ Q (.bool (!r)) s') E s) : wpAny (model prog w) A (call (.builtin "object.__ne__") [.ref x, b]) Q E s := by
  refine wpAny_call (codeAny_call_builtin F.cmp_object.ne.plain F.cmpEntry_ne (check_slot F.cmpKind_ne F.cmpSplit_ne (I.type.andThen (looks_mroIn X ho)) (F.cmpArgs_ne _ _) (ne_entry (A := A.in1) X I hs hf hu (wpAny_mono h (fun v s' hv => ?_) fun _ _ e => e))))
  obtain ⟨b, rfl, hq⟩ := hv
  exact ⟨b, rfl, hq⟩
theorem cmp_ne {Q : Value → Shared → Prop} (hu : A.units + 1 < cLine) (FR : Fr h₀ L s.heap m) (X₀ : K.In h₀) (I : InstAt s.heap x ox C od) (hb : Looks (model prog w) s.heap (typeOf b) tb) (hn : notFirst K C tb = true)
    (ho : mroIn K C (.type "object") = some true) (hs : findIn K (.ref C) "__eq__" = some (some (.ref f))) (hf : isFn K (.ref f) = true) (hne : findIn K (.ref C) "__ne__" = some (some (.builtin "object.__ne__")))
    (h : wpAny (model prog w) A.in1 (call (.ref f) [.ref x, b]) (fun v s' => ∃ r, v = .bool r ∧ Q (.bool (!r)) s') E s) : wpAny (model prog w) A (richCompare .NotEq (.ref x) b) Q E s := by
  have X := X₀.keeps FR.keep
  have one : wpAny (model prog w) A (tryCompare (.ref x) "__ne__" b) (fun r s' => ∃ v, r = some v ∧ Q v s') E s := by
    unfold tryCompare
    have sp : wpAny (model prog w) A (callSpecialIfBound? (.ref x) "__ne__" [b]) (fun r s' => ∃ v, r = some (.bool v) ∧ Q (.bool v) s') E s := by
      simp only [callSpecialIfBound?, bindSpecialIfBound?]
      refine wpAny_holding (wpAny_bind (wpAny_bind (wpAny_bind (I.type.here ((looks_findIn X hne).here ?_)))))
      refine wpAny_bind (wpAny_askSetting (wpAny_ite ?_))
      have fin : wpAny (model prog w) A (call (.builtin "object.__ne__") ([.ref x] ++ [b]) >>= fun v => pure (some v)) (fun r s' => ∃ v, r = some (.bool v) ∧ Q (.bool v) s') E s :=
        wpAny_bind (call_ne X I ho hs hf hu (wpAny_mono h (fun v s' ⟨r, e, q⟩ => ⟨r, e, wpAny_pure ⟨_, rfl, q⟩⟩) fun _ _ e => e))
      rw [F.cmp_object.ne.bind]
      split
      · exact wpAny_bind (wpAny_pure (wpAny_pure (by exact fin)))
      · exact wpAny_tryCatch (wpAny_bind (wpAny_pure (wpAny_pure (by exact fin))))
    refine wpAny_bind (wpAny_mono sp (fun r s' z => ?_) fun _ _ e => e)
    obtain ⟨v, rfl, hq⟩ := z
    exact wpAny_pure ⟨_, rfl, hq⟩
  unfold richCompare
  simp only [oneThing_ref]
  refine wpAny_holding (wpAny_bind (wpAny_cRoomFor (Nat.lt_of_succ_lt hu) ?_))
  rw [cmpInfo_NotEq]
  dsimp only
  refine wpAny_bind (I.type.here (wpAny_bind (hb.here ?_)))
  split
  · rename_i q
    have e : subIn K tb (.ref C) = some false := by
      rcases Bool.or_eq_true_iff.mp hn with e | e
      · rw [beq_iff_eq.mp e] at q; simp at q
      · exact beq_iff_eq.mp e
    refine wpAny_bind ((looks_subIn X e).here ?_)
    simp only [Bool.false_eq_true, if_false]
    refine wpAny_bind (wpAny_mono one (fun r s' z => ?_) fun _ _ e => e)
    obtain ⟨v, rfl, hq⟩ := z
    exact wpAny_pure hq
  · refine wpAny_bind (wpAny_pure ?_)
    simp only [Bool.false_eq_true, if_false]
    refine wpAny_bind (wpAny_mono one (fun r s' z => ?_) fun _ _ e => e)
    obtain ⟨v, rfl, hq⟩ := z
    exact wpAny_pure hq
end
section
variable {X : Cx} {CX : CXT} {k : Nat} {C g : Addr} {fd : FuncData} {ps : List Str} {sp : Sp} {E : XK}
/-- x == y, x an instance of the class at C with its own ==; y any value that is no instance of a class below C -/
def rEqO (K : Frag) (C : Addr) (sp : Sp) (E : XK) : R2 := fun x y H Q => ∃ a dx fs t, x = .ref a ∧ H a = some (.ins C dx fs) ∧ TyX K H y t ∧ notFirst K C t = true ∧ sp [x, y] H Q E
def rNeO (K : Frag) (C : Addr) (sp : Sp) (E : XK) : R2 := fun x y H Q => ∃ a dx fs t, x = .ref a ∧ H a = some (.ins C dx fs) ∧ TyX K H y t ∧ notFirst K C t = true ∧ sp [x, y] H (fun z H' => ∃ b, z = .bl b ∧ Q (.bl (!b)) H') E
theorem op_eqO (M : Meth X.K C "__eq__" g) (F : FnOk X.prog X.w X.K X.mg X.base CX k g fd ps sp) (hr : Room k X.A) (hb : Binds X.K fd ps []) (hx : Passes CX X E) : OpR X (compareOp .Eq) (rEqO X.K C sp E) := by
  intro pins s σ H x y v u Q I rx ry h
  obtain ⟨a, dx, fs, t, rfl, ha, ty, hn, q⟩ := h
  cases (show v = Value.ref a from rx)
  obtain ⟨mA, J, _⟩ := ins_get I.hok ha
  obtain ⟨od, J, _⟩ := J.look
  obtain ⟨P, Z, p, _⟩ := kit_of I ry ty
  obtain ⟨m, hF⟩ := I.fr
  have G := F.raw hb (.nil)
  show wpAny (model X.prog X.w) X.A (richCompare .Eq (.ref a) u) (EP X pins σ Q) X.xe s
  refine PySem.W.cmp_K (op := .Eq) (tb := t) hr.units0 hF I.ok.mod.kin J (Z.ty _ _ I.kIn p) hn M.at_ M.fn ?_
  have run := wpAny_call (run_fnR (Q := Q) (us := [.ref a, u]) (vs := [.ref a, y]) G hr hx I (.cons rfl (.cons ry .nil)) q)
  refine wpAny_mono run (fun w s' z => ?_) fun _ _ x => x
  obtain ⟨z', H', I', rz, qz⟩ := z
  exact SlX.cmpback rz ⟨z', H', I', rz, qz⟩
theorem op_neO (M : Meth X.K C "__eq__" g) (ho : mroIn X.K C (.type "object") = some true) (hne : findIn X.K (.ref C) "__ne__" = some (some (.builtin "object.__ne__"))) (F : FnOk X.prog X.w X.K X.mg X.base CX k g fd ps sp) (hr : Room (k + 1) X.A) (hb : Binds X.K fd ps []) (hx : Passes CX X E) : OpR X (compareOp .NotEq) (rNeO X.K C sp E) := by
  intro pins s σ H x y v u Q I rx ry h
  obtain ⟨a, dx, fs, t, rfl, ha, ty, hn, q⟩ := h
  cases (show v = Value.ref a from rx)
  obtain ⟨mA, J, _⟩ := ins_get I.hok ha
  obtain ⟨od, J, _⟩ := J.look
  obtain ⟨P, Z, p, _⟩ := kit_of I ry ty
  obtain ⟨m, hF⟩ := I.fr
  have G := F.raw hb (.nil)
  show wpAny (model X.prog X.w) X.A (richCompare .NotEq (.ref a) u) (EP X pins σ Q) X.xe s
  refine cmp_ne (tb := t) (by have := hr.in1.units0; exact this) hF I.ok.mod.kin J (Z.ty _ _ I.kIn p) hn ho M.at_ M.fn hne ?_
  have run := wpAny_call (SlX.run_at (Q := fun z H' => ∃ b, z = .bl b ∧ Q (.bl (!b)) H') (us := [.ref a, u]) (ws := [.ref a, y]) G hr.in1 I.env0.in1 hx I (.cons rfl (.cons ry .nil)) q)
  refine wpAny_mono run (fun w s' z => ?_) fun _ _ x => x
  obtain ⟨z', H', I', rz, b, eb, qz⟩ := z
  subst eb
  cases (show w = Value.bool b from rz)
  exact ⟨b, rfl, .bl (!b), H', I', rfl, qz⟩
/-- the i-th slot holds the class at C -/
def tMakeL (i : Nat) (C : Addr) (sp : Sp) (dvs : List V) (E : XK) (t : TA) : TE := fun σ H Q => σ[i]? = some (some (.ref C)) ∧ tMake C sp dvs E t σ H Q
theorem pe_makeL {i : Nat} {x : Str} {p pos : Pos} {e : Expr} {es : List Expr} {t : TA} {ds : List Value} {dvs : List V} (M : Mk X.K C g) (F : FnOk X.prog X.w X.K X.mg X.base CX k g fd ps sp) (hr : Room (k + 1) X.A) (hN : X.N[i]? = some x) (hv : Vis X.env.scope x) (hb : Binds X.K fd ps ds) (hd : Vals dvs ds) (hx : Passes CX X E)
    (ha : PA X (e :: es) t) (hdb : (x == ("__debug__" : Str)) = false := by decide) (hcd : (x == ("__classdict__" : Str)) = false := by decide) (he : starEach (e :: es) X.env = (false, eval e X.env) :: starEach es X.env := by rfl) (hpl : (backTo pos (starEach es X.env)).any (·.1) = false := by rfl) :
    PE X (.Call (.Name x p) (e :: es) [] pos) (tMakeL i C sp dvs E t) := by
  refine ⟨fun pins s σ H Q I h => ?_⟩
  obtain ⟨hs, ht⟩ := h
  refine wpAny_Call_Name_kw (thn ((pe_var (pos := p) hN hv hdb hcd).run pins s σ H (fun v H1 => v = .ref C ∧ H1 = H) I ⟨.ref C, hs, rfl, rfl⟩) fun u s1 ⟨v, H1, I1, r1, q1⟩ => ?_)
  obtain ⟨rfl, rfl⟩ := q1
  cases r1
  refine PySem.W.callWith_K (h₀ := X.base) I.ok.mod.kin M.kp (thn (ha.run pos pins s1 σ _ _ I1 ht) fun us s2 ⟨vs, H2, I2, r, q⟩ => ⟨I2.kIn, ?_⟩) he hpl
  exact run_make M F hr hb hd hx I2 r q
theorem pe_cmethF {o e : Expr} {es : List Expr} {m : Str} {pos apos : Pos} {ta : TE} {t : TA} {pl : Sem Bool} {mc : Value} {p : Addr} {ds : List Value} {dvs : List V} (he : PE X o ta) (r : ClX.CRead X.K C mc) (c : ClX.CMet X.K C mc m p g) (F : FnOk X.prog X.w X.K X.mg X.base CX k g fd ps sp) (hr : Room k X.A) (hb : Binds X.K fd ps ds) (hd : Vals dvs ds) (hx : Passes CX X E) (ha : PA X (e :: es) t)
    (hst : starEach (e :: es) X.env = (false, eval e X.env) :: starEach es X.env := by rfl) (hpl : (backTo pos (starEach es X.env)).any (·.1) = false := by rfl)
    (ht : eval (.Call (.Attribute o m apos) (e :: es) [] pos) X.env = (do
      let ov ← eval o X.env
      standAt apos.atName
      let (f, first) ← holding [ov] (getMethod ov m pl)
      callWith pos f first (backTo pos (starEach (e :: es) X.env)) (backToKw pos (keywordEach [] X.env))) := by rfl) :
    PE X (.Call (.Attribute o m apos) (e :: es) [] pos) (ClX.tCMeth C (fun vs H Q E => sp (vs ++ dvs) H Q E) E ta t) := ClX.pe_cmeth he r c (F.raw hb hd) hr hx ha hst hpl ht
end
end LX

/-! a dict of the module with text keys; a local that holds one of several defs -/
namespace LX
open PySem PySem.Spec PyProof.Rows L2
def keyS : Value → Str
  | .str x _ => x
  | _ => ⟨#[]⟩
/-- the written dict at d: its keys and values -/
structure WDict (K : PySem.W.Frag) (w : World) (d : Addr) (kvs : List (Str × Value)) : Prop where
  ex : ∃ es n, KDict K w d es n ∧ es.toList.map (fun e => (keyS e.key, e.val)) = kvs
theorem wd_find {w : World} (z : Str) : ∀ l : List DictEntry, PySem.W.KeysLit w.params l → (l.find? fun e => e.key.isStr z).map (·.val) = (l.map fun e => (keyS e.key, e.val)).lookup z
  | [], _ => rfl
  | e :: r, ⟨⟨x, t, hk, _⟩, hr⟩ => by
    have ih := wd_find z r hr
    rw [List.find?_cons, List.map_cons, List.lookup_cons]
    have e1 : e.key.isStr z = (z == x) := by
      rw [hk, PySem.W.isStr_of]
      show (x == z) = (z == x)
      exact BEq.comm
    rw [e1, hk]
    show Option.map _ (match z == x with | true => some e | false => _) = match z == x with | true => some e.val | false => _
    cases z == x with
    | true => rfl
    | false => exact ih
theorem wd_any {w : World} : ∀ l : List DictEntry, PySem.W.KeysLit w.params l → l.any (·.refKey) = false
  | [], _ => rfl
  | e :: r, ⟨⟨x, t, hk, _⟩, hr⟩ => by
    rw [List.any_cons, wd_any r hr]
    have : e.refKey = false := by
      unfold DictEntry.refKey
      rw [hk]
    rw [this]; rfl
theorem WDict.ns {K : PySem.W.Frag} {w : World} {d : Addr} {kvs : List (Str × Value)} (D : WDict K w d kvs) (z : Str) : PySem.W.nsIn K d z = some (kvs.lookup z) := by
  obtain ⟨es, n, k, e⟩ := D.ex
  unfold PySem.W.nsIn
  rw [k.at_]
  dsimp only
  have h := wd_find z es.toList k.lit
  rw [e] at h
  rw [← h, wd_any es.toList k.lit]
  cases es.toList.find? (fun e => e.key.isStr z) <;> rfl
theorem WDict.kdct {K : PySem.W.Frag} {w : World} {d : Addr} {kvs : List (Str × Value)} (D : WDict K w d kvs) {z : Str} {u : Value} {v : V} (h : kvs.lookup z = some u) (r : RelV v u) : KDct K w d z v := by
  obtain ⟨es, n, k, e⟩ := D.ex
  exact ⟨es, n, u, k.at_, k.lit, by rw [D.ns, h], r⟩
def rInW (d : Addr) (kvs : List (Str × Value)) (neg : Bool) : R2 := fun x y H Q => ∃ z, x = .str z ∧ y = .ref d ∧ Q (.bl ((kvs.lookup z).isSome != neg)) H
section
variable {X : Cx} {d : Addr} {kvs : List (Str × Value)}
theorem op_inW (D : WDict X.K X.w d kvs) : OpR X (compareOp .In) (rInW d kvs false) := by
  obtain ⟨es, n, k, e⟩ := D.ex
  intro pins s σ H x y v u Q I rx ry h
  obtain ⟨z, rfl, rfl, q⟩ := h
  refine op_in_kd k pins s σ H _ _ v u Q I rx ry ⟨z, _, rfl, rfl, D.ns z, ?_⟩
  rw [Bool.bne_false] at q
  exact q
theorem op_notInW (D : WDict X.K X.w d kvs) : OpR X (compareOp .NotIn) (rInW d kvs true) := by
  obtain ⟨es, n, k, e⟩ := D.ex
  intro pins s σ H x y v u Q I rx ry h
  obtain ⟨z, rfl, rfl, q⟩ := h
  refine op_notIn_kd k pins s σ H _ _ v u Q I rx ry ⟨z, _, rfl, rfl, D.ns z, ?_⟩
  rw [Bool.bne_true] at q
  exact q
end
/-- the defs that a local may hold, each with its promise -/
inductive HeldL (P : Program) (w : World) (K : PySem.W.Frag) (mg : Str → Option Value) (base : Heap) (k : Nat) : List (Addr × Sp) → Prop
  | nil : HeldL P w K mg base k []
  | cons {f : Addr} {fd : FuncData} {ps : List Str} {sp : Sp} {r : List (Addr × Sp)} (F : FnOk P w K mg base (fun _ _ _ _ _ _ => False) k f fd ps sp) (hk : PySem.W.keepIn K (.ref f) = true) (hb : Binds K fd ps []) (t : HeldL P w K mg base k r) : HeldL P w K mg base k ((f, sp) :: r)
theorem HeldL.at {P : Program} {w : World} {K : PySem.W.Frag} {mg : Str → Option Value} {base : Heap} {k : Nat} {L : List (Addr × Sp)} (h : HeldL P w K mg base k L) : ∀ {j : Nat} {f : Addr} {sp : Sp}, L[j]? = some (f, sp) → Held P w K mg base k f sp := by
  induction h with
  | nil => intro j f sp e; simp at e
  | cons F hk hb t ih =>
    intro j f sp e
    cases j with
    | zero => cases e; exact ⟨⟨_, _, F, hk, hb⟩⟩
    | succ j => exact ih e
def tCallR (i : Nat) (L : List (Addr × Sp)) (t : TA) : TE := fun σ H Q => ∃ (j : Nat) (f : Addr) (sp : Sp), L[j]? = some (f, sp) ∧ σ[i]? = some (some (.ref f)) ∧ t σ H fun vs H1 => sp vs H1 Q (fun _ _ _ => False)
theorem pe_callR {X : Cx} {k i : Nat} {L : List (Addr × Sp)} {x : Str} {p pos : Pos} {e : Expr} {es : List Expr} {t : TA} (A : HeldL X.prog X.w X.K X.mg X.base k L) (hr : Room k X.A) (hN : X.N[i]? = some x) (hv : Vis X.env.scope x) (ha : PA X (e :: es) t)
    (hdb : (x == ("__debug__" : Str)) = false := by decide) (hcd : (x == ("__classdict__" : Str)) = false := by decide)
    (he : starEach (e :: es) X.env = (false, eval e X.env) :: starEach es X.env := by rfl) (hpl : (backTo pos (starEach es X.env)).any (·.1) = false := by rfl) : PE X (.Call (.Name x p) (e :: es) [] pos) (tCallR i L t) := by
  refine ⟨fun pins s σ H Q I h => ?_⟩
  obtain ⟨j, f, sp, hj, hs, ht⟩ := h
  obtain ⟨fd, ps, F, hk, hb⟩ := (A.at hj).ex
  refine (pe_callL (i := i) (f := f) (sp := sp) (dvs := []) (E := fun _ _ _ => False) F hr hN hv hk hb .nil (fun _ _ _ _ _ _ _ z => z.elim) ha hdb hcd he hpl).run pins s σ H Q I ⟨hs, ?_⟩
  have e0 : (fun (vs : List V) (H1 : Hp) => sp (vs ++ []) H1 Q (fun _ _ _ => False)) = fun vs H1 => sp vs H1 Q (fun _ _ _ => False) := by
    funext vs H1
    rw [List.append_nil]
  show t σ H (fun vs H1 => sp (vs ++ []) H1 Q (fun _ _ _ => False))
  rw [e0]
  exact ht
/-- x.partition(y) -/
def rPart : V → List V → Hp → VK → Prop := fun x xs H Q => ∃ a b, x = .str a ∧ xs = [.str b] ∧ (b.length == 0) = false ∧ a.length ≤ sizeLine ∧
    ∀ p, H p = none → Q (.ref p) (upd H p (.tup [.str (Txt.partition a b).1, .str (Txt.partition a b).2.1, .str (Txt.partition a b).2.2]))
theorem mt_partN {X : Cx} : MtR X "str.partition" rPart := L2.mt_partition
end LX

/-! texts of numbers, of operations, of books; lines of the console -/
namespace LP
open PySem L2 LT LG LX LR LQ TL
/-- a word: not empty, no blank in it, not long -/
structure Wd (w : Str) : Prop where
  ne : w.cps.toList ≠ []
  sp : 32 ∉ w.cps.toList
  le : w.length ≤ 40
  ok : PyData.strOk w = true
theorem ok_of {w : Str} (h : ∀ c ∈ w.cps.toList, c < 1000) : PyData.strOk w = true := by
  unfold PyData.strOk
  rw [← Array.all_toList, List.all_eq_true]
  intro c hc
  have := h c hc
  exact decide_eq_true (by omega)
def txtW (ws : List Str) : Str := Txt.join (" " : Str) ws
theorem txtW_sz {ws : List Str} (h : ∀ w ∈ ws, Wd w) (hl : ws.length ≤ 1000) : (ws.map (·.length)).sum + ws.length * (" " : Str).length ≤ 16777216 := by
  have e : (" " : Str).length = 1 := by decide +kernel
  have := sum_le (ws.map (·.length)) 40 (fun x hx => by
    obtain ⟨p, hp, rfl⟩ := List.mem_map.mp hx
    exact (h p hp).le)
  rw [List.length_map] at this
  rw [e]
  omega
theorem txtW_tl (ws : List Str) : (txtW ws).cps.toList = joinL [32] (ws.map fun z => z.cps.toList) := by
  unfold txtW
  rw [join_eq]
  have := tl_join (" " : Str) ws
  rw [show tl (" " : Str) = [32] from sp_tl] at this
  exact this
theorem txtW_len {ws : List Str} (h : ∀ w ∈ ws, Wd w) : (txtW ws).length ≤ ws.length * 41 := by
  show (txtW ws).cps.size ≤ _
  rw [← Array.length_toList, txtW_tl]
  have := joinL_len (ws.map fun z => z.cps.toList) 40 fun p hp => by
    obtain ⟨q, hq, rfl⟩ := List.mem_map.mp hp
    rw [Array.length_toList]
    exact (h q hq).le
  rw [List.length_map] at this
  exact this
theorem txtW_nil : txtW [] = ("" : Str) := by decide +kernel
theorem txtW_cons {a : Str} {r : List Str} (h : Wd a) : txtW (a :: r) ≠ ("" : Str) := by
  intro e
  have e3 : ("" : Str).cps.toList = [] := by decide +kernel
  have e2 : (txtW (a :: r)).cps.toList = [] := by rw [e, e3]
  rw [txtW_tl, List.map_cons] at e2
  have := h.ne
  cases r with
  | nil => exact this e2
  | cons b t =>
    have e5 : a.cps.toList ++ ([32] ++ joinL [32] ((b :: t).map fun z => z.cps.toList)) = [] := e2
    simp at e5
theorem txtW_eq {ws : List Str} (h : ∀ w ∈ ws, Wd w) : txtW ws = ("" : Str) ↔ ws = [] := by
  cases ws with
  | nil => exact ⟨fun _ => rfl, fun _ => txtW_nil⟩
  | cons a r => exact ⟨fun e => absurd e (txtW_cons (h a (List.mem_cons_self ..))), fun e => by cases e⟩
theorem split_txtW {ws : List Str} (hn : ws ≠ []) (h : ∀ w ∈ ws, Wd w) : Txt.split (txtW ws) (" " : Str) = ws :=
  split_join (s := 32) (S := []) sp_tl (by decide +kernel) hn fun p hp => (h p hp).sp
theorem nst_tl {n : Int} (h : 0 ≤ n) : (nst n).cps.toList = numL n.toNat := by
  have := tl_nst n.toNat
  rw [show ((n.toNat : Nat) : Int) = n by omega] at this
  exact this
theorem wd_nst {n : Int} (h0 : 0 ≤ n) (h1 : n ≤ 10 ^ 30) : Wd (nst n) := by
  refine ⟨by rw [nst_tl h0]; exact numL_ne _, by rw [nst_tl h0]; exact numL_free (by decide), ?_, ok_of fun c hc => by
    rw [nst_tl h0] at hc
    have := numL_all _ c hc
    omega⟩
  have := nst_len (n := n.toNat) (by omega)
  rw [show ((n.toNat : Nat) : Int) = n by omega] at this
  omega
def kch (b : Bool) : Str := if b then "t" else "r"
def wordO (o : Op) : Str := kch o.1 ++ nst o.2
def txtO (os : List Op) : Str := txtW (os.map wordO)
def bookW : Option Int → Str
  | some i => nst i
  | none => "-"
def txtB (l : List (Option Int)) : Str := txtW (l.map bookW)
def cmd (o : Op) : Str := (kst o.1 ++ (" " : Str)) ++ nst o.2
def orNone (t : Str) : Str := if t = ("" : Str) then "none" else t
theorem str_len_app (a b : Str) : (a ++ b).length = a.length + b.length := by
  show (a ++ b).cps.size = a.cps.size + b.cps.size
  rw [← Array.length_toList, ← Array.length_toList, ← Array.length_toList]
  have : (a ++ b).cps.toList = a.cps.toList ++ b.cps.toList := tl_append a b
  rw [this, List.length_append]
theorem wd_wordO {o : Op} (h0 : 0 ≤ o.2) (h1 : o.2 ≤ 10 ^ 30) : Wd (wordO o) := by
  have w := wd_nst h0 h1
  have e : (wordO o).cps.toList = (kch o.1).cps.toList ++ (nst o.2).cps.toList := tl_append _ _
  have ek : (kch o.1).cps.toList = [if o.1 then 116 else 114] := by cases o.1 <;> decide +kernel
  refine ⟨by rw [e, ek]; simp, ?_, ?_, ok_of fun c hc => by
    rw [e, ek] at hc
    rcases List.mem_append.mp hc with q | q
    · have := List.mem_singleton.mp q
      split at this <;> omega
    · rw [nst_tl h0] at q
      have := numL_all _ c q
      omega⟩
  · rw [e, ek]
    intro q
    rcases List.mem_append.mp q with q | q
    · have := List.mem_singleton.mp q
      split at this <;> omega
    · exact w.sp q
  · have h2 := nst_len (n := o.2.toNat) (by omega)
    rw [show ((o.2.toNat : Nat) : Int) = o.2 by omega] at h2
    unfold wordO
    rw [str_len_app]
    have : (kch o.1).length = 1 := by cases o.1 <;> decide +kernel
    omega
theorem wd_bookW {o : Option Int} (h : ∀ x, o = some x → 0 ≤ x ∧ x ≤ 10 ^ 30) : Wd (bookW o) := by
  cases o with
  | none => exact ⟨by decide +kernel, by decide +kernel, by decide +kernel, by decide +kernel⟩
  | some x => exact wd_nst (h x rfl).1 (h x rfl).2
theorem part_cmd (o : Op) : Txt.partition (cmd o) (" " : Str) = (kst o.1, (" " : Str), nst o.2) :=
  partition_app (s := 32) (S := []) sp_tl (by show 32 ∉ (kst o.1).cps.toList; cases o.1 <;> decide +kernel)
theorem cmd_tl (o : Op) : (cmd o).cps.toList = (kst o.1).cps.toList ++ [32] ++ (nst o.2).cps.toList := by
  have e1 : (cmd o).cps.toList = (kst o.1 ++ (" " : Str)).cps.toList ++ (nst o.2).cps.toList := tl_append _ _
  have e2 : (kst o.1 ++ (" " : Str)).cps.toList = (kst o.1).cps.toList ++ (" " : Str).cps.toList := tl_append _ _
  rw [e1, e2]
  rfl
theorem cmd_mem (o : Op) : 32 ∈ (cmd o).cps.toList := by rw [cmd_tl]; simp
theorem cmd_ne {o : Op} {z : Str} (h : 32 ∉ z.cps.toList) : cmd o ≠ z := fun e => h (e ▸ cmd_mem o)
theorem cmd_len {o : Op} (h0 : 0 ≤ o.2) (h1 : o.2 ≤ 10 ^ 30) : (cmd o).length ≤ 50 := by
  have h2 := nst_len (n := o.2.toNat) (by omega)
  rw [show ((o.2.toNat : Nat) : Int) = o.2 by omega] at h2
  unfold cmd
  rw [str_len_app, str_len_app]
  have : (kst o.1).length ≤ 6 := by cases o.1 <;> decide +kernel
  have : (" " : Str).length = 1 := by decide +kernel
  omega
/-- the questions and their answers -/
def ansL (s : Sim) (os : List Op) : List (Str × Str) :=
  [("books", txtB s.books), ("gaps", orNone (txtN (gapsL s.books))), ("out", orNone (txtN s.out)), ("schedule", orNone (txtO os)), ("size", nst s.books.length)]
/-- every operation speaks of small numbers -/
def SmOps (os : List Op) : Prop := ∀ o ∈ os, 0 ≤ o.2 ∧ o.2 ≤ 200
def OpsE (K : PySem.W.Frag) (H : Hp) (as : List Addr) (os : List Op) : Prop := as.length = os.length ∧ ∀ (i : Nat) a o, as[i]? = some a → os[i]? = some o → SqE K H a (opv o)
theorem OpsOk.toE {K : PySem.W.Frag} {H : Hp} {as : List Addr} {os : List Op} (h : OpsOk H as os) : OpsE K H as os := ⟨h.1, fun i a o ha ho => .inr (SqT.of (h.2 i a o ha ho))⟩
theorem OpsE.same {K : PySem.W.Frag} {H H' : Hp} {as : List Addr} {os : List Op} (h : OpsE K H as os) (s : Same H H') : OpsE K H' as os := ⟨h.1, fun i a o ha ho => (h.2 i a o ha ho).same s⟩
def G30 : Int := 1000000000000000000000000000000
def dS (ws : List Str) : PyData := .list (ws.map PyData.str)
theorem dpA_s {K : PySem.W.Frag} {H : Hp} : ∀ l : List Str, DpAll K H (l.map V.str) (l.map PyData.str)
  | [] => .nil
  | i :: r => .cons (.str i) (dpA_s r)
theorem dp_s {K : PySem.W.Frag} {H : Hp} {p : Addr} {ws : List Str} (h : SqL K H p (ws.map V.str)) : Dp K H (.ref p) (dS ws) := .lst h (dpA_s _)
theorem sh_s {l : List Str} (h : ∀ w ∈ l, PyData.strOk w = true) : SeqAt.shaped (dS l) = true := by
  have h1 : ∀ l : List Str, (∀ w ∈ l, PyData.strOk w = true) → PyData.canLayAll0 (l.map PyData.str) = true := fun l => by
    induction l with
    | nil => intro _; rfl
    | cons i r ih => intro h; simp [PyData.canLayAll0, PyData.canLay0, ih fun w hw => h w (List.mem_cons_of_mem _ hw), h i (List.mem_cons_self ..)]
  have h2 : ∀ l : List Str, PyData.depthAll (l.map PyData.str) = 0 := fun l => by
    induction l with
    | nil => rfl
    | cons i r ih => simp [PyData.depthAll, PyData.depth, ih]
  simp [SeqAt.shaped, dS, PyData.canLay0, PyData.depth, h1 l h, h2]
theorem eqvA_s : ∀ a b : List Str, PyData.eqvAll (a.map PyData.str) (b.map PyData.str) = decide (a = b)
  | [], [] => rfl
  | [], _ :: _ => rfl
  | _ :: _, [] => rfl
  | a :: l, b :: r => by
    have ih := eqvA_s l r
    simp only [List.map_cons, PyData.eqvAll, ih, PyData.eqv]
    by_cases e : a = b
    · subst e; simp
    · have h2 : (a == b) = false := by rw [beq_eq_false_iff_ne]; exact e
      simp [e, h2]
theorem eqv_s (a b : List Str) : PyData.eqv (dS a) (dS b) = decide (a = b) := by simp only [dS, PyData.eqv]; exact eqvA_s a b
theorem orNone_t {ws : List Str} (h : ∀ w ∈ ws, Wd w) (hn : ws ≠ []) : txtW ws = orNone (txtW ws) := by
  unfold orNone
  rw [if_neg fun e => hn ((txtW_eq h).mp e)]
theorem orNone_f {ws : List Str} (hn : ws = []) : ("none" : Str) = orNone (txtW ws) := by
  subst hn
  unfold orNone
  rw [if_pos txtW_nil]
section
variable (K : PySem.W.Frag) (C D Cc : Addr)
structure Con (H : Hp) (co dc : Addr) (A : Ad) (s : Sim) (ss : List Stp) : Prop where
  ob : H co = some (.ins Cc dc [("_live", .ref A.lx)])
  lv : Lv C D H A s ss
def sp_numbers_text : Sp := fun vs H Q _ => ∃ (a : Addr) (ns : List Int), vs = [.ref a] ∧ SqE K H a (ns.map V.int) ∧ (∀ x ∈ ns, 0 ≤ x ∧ x ≤ G30) ∧ ns.length ≤ 400 ∧ ∀ H', Same H H' → Q (.str (txtN ns)) H'
def sp_operations_text : Sp := fun vs H Q _ => ∃ (a : Addr) (as : List Addr) (os : List Op), vs = [.ref a] ∧ SqE K H a (as.map V.ref) ∧ OpsE K H as os ∧ SmOps os ∧ os.length ≤ 1000 ∧ ∀ H', Same H H' → Q (.str (txtO os)) H'
def sp_read_number : Sp := fun vs H Q _ => ∃ n : Int, vs = [.str (nst n)] ∧ 0 ≤ n ∧ n ≤ G30 ∧ Q (.int n) H
def sp_text_or_none : Sp := fun vs H Q _ => ∃ t : Str, vs = [.str t] ∧ Q (.str (orNone t)) H
def sp_undo_last : Sp := fun vs H Q _ => ∃ (A : Ad) (s u : Sim) (ss : List Stp) (o : Op) (n : Nat), vs = [.ref A.lx] ∧ Lv C D H A u (ss ++ [stOf s o]) ∧ Good n s ∧ n ≤ 200 ∧ stp s o = some u ∧
  ∀ H' : Hp, LS.FrL H H' A.L → Lv C D H' A s ss → Q (.str "ok") H'
def sp_show (j : Nat) : Sp := fun vs H Q _ => ∃ (A : Ad) (s : Sim) (ss : List Stp) (n : Nat) (q t : Str), vs = [.ref A.lx] ∧ Lv C D H A s ss ∧ Pst n ss s ∧ n ≤ 200 ∧ ss.length ≤ 1000 ∧ (ansL s (ss.map (·.op)))[j]? = some (q, t) ∧
  ∀ H' : Hp, Same H H' → Q (.str t) H'
def sp_read_line : Sp := fun vs H Q _ => (∃ q : Str, vs = [.str q] ∧ (q ∈ (["undo", "books", "gaps", "out", "schedule", "size"] : List Str)) ∧ ∀ (H' : Hp) (t : Addr), H t = none → Same H H' → H' t = some (.tup [.str q, .non]) → Q (.ref t) H') ∨
  (∃ o : Op, vs = [.str (cmd o)] ∧ 0 ≤ o.2 ∧ o.2 ≤ G30 ∧ ∀ (H' : Hp) (t : Addr), H t = none → Same H H' → H' t = some (.tup [.str (kst o.1), .int o.2]) → Q (.ref t) H')
def sp_Console_init : Sp := fun vs H Q _ => ∃ (p dx : Addr) (n : Nat), vs = [.ref p, .int n] ∧ 1 ≤ n ∧ n ≤ 200 ∧ H p = some (.ins Cc dx []) ∧ ∀ (H' : Hp) (A : Ad), Fr H H' p → Con C D Cc H' p dx A (simInit n) [] → NoL H A.L → Q .non H'
def sp__law_answers_right : Sp := fun vs H Q _ => ∃ (co dc : Addr) (A B : Ad) (s : Sim) (ss : List Stp) (n : Nat), vs = [.ref co, .ref A.lx, .int n] ∧ Con C D Cc H co dc B s ss ∧ Lv C D H A s ss ∧ Pst n ss s ∧ n ≤ 200 ∧ ss.length ≤ 1000 ∧ ∀ H', Same H H' → Q (.bl true) H'
def sp_Console_execute : Sp := fun vs H Q _ =>
  (∃ (co dc : Addr) (A : Ad) (s u : Sim) (ss : List Stp) (o : Op) (n : Nat), vs = [.ref co, .str (cmd o)] ∧ Con C D Cc H co dc A s ss ∧ Pst n ss s ∧ n ≤ 200 ∧ stp s o = some u ∧ ss.length ≤ 1000 ∧
    ∀ H' : Hp, LS.FrL H H' A.L → Con C D Cc H' co dc A u (ss ++ [stOf s o]) → Q (.str (nst (due s o))) H') ∨
  (∃ (co dc : Addr) (A : Ad) (s u : Sim) (ss : List Stp) (o : Op) (n : Nat), vs = [.ref co, .str "undo"] ∧ Con C D Cc H co dc A u (ss ++ [stOf s o]) ∧ Good n s ∧ n ≤ 200 ∧ stp s o = some u ∧
    ∀ H' : Hp, LS.FrL H H' A.L → Con C D Cc H' co dc A s ss → Q (.str "ok") H') ∨
  (∃ (co dc : Addr) (A : Ad) (s : Sim) (ss : List Stp) (n j : Nat) (q t : Str), vs = [.ref co, .str q] ∧ Con C D Cc H co dc A s ss ∧ Pst n ss s ∧ n ≤ 200 ∧ ss.length ≤ 1000 ∧ (ansL s (ss.map (·.op)))[j]? = some (q, t) ∧
    ∀ H' : Hp, Same H H' → Q (.str t) H')
end
end LP

/-! more steps -/
namespace LX
open PySem L2
theorem pgor {X : Cx} {e : Expr} {t u : V → L2.St → Hp → (L2.St → Hp → Prop) → Prop} (h1 : PG X e t) (h2 : PG X e u) : PG X e (fun v σ H Q => t v σ H Q ∨ u v σ H Q) :=
  ⟨fun a1 a2 a3 a4 a5 a6 a7 a8 a9 w => w.elim (h1.run a1 a2 a3 a4 a5 a6 a7 a8 a9) (h2.run a1 a2 a3 a4 a5 a6 a7 a8 a9)⟩
end LX
namespace LS
open PySem L2 LT LG LP LX
section
variable {σ : L2.St} {H : Hp} {Q : VK}
def kG2 (QR : Int → Int → Hp → Prop) (x : V) : VK := fun y H2 => ∃ i j, x = .int i ∧ y = .int j ∧ QR i j H2
theorem trg2 {ta tb : TE} {QR : Int → Int → Hp → Prop} (h : ta σ H fun x H1 => tb σ H1 (kG2 QR x)) : tRg2 ta tb σ H QR := h
theorem k_g2 {i j : Int} {QR : Int → Int → Hp → Prop} (q : QR i j H) : kG2 QR (.int i) (.int j) H := ⟨i, j, rfl, rfl, q⟩
theorem k_lr2 {a b : Int} (ok : RgOk a b) (k : ∀ (p : Addr) (H' : Hp), H p = none → Same H H' → H' p = some (.lst (rgV a b)) → Q (.ref p) H') : kLR Q a b H :=
  ⟨ok, fun p np => k p _ np (same_upd np) upd_same⟩
theorem expn_join {c : Prop} [Decidable c] {ta tb : TE} (A : V → Hp → Prop) (h1 : ¬ c → ∀ Q' : VK, (∀ v H', A v H' → Q' v H') → ta σ H Q') (h2 : c → ∀ Q' : VK, (∀ v H', A v H' → Q' v H') → tb σ H Q')
    (k : ∀ v H', A v H' → Q v H') : if (!decide c) = true then ta σ H Q else tb σ H Q := by
  by_cases hc : c
  · rw [decide_eq_true hc]
    exact LS.ifnt (h2 hc Q k)
  · rw [decide_eq_false hc]
    exact LS.ifnf (h1 hc Q k)
theorem ifs_cut {c : TT} {t u : TS} {D : Ends} (A : Bool → Hp → Prop) (h1 : ∀ Qb : Bool → Hp → Prop, (∀ b H', A b H' → Qb b H') → c σ H Qb) (ht : ∀ H', A true H' → t D σ H') (hf : ∀ H', A false H' → u D σ H') : tIfS c t u D σ H :=
  h1 _ fun b H' h => by
    cases b with
    | true => exact LS.ift (ht H' h)
    | false => exact LS.iff_ (hf H' h)
theorem rlist_t {K : PySem.W.Frag} {a : Addr} {xs : List V} (h : SqT K H a xs) (k : ∀ (p : Addr) (H' : Hp), H p = none → Same H H' → H' p = some (.lst xs) → Q (.ref p) H') : rListOf K [.ref a] H Q := ⟨a, xs, rfl, .inr h, fun l nl => k l _ nl (same_upd nl) upd_same⟩
/-- a pair from a list or a tuple -/
theorem gorE {K : PySem.W.Frag} {n : Nat} {t : TGs} {a : Addr} {xs : List V} {QG : L2.St → Hp → Prop} (h : SqE K H a xs) (hn : xs.length = n) (q : t xs σ H QG) : gTup K n t (.ref a) σ H QG ∨ gUnl K n t (.ref a) σ H QG :=
  h.elim (fun h => .inr (gunl h hn q)) fun h => .inl (gtup h hn q)
end
end LS
namespace LP
open PySem L2 LT LG LX
theorem or_enumE0 {K : PySem.W.Frag} {H0 H : Hp} {a : Addr} {xs : List V} {σ : St} {R : It → Hp → Prop} {ta : TA} (hE : SqE K H0 a xs) (s0 : Same H0 H) (hv : ∀ Q : List V → Hp → Prop, Q [.ref a] H → ta σ H Q)
    (k : ∀ (J : It) (G : Hp → Prop), Walk J xs.length G (YPair (fun i => some (.int (i : Nat))) (fun i => xs[i]?)) → (∀ H', Same H0 H' → G H') → R J H) :
    iEnum K ta σ H R ∨ iEnumT K ta σ H R := by
  rcases hE with h | h
  · exact .inl (hv _ ⟨a, xs, rfl, s0.seq h, k _ _ walk_enum fun H' s => s.seq h⟩)
  · exact .inr (hv _ ⟨a, xs, rfl, same_tup s0 h, k _ _ walk_enumT fun H' s => same_tup s h⟩)
end LP

/-! defs that raise: a call of one of several by a subscript; what is raised where nothing is held -/
namespace LX
open PySem PySem.Spec PyProof.Rows L2
/-- defs in a list, each with its promise -/
inductive HeldX (P : Program) (w : World) (K : PySem.W.Frag) (mg : Str → Option Value) (base : Heap) (CX : CXT) (k : Nat) : List (Addr × Sp) → Prop
  | nil : HeldX P w K mg base CX k []
  | cons {f : Addr} {fd : FuncData} {ps : List Str} {sp : Sp} {r : List (Addr × Sp)} (F : FnOk P w K mg base CX k f fd ps sp) (hk : PySem.W.keepIn K (.ref f) = true) (hb : Binds K fd ps []) (t : HeldX P w K mg base CX k r) : HeldX P w K mg base CX k ((f, sp) :: r)
theorem HeldX.at {P : Program} {w : World} {K : PySem.W.Frag} {mg : Str → Option Value} {base : Heap} {CX : CXT} {k : Nat} {L : List (Addr × Sp)} (h : HeldX P w K mg base CX k L) : ∀ {j : Nat} {f : Addr} {sp : Sp}, L[j]? = some (f, sp) → ∃ (fd : FuncData) (ps : List Str), FnOk P w K mg base CX k f fd ps sp ∧ PySem.W.keepIn K (.ref f) = true ∧ Binds K fd ps [] := by
  induction h with
  | nil => intro j f sp e; simp at e
  | cons F hk hb t ih =>
    intro j f sp e
    cases j with
    | zero => cases e; exact ⟨_, _, F, hk, hb⟩
    | succ j => exact ih e
def kCE (L : List (Addr × Sp)) (E : L2.St → XK) (t : TA) (σ : L2.St) (Q : VK) : VK := fun v H1 => ∃ (j : Nat) (f : Addr) (sp : Sp), L[j]? = some (f, sp) ∧ v = .ref f ∧ t σ H1 fun vs H2 => sp vs H2 Q (E σ)
def tCallE (tf : TE) (L : List (Addr × Sp)) (E : L2.St → XK) (t : TA) : TE := fun σ H Q => tf σ H (kCE L E t σ Q)
theorem pe_callE {X : Cx} {CX : CXT} {k : Nat} {L : List (Addr × Sp)} {E : L2.St → XK} {o i : Expr} {p pos : Pos} {e : Expr} {es : List Expr} {tf : TE} {t : TA} (A : HeldX X.prog X.w X.K X.mg X.base CX k L) (hf : PE X (.Subscript o i p) tf) (hr : Room k X.A) (hx : ∀ σ, PassesAt CX X σ (E σ)) (ha : PA X (e :: es) t)
    (he : starEach (e :: es) X.env = (false, eval e X.env) :: starEach es X.env := by rfl) (hpl : (backTo pos (starEach es X.env)).any (·.1) = false := by rfl) : PE X (.Call (.Subscript o i p) (e :: es) [] pos) (tCallE tf L E t) := by
  refine ⟨fun pins s σ H Q I h => ?_⟩
  show wpAny _ _ (eval (.Subscript o i p) X.env >>= fun f => callWith pos f [] (backTo pos (starEach (e :: es) X.env)) (backToKw pos (keywordEach [] X.env))) _ _ _
  refine wpAny_bind (thn (hf.run pins s σ H _ I h) fun u s1 hh => ?_)
  obtain ⟨v, H1, I1, r1, j, f, sp, hj, ev, ht⟩ := hh
  subst ev
  cases r1
  obtain ⟨fd, ps, F, hk, hb⟩ := A.at hj
  refine PySem.W.callWith_K (h₀ := X.base) I.ok.mod.kin hk (thn (ha.run pos pins s1 σ _ _ I1 ht) fun us s2 hh => ?_) he hpl
  obtain ⟨vs, H2, I2, r, q⟩ := hh
  exact ⟨I2.kIn, run_fnS F hr hb (hx σ) I2 r q⟩
/-- an error of the class at S is what 'except C' names -/
theorem exm_mk {K : PySem.W.Frag} {S C : Addr} (h1 : PySem.W.subIn K (.ref C) (.type "BaseException") = some true) (h2 : PySem.W.isClsIn K C = true) (h3 : PySem.W.typeIn K (.ref C) = some (.type "type")) {b : Bool} (h4 : PySem.W.subIn K (.ref S) (.ref C) = some b) :
    PySem.W.exmOne K (.ref S) (.ref C) = some b := by
  have e1 : (PySem.W.subIn K (.ref C) (.type "BaseException") == some true) = true := by rw [h1] <;> rfl
  have e2 : ((PySem.W.clsIn K C).isSome && PySem.W.typeIn K (.ref C) == some (.type "type")) = true := by
    have h2' : (PySem.W.clsIn K C).isSome = true := h2
    rw [h2', h3] <;> rfl
  show (if (PySem.W.subIn K (.ref C) (.type "BaseException") == some true) = true then (if ((PySem.W.clsIn K C).isSome && PySem.W.typeIn K (.ref C) == some (.type "type")) = true then PySem.W.subIn K (.ref S) (.ref C) else none) else none) = some b
  rw [if_pos e1, if_pos e2]
  exact h4
/-- what is true of an own error class that holds nothing: C, its name in the module, its maker -/
structure ErrC (K : PySem.W.Frag) (C : Addr) : Prop where
  x : PySem.W.excIn K C [.type "ValueError", .type "Exception", .type "BaseException", .type "object"] "ValueError.__new__" = true
  k : PySem.W.keepIn K (.ref C) = true
  b : PySem.W.subIn K (.ref C) (.type "BaseException") = some true
  t : PySem.W.typeIn K (.ref C) = some (.type "type")
theorem ErrC.r {X : Cx} {C : Addr} (e : ErrC X.K C) : Raises X (.ref C) := raises_own e.b e.t
end LX
namespace LS
open PySem PySem.Spec PyProof.Rows L2 LX
section
variable {σ : L2.St} {H : Hp} {Q : VK} {D : Ends} {K : PySem.W.Frag}
theorem tcalle {tf : TE} {L : List (Addr × Sp)} {E : L2.St → XK} {t : TA} (h : tf σ H (kCE L E t σ Q)) : tCallE tf L E t σ H Q := h
theorem k_ce {L : List (Addr × Sp)} {E : L2.St → XK} {t : TA} {j : Nat} {f : Addr} {sp : Sp} (e : L[j]? = some (f, sp)) (q : t σ H fun vs H2 => sp vs H2 Q (E σ)) : kCE L E t σ Q (.ref f) H := ⟨j, f, sp, e, rfl, q⟩
theorem tcalls {sp : Sp} {E : L2.St → XK} {t : TA} (h : t σ H fun vs H1 => sp vs H1 Q (E σ)) : tCallS sp E t σ H Q := h
theorem w_yes {c cls : Value} {ts : Addr → Value → Option Addr → TS} {W : WX} {d : Option Addr} (h : PySem.W.exmOne K cls c = some true) (q : ∀ a, H a = none → ts a cls d D σ H) : wOnly K c ts W D cls d σ H := ⟨true, h, fun _ a na => q a na, fun z => nomatch z⟩
end
end LS

/-! zip of three, each a list or a tuple -/
namespace LX
open PySem PySem.Spec PyProof.Rows L2 LT LP
def SqB (K : PySem.W.Frag) (t : Bool) (H : Hp) (a : Addr) (xs : List V) : Prop := match t with | true => SqT K H a xs | false => SqL K H a xs
def ItB (t : Bool) (h : Heap) (it a : Addr) (i : Nat) : Prop := match t with | true => h.IsTupleIter it a i | false => h.IsListIter it a i
def HasB (t : Bool) (h : Heap) (a : Addr) (items : Array Value) : Prop := match t with | true => h.IsTuple a items | false => h.IsList a items
def itO (t : Bool) (a : Addr) : Obj := match t with | true => { cls := .type "tuple_iterator", data := .fields #[.ref a, .int 0 0] } | false => { cls := .type "list_iterator", data := .fields #[.ref a, .int 0 0] }
theorem drawsB {prog : Program} {w : World} {A : Around} (hh : A.handled = none) (t : Bool) (it a : Addr) (hne : a ≠ it) (items : Array Value) :
    Draws prog w A it [it, a] items.size (fun i v => items[i]? = some v) (fun i h => ItB t h it a i ∧ HasB t h a items) := by
  cases t
  · exact Draws.list hh it a hne items
  · exact Draws.tuple hh it a hne items
theorem beginsB (t : Bool) (a : Addr) (items : Array Value) : Begins (.ref a) (itO t a) fun h => HasB t h a items := by
  cases t
  · exact begins_list a items
  · exact begins_tuple a items
theorem itB_0 {t : Bool} {h : Heap} {it a : Addr} (g : h.get? it = some (itO t a)) : ItB t h it a 0 := by
  cases t
  · exact ⟨_, g, rfl, rfl⟩
  · exact ⟨_, g, rfl, rfl⟩
theorem itB_ex {t : Bool} {h : Heap} {it a : Addr} {i : Nat} (g : ItB t h it a i) : ∃ o, h.get? it = some o ∧ ∃ fs, o.data = .fields fs := by
  cases t
  · obtain ⟨o, e, _, d⟩ := g; exact ⟨o, e, _, d⟩
  · obtain ⟨o, e, _, d⟩ := g; exact ⟨o, e, _, d⟩
theorem itB_at {t : Bool} {h h' : Heap} {it a : Addr} {i : Nat} (g : ItB t h it a i) (k : ∀ o, h.get? it = some o → h'.get? it = some o) : ItB t h' it a i := by
  cases t
  · exact Heap.IsListIter.at g k
  · exact Heap.IsTupleIter.at g k
section
variable {X : Cx} {pins : List (Addr × Obj)} {σ : L2.St} {H : Hp} {s : Shared}
theorem invB (I : Inv X pins σ H s) {t : Bool} {a : Addr} {xs : List V} (q : SqB X.K t H a xs) : ∃ its, Vals xs its ∧ HasB t s.heap a its.toArray ∧ a < s.heap.objs.size := by
  cases t
  · obtain ⟨its, rv, p, _⟩ := I.list q
    exact ⟨its, rv, p.isList, p.lt⟩
  · obtain ⟨its, rv, p, _⟩ := I.tuple q
    exact ⟨its, rv, p, let ⟨_, g, _⟩ := p; Heap.lt_size g⟩
theorem injB (I : Inv X pins σ H s) {t : Bool} {a : Addr} {xs ys : List V} (q : SqB X.K t H a xs) (r : SqB X.K t H a ys) : xs = ys := by
  cases t
  · exact I.list_inj q r
  · exact I.tuple_inj q r
end

def ItzB (K : PySem.W.Frag) (t1 t2 t3 : Bool) (a b c : Addr) : It :=
  ⟨fun i H => ∃ (xs ys zs : List V) (x y z : V), SqB K t1 H a xs ∧ SqB K t2 H b ys ∧ SqB K t3 H c zs ∧ xs[i]? = some x ∧ ys[i]? = some y ∧ zs[i]? = some z,
    fun i H v H' => ∃ T x y z, v = .ref T ∧ H T = none ∧ H' = upd H T (.tup [x, y, z]) ∧ (∀ xs, SqB K t1 H a xs → xs[i]? = some x) ∧ (∀ ys, SqB K t2 H b ys → ys[i]? = some y) ∧ ∀ zs, SqB K t3 H c zs → zs[i]? = some z,
    fun i H => ∃ xs ys zs : List V, SqB K t1 H a xs ∧ SqB K t2 H b ys ∧ SqB K t3 H c zs ∧ xs.length = i ∧ ys.length = i ∧ zs.length = i⟩
theorem turn_zip3 {P : Program} {w : World} {K : PySem.W.Frag} {elts : List Expr} {kk : Nat} {tpos : Pos} {t1 t2 t3 : Bool} {a b c z TI TO i1 i2 i3 : Addr} (D : ZipSep3 z TI TO i1 i2 i3 [i1, a] [i2, b] [i3, c]) (m1 : a ≠ i1) (m2 : b ≠ i2) (m3 : c ≠ i3) :
    Turn P w K (.Tuple elts kk tpos) (ItzB K t1 t2 t3 a b c) [z, TI, TO, i1, i2, i3] z (fun i h => IsZip h z TI TO .none ∧ IsTupOf3 h TI (.ref i1) (.ref i2) (.ref i3) ∧ (∃ x y u, IsTupOf3 h TO x y u) ∧ ItB t1 h i1 a i ∧ ItB t2 h i2 b i ∧ ItB t3 h i3 c i) where
  mem := List.mem_cons_self
  obj := fun i h ⟨hz, hTI, ⟨x, y, u, hTO⟩, s1, s2, s3⟩ c hc => by
    obtain ⟨o1, e1, f1, d1⟩ := itB_ex s1
    obtain ⟨o2, e2, f2, d2⟩ := itB_ex s2
    obtain ⟨o3, e3, f3, d3⟩ := itB_ex s3
    simp only [List.mem_cons, List.not_mem_nil, or_false] at hc
    rcases hc with rfl | rfl | rfl | rfl | rfl | rfl
    · exact ⟨_, hz, fun v q => by cases q⟩
    · exact ⟨_, hTI, fun v q => by cases q⟩
    · exact ⟨_, hTO, fun v q => by cases q⟩
    · exact ⟨o1, e1, fun v q => by rw [d1] at q; cases q⟩
    · exact ⟨o2, e2, fun v q => by rw [d2] at q; cases q⟩
    · exact ⟨o3, e3, fun v q => by rw [d3] at q; cases q⟩
  keep := fun i h h' ⟨hz, hTI, ⟨x, y, u, hTO⟩, h1, h2, h3⟩ k =>
    ⟨k z (by simp) _ hz, k TI (by simp) _ hTI, ⟨x, y, u, k TO (by simp) _ hTO⟩, itB_at h1 fun o q => k i1 (by simp) o q, itB_at h2 fun o q => k i2 (by simp) o q, itB_at h3 fun o q => k i3 (by simp) o q⟩
  item := by
    intro X hP hw hK hc i pins s σ H E I hf ⟨hz, hTI, ⟨x0, y0, u0, hTO⟩, h1, h2, h3⟩ ⟨xs, ys, zs, x, y, u, qx, qy, qz, hx, hy, hu⟩
    subst hP hw hK
    obtain ⟨its, rv, p, _⟩ := invB I qx
    obtain ⟨its2, rv2, p2, _⟩ := invB I qy
    obtain ⟨its3, rv3, p3, _⟩ := invB I qz
    obtain ⟨v, hv, ru⟩ := rv.get hx
    obtain ⟨v2, hv2, ru2⟩ := rv2.get hy
    obtain ⟨v3, hv3, ru3⟩ := rv3.get hu
    have li : i < its.toArray.size := by have := (List.getElem?_eq_some_iff.mp hv).1; simpa using this
    have li2 : i < its2.toArray.size := by have := (List.getElem?_eq_some_iff.mp hv2).1; simpa using this
    have li3 : i < its3.toArray.size := by have := (List.getElem?_eq_some_iff.mp hv3).1; simpa using this
    have hh : X.A.in1.handled = none := I.ok.hd hc
    have ltz : z < s.heap.objs.size := Heap.lt_size hz
    refine wpAny_pyNext_zipD3_item D (drawsB hh t1 i1 a m1 its.toArray) (drawsB hh t2 i2 b m2 its2.toArray) (drawsB hh t3 i3 c m3 its3.toArray) hz hTI hTO ⟨h1, p⟩ ⟨h2, p2⟩ ⟨h3, p3⟩ li li2 li3 fun w1 w2 w3 h5 tk y1 y2 y3 z3 TO3 st1 st2 st3 new sz kept => ?_
    have ev1 : w1 = v := by
      have q : its.toArray[i]? = some v := by simpa using hv
      rw [q] at y1; exact (Option.some.inj y1).symm
    have ev2 : w2 = v2 := by
      have q : its2.toArray[i]? = some v2 := by simpa using hv2
      rw [q] at y2; exact (Option.some.inj y2).symm
    have ev3 : w3 = v3 := by
      have q : its3.toArray[i]? = some v3 := by simpa using hv3
      rw [q] at y3; exact (Option.some.inj y3).symm
    subst ev1 ev2 ev3
    refine ⟨_, rfl, wpAny_letOwnedTupleGo_zip (s := { s with heap := h5, toks := tk }) z3 fun h4 z4 sb => ?_⟩
    have new4 := (sb.2 _ (Nat.ne_of_gt ltz)).trans new
    have ob : ObjOk X.prog X.w (upd H s.heap.objs.size (.tup [x, y, u])) h4 s.heap.objs.size (.tup [x, y, u]) :=
      ⟨by show 3 ≤ sizeLine; decide, [w1, w2, w3], .cons ru (.cons ru2 (.cons ru3 .nil)), ⟨_, new4, rfl, _, rfl⟩⟩
    have J : Inv X pins σ (upd H s.heap.objs.size (.tup [x, y, u])) { s with heap := h4, toks := tk } :=
      I.turnedNew (ch := [z, TI, TO, i1, i2, i3]) (fun c o nb q => (sb.2 c fun e => nb (by simp [e])).trans (kept c o (fun e => nb (by simp [e])) (fun e => nb (by simp [e])) (fun e => nb (by simp [e])) (fun e => nb (by simp [e])) (fun e => nb (by simp [e])) q)) hf (Nat.le_refl _) ob
    refine ⟨.ref s.heap.objs.size, _, J, rfl, ⟨_, x, y, u, rfl, I.hok.fresh (Nat.le_refl _), rfl, fun l hl => by rw [injB I hl qx]; exact hx, fun l hl => by rw [injB I hl qy]; exact hy, fun l hl => by rw [injB I hl qz]; exact hu⟩, ⟨z4, ?_, ⟨w1, w2, w3, ?_⟩, ?_, ?_, ?_⟩, fun c hm => ?_⟩
    · exact (sb.2 _ D.TIz).trans (kept _ _ D.TIz D.TITO D.TIi1 D.TIi2 D.TIi3 hTI)
    · exact (sb.2 _ D.TOz).trans TO3
    · exact itB_at st1.1 fun o q => (sb.2 _ D.zi1.symm).trans q
    · exact itB_at st2.1 fun o q => (sb.2 _ D.zi2.symm).trans q
    · exact itB_at st3.1 fun o q => (sb.2 _ D.zi3.symm).trans q
    · have lt : c < s.heap.objs.size := by
        have hm2 := hm
        obtain ⟨o1, e1, _⟩ := itB_ex h1
        obtain ⟨o2, e2, _⟩ := itB_ex h2
        obtain ⟨o3, e3, _⟩ := itB_ex h3
        simp only [List.mem_cons, List.not_mem_nil, or_false] at hm2
        rcases hm2 with rfl | rfl | rfl | rfl | rfl | rfl
        · exact ltz
        · exact Heap.lt_size hTI
        · exact Heap.lt_size hTO
        · exact Heap.lt_size e1
        · exact Heap.lt_size e2
        · exact Heap.lt_size e3
      rw [upd_ne (Nat.ne_of_lt lt)]
      exact (hf c hm).1
  done := by
    intro X hP hw hK hc i pins s σ H E I hf ⟨hz, hTI, ⟨x0, y0, u0, hTO⟩, h1, h2, h3⟩ ⟨xs, ys, zs, qx, qy, qz, e1, e2, e3⟩
    subst hP hw hK
    obtain ⟨its, rv, p, _⟩ := invB I qx
    obtain ⟨its2, rv2, p2, _⟩ := invB I qy
    obtain ⟨its3, rv3, p3, _⟩ := invB I qz
    have n1 : i = its.toArray.size := by rw [List.size_toArray, ← rv.length]; exact e1.symm
    have n2 : i = its2.toArray.size := by rw [List.size_toArray, ← rv2.length]; exact e2.symm
    have n3 : i = its3.toArray.size := by rw [List.size_toArray, ← rv3.length]; exact e3.symm
    have hh : X.A.in1.handled = none := I.ok.hd hc
    exact wpAny_pyNext_zipD3_end D (drawsB hh t1 i1 a m1 its.toArray) (drawsB hh t2 i2 b m2 its2.toArray) (drawsB hh t3 i3 c m3 its3.toArray) hz hTI hTO ⟨h1, p⟩ ⟨h2, p2⟩ ⟨h3, p3⟩ (Nat.le_of_eq n1) (Nat.le_of_eq n2) (Nat.le_of_eq n3) (.inl n1) fun h5 tk kept =>
      ⟨rfl, I.turnedL (ch := [z, TI, TO, i1, i2, i3]) (fun c o nb q => kept c o (fun e => nb (by simp [e])) (fun e => nb (by simp [e])) (fun e => nb (by simp [e])) (fun e => nb (by simp [e])) (fun e => nb (by simp [e])) q) hf⟩
  self := fun A i s Q E st h => wpAny_pyIter_zip st.1 h
theorem vals3 {x y z : V} {us : List Value} (r : Vals [x, y, z] us) : ∃ u v w', us = [u, v, w'] ∧ RelV x u ∧ RelV y v ∧ RelV z w' := by
  cases r with
  | cons r1 r2 =>
    obtain ⟨v, w', rfl, a, b⟩ := vals2 r2
    exact ⟨_, _, _, rfl, r1, a, b⟩
def iZip3 (K : PySem.W.Frag) (ta : TA) : TI := fun σ H R => ta σ H fun vs H1 => ∃ t1 t2 t3 a b c xs ys zs, vs = [.ref a, .ref b, .ref c] ∧ SqB K t1 H1 a xs ∧ SqB K t2 H1 b ys ∧ SqB K t3 H1 c zs ∧ R (ItzB K t1 t2 t3 a b c) H1
theorem pi_zip3 {X : Cx} {e e2 e3 : Expr} {ta : TA} {p pos tpos : Pos} {elts : List Expr} {kk : Nat} (hg : Gl X "zip") (hm : X.mg "zip" = none) (ha : PA X [e, e2, e3] ta)
    (hs : starEach [e, e2, e3] X.env = (false, eval e X.env) :: starEach [e2, e3] X.env := by rfl) (hpl : (backTo pos (starEach [e2, e3] X.env)).any (·.1) = false := by rfl) :
    PI X (.Tuple elts kk tpos) (.Call (.Name "zip" p) [e, e2, e3] [] pos) (iZip3 X.K ta) := by
  constructor
  intro pins s σ H R I want
  refine Call_ (ld_blt I hg hm PyProof.Rows.boot_zip (PyProof.Rows.callWith_type1 (thn (ha.run pos pins s σ H _ I want) ?_) hs hpl))
  rintro us s1 ⟨vs, H1, J, rel, t1, t2, t3, a, b, c, xs, ys, zs, rfl, qx, qy, qz, q⟩
  obtain ⟨u1, u2, u3, rfl, r1, r2, r3⟩ := vals3 rel
  cases r1
  cases r2
  cases r3
  obtain ⟨its, rv, p1, la⟩ := invB J qx
  obtain ⟨its2, rv2, p2, lb⟩ := invB J qy
  obtain ⟨its3, rv3, p3, lc⟩ := invB J qz
  refine zip_begins3 (beginsB t1 a its.toArray) (beginsB t2 b its2.toArray) (beginsB t3 c its3.toArray) p1 p2 p3 fun h' hz hTI hTO g1 g2 g3 sz keep => wpAny_pyIter_zip hz ?_
  have J2 : Inv X pins σ H1 { s1 with heap := h' } := J.kept (t' := s1.toks) keep
  have one : ∀ {a : Addr}, a < s1.heap.objs.size → ∀ x ∈ [a], x < s1.heap.objs.size := fun h x hx => by rw [List.mem_singleton.mp hx]; exact h
  refine ⟨s1.heap.objs.size + 5, [s1.heap.objs.size + 5, s1.heap.objs.size + 3, s1.heap.objs.size + 4, s1.heap.objs.size, s1.heap.objs.size + 1, s1.heap.objs.size + 2], _, _, H1, rfl, J2,
    turn_zip3 (t1 := t1) (t2 := t2) (t3 := t3) (zip_sep3 (one la) (one lb) (one lc)) (Nat.ne_of_lt la) (Nat.ne_of_lt (Nat.lt_succ_of_lt lb)) (Nat.ne_of_lt (Nat.lt_succ_of_lt (Nat.lt_succ_of_lt lc))),
    ⟨hz, hTI, ⟨_, _, _, hTO⟩, itB_0 g1, itB_0 g2, itB_0 g3⟩, fun c hc => ?_, q⟩
  have le : s1.heap.objs.size ≤ c := by
    simp only [List.mem_cons, List.not_mem_nil, or_false] at hc
    rcases hc with rfl | rfl | rfl | rfl | rfl | rfl <;> first | exact Nat.le_add_right _ _ | exact Nat.le_refl _
  exact J.fpOk le (J.hok.fresh le)
def YTrip (xs ys zs : Nat → Option V) : Nat → Hp → V → Hp → Prop := fun i H v H' => ∃ T x y z, v = .ref T ∧ H T = none ∧ H' = upd H T (.tup [x, y, z]) ∧ xs i = some x ∧ ys i = some y ∧ zs i = some z
theorem walk_zip3 {K : PySem.W.Frag} {t1 t2 t3 : Bool} {a b c : Addr} {xs ys zs : List V} (h2 : xs.length = ys.length) (h3 : xs.length = zs.length) :
    Walk (ItzB K t1 t2 t3 a b c) xs.length (fun H => SqB K t1 H a xs ∧ SqB K t2 H b ys ∧ SqB K t3 H c zs) (YTrip (fun i => xs[i]?) (fun i => ys[i]?) fun i => zs[i]?) := by
  refine ⟨fun i _ hi q => ⟨xs, ys, zs, xs[i], ys[i]'(by omega), zs[i]'(by omega), q.1, q.2.1, q.2.2, by simp [hi], by simp [show i < ys.length by omega], by simp [show i < zs.length by omega]⟩, fun _ q => ⟨xs, ys, zs, q.1, q.2.1, q.2.2, rfl, h2.symm, h3.symm⟩, fun i H v H' _ q y => ?_⟩
  obtain ⟨T, x, y2, z, e1, e2, e3, e4, e5, e6⟩ := y
  exact ⟨T, x, y2, z, e1, e2, e3, e4 xs q.1, e5 ys q.2.1, e6 zs q.2.2⟩
theorem sqB_same {K : PySem.W.Frag} {t : Bool} {H H' : Hp} {a : Addr} {xs : List V} (s : Same H H') (h : SqB K t H a xs) : SqB K t H' a xs := by
  cases t
  · exact s.seq h
  · exact same_tup s h
theorem sqB_E {K : PySem.W.Frag} {H : Hp} {a : Addr} {xs : List V} (h : SqE K H a xs) : ∃ t, SqB K t H a xs := h.elim (fun h => ⟨false, h⟩) fun h => ⟨true, h⟩
/-- one def, either of two promises -/
theorem fn_or {P : Program} {w : World} {K : PySem.W.Frag} {mg : Str → Option Value} {base : Heap} {CX : CXT} {k : Nat} {f : Addr} {fd : FuncData} {ps : List Str} {sp sp' : Sp} (F : FnOk P w K mg base CX k f fd ps sp) (G : FnOk P w K mg base CX k f fd ps sp') :
    FnOk P w K mg base CX k f fd ps (fun vs H Q E => sp vs H Q E ∨ sp' vs H Q E) :=
  ⟨fun vs H Q E q => q.elim (F.len vs H Q E) (G.len vs H Q E), fun A outer s H args us vs Q E hr he hb hv hs => hs.elim (F.run A outer s H args us vs Q E hr he hb hv) (G.run A outer s H args us vs Q E hr he hb hv)⟩
end LX

/-! dressed data; values of any kind -/
namespace LP
open PySem L2 LT LG LX LS
def mkD (t : Bool) (l : List PyData) : PyData := match t with | true => .tuple l | false => .list l
theorem mk_dp {K : PySem.W.Frag} {t : Bool} {H : Hp} {p : Addr} {vs : List V} {ds : List PyData} (h : LX.SqB K t H p vs) (a : DpAll K H vs ds) : Dp K H (.ref p) (mkD t ds) := by
  cases t
  · exact .lst h a
  · exact .tup h a
theorem mk_sm {t : Bool} {k w : Nat} {l : List PyData} (h : ∀ d ∈ l, LG.Sm d k w) : LG.Sm (mkD t l) (k + 1) ((w + 1) * l.length) := by
  cases t
  · exact LG.Sm.list h
  · exact LG.Sm.tup h
theorem sqB_f {K : PySem.W.Frag} {t : Bool} {H H' : Hp} {b p : Addr} {vs : List V} (f : Fr H H' b) (h : LX.SqB K t H p vs) (n : p ≠ b) : LX.SqB K t H' p vs := by
  cases t
  · exact LS.fr_seq f h n
  · exact LS.fr_tup f h n
theorem sqE_B {K : PySem.W.Frag} {t : Bool} {H : Hp} {p : Addr} {vs : List V} (h : LX.SqB K t H p vs) : SqE K H p vs := by
  cases t
  · exact .inl h
  · exact .inr h
theorem sm_iD {t : Bool} {ns : List Int} (h : ∀ x ∈ ns, x.natAbs < 10 ^ 31) (hl : ns.length ≤ 200) : LG.Sm (mkD t (ns.map PyData.int)) 1 24400 := by
  have := mk_sm (t := t) (k := 0) (w := 121) (l := ns.map PyData.int) (fun d hd => by obtain ⟨i, hi, rfl⟩ := List.mem_map.mp hd; exact LG.Sm.int (h i hi))
  rw [List.length_map] at this
  exact this.mono (Nat.le_refl _) (by omega)
/-! ## kinds of values -/
theorem tyx_s {K : PySem.W.Frag} {H H' : Hp} (s : Same H H') {x : V} {t : Value} (h : TyX K H x t) : TyX K H' x t := by
  cases h with
  | base h =>
    refine .base ?_
    cases h with
    | non => exact .non
    | bl x => exact .bl x
    | int i => exact .int i
    | str x => exact .str x
    | flt x => exact .flt x
    | lst e => exact .lst (s _ _ e)
    | frz e => exact .frz (s _ _ e)
    | tup e => exact .tup (s _ _ e)
    | dK e => exact .dK (s _ _ e)
    | dT e => exact .dT (s _ _ e)
    | ins e a b c d f => exact .ins (s _ _ e) a b c d f
  | byt b => exact .byt b
  | set e => exact .set (s _ _ e)
  | kList e c => exact .kList e c
  | kTuple e c => exact .kTuple e c
  | kDict e c => exact .kDict e c
  | fTuple e => exact .fTuple (s _ _ e)
  | fDict e => exact .fDict (s _ _ e)
/-- x is a number of one of c things, or not: b tells it -/
def Kd (K : PySem.W.Frag) (H : Hp) (x : V) (c : Int) (b : Bool) : Prop := (∃ i : Int, x = .int i ∧ b = decide (0 ≤ i ∧ i < c)) ∨ (b = false ∧ (TyX K H x (.type "bool") ∨ ∃ t : String, kitB t "int" = some false ∧ TyX K H x (.type t)))
theorem kd_s {K : PySem.W.Frag} {H H' : Hp} (s : Same H H') {x : V} {c : Int} {b : Bool} (h : Kd K H x c b) : Kd K H' x c b := by
  rcases h with h | ⟨h1, h | ⟨t, h2, h3⟩⟩
  · exact .inl h
  · exact .inr ⟨h1, .inl (tyx_s s h)⟩
  · exact .inr ⟨h1, .inr ⟨t, h2, tyx_s s h3⟩⟩
theorem kd_i {K : PySem.W.Frag} {H : Hp} {i c : Int} : Kd K H (.int i) c (decide (0 ≤ i ∧ i < c)) := .inl ⟨i, rfl, rfl⟩
theorem kd_no {K : PySem.W.Frag} {H : Hp} {i c : Int} (h : ¬ (0 ≤ i ∧ i < c)) : Kd K H (.int i) c false := .inl ⟨i, rfl, (decide_eq_false h).symm⟩
theorem kd_b {K : PySem.W.Frag} {H : Hp} {x : Bool} {c : Int} : Kd K H (.bl x) c false := .inr ⟨rfl, .inl (.base (.bl x))⟩
theorem kd_s' {K : PySem.W.Frag} {H : Hp} {x : Str} {c : Int} : Kd K H (.str x) c false := .inr ⟨rfl, .inr ⟨"str", by decide +kernel, .base (.str x)⟩⟩
theorem kd_n {K : PySem.W.Frag} {H : Hp} {c : Int} : Kd K H .non c false := .inr ⟨rfl, .inr ⟨"NoneType", by decide +kernel, .base .non⟩⟩
theorem kd_l {K : PySem.W.Frag} {H : Hp} {a : Addr} {xs : List V} {c : Int} (h : H a = some (.lst xs)) : Kd K H (.ref a) c false := .inr ⟨rfl, .inr ⟨"list", by decide +kernel, .base (.lst h)⟩⟩
theorem kd_t {K : PySem.W.Frag} {H : Hp} {a : Addr} {xs : List V} {c : Int} (h : H a = some (.tup xs)) : Kd K H (.ref a) c false := .inr ⟨rfl, .inr ⟨"tuple", by decide +kernel, .base (.tup h)⟩⟩
theorem kd_d {K : PySem.W.Frag} {H : Hp} {a : Addr} {kvs : List (Key × V)} {c : Int} (h : H a = some (.dK kvs)) : Kd K H (.ref a) c false := .inr ⟨rfl, .inr ⟨"dict", by decide +kernel, .base (.dK h)⟩⟩
/-- no list and no tuple -/
def NoLs (K : PySem.W.Frag) (H : Hp) (x : V) : Prop := ∃ t : String, kitB t "list" = some false ∧ kitB t "tuple" = some false ∧ TyX K H x (.type t)
theorem nols_s {K : PySem.W.Frag} {H H' : Hp} (s : Same H H') {x : V} (h : NoLs K H x) : NoLs K H' x := by
  obtain ⟨t, a, b, c⟩ := h
  exact ⟨t, a, b, tyx_s s c⟩
theorem nols_i {K : PySem.W.Frag} {H : Hp} {i : Int} : NoLs K H (.int i) := ⟨"int", by decide +kernel, by decide +kernel, .base (.int i)⟩
theorem nols_b {K : PySem.W.Frag} {H : Hp} {i : Bool} : NoLs K H (.bl i) := ⟨"bool", by decide +kernel, by decide +kernel, .base (.bl i)⟩
theorem nols_s' {K : PySem.W.Frag} {H : Hp} {i : Str} : NoLs K H (.str i) := ⟨"str", by decide +kernel, by decide +kernel, .base (.str i)⟩
theorem nols_n {K : PySem.W.Frag} {H : Hp} : NoLs K H .non := ⟨"NoneType", by decide +kernel, by decide +kernel, .base .non⟩
theorem nols_d {K : PySem.W.Frag} {H : Hp} {a : Addr} {kvs : List (Key × V)} (h : H a = some (.dK kvs)) : NoLs K H (.ref a) := ⟨"dict", by decide +kernel, by decide +kernel, .base (.dK h)⟩
theorem isiT_no {K : PySem.W.Frag} {H : Hp} {Q : VK} {x : V} {p : Addr} (n : NoLs K H x) (h : H p = some (.tup [.ty "list", .ty "tuple"])) (q : Q (.bl false) H) : rIsiT K [x, .ref p] H Q := by
  obtain ⟨t, a, b, c⟩ := n
  exact ⟨x, p, _, .type t, [.type "list", .type "tuple"], false, rfl, h, .cons (.ty _) (.cons (.ty _) .nil), c, kit_no t a b, q⟩
section
variable (K : PySem.W.Frag)
def sp_is_wholeV : Sp := fun vs H Q _ => ∃ (x : V) (b : Bool), vs = [x] ∧ ((b = true ∧ ∃ i, x = .int i) ∨ (b = false ∧ (TyX K H x (.type "bool") ∨ ∃ t : String, kitB t "int" = some false ∧ TyX K H x (.type t)))) ∧ Q (.bl b) H
def sp_is_listedV : Sp := fun vs H Q _ => ∃ x : V, vs = [x] ∧ NoLs K H x ∧ ∀ H', Same H H' → Q (.bl false) H'
def sp_is_numberV : Sp := fun vs H Q _ => ∃ (x : V) (c : Int) (b : Bool), vs = [x, .int c] ∧ Kd K H x c b ∧ Q (.bl b) H
end
end LP
namespace LS
open PySem L2 LT LG LP LX
theorem dnew {σ : L2.St} {H : Hp} {Q : VK} (k : ∀ (p : Addr) (H' : Hp), H p = none → Same H H' → H' p = some (.dK []) → Q (.ref p) H') : tDNewK σ H Q := fun p np => k p _ np (same_upd np) upd_same
theorem disp1 {σ : L2.St} {H : Hp} {Q : VK} {x : Str} {v : V} (k : ∀ (p : Addr) (H' : Hp), H p = none → Same H H' → H' p = some (.dK (mergeK [] [(Sum.inr x, v)])) → Q (.ref p) H') : tDisp [(tC (.str x), tC v)] σ H Q := fun p np =>
  ⟨upd_same, [(Sum.inr x, v)], rfl, by simp, k p _ np (fun b o h => by rw [upd_ne (ne_of_none h np), upd_ne (ne_of_none h np)]; exact h) upd_same⟩
theorem rnotn_r {H : Hp} {Q : VK} {p : Addr} (q : Q (.bl true) H) : rNotN (.ref p) .non H Q := ⟨rfl, q⟩
theorem risn_r {H : Hp} {Q : VK} {p : Addr} (q : Q (.bl false) H) : rIsN (.ref p) .non H Q := ⟨rfl, q⟩
theorem rnotb {H : Hp} {Q : VK} {a b : Bool} (q : Q (.bl (!decide (a = b))) H) : rNotB (.bl a) (.bl b) H Q := ⟨a, b, rfl, rfl, q⟩
theorem risb {H : Hp} {Q : VK} {a b : Bool} (q : Q (.bl (decide (a = b))) H) : rIsB (.bl a) (.bl b) H Q := ⟨a, b, rfl, rfl, q⟩
end LS
namespace LP
/-- two lists, item by item -/
theorem fa_app {α β : Type} {R : α → β → Prop} {xs ys : List α} {bs cs : List β} (hl : xs.length = bs.length) (h1 : ∀ (i : Nat) x b, xs[i]? = some x → bs[i]? = some b → R x b) (h2 : ∀ (i : Nat) x b, ys[i]? = some x → cs[i]? = some b → R x b) :
    ∀ (i : Nat) x b, (xs ++ ys)[i]? = some x → (bs ++ cs)[i]? = some b → R x b := fun i x b hx hb => by
  rcases Nat.lt_or_ge i xs.length with q | q
  · rw [List.getElem?_append_left q] at hx
    rw [List.getElem?_append_left (by omega)] at hb
    exact h1 i x b hx hb
  · rw [List.getElem?_append_right q] at hx
    rw [List.getElem?_append_right (by omega), ← hl] at hb
    exact h2 _ x b hx hb
theorem fa_one {α β : Type} {R : α → β → Prop} {x : α} {b : β} (h : R x b) : ∀ (i : Nat) x' b', [x][i]? = some x' → [b][i]? = some b' → R x' b' := fun i x' b' hx hb => by
  cases i with
  | zero => cases hx; cases hb; exact h
  | succ i => simp at hx
open PySem L2 LX in
theorem fa_ints {K : PySem.W.Frag} {H : Hp} {c : Int} (w : List Int) : ∀ (i : Nat) x b, (w.map V.int)[i]? = some x → (w.map fun y => decide (0 ≤ y ∧ y < c))[i]? = some b → Kd K H x c b := fun i x b hx hb => by
  rw [List.getElem?_map] at hx hb
  cases q : w[i]? with
  | none => rw [q] at hx; cases hx
  | some y => rw [q] at hx hb; cases hx; cases hb; exact kd_i
end LP

/-! own errors over ValueError with def __init__(self, f): super().__init__('..'); self.f = f -/
namespace PySem
namespace SupX
open PySem.W PySem.Calls PyProof.Rows PySem.HandSPX
abbrev iA (f : Str) (p1 p2 : Pos) : Arguments := { posonlyargs := [], args := [{ arg := "self", annotation := none, pos := p1 }, { arg := f, annotation := none, pos := p2 }], vararg := none, kwonlyargs := [], kw_defaults := [], kwarg := none, defaults := [] }
abbrev iB (f m : Str) (q1 q2 q3 q4 q5 q6 q7 q8 q9 q0 : Pos) : List Stmt := [.Expr (.Call (.Attribute (.Call (.Name "super" q1) [] [] q2) "__init__" q3) [.Constant (.str m) 0 q4] [] q5) q6, .Assign [.Attribute (.Name "self" q7) f q8] (.Name f q9) q0]
abbrev iS (f : Str) : Scope := { kind := .function, names := [("self", .local), (f, .local), ("__class__", .free), ("super", .globalImplicit)], isGenerator := false, isCoroutine := false, more := [] }
/-- the field's name is none of the others -/
structure FOk (f : Str) : Prop where
  s : (f == ("self" : Str)) = false
  c : (("__class__" : Str) == f) = false
  p : (("super" : Str) == f) = false
  d : (f == ("__debug__" : Str)) = false
  sf : (("self" : Str) == f) = false
  bind : ∀ (qual : Str) (body : List Stmt) (doc pm cdv ct : Value) (an : Option Addr) (cc : Addr) (p1 p2 : Pos) (a b : Value), bindArgs (ksFn "__init__" qual (iA f p1 p2) body (iS f) .none .none doc pm an cdv ct cc) ⟨[a, b], []⟩ = pure [(("self" : Str), a), (f, b)]
/-- what the written part says of the class at C, its field f, its __init__ at fI -/
structure SupTxt (prog : Program) (K : Frag) (C fI : Addr) (f : Str) : Prop where
  cls : ∃ nm q N bs bm sn sub ab col dd k0 k1 k2 k3 k5, K.lookup C = some (excClassObj nm q C N bs bm true sn sub ab col dd k0 k1 k2 k3 k5 "ValueError.__new__") ∧ refsVE bm = true
  sa : findIn K (.ref C) "__setattr__" = some (some (.builtin "object.__setattr__"))
  noF : findIn K (.ref C) f = some none
  iC : findIn K (.ref C) "__init__" = some (some (.ref fI))
  tC : typeIn K (.ref fI) = some (.type "function")
  kC : keepIn K (.ref C) = true
  exC : subIn K (.ref C) (.type "BaseException") = some true
  exV : subIn K (.ref C) (.type "ValueError") = some true
  tyC : typeIn K (.ref C) = some (.type "type")
  mC : mroIn K C (.ref C) = some true
  op : nsIn K cStatics "thirdparty.any" = some none
  sup : ks_superIn K C C "__init__" = some (some (.builtin "ValueError.__init__"))
  fn : ∃ (qual m : Str) (oc : Value) (od : Option Addr) (doc pm : Value) (an : Option Addr) (cda cc : Addr) (ct : Value) (osl : Array (Option Value)) (p1 p2 q1 q2 q3 q4 q5 q6 q7 q8 q9 q0 : Pos) (oc2 : Value) (od2 : Option Addr) (os2 : Array (Option Value)) (oc3 : Value) (od3 : Option Addr) (os3 vs : Array Value) (os3' : Array (Option Value)) (file : Str) (tf : Tok),
    K.lookup fI = some ⟨oc, od, .func (ksFn "__init__" qual (iA f p1 p2) (iB f m q1 q2 q3 q4 q5 q6 q7 q8 q9 q0) (iS f) .none .none doc pm an (.ref cda) ct cc), osl⟩ ∧ codeIn K (.ref cda) qual = true ∧
    K.lookup cc = some ⟨oc2, od2, .cell (some (.ref C)), os2⟩ ∧ K.lookup cda = some ⟨oc3, od3, .fields vs, os3'⟩ ∧ vs[2]? = some (.str file tf) ∧ ((prog.main.file : Str) == file) = true ∧ (prog.main.scope.names.lookup ("super" : Str)).isSome = false ∧ (q3.endLine == q5.line) = true
/-- what __init__ leaves of a fresh exception at x -/
structure InitEnd (f : Str) (h h' : Heap) (x C dx t1 : Addr) (v : Value) : Prop where
  keep : ∀ b o, b ≠ x → h.get? b = some o → h'.get? b = some o
  obj : h'.get? x = some { cls := .ref C, dict := some dx, data := .fields #[.ref t1, .none, .none, .none, .bool false, .none] }
  dbig : h.objs.size ≤ dx
  dne : dx ≠ x
  ns : h'.Ns1 dx (fun y => if y = f then some v else none)
structure OwnMade (f : Str) (h h' : Heap) (e C d : Addr) (v : Value) : Prop where
  keep : ∀ b o, h.get? b = some o → h'.get? b = some o
  new : h.objs.size ≤ e
  obj : ∃ oe vs, h'.get? e = some oe ∧ oe.cls = .ref C ∧ oe.dict = some d ∧ oe.data = .fields vs ∧ vs[1]? = some .none
  dbig : h.objs.size ≤ d
  dne : d ≠ e
  ns : h'.Ns1 d (fun y => if y = f then some v else none)
theorem one_size (v : Value) : [v].length ≤ sizeLine := by
  rw [sizeLine_eq]
  exact (by decide : 1 ≤ 16777216)
section
variable {prog : Program} {w : World} {A : Around} {E : Value → Shared → Prop} {h : Heap} {g : Array GenState} {d : Drawn} {t : Nat} {os : OsState}
theorem super_call {q1 q2 q3 q4 q5 : Pos} {m : Str} {env : Env} (hline : (q3.endLine == q5.line) = true) : eval (.Call (.Attribute (.Call (.Name "super" q1) [] [] q2) "__init__" q3) [.Constant (.str m) 0 q4] [] q5) env = (do
      let ov ← attributeBase (.Call (.Name "super" q1) [] [] q2) "__init__" env (eval (.Call (.Name "super" q1) [] [] q2) env)
      standAt q3.atName
      let (f, first) ← holding [ov] (getMethod ov "__init__" (do return (← importBound (.Call (.Name "super" q1) [] [] q2) env).getD true))
      callWith q5 f first (backTo q5 (starEach [.Constant (.str m) 0 q4] env)) []) := by
  rw [PySem.arm_eval_Call]
  congr 1
  funext ov
  congr 1
  funext _
  unfold methodCall methodCallPos calleeOf
  have e : methodCallForm ([Expr.Constant (Const.str m) 0 q4].length + ([] : List Keyword).length) (backTo q5 (starEach [Expr.Constant (Const.str m) 0 q4] env)) (backToKw q5 (keywordEach [] env)) = true := rfl
  rw [e, hline]
  rfl
/-- the bound ValueError.__init__ called -/
theorem call_mw {u e C N : Addr} {nm q : Str} {bs bm : List Value} {hdct : Bool} {sn : List Str} {sub : List Value} {ab : Bool} {col : Option Bool} {dd : Option Addr} {k0 k1 k2 k3 k5 : Option Value} {t0 : Addr} {rest : List Value} {Q : Value → Shared → Prop}
    (hC : h.get? C = some (excClassObj nm q C N bs bm hdct sn sub ab col dd k0 k1 k2 k3 k5 "ValueError.__new__")) (he : h.get? e = some (excO C t0)) (hu : h.get? u = some (kxs_mw "ValueError.__init__" e)) (hrest : rest.length ≤ sizeLine)
    (hq : ∀ h' t1, (∀ b o, b ≠ e → h.get? b = some o → h'.get? b = some o) → h'.get? e = some (excO C t1) → Q .none ⟨h', g, d, t, os⟩) :
    wpAny (model prog w) A (call (.ref u) rest) Q E ⟨h, g, d, t, os⟩ := by
  refine wpAny_call (codeAny_of_tree ?_)
  show wpAny _ A.in1 (callAny (.ref u) ⟨rest, []⟩) _ _ _
  simp only [callAny]
  refine wpAny_bind (wpAny_load hu ?_)
  simp only [kxs_mw, show (Value.type "method-wrapper" == Value.type "method" || Value.type "method-wrapper" == Value.type "builtin_function_or_method" || Value.type "method-wrapper" == Value.type "method-wrapper") = true by decide, if_true]
  refine KFB.if_so (by decide) ?_
  refine wpAny_bind (check_bound_init PySem.F.excBase_ValueError.toExcCallFacts hC he rfl ?_)
  refine wpAny_bind (wpAny_pure (wpAny_pure ?_))
  refine ⟨plainId_quiet PySem.F.excBase_ValueError.init.plain _, codeAny_builtin PySem.F.excBase_ValueError.initEntry ?_⟩
  exact exc_init_tree (cls := .ref C) (t0 := t0) (dv := none) (c2 := .none) (c3 := .none) (b4 := .bool false) he hrest fun h' k e' _ => hq h' _ k e'
end
section
variable {prog : Program} {w : World} {A : Around} {E : Value → Shared → Prop} {R : Result → Shared → Prop} {s : Shared} {K : Frag} {mg mb : Str → Option Value} {C fI : Addr} {f : Str}
theorem sup_init (T : SupTxt prog K C fI f) (FO : FOk f) {x t0 : Addr} {v : Value} (X : K.In s.heap) (hG : s.heap.Ns mainGlobals mg) (hB : s.heap.Ns builtinsNs mb) (hsup : mg "super" = none) (hmb : mb "super" = some (.type "super"))
    (hlim : s.heap.NoLimit) (hx : s.heap.get? x = some (excO C t0)) (hnx : K.lookup x = none) (hxC : x ≠ C) (hroom : A.depth < recursionLimit)
    (hq : ∀ h' tk dx t1, InitEnd f s.heap h' x C dx t1 v → R (.ok (.ret .none)) { s with heap := h', toks := tk }) :
    codeAny (model prog w) A (.call (.ref fI) ⟨[.ref x, v], []⟩) R s := by
  obtain ⟨qual, m, oc, od, doc, pm, an, cda, cc, ct, osl, p1, p2, q1, q2, q3, q4, q5, q6, q7, q8, q9, q0, oc2, od2, os2, oc3, od3, os3, vs, os3', file, tf, ho, hcd, hcell, hcod, hvs, hfile, htop, hline⟩ := T.fn
  obtain ⟨nm, q, N, bs, bm, sn, sub, ab, col, dd, k0, k1, k2, k3, k5, hC, hbm⟩ := T.cls
  have hcl : clsIn K C = some { name := nm, bases := bs, mro := .ref C :: bm, ns := N, qualname := q, hasDict := true, slotNames := sn, subclasses := sub, abstract := ab, collection := col, hasDel := false } := by unfold clsIn; rw [hC] <;> rfl
  refine ks_codeAny_call_defAt (a := fI) (fd := ksFn "__init__" qual (iA f p1 p2) (iB f m q1 q2 q3 q4 q5 q6 q7 q8 q9 q0) (iS f) .none .none doc pm an (.ref cda) ct cc) (body := iB f m q1 q2 q3 q4 q5 q6 q7 q8 q9 q0) (binds := [("self", .ref x), (f, v)]) hroom (X _ _ ho) rfl hlim (codeRec_of X hcd) rfl ?bind ?cell ?loc (fun h₁ hns k => ?_) rfl rfl rfl
  case bind => exact .of_eq (FO.bind ..)
  case cell =>
    intro y hy
    simp only [List.mem_cons, List.not_mem_nil, or_false] at hy
    rcases hy with rfl | rfl | rfl | rfl <;> intro z <;> cases z
  case loc =>
    intro y hy
    simp only [List.mem_cons, List.not_mem_nil, or_false] at hy
    rcases hy with rfl | rfl
    · rfl
    · show List.lookup f [(("self" : Str), NameKind.local), (f, .local), ("__class__", .free), ("super", .globalImplicit)] = _
      simp [List.lookup, FO.s]
  have X₁ := X.keeps k
  have hx₁ := k _ _ hx
  have hC₁ : h₁.get? C = _ := X₁ _ _ hC
  have hG₁ := hG.keeps k
  have hB₁ := hB.keeps k
  have hself : ([("self", Value.ref x), (f, v)] : List (Str × Value)).reverse.lookup ("self" : Str) = some (.ref x) := by
    show List.lookup ("self" : Str) [(f, v), ("self", Value.ref x)] = _
    simp [List.lookup, FO.sf]
  have hfv : ([("self", Value.ref x), (f, v)] : List (Str × Value)).reverse.lookup f = some v := by
    show List.lookup f [(f, v), ("self", Value.ref x)] = _
    simp [List.lookup]
  have hxL : s.heap.objs.size ≠ x := Nat.ne_of_gt (Heap.lt_size hx)
  obtain ⟨hp, g, dr, tk, os⟩ := s
  dsimp only at *
  refine ks_wpAt_execs_cons (ks_wpAt_Expr_any (ks_wpAt_MethodCall ?_ (super_call hline)))
  refine ks_wpAt_super_base (f := fI) (cc := cda) (of := ⟨oc, od, .func (ksFn "__init__" qual (iA f p1 p2) (iB f m q1 q2 q3 q4 q5 q6 q7 q8 q9 q0) (iS f) .none .none doc pm an (.ref cda) ct cc), osl⟩) ?a1 ?a2 (by decide) rfl (X₁ _ _ ho) rfl rfl rfl (X₁ _ _ hcod) rfl hvs hfile htop ?_
  case a1 =>
    show List.lookup ("super" : Str) [(("self" : Str), NameKind.local), (f, .local), ("__class__", .free), ("super", .globalImplicit)] = _
    simp only [List.lookup, FO.p]
    rfl
  case a2 =>
    show List.lookup ("__class__" : Str) [(("self" : Str), NameKind.local), (f, .local), ("__class__", .free), ("super", .globalImplicit)] = _
    simp only [List.lookup, FO.c]
    rfl
  have ks : ∀ (L a : Addr) (z : Str), (callEnv (ksFn "__init__" qual (iA f p1 p2) (iB f m q1 q2 q3 q4 q5 q6 q7 q8 q9 q0) (iS f) .none .none doc pm an (.ref cda) ct cc) L a).kindOf z = List.lookup z [(("self" : Str), NameKind.local), (f, .local), ("__class__", .free), ("super", .globalImplicit)] := fun _ _ _ => rfl
  refine ks_loadName_global rfl (by rw [ks]; simp only [List.lookup, FO.p]; rfl) (loadGlobal_builtin hG₁ hsup hB₁ hmb ⟨rfl, ?_⟩)
  refine wpAny_loadName_free rfl (by rw [ks]; simp only [List.lookup, FO.c]; rfl) rfl ⟨_, X₁ _ _ hcell, rfl⟩ ?_
  refine wpAny_loadName_local (v := .ref x) rfl (by rw [ks]; rfl) hns hself ?_
  refine ks_wpAny_isType_cls hC₁ rfl ⟨rfl, ?_⟩
  refine ks_wpAny_call_super hC₁ rfl hx₁ rfl (fun c e => by cases e) (looks_mroIn X₁ T.mC) (fun h₂ e₂ k₂ => ?_)
  have X₂ := X₁.keeps k₂
  have hx₂ := k₂ _ _ hx₁
  have hC₂ := k₂ _ _ hC₁
  have hns₂ := hns.keeps k₂
  have L2' : PySem.W.Looks (model prog w) h₂ (typeOf (.ref x)) (.ref C) := fun A Q E s k q => wpAny_typeOf_ref (k _ _ hx₂) q
  refine kxs_getMethod kxs_ValueError (l₀ := .ref C :: bm) (l := bm) (K := K) e₂ (looks_opaque X₂ T.op) ?b1 ?b2 X₂ ?b3 (L2'.andThen (looks_subIn X₂ T.exV)) hxC (by decide) ?_
  case b1 => exact fun A Q E s k q => wpAny_bind ((looks_clsIn X₂ hcl) A _ E s k (wpAny_pure q))
  case b2 => simp [List.dropWhile]
  case b3 =>
    have e := T.sup
    unfold ks_superIn at e
    rw [hcl, Option.bind_some] at e
    have e2 : ((Value.ref C :: bm).dropWhile (· != .ref C)).drop 1 = bm := by simp [List.dropWhile]
    rw [e2] at e
    exact e
  have k₃ : ∀ b o, h₂.get? b = some o → (h₂.push (kxs_mw "ValueError.__init__" x)).get? b = some o := fun b o e => Heap.get?_push_of_some _ e
  have hu : (h₂.push (kxs_mw "ValueError.__init__" x)).get? h₂.objs.size = some (kxs_mw "ValueError.__init__" x) := Heap.get?_push_at rfl rfl
  have X₃ := X₂.keeps k₃
  have hx₃ := k₃ _ _ hx₂
  have hC₃ := k₃ _ _ hC₂
  have hns₃ := hns₂.keeps k₃
  have kk : ∀ b o, hp.get? b = some o → (h₂.push (kxs_mw "ValueError.__init__" x)).get? b = some o := fun b o e => k₃ _ _ (k₂ _ _ (k _ _ e))
  generalize h₂.push (kxs_mw "ValueError.__init__" x) = h₃ at *
  refine kxs_callWith (i := "ValueError.__init__") (x := x) rfl ?_
  show wpAny _ _ (evalArgs _ true [(false, eval (.Constant (.str m) 0 q4) _)] []) _ _ _
  refine evalArgs_plain (spliced_cons (Constant_str (x := m) (k := 0) (pos := q4) (spliced_nil ⟨hu, ?_⟩)))
  show wpAny _ _ (call (.ref h₂.objs.size) [Value.str m _]) _ _ _
  refine call_mw hC₃ hx₃ hu (one_size _) fun h₄ t1 k₄ hx₄ => ?_
  have X₄ : K.In h₄ := fun a o e => k₄ a o (fun z => by rw [z, hnx] at e; cases e) (X₃ a o e)
  have hns₄ := hns₃.at (k₄ _ · hxL)
  refine wpAt_of_wpAny ?_
  refine wpAny_execs_cons (plainObj_wpAny_Assign_Attribute ?_)
  refine wpAny_Name (wpAny_loadName_local (v := v) rfl (by rw [ks]; simp only [List.lookup, FO.s]; simp) hns₄ hfv ?_) FO.d
  refine wpAny_Name (wpAny_loadName_local (v := .ref x) rfl (by rw [ks]; rfl) hns₄ hself ?_) (by decide)
  refine set_plain X₄ (ox := excO C t1) (od := none) ⟨hx₄, rfl, rfl, trivial⟩ T.sa ?_
  refine exc_osa X₄ hx₄ hcl (show refsVE (.ref C :: bm) = true from hbm) rfl T.noF (fun h₅ tk₅ dx k₅ dn dne hx₅ hn₅ => ?_)
  show wpAny _ _ (execs _ _) _ _ _
  have z : hp.objs.size < h₁.objs.size := hns.lt
  have z4 : hp.objs.size < h₄.objs.size := hns₄.lt
  exact wpAny_execs_nil (hq h₅ tk₅ dx t1 ⟨fun b o hb e => k₅ b o hb (k₄ b o hb (kk b o e)), hx₅, Nat.le_of_lt (Nat.lt_of_lt_of_le z4 dn), dne, hn₅⟩)
theorem sup_made (T : SupTxt prog K C fI f) (FO : FOk f) {v : Value} (X : K.In s.heap) (hG : s.heap.Ns mainGlobals mg) (hB : s.heap.Ns builtinsNs mb) (hsup : mg "super" = none) (hmb : mb "super" = some (.type "super"))
    (hlim : s.heap.NoLimit) (hroom : A.depth + 1 < recursionLimit)
    (hq : ∀ h' tk e d, OwnMade f s.heap h' e C d v → R (.ok (.ret (.ref e))) { s with heap := h', toks := tk }) :
    codeAny (model prog w) A (.call (.ref C) ⟨[v], []⟩) R s := by
  obtain ⟨nm, q, N, bs, bm, sn, sub, ab, col, dd, k0, k1, k2, k3, k5, hC, hbm⟩ := T.cls
  obtain ⟨hp, g, dr, tk, os⟩ := s
  have k : ∀ b o, hp.get? b = some o → ((hp.push (kdv_tup [v])).push (excO C hp.objs.size)).get? b = some o := fun b o e => Heap.get?_push_of_some _ (Heap.get?_push_of_some _ e)
  have hget : ((hp.push (kdv_tup [v])).push (excO C hp.objs.size)).get? (hp.objs.size + 1) = some (excO C hp.objs.size) := by heap_get
  have hnx : K.lookup (hp.objs.size + 1) = none := by
    cases e : K.lookup (hp.objs.size + 1) with
    | none => rfl
    | some o =>
      have z : hp.get? (hp.objs.size + 1) = some o := X _ _ e
      exact absurd (Nat.lt_of_succ_lt (Heap.lt_size z)) (Nat.lt_irrefl _)
  have hxC : hp.objs.size + 1 ≠ C := fun z => by rw [z, hC] at hnx; cases hnx
  refine call_own F.excBase_ValueError (fun X => refsVE_contains X bm hbm) (X _ _ hC) (looks_findIn X T.iC) (fun self => bind_fn X self T.tC) (one_size v) ?_
  refine sup_init (s := ⟨(hp.push (kdv_tup [v])).push (excO C hp.objs.size), g, dr, tk, os⟩) T FO (X.keeps k) (hG.keeps k) (hB.keeps k) hsup hmb (hlim.keeps k) hget hnx hxC ?_ fun h' tk' dx t1 ⟨k', hx, dn, dne, hns⟩ => ?_
  · show A.depth + 1 < recursionLimit
    exact hroom
  · have old : ∀ b o, hp.get? b = some o → h'.get? b = some o := fun b o e => k' b o (Nat.ne_of_lt (Nat.lt_succ_of_lt (Heap.lt_size e))) (k b o e)
    have z : hp.objs.size + 1 + 1 ≤ dx := by
      first
        | (simpa only [Heap.size_push] using dn)
        | exact dn
        | (have q := dn; rw [Heap.size_push, Heap.size_push] at q; exact q)
    exact ⟨rfl, hq h' tk' (hp.objs.size + 1) dx ⟨old, Nat.le_succ _, ⟨_, _, hx, rfl, rfl, rfl, rfl⟩, Nat.le_trans (Nat.le_trans (Nat.le_succ _) (Nat.le_succ _)) z, dne, hns⟩⟩
end
end SupX
end PySem
namespace L2
open PySem PySem.Spec PyProof.Rows
theorem relO_one {v : V} {v' : Value} (r : RelV v v') (f g : Str) : RelO (List.lookup g [(f, v)]) (if g = f then some v' else none) := by
  by_cases hw : g = f
  · subst hw
    rw [if_pos rfl]
    have q : List.lookup g [(g, v)] = some v := by simp [List.lookup]
    rw [q]
    exact r
  · rw [if_neg hw]
    have qw : (g == f) = false := by simpa using hw
    have q2 : List.lookup g [(f, v)] = none := by simp [List.lookup, qw]
    rw [q2]
    trivial
section
variable {X : Cx} {C fI : Addr} {f : Str}
/-- C(e) -/
def kMkS (C : Addr) (f : Str) (Q : XK) : List V → Hp → Prop := fun vs H1 => ∃ v, vs = [v] ∧ ∀ d, H1 d = none → Q (.ref C) (some d) (upd H1 d (.xd [(f, v)]))
def tMkS (C : Addr) (f : Str) (ta : TA) : L2.St → Hp → XK → Prop := fun σ H Q => ta σ H (kMkS C f Q)
theorem pmk_sup {a : Expr} {ta : TA} {n : Str} {p pos : Pos} {k : Nat} (T : PySem.SupX.SupTxt X.prog X.K C fI f) (FO : PySem.SupX.FOk f) (gC : X.mg n = some (.ref C)) (hsup : X.mg "super" = none) (hr : Room k X.A) (ha : PA X [a] ta) (hg : Gl X n := by rfl) (hdb : (n == ("__debug__" : Str)) = false := by decide)
    (he : starEach (a :: []) X.env = (false, eval a X.env) :: starEach [] X.env := by rfl) (hpl : (backTo pos (starEach [] X.env)).any (·.1) = false := by rfl) :
    PMk X (.Call (.Name n p) [a] [] pos) (tMkS C f ta) := by
  intro pins s σ H Q I h
  refine wpAny_Call_Name_kw (ld_glob I hg gC ?_ hdb)
  refine PySem.W.callWith_K (h₀ := X.base) I.ok.mod.kin T.kC (thn (ha.run pos pins s σ H _ I h) fun us s1 hh => ?_) he hpl
  obtain ⟨vs, H1, I1, r1, v, ev, q1⟩ := hh
  subst ev
  refine ⟨I1.kIn, ?_⟩
  cases r1 with
  | cons rv rn =>
    rename_i v' us'
    cases rn
    show wpAny _ _ (call (.ref C) [v']) _ _ _
    have hlim := I1.nolimit
    have hG := I1.mod.glob.keeps I1.bk
    obtain ⟨mb, hB0, hBm⟩ := I1.mod.blt
    have hB := hB0.keeps I1.bk
    have hmb : mb "super" = some (.type "super") := (hBm "super" (by decide)).trans (by decide +kernel)
    obtain ⟨hp, g, dr, tk, os⟩ := s1
    refine wpAny_call (PySem.SupX.sup_made T FO I1.kIn hG hB hsup hmb hlim (by have := hr.dp; omega) fun h' tk' e d M => ?_)
    show MkP X pins σ Q (.ref e) ⟨h', g, dr, tk', os⟩
    obtain ⟨oe, fv, hoe, hc, hd, hdat, h1⟩ := M.obj
    have hns := M.ns
    obtain ⟨G', g1, g2⟩ := restrict h' fun b => decide (b ≠ e)
    have gk : ∀ b, b ≠ e → G'.get? b = h'.get? b := fun b hb => g1 b (decide_eq_true hb)
    have ge : G'.get? e = none := g2 e (by simp)
    have old : ∀ b o, hp.get? b = some o → G'.get? b = some o := fun b o q => (gk b (Nat.ne_of_lt (Nat.lt_of_lt_of_le (Heap.lt_size q) M.new))).trans (M.keep b o q)
    have ob : ObjOk X.prog X.w (upd H1 d (.xd [(f, v)])) G' d (.xd [(f, v)]) :=
      ⟨_, hns.at (fun o q => (gk d M.dne).trans q), fun g => relO_one rv f g⟩
    have J : Inv X pins σ (upd H1 d (.xd [(f, v)])) ⟨G', g, dr, tk', os⟩ := I1.laid (t' := tk') old M.dbig ob
    refine ⟨e, oe, fv, ⟨G', g, dr, tk', os⟩, _, .ref C, some d, rfl, J, fun b o q => ?_, ge, hoe, ⟨hc, hd⟩, hdat, h1, ?_, rfl, I1.bare, raises_own T.exC T.tyC, q1 d (I1.hok.fresh M.dbig)⟩
    · by_cases hb : b = e
      · have q' : G'.get? b = some o := q
        rw [hb, ge] at q'; cases q'
      · exact (gk b hb).symm.trans q
    · rw [upd_ne (Ne.symm M.dne)]
      exact I1.hok.fresh M.new
end
end L2
namespace LS
open PySem L2
/-- raise C(e), read -/
theorem mks {C : Addr} {f : Str} {ta : TA} {σ : L2.St} {H : Hp} {Q : XK} (h : ta σ H (kMkS C f Q)) : tMkS C f ta σ H Q := h
theorem k_mks {C : Addr} {f : Str} {v : V} {H : Hp} {Q : XK} (h : ∀ (d : Addr) (H' : Hp), H d = none → Same H H' → H' d = some (.xd [(f, v)]) → Q (.ref C) (some d) H') : kMkS C f Q [v] H := ⟨v, rfl, fun d nd => h d _ nd (LP.same_upd nd) upd_same⟩
def kXf (a : Addr) (cls : Value) (d : Option Addr) (C : Addr) (f : Str) (Q : VK) : VK := fun x H1 => x = .ref a ∧ cls = .ref C ∧ ∃ (dd : Addr) (fs : List (Str × V)) (v : V), d = some dd ∧ H1 dd = some (.xd fs) ∧ fs.lookup f = some v ∧ Q v H1
theorem txf {a C : Addr} {cls : Value} {d : Option Addr} {f : Str} {te : TE} {σ : L2.St} {H : Hp} {Q : VK} (h : te σ H (kXf a cls d C f Q)) : tXf a cls d C f te σ H Q := h
theorem k_xf {a C dd : Addr} {f : Str} {v : V} {fs : List (Str × V)} {H : Hp} {Q : VK} (h : H dd = some (.xd fs)) (e : fs.lookup f = some v) (q : Q v H) : kXf a (.ref C) (some dd) C f Q (.ref a) H := ⟨rfl, rfl, dd, fs, v, rfl, h, e, q⟩
theorem rnotn_rr {H : Hp} {Q : VK} {p : Addr} (q : Q (.bl true) H) : rNotN (.ref p) .non H Q := ⟨rfl, q⟩
theorem risn_rr {H : Hp} {Q : VK} {p : Addr} (q : Q (.bl false) H) : rIsN (.ref p) .non H Q := ⟨rfl, q⟩
end LS

/-! an exception that an except clause has caught is held as a value behind the clause: try: .. except X as n: .., where the suite may keep n elsewhere -/
namespace L2
open PySem PySem.Spec PyProof.Rows
/-- a caught exception at a: its class, its dict -/
def ExH (cls : Value) (d : Option Addr) (a : Addr) : HO := .ext fun h => ∃ (oe : Obj) (vs : Array Value), h.get? a = some oe ∧ Zc cls d oe ∧ oe.data = .fields vs
theorem exH_ok {P : Program} {w : World} {H : Hp} {h : Heap} {a : Addr} {cls : Value} {d : Option Addr} {oe : Obj} {vs : Array Value} (e : h.get? a = some oe) (z : Zc cls d oe) (q : oe.data = .fields vs) : ObjOk P w H h a (ExH cls d a) :=
  ⟨⟨oe, vs, e, z, q⟩, ⟨oe, e⟩, fun _ _ ⟨o, v, q, r⟩ k => ⟨o, v, k o q, r⟩⟩
theorem exH_get {X : Cx} {pins : List (Addr × Obj)} {σ : L2.St} {H : Hp} {s : Shared} {a : Addr} {cls : Value} {d : Option Addr} (I : Inv X pins σ H s) (ha : H a = some (ExH cls d a)) : ∃ (oe : Obj) (vs : Array Value), s.heap.get? a = some oe ∧ Zc cls d oe ∧ oe.data = .fields vs := (I.hok a _ ha).1
/-- what the clause wishes: behind it the exception stands at a -/
def wKeep (K : PySem.W.Frag) (c : Value) (i : Nat) (ts : Addr → Value → Option Addr → TS) (Wout : WX) (D : Ends) : WX := fun cls d σ H =>
  ∃ b, PySem.W.exmOne K cls c = some b ∧ (b = true → ∀ a, H a = none → ts a cls d ⟨fun σ' H' => D.nx (σ'.set i none) (upd H' a (ExH cls d a)), fun _ _ => False, fun _ _ => False, fun _ _ => False⟩ (σ.set i (some (.ref a))) H) ∧ (b = false → Wout cls d σ H)
section
variable {X : Cx} {pins : List (Addr × Obj)} {σ : L2.St} {H : Hp} {s : Shared}
/-- a new object that stands already is told of -/
theorem Inv.keepE {a : Addr} {o : HO} {oe : Obj} {vs : Array Value} (I : Inv X pins σ H s) (n0 : X.s_0.heap.get? a = none) (ha : s.heap.get? a = some oe) (hd : oe.data = .fields vs) (na : H a = none) (nL : a ≠ X.env.locals) (np : ∀ p ∈ X.pn ++ pins, p.1 ≠ a)
    (ob : ObjOk X.prog X.w (upd H a o) s.heap a o) : Inv X pins σ (upd H a o) s := by
  have old : ∀ b u, X.s_0.heap.get? b = some u → b ≠ a := fun b u e z => by rw [z, n0] at e; cases e
  refine ⟨I.ok, I.os, I.bare, ⟨I.base.keep, I.base.slot, fun b u e n hx => ?_, I.base.there, fun b xs e => ?_, fun b u v e => ?_, fun b ps e => ?_⟩, I.loc, I.cell, ?_, fun x c e => ?_, fun p hp => ?_, fun b u e => ?_, I.len⟩
  · rw [upd_ne (old b u e)]; exact I.base.free b u e n hx
  · have q := I.base.tups b xs e
    rw [upd_ne (ne_of_none q na)]; exact q
  · have q := I.base.frzs b u v e
    rw [upd_ne (ne_of_none q na)]; exact q
  · obtain ⟨m, q⟩ := I.base.tbls b ps e
    exact ⟨m, by rw [upd_ne (ne_of_none q na)]; exact q⟩
  · rw [upd_ne nL.symm]; exact I.free
  · obtain ⟨v, o', ho, hdc⟩ := I.cell x c e
    rw [upd_ne (fun z => by subst z; rw [ha] at ho; cases ho; rw [hd] at hdc; cases hdc)]
    exact I.freeC x c e
  · obtain ⟨e1, e2, e3⟩ := I.pin p hp
    exact ⟨e1, by rw [upd_ne (np p hp)]; exact e2, e3⟩
  · by_cases hb : b = a
    · subst hb
      rw [upd_same] at e
      cases e
      exact ob
    · rw [upd_ne hb] at e
      exact (I.hok b u e).stay (fun c v _ q => q) (fun c q => by rw [upd_ne (ne_of_none q na)]; exact q) fun c xs q => by rw [upd_ne (ne_of_none q na)]; exact q
end
section
variable {X : Cx} {x n : Str} {c : Value} {i : Nat} {body suite : List Stmt} {b₀ : Stmt} {np pos pos' : Pos} {tb : WX → TS} {ts : Addr → Value → Option Addr → TS} {Wout : WX}
theorem ps_try_keep (hx : X.ex = []) (hs : X.stack = X.env :: X.outer) (hf : X.env.frame = some X.env.locals) (hN : X.N.Nodup) (hi : X.N[i]? = some n) (hln : X.env.kindOf n = some .local) (hc : Names X x c) (tk : Takes X Wout)
    (hb : ∀ (W : WX) (pn : List (Addr × Obj)) (xe : Value → Shared → Prop), Takes (X.tr pn xe) W → PassesOwn (model X.prog X.w) X.A X.env xe → PSs (X.tr pn xe) body (tb W))
    (hsu : ∀ (a : Addr) (oe : Obj) (cls : Value) (d : Option Addr) (pn : List (Addr × Obj)), Zc cls d oe → (∃ vs, oe.data = .fields vs) → PSs (X.suite a ((a, oe) :: pn)) (b₀ :: suite) (ts a cls d)) :
    PS X (.Try body [.ExceptHandler (some (.Name x np)) (some n) (b₀ :: suite) pos'] [] [] pos) (fun D σ H => tb (wKeep X.K c i ts Wout D) D σ H) := by
  constructor
  intro pins st sg H0 D Iv start
  have OK := Iv.ok
  have FR : X.A.frames = some (X.env :: X.outer) := OK.frames.trans (congrArg some hs)
  apply wpAny_Try_except
  refine wpAny_mono ((hb (wKeep X.K c i ts Wout D) (X.pn ++ pins) (fun e s₁ => wpAny (model X.prog X.w) X.A (noteFrame e X.env) (fun _ s₂ => wpAny (model X.prog X.w) X.A (setFlight e none) (fun _ s₃ => wpAny (model X.prog X.w) X.A (handleBy e X.env [.ExceptHandler (some (.Name x np)) (some n) (b₀ :: suite) pos']) (SP X pins D) X.xe s₃) X.xe s₂) X.xe s₁) ?C PassesOwn.looking).run [] st sg H0 D (Iv.toTry _) start) ?N fun e s1 z => z
  case N =>
    intro fl s1 r
    cases fl with
    | next => obtain ⟨σ1, H1, I1, q1⟩ := r; exact wpAny_execs_nil ⟨σ1, H1, I1.ofTry OK, q1⟩
    | brk => obtain ⟨σ1, H1, I1, q1⟩ := r; exact ⟨σ1, H1, I1.ofTry OK, q1⟩
    | cont => obtain ⟨σ1, H1, I1, q1⟩ := r; exact ⟨σ1, H1, I1.ofTry OK, q1⟩
    | ret u => obtain ⟨v1, σ1, H1, I1, r1, q1⟩ := r; exact ⟨v1, σ1, H1, I1.ofTry OK, r1, q1⟩
  case C =>
    rintro u s2 ⟨a, B, sI, pins2, σ2, H2, cls, d, rfl, I2, old, up, sky, na, os, ag, b, hb1, yes, no⟩
    have J : Inv X pins σ2 H2 sI := I2.ofTry OK
    have sky1 : Sky B (X.env :: X.outer) a (Zc cls d) X.env.locals s2.heap := hs ▸ sky
    show wpAny (model X.prog X.w) X.A (noteFrame (.ref a) X.env) _ _ _
    refine Sky.land Zc.steady FR hf sky1 fun h3 fl up3 => ?_
    have J3 : Inv X pins σ2 H2 { s2 with heap := h3 } := J.landed old fl.1 (up.trans up3) os ag
    obtain ⟨o3, v3, g3, z3, d3⟩ := fl.there
    have noF : a ∉ frs (X.env :: X.outer) := fun hm => by
      obtain ⟨_, o', e', hnf⟩ := fl.2.2.1.mem hm
      rw [g3] at e'
      cases e'
      exact hnf _ d3
    have aL : a ≠ X.env.locals := fun z => noF (List.mem_filterMap.mpr ⟨X.env, List.mem_cons_self, z ▸ hf⟩)
    have aF : a ∉ X.fs := fun hm => by
      obtain ⟨e, he, q⟩ := List.mem_filterMap.mp hm
      exact noF (List.mem_filterMap.mpr ⟨e, List.mem_cons_of_mem _ he, q⟩)
    have notI : ∀ o, sI.heap.get? a = some o → False := fun o e => by
      have := old a o e (by show a ∉ frs X.stack; rw [hs]; exact noF)
      rw [fl.2.1] at this
      cases this
    have n0 : X.s_0.heap.get? a = none := by
      cases e : X.s_0.heap.get? a with
      | none => rfl
      | some o =>
        obtain ⟨o', e'⟩ := J.base.there a o e (by rw [hx]; exact fun z => nomatch z)
        exact (notI o' e').elim
    have npin : ∀ p ∈ X.pn ++ pins, p.1 ≠ a := fun p hp z => notI p.2 (z ▸ (J.pin p hp).1)
    have S3 := J3.suite g3 d3 na aL aF
    refine wpAny_handleBy_cons (codeAny_handlers_test ?_) (fun q => nomatch q)
    have LT : PySem.W.Looks (model X.prog X.w) h3 (typeOf (.ref a)) cls := fun A Q E s k q => wpAny_typeOf_ref (k _ _ g3) (z3.1.symm ▸ q)
    have ask : ∀ {Q : Value → Shared → Prop} {E : Value → Shared → Prop}, Q c { s2 with heap := h3 } → wpAny (model X.prog X.w) (X.A.mark (some (.ref a))) (eval (.Name x np) X.env) Q E { s2 with heap := h3 } := fun {Q E} q => by
      rcases hc with ⟨hg, hdb, hm | ⟨hm, hv, hnn⟩⟩
      · exact ld_glob (X := X.suite a ((a, o3) :: (X.pn ++ pins))) S3 hg hm q hdb
      · exact ld_blt (X := X.suite a ((a, o3) :: (X.pn ++ pins))) S3 hg hm hv q hnn hdb
    refine ask ((PySem.W.exm_one (M := model X.prog X.w) J3.kIn LT hb1).here ?_)
    cases b with
    | false =>
      show wpAny _ X.A (handleBy (.ref a) X.env []) _ _ _
      apply wpAny_handleBy_nil
      have fin : wpAny (model X.prog X.w) X.A (setFlight (.ref a) X.env.frame) (fun _ s4 => wpAny (model X.prog X.w) X.A (throw (.ref a) : Sem Flow) (SP X pins D) X.xe s4) X.xe { s2 with heap := h3 } := by
        rw [hf]
        exact HandSPX.setFlight_upZ fl fun h4 hh4 up4 => wpAny_throw (tk _ _ ⟨a, B, sI, pins, σ2, H2, cls, d, rfl, J, old, (up.trans up3).trans up4, .inr (.inr (hs.symm ▸ hh4)), na, os, ag, no rfl⟩)
      obtain ⟨_, _, _, oe, vs, T, _, _, he, _, hd, h1, _⟩ := id fl
      unfold PySem.passOn
      refine wpAny_bind (wpAny_field he hd h1 ?_)
      rw [if_neg (show ¬ ((Value.ref T == Value.none) = true) by simp)]
      first
        | exact wpAny_bind (wpAny_pure (wpAny_bind fin))
        | exact wpAny_bind fin
    | true =>
      apply codeAny_handlers_suite_as
      refine HandSPX.lands_againZ fl fun h4 fl4 up4 => ?_
      obtain ⟨o4, v4, g4, z4, d4⟩ := fl4.there
      have S4 := (J.landed (s' := { s2 with heap := h4 }) old fl4.1 ((up.trans up3).trans up4) os ag).suite g4 d4 na aL aF
      refine store_ok (X := X.suite a ((a, o4) :: (X.pn ++ pins))) (v := .ref a) S4 hN hi (Or.inl hln) rfl (fun s5 S5 => ?_) (Or.inr hln)
      refine wpAny_mono ((hsu a o4 cls d (X.pn ++ pins) z4 ⟨_, d4⟩).run [] s5 _ H2 _ S5 (yes rfl a na)) (fun f s6 r => ?_) fun _ _ z => z.elim
      cases f with
      | next =>
        obtain ⟨σ6, H6, S6, q6⟩ := r
        refine gone_ok (X := X.suite a ((a, o4) :: (X.pn ++ pins))) S6 hN hi hln fun s7 S7 => ?_
        obtain ⟨e7, n7, _⟩ := S7.pin (a, o4) (List.mem_append_left _ List.mem_cons_self)
        exact ⟨_, _, (S7.unsuite OK).keepE n0 e7 d4 n7 aL npin (exH_ok e7 z4 d4), q6⟩
      | brk => obtain ⟨σ6, H6, S6, q6⟩ := r; exact q6.elim
      | cont => obtain ⟨σ6, H6, S6, q6⟩ := r; exact q6.elim
      | ret u => obtain ⟨w6, σ6, H6, S6, r6, q6⟩ := r; exact q6.elim
end
/-- isinstance(e, c), e an exception that was caught and holds nothing -/
def rIsK (K : PySem.W.Frag) : List V → Hp → VK → Prop := fun xs H Q => ∃ (a D : Addr) (c : V) (cv : Value) (b : Bool), xs = [.ref a, c] ∧ H a = some (ExH (.ref D) none a) ∧ ExcC K D ∧ (∀ u, RelV c u → u = cv) ∧ PySem.W.kitOne K (.ref D) cv = some b ∧ Q (.bl b) H
theorem cr_isK {X : Cx} : CallR X (.builtin "isinstance") (rIsK X.K) := by
  intro pins s σ H xs us Q I r h
  obtain ⟨a, D, c, cv, b, rfl, hH, C, hcv, e, q⟩ := h
  obtain ⟨oe, vs, hget, hz, hv⟩ := exH_get I hH
  cases r with
  | cons rx rr =>
    cases rr with
    | cons rt rr =>
      cases rr
      cases rx
      obtain rfl := hcv _ rt
      have J : PySem.W.InstAt s.heap a oe D none := by
        rcases oe with ⟨oc, od, oda, osl⟩
        obtain ⟨h1, h2⟩ := hz
        dsimp only at h1 h2 hv
        subst h1 h2 hv
        exact ⟨hget, rfl, rfl, trivial⟩
      refine PySem.W.kia_one (PySem.W.handS_kitx_exc C.hg C.hk C.hs C.hd C.ha C.hn C.ht C.hm) I.kIn J e (fun z => nomatch z) fun tk => ?_
      exact ⟨.bl b, H, I.kept (t' := tk) fun _ _ z => z, rfl, q⟩
/-! what is raised within a method or a maker, wished for at the caller's slots -/
section
variable {X : Cx} {CX : CXT} {k : Nat} {f C : Addr} {fd : FuncData} {ps : List Str} {sp : Sp} {E : L2.St → XK} {x m : Str} {p pos apos : Pos} {e o : Expr} {es : List Expr} {ta : TE} {t : TA}
def kMeV (C : Addr) (m : Str) (t : TA) (σ : L2.St) (R : List V → Hp → Prop) : VK := fun y H1 => ∃ a dx fs, y = .ref a ∧ H1 a = some (.ins C dx fs) ∧ fs.lookup m = none ∧ t σ H1 fun vs H2 => R (y :: vs) H2
def tMethV (C : Addr) (m : Str) (sp : Sp) (E : L2.St → XK) (ta : TE) (t : TA) : TE := fun σ H Q => ta σ H (kMeV C m t σ fun vs H2 => sp vs H2 Q (E σ))
theorem pe_methV {pl : Sem Bool} (ho : PE X o ta) (c : Cls X.K C) (hm : Meth X.K C m f) (F : FnOk X.prog X.w X.K X.mg X.base CX k f fd ps sp) (hr : Room k X.A) (hb : Binds X.K fd ps []) (hx : ∀ σ, PassesAt CX X σ (E σ)) (ha : PA X (e :: es) t)
    (hst : starEach (e :: es) X.env = (false, eval e X.env) :: starEach es X.env := by rfl) (hpl : (backTo pos (starEach es X.env)).any (·.1) = false := by rfl)
    (ht : eval (.Call (.Attribute o m apos) (e :: es) [] pos) X.env = (do let ov ← eval o X.env; standAt apos.atName; let (g, first) ← holding [ov] (getMethod ov m pl); callWith pos g first (backTo pos (starEach (e :: es) X.env)) (backToKw pos (keywordEach [] X.env))) := by rfl) :
    PE X (.Call (.Attribute o m apos) (e :: es) [] pos) (tMethV C m sp E ta t) := by
  constructor
  intro pins s σ H Q I h
  refine PySem.W.methodCall_KW (pl := pl) (thn (ho.run pins s σ H _ I h) ?_) ht
  rintro u s1 ⟨y, H1, I1, rx, a, dx, fs, rfl, ea, l, q⟩
  obtain rfl : u = Value.ref a := rx
  refine getmeth_ok I1 ea c hm l (PySem.W.callWith_K (first := [.ref a]) (h₀ := X.base) I.ok.mod.kin hm.kp (thn (ha.run pos pins s1 σ H1 _ I1 q) ?_) hst hpl)
  rintro us s2 ⟨vs, H2, I2, r, q2⟩
  exact ⟨I2.kIn, run_fnS (us := .ref a :: us) (vs := .ref a :: vs) F hr hb (hx σ) I2 (.cons rfl r) q2⟩
theorem pe_methV0 {pl : Sem Bool} (ho : PE X o ta) (c : Cls X.K C) (hm : Meth X.K C m f) (F : FnOk X.prog X.w X.K X.mg X.base CX k f fd ps sp) (hr : Room k X.A) (hb : Binds X.K fd ps []) (hx : ∀ σ, PassesAt CX X σ (E σ))
    (ht : eval (.Call (.Attribute o m apos) [] [] pos) X.env = (do let ov ← eval o X.env; standAt apos.atName; let (g, first) ← holding [ov] (getMethod ov m pl); callWith pos g first (backTo pos (starEach [] X.env)) (backToKw pos (keywordEach [] X.env))) := by rfl) :
    PE X (.Call (.Attribute o m apos) [] [] pos) (tMethV C m sp E ta tNil) := by
  constructor
  intro pins s σ H Q I h
  refine PySem.W.methodCall_KW (pl := pl) (thn (ho.run pins s σ H _ I h) ?_) ht
  rintro u s1 ⟨y, H1, I1, rx, a, dx, fs, rfl, ea, l, q⟩
  obtain rfl : u = Value.ref a := rx
  exact getmeth_ok I1 ea c hm l (PySem.W.callWith_K0 (first := [.ref a]) I1.kIn hm.kp (run_fnS (us := [.ref a]) (vs := [.ref a]) F hr hb (hx σ) I1 (.cons rfl .nil) q))
def kMkV (C : Addr) (sp : Sp) (E : XK) (Q : VK) : List V → Hp → Prop := fun vs H1 => ∀ y dx, H1 y = none → H1 dx = none → dx ≠ y → sp (.ref y :: vs) (upd (upd H1 dx (.own y)) y (.ins C dx [])) (fun v H2 => v = .non ∧ Q (.ref y) H2) E
def tMakeV (C : Addr) (sp : Sp) (E : L2.St → XK) (t : TA) : TE := fun σ H Q => t σ H (kMkV C sp (E σ) Q)
theorem pe_makeV (M : Mk X.K C f) (F : FnOk X.prog X.w X.K X.mg X.base CX k f fd ps sp) (hr : Room (k + 1) X.A) (hg : Gl X x) (hm : X.mg x = some (.ref C)) (hb : Binds X.K fd ps []) (hx : ∀ σ, PassesAt CX X σ (E σ)) (ha : PA X (e :: es) t)
    (hdb : (x == ("__debug__" : Str)) = false := by decide) (hst : starEach (e :: es) X.env = (false, eval e X.env) :: starEach es X.env := by rfl) (hpl : (backTo pos (starEach es X.env)).any (·.1) = false := by rfl) :
    PE X (.Call (.Name x p) (e :: es) [] pos) (tMakeV C sp E t) := by
  constructor
  intro pins s σ H Q I h
  refine wpAny_Call_Name_kw (ld_glob I hg hm ?_ hdb)
  refine PySem.W.callWith_K (h₀ := X.base) I.ok.mod.kin M.kp (thn (ha.run pos pins s σ H _ I h) ?_) hst hpl
  rintro us s1 ⟨vs, H1, I1, r, q⟩
  refine ⟨I1.kIn, ?_⟩
  have z := q (s1.heap.objs.size + 1) s1.heap.objs.size (I1.hok.fresh (Nat.le_succ _)) (I1.hok.fresh (Nat.le_refl _)) (Nat.ne_of_lt (Nat.lt_succ_self _))
  have I2 := Inv.made (C := C) I1
  have r2 : Vals (V.ref (s1.heap.objs.size + 1) :: vs) (Value.ref (s1.heap.objs.size + 1) :: us) := .cons rfl r
  have hl : (Value.ref (s1.heap.objs.size + 1) :: us).length = ps.length := by
    have w := r2.length
    rw [F.len _ _ _ _ z] at w
    exact w.symm
  have bd := hb _ (Value.ref (s1.heap.objs.size + 1) :: us) I2.kIn (by rw [List.append_nil]; exact hl)
  rw [List.append_nil] at bd
  refine wpAny_call (make_map (f := f) I1.kIn M.makes M.init (beq_iff_eq.mp M.fn) (codeAny_mono (F.run _ X.stack _ _ ⟨Value.ref (s1.heap.objs.size + 1) :: us, []⟩ (Value.ref (s1.heap.objs.size + 1) :: us) _ _ (E σ) (hr.make C us []) (I2.env0.make C us []) bd r2 z) ?_))
  intro out s2 back
  cases out with
  | error e => exact hx σ pins _ _ e s2 I2 back
  | ok fl =>
    cases fl with
    | ret u =>
      obtain ⟨v, H3, I3, rv, rfl, q3⟩ := I2.after back
      exact ⟨rv, .ref (s1.heap.objs.size + 1), H3, I3, rfl, q3⟩
    | next => exact back.elim
    | brk => exact back.elim
    | cont => exact back.elim
end
end L2
namespace LS
open PySem L2
section
variable {σ : L2.St} {H : Hp} {Q : VK}
theorem tmethv {C : Addr} {m : Str} {sp : Sp} {E : L2.St → XK} {ta : TE} {t : TA} (h : ta σ H (kMeV C m t σ fun vs H2 => sp vs H2 Q (E σ))) : tMethV C m sp E ta t σ H Q := h
theorem k_mev {a C dx : Addr} {m : Str} {fs : List (Str × V)} {t : TA} {R : List V → Hp → Prop} (h : H a = some (.ins C dx fs)) (e : fs.lookup m = none) (q : t σ H fun vs H2 => R (.ref a :: vs) H2) : kMeV C m t σ R (.ref a) H := ⟨a, dx, fs, rfl, h, e, q⟩
theorem tmakev {C : Addr} {sp : Sp} {E : L2.St → XK} {t : TA} (h : t σ H (kMkV C sp (E σ) Q)) : tMakeV C sp E t σ H Q := h
theorem k_mkv {C : Addr} {sp : Sp} {E : XK} {vs : List V} (k : ∀ (x dx : Addr) (H' : Hp), H x = none → H dx = none → Same H H' → H' x = some (.ins C dx []) → sp (.ref x :: vs) H' (fun v H2 => v = .non ∧ Q (.ref x) H2) E) : kMkV C sp E Q vs H :=
  fun x dx nx nd ne => k x dx _ nx nd (fun a o h => by rw [upd_ne (ne_of_none h nx), upd_ne (ne_of_none h nd)]; exact h) upd_same
theorem risk {K : PySem.W.Frag} {a D : Addr} {c : V} {cv : Value} {b : Bool} (h : H a = some (ExH (.ref D) none a)) (C : ExcC K D) (hc : ∀ u, RelV c u → u = cv) (e : PySem.W.kitOne K (.ref D) cv = some b) (q : Q (.bl b) H) : rIsK K [.ref a, c] H Q := ⟨a, D, c, cv, b, rfl, h, C, hc, e, q⟩
theorem w_keep {K : PySem.W.Frag} {c cls : Value} {i : Nat} {ts : Addr → Value → Option Addr → TS} {W : WX} {D : Ends} {d : Option Addr} (h : PySem.W.exmOne K cls c = some true) (q : ∀ a, H a = none → ts a cls d ⟨fun σ' H' => D.nx (σ'.set i none) (upd H' a (ExH cls d a)), fun _ _ => False, fun _ _ => False, fun _ _ => False⟩ (σ.set i (some (.ref a))) H) : wKeep K c i ts W D cls d σ H := ⟨true, h, fun _ a na => q a na, fun z => nomatch z⟩
end
end LS

/-! a call of a local that holds one of several defs that raise -/
namespace LX
open PySem PySem.Spec PyProof.Rows L2
def tCallRX (i : Nat) (L : List (Addr × Sp)) (E : XK) (t : TA) : TE := fun σ H Q => ∃ (j : Nat) (f : Addr) (sp : Sp), L[j]? = some (f, sp) ∧ σ[i]? = some (some (.ref f)) ∧ t σ H fun vs H1 => sp vs H1 Q E
theorem pe_callRX {X : Cx} {CX : CXT} {k i : Nat} {L : List (Addr × Sp)} {E : XK} {x : Str} {p pos : Pos} {e : Expr} {es : List Expr} {t : TA} (A : HeldX X.prog X.w X.K X.mg X.base CX k L) (hr : Room k X.A) (hN : X.N[i]? = some x) (hv : Vis X.env.scope x) (hx : Passes CX X E) (ha : PA X (e :: es) t)
    (hdb : (x == ("__debug__" : Str)) = false := by decide) (hcd : (x == ("__classdict__" : Str)) = false := by decide)
    (he : starEach (e :: es) X.env = (false, eval e X.env) :: starEach es X.env := by rfl) (hpl : (backTo pos (starEach es X.env)).any (·.1) = false := by rfl) : PE X (.Call (.Name x p) (e :: es) [] pos) (tCallRX i L E t) := by
  constructor
  intro pins s σ H Q I h
  obtain ⟨j, f, sp, hj, hs, ht⟩ := h
  obtain ⟨fd, ps, F, hk, hb⟩ := A.at hj
  have z : (fun (vs : List V) (H1 : Hp) => sp (vs ++ []) H1 Q E) = fun vs H1 => sp vs H1 Q E := by
    funext vs H1
    rw [List.append_nil]
  refine (pe_callL (i := i) (f := f) (sp := sp) (dvs := []) (E := E) F hr hN hv hk hb .nil hx ha hdb hcd he hpl).run pins s σ H Q I ⟨hs, ?_⟩
  show t σ H (fun vs H1 => sp (vs ++ []) H1 Q E)
  rw [z]
  exact ht
/-- what raises nothing keeps its promise in any company -/
theorem fn_cx {P : Program} {w : World} {K : PySem.W.Frag} {mg : Str → Option Value} {base : Heap} {CX : CXT} {k : Nat} {f : Addr} {fd : FuncData} {ps : List Str} {sp : Sp} (F : FnOk P w K mg base CX0 k f fd ps sp) : FnOk P w K mg base CX k f fd ps sp :=
  ⟨F.len, fun A out s H ar us vs Q E hr e b r x => codeAny_mono (F.run A out s H ar us vs Q E hr e b r x) fun z s' h => by
    cases z with
    | error u => exact (show False from h).elim
    | ok v => cases v <;> exact h⟩
theorem fn_both {P : Program} {w : World} {K : PySem.W.Frag} {mg : Str → Option Value} {base : Heap} {CX : CXT} {k : Nat} {f : Addr} {fd : FuncData} {ps : List Str} {sp sp' : Sp} (F : FnOk P w K mg base CX k f fd ps sp) (G : FnOk P w K mg base CX k f fd ps sp') :
    FnOk P w K mg base CX k f fd ps (fun vs H Q E => sp vs H Q E ∨ sp' vs H Q E) :=
  ⟨fun vs H Q E h => h.elim (F.len vs H Q E) (G.len vs H Q E), fun A out s H ar us vs Q E hr e b r h => h.elim (F.run A out s H ar us vs Q E hr e b r) (G.run A out s H ar us vs Q E hr e b r)⟩
/-- str(x), x None or an int -/
def rStrO : List V → Hp → VK → Prop := fun xs H Q => (xs = [.non] ∧ Q (.str "None") H) ∨ LS.rStrI xs H Q
theorem call_strO {X : Cx} : CallR X (.type "str") rStrO := by
  intro pins s σ H xs us Q I r h
  rcases h with ⟨rfl, q⟩ | h
  · obtain ⟨u, rfl, ru⟩ := vals1 r
    cases ru
    exact PySem.P.str_of_none ⟨.str _, H, I.tok _, ⟨_, rfl⟩, q⟩
  · exact LS.call_strI pins s σ H xs us Q I r h
end LX

namespace LT
end LT
namespace LG
end LG
namespace LQ
end LQ
namespace LH
end LH
namespace LC
end LC
namespace LX
end LX
namespace LR
end LR
namespace LP
open PySem L2 LT LG LQ LH LC LX
def topS (i : Nat) : Stmt := PySem.Challenge.pw_leftreturn_k55_console_errors.main.body.getD i (.Pass ⟨0, 0, 0, 0⟩)
abbrev s_is_whole : Stmt := topS 23
abbrev s_check_size : Stmt := topS 24
abbrev s_Shelf_init : Stmt := inClass (topS 26) 0
abbrev s_Shelf_can_take : Stmt := inClass (topS 26) 1
abbrev s_Shelf_can_return : Stmt := inClass (topS 26) 2
abbrev s_Shelf_first_gap : Stmt := inClass (topS 26) 3
abbrev s_Shelf_take_from : Stmt := inClass (topS 26) 4
abbrev s_Shelf_put_back : Stmt := inClass (topS 26) 5
abbrev s_Shelf_revert_take : Stmt := inClass (topS 26) 6
abbrev s_Shelf_revert_return : Stmt := inClass (topS 26) 7
abbrev s_LiveShelf_init : Stmt := inClass (topS 28) 1
abbrev s_LiveShelf_take_book : Stmt := inClass (topS 28) 6
abbrev s_LiveShelf_return_book : Stmt := inClass (topS 28) 7
abbrev s_LiveShelf_undo : Stmt := inClass (topS 28) 8
abbrev s_LiveShelf_current_books : Stmt := inClass (topS 28) 9
abbrev s_LiveShelf_current_gaps : Stmt := inClass (topS 28) 10
abbrev s_LiveShelf_current_out : Stmt := inClass (topS 28) 11
abbrev s_LiveShelf_current_schedule : Stmt := inClass (topS 28) 13
abbrev s_numbers_text : Stmt := topS 30
abbrev s_operations_text : Stmt := topS 31
abbrev s_read_number : Stmt := topS 32
abbrev s_text_or_none : Stmt := topS 34
abbrev s_undo_last : Stmt := topS 35
abbrev s_show_books : Stmt := topS 36
abbrev s_show_gaps : Stmt := topS 37
abbrev s_show_out : Stmt := topS 38
abbrev s_show_schedule : Stmt := topS 39
abbrev s_show_size : Stmt := topS 40
abbrev s_read_line : Stmt := topS 42
abbrev s_Console_init : Stmt := inClass (topS 43) 0
abbrev s_Console_execute : Stmt := inClass (topS 43) 1
abbrev s__law_reel : Stmt := topS 45
abbrev s__law_draw : Stmt := topS 46
abbrev s__law_moved : Stmt := topS 47
abbrev s__law_next : Stmt := topS 48
abbrev s__law_kind_of : Stmt := topS 49
abbrev s__law_error : Stmt := topS 50
abbrev s__law_seen : Stmt := topS 51
abbrev s__law_no_lines : Stmt := topS 52
abbrev s_law : Stmt := topS 53
theorem sc_is_whole : FnScope ["value"] ["value"] (defScope s_is_whole) := ⟨rfl, rfl, rfl, by decide +kernel, rfl, by decide +kernel, by decide +kernel⟩
theorem sc_check_size : FnScope ["size"] ["size"] (defScope s_check_size) := ⟨rfl, rfl, rfl, by decide +kernel, rfl, by decide +kernel, by decide +kernel⟩
theorem sc_Shelf_init : FnScope ["self", "size"] ["self", "size"] (defScope s_Shelf_init) := ⟨rfl, rfl, rfl, by decide +kernel, rfl, by decide +kernel, by decide +kernel⟩
theorem sc_Shelf_can_take : FnScope ["self", "place"] ["self", "place"] (defScope s_Shelf_can_take) := ⟨rfl, rfl, rfl, by decide +kernel, rfl, by decide +kernel, by decide +kernel⟩
theorem sc_Shelf_can_return : FnScope ["self", "book"] ["self", "book"] (defScope s_Shelf_can_return) := ⟨rfl, rfl, rfl, by decide +kernel, rfl, by decide +kernel, by decide +kernel⟩
theorem sc_Shelf_first_gap : FnScope ["self"] ["self"] (defScope s_Shelf_first_gap) := ⟨rfl, rfl, rfl, by decide +kernel, rfl, by decide +kernel, by decide +kernel⟩
theorem sc_Shelf_take_from : FnScope ["self", "place", "book"] ["self", "place"] (defScope s_Shelf_take_from) := ⟨rfl, rfl, rfl, by decide +kernel, rfl, by decide +kernel, by decide +kernel⟩
theorem sc_Shelf_put_back : FnScope ["self", "book", "place"] ["self", "book"] (defScope s_Shelf_put_back) := ⟨rfl, rfl, rfl, by decide +kernel, rfl, by decide +kernel, by decide +kernel⟩
theorem sc_Shelf_revert_take : FnScope ["self", "place"] ["self", "place"] (defScope s_Shelf_revert_take) := ⟨rfl, rfl, rfl, by decide +kernel, rfl, by decide +kernel, by decide +kernel⟩
theorem sc_Shelf_revert_return : FnScope ["self", "place", "number"] ["self", "place", "number"] (defScope s_Shelf_revert_return) := ⟨rfl, rfl, rfl, by decide +kernel, rfl, by decide +kernel, by decide +kernel⟩
theorem sc_LiveShelf_init : FnScope ["self", "size"] ["self", "size"] (defScope s_LiveShelf_init) := ⟨rfl, rfl, rfl, by decide +kernel, rfl, by decide +kernel, by decide +kernel⟩
theorem sc_LiveShelf_take_book : FnScope ["self", "place", "number"] ["self", "place"] (defScope s_LiveShelf_take_book) := ⟨rfl, rfl, rfl, by decide +kernel, rfl, by decide +kernel, by decide +kernel⟩
theorem sc_LiveShelf_return_book : FnScope ["self", "book", "number", "place"] ["self", "book"] (defScope s_LiveShelf_return_book) := ⟨rfl, rfl, rfl, by decide +kernel, rfl, by decide +kernel, by decide +kernel⟩
theorem sc_LiveShelf_undo : FnScope ["self", "operation", "place", "number"] ["self"] (defScope s_LiveShelf_undo) := ⟨rfl, rfl, rfl, by decide +kernel, rfl, by decide +kernel, by decide +kernel⟩
theorem sc_LiveShelf_current_books : FnScope ["self"] ["self"] (defScope s_LiveShelf_current_books) := ⟨rfl, rfl, rfl, by decide +kernel, rfl, by decide +kernel, by decide +kernel⟩
theorem sc_LiveShelf_current_gaps : FnScope ["self", "place", "book"] ["self"] (defScope s_LiveShelf_current_gaps) := ⟨rfl, rfl, rfl, by decide +kernel, rfl, by decide +kernel, by decide +kernel⟩
theorem sc_LiveShelf_current_out : FnScope ["self"] ["self"] (defScope s_LiveShelf_current_out) := ⟨rfl, rfl, rfl, by decide +kernel, rfl, by decide +kernel, by decide +kernel⟩
theorem sc_LiveShelf_current_schedule : FnScope ["self", "operation", "_"] ["self"] (defScope s_LiveShelf_current_schedule) := ⟨rfl, rfl, rfl, by decide +kernel, rfl, by decide +kernel, by decide +kernel⟩
theorem sc_numbers_text : FnScope ["numbers", "number"] ["numbers"] (defScope s_numbers_text) := ⟨rfl, rfl, rfl, by decide +kernel, rfl, by decide +kernel, by decide +kernel⟩
theorem sc_operations_text : FnScope ["operations", "word", "number"] ["operations"] (defScope s_operations_text) := ⟨rfl, rfl, rfl, by decide +kernel, rfl, by decide +kernel, by decide +kernel⟩
theorem sc_read_number : FnScope ["text", "number", "digit"] ["text"] (defScope s_read_number) := ⟨rfl, rfl, rfl, by decide +kernel, rfl, by decide +kernel, by decide +kernel⟩
theorem sc_text_or_none : FnScope ["text"] ["text"] (defScope s_text_or_none) := ⟨rfl, rfl, rfl, by decide +kernel, rfl, by decide +kernel, by decide +kernel⟩
theorem sc_undo_last : FnScope ["live"] ["live"] (defScope s_undo_last) := ⟨rfl, rfl, rfl, by decide +kernel, rfl, by decide +kernel, by decide +kernel⟩
theorem sc_show_books : FnScope ["live", "book"] ["live"] (defScope s_show_books) := ⟨rfl, rfl, rfl, by decide +kernel, rfl, by decide +kernel, by decide +kernel⟩
theorem sc_show_gaps : FnScope ["live"] ["live"] (defScope s_show_gaps) := ⟨rfl, rfl, rfl, by decide +kernel, rfl, by decide +kernel, by decide +kernel⟩
theorem sc_show_out : FnScope ["live"] ["live"] (defScope s_show_out) := ⟨rfl, rfl, rfl, by decide +kernel, rfl, by decide +kernel, by decide +kernel⟩
theorem sc_show_schedule : FnScope ["live"] ["live"] (defScope s_show_schedule) := ⟨rfl, rfl, rfl, by decide +kernel, rfl, by decide +kernel, by decide +kernel⟩
theorem sc_show_size : FnScope ["live"] ["live"] (defScope s_show_size) := ⟨rfl, rfl, rfl, by decide +kernel, rfl, by decide +kernel, by decide +kernel⟩
theorem sc_read_line : FnScope ["line", "word", "_", "rest", "number"] ["line"] (defScope s_read_line) := ⟨rfl, rfl, rfl, by decide +kernel, rfl, by decide +kernel, by decide +kernel⟩
theorem sc_Console_init : FnScope ["self", "size"] ["self", "size"] (defScope s_Console_init) := ⟨rfl, rfl, rfl, by decide +kernel, rfl, by decide +kernel, by decide +kernel⟩
theorem sc_Console_execute : FnScope ["self", "line", "word", "number", "answer"] ["self", "line"] (defScope s_Console_execute) := ⟨rfl, rfl, rfl, by decide +kernel, rfl, by decide +kernel, by decide +kernel⟩
theorem sc__law_reel : FnScope ["script", "stir", "cell", "great"] ["script"] (defScope s__law_reel) := ⟨rfl, rfl, rfl, by decide +kernel, rfl, by decide +kernel, by decide +kernel⟩
theorem sc__law_draw : FnScope ["reel", "many", "rest", "extra", "stir"] ["reel", "many"] (defScope s__law_draw) := ⟨rfl, rfl, rfl, by decide +kernel, rfl, by decide +kernel, by decide +kernel⟩
theorem sc__law_moved : FnScope ["model", "kind", "number", "books", "out", "done", "found", "book"] ["model", "kind", "number"] (defScope s__law_moved) := ⟨rfl, rfl, rfl, by decide +kernel, rfl, by decide +kernel, by decide +kernel⟩
theorem sc__law_next : FnScope ["reel", "model", "books", "out", "there", "place", "book"] ["reel", "model"] (defScope s__law_next) := ⟨rfl, rfl, rfl, by decide +kernel, rfl, by decide +kernel, by decide +kernel⟩
theorem sc__law_kind_of : FnScope ["e", "names", "found", "name", "is_one"] ["e"] (defScope s__law_kind_of) := ⟨rfl, rfl, rfl, by decide +kernel, rfl, by decide +kernel, by decide +kernel⟩
theorem sc__law_error : FnScope ["some", "line", "caught", "e"] ["some", "line"] (defScope s__law_error) := ⟨rfl, rfl, rfl, by decide +kernel, rfl, by decide +kernel, by decide +kernel⟩
theorem sc__law_seen : FnScope ["some", "line"] ["some"] (defScope s__law_seen) := ⟨rfl, rfl, rfl, by decide +kernel, rfl, by decide +kernel, by decide +kernel⟩
theorem sc__law_no_lines : FnScope ["found"] [] (defScope s__law_no_lines) := ⟨rfl, rfl, rfl, by decide +kernel, rfl, by decide +kernel, by decide +kernel⟩
theorem sc_law : FnScope ["script", "reel", "k", "size", "many", "some", "model", "step", "kind", "number", "seen", "rows", "place", "book", "line", "due", "found", "sizes"] ["script"] (defScope s_law) := ⟨rfl, rfl, rfl, by decide +kernel, rfl, by decide +kernel, by decide +kernel⟩
structure Env (w : World) (K : PySem.W.Frag) (mg : Str → Option Value) where
  n_len : mg "len" = none
  n_range : mg "range" = none
  n_list : mg "list" = none
  n_int : mg "int" = none
  n_bool : mg "bool" = none
  n_isinstance : mg "isinstance" = none
  n_min : mg "min" = none
  n_enumerate : mg "enumerate" = none
  n_str : mg "str" = none
  n_ValueError : mg "ValueError" = none
  t_MOST_SIZE : Tok
  g_MOST_SIZE : mg "MOST_SIZE" = some (.int 200 t_MOST_SIZE)
  C_InvalidSize : Addr
  g_InvalidSize : mg "InvalidSize" = some (.ref C_InvalidSize)
  e_InvalidSize : LX.ErrC K C_InvalidSize
  C_InvalidPlaces : Addr
  g_InvalidPlaces : mg "InvalidPlaces" = some (.ref C_InvalidPlaces)
  C_InvalidPair : Addr
  g_InvalidPair : mg "InvalidPair" = some (.ref C_InvalidPair)
  C_InvalidPattern : Addr
  g_InvalidPattern : mg "InvalidPattern" = some (.ref C_InvalidPattern)
  C_InvalidNumber : Addr
  g_InvalidNumber : mg "InvalidNumber" = some (.ref C_InvalidNumber)
  C_InvalidFacts : Addr
  g_InvalidFacts : mg "InvalidFacts" = some (.ref C_InvalidFacts)
  C_InvalidOffsets : Addr
  g_InvalidOffsets : mg "InvalidOffsets" = some (.ref C_InvalidOffsets)
  C_InvalidPlace : Addr
  g_InvalidPlace : mg "InvalidPlace" = some (.ref C_InvalidPlace)
  e_InvalidPlace : LX.ErrC K C_InvalidPlace
  C_InvalidBook : Addr
  g_InvalidBook : mg "InvalidBook" = some (.ref C_InvalidBook)
  e_InvalidBook : LX.ErrC K C_InvalidBook
  C_NothingToUndo : Addr
  g_NothingToUndo : mg "NothingToUndo" = some (.ref C_NothingToUndo)
  e_NothingToUndo : LX.ErrC K C_NothingToUndo
  C_InvalidCommand : Addr
  g_InvalidCommand : mg "InvalidCommand" = some (.ref C_InvalidCommand)
  e_InvalidCommand : LX.ErrC K C_InvalidCommand
  C_InvalidSchedule : Addr
  g_InvalidSchedule : mg "InvalidSchedule" = some (.ref C_InvalidSchedule)
  C_Obstructed : Addr
  g_Obstructed : mg "Obstructed" = some (.ref C_Obstructed)
  C_Contradiction : Addr
  g_Contradiction : mg "Contradiction" = some (.ref C_Contradiction)
  C_TooMany : Addr
  g_TooMany : mg "TooMany" = some (.ref C_TooMany)
  C_InvalidText : Addr
  g_InvalidText : mg "InvalidText" = some (.ref C_InvalidText)
  C_InvalidOrder : Addr
  g_InvalidOrder : mg "InvalidOrder" = some (.ref C_InvalidOrder)
  C_InvalidWishes : Addr
  g_InvalidWishes : mg "InvalidWishes" = some (.ref C_InvalidWishes)
  C_ShelfError : Addr
  g_ShelfError : mg "ShelfError" = some (.ref C_ShelfError)
  xk_InvalidSize : L2.ExcC K C_InvalidSize
  ki_InvalidSize_InvalidSize : PySem.W.kitOne K (.ref C_InvalidSize) (.ref C_InvalidSize) = some true
  ki_InvalidSize_InvalidPlaces : PySem.W.kitOne K (.ref C_InvalidSize) (.ref C_InvalidPlaces) = some false
  ki_InvalidSize_InvalidPair : PySem.W.kitOne K (.ref C_InvalidSize) (.ref C_InvalidPair) = some false
  ki_InvalidSize_InvalidPattern : PySem.W.kitOne K (.ref C_InvalidSize) (.ref C_InvalidPattern) = some false
  ki_InvalidSize_InvalidNumber : PySem.W.kitOne K (.ref C_InvalidSize) (.ref C_InvalidNumber) = some false
  ki_InvalidSize_InvalidFacts : PySem.W.kitOne K (.ref C_InvalidSize) (.ref C_InvalidFacts) = some false
  ki_InvalidSize_InvalidOffsets : PySem.W.kitOne K (.ref C_InvalidSize) (.ref C_InvalidOffsets) = some false
  ki_InvalidSize_InvalidPlace : PySem.W.kitOne K (.ref C_InvalidSize) (.ref C_InvalidPlace) = some false
  ki_InvalidSize_InvalidBook : PySem.W.kitOne K (.ref C_InvalidSize) (.ref C_InvalidBook) = some false
  ki_InvalidSize_NothingToUndo : PySem.W.kitOne K (.ref C_InvalidSize) (.ref C_NothingToUndo) = some false
  ki_InvalidSize_InvalidCommand : PySem.W.kitOne K (.ref C_InvalidSize) (.ref C_InvalidCommand) = some false
  ki_InvalidSize_InvalidSchedule : PySem.W.kitOne K (.ref C_InvalidSize) (.ref C_InvalidSchedule) = some false
  ki_InvalidSize_Obstructed : PySem.W.kitOne K (.ref C_InvalidSize) (.ref C_Obstructed) = some false
  ki_InvalidSize_Contradiction : PySem.W.kitOne K (.ref C_InvalidSize) (.ref C_Contradiction) = some false
  ki_InvalidSize_TooMany : PySem.W.kitOne K (.ref C_InvalidSize) (.ref C_TooMany) = some false
  ki_InvalidSize_InvalidText : PySem.W.kitOne K (.ref C_InvalidSize) (.ref C_InvalidText) = some false
  ki_InvalidSize_InvalidOrder : PySem.W.kitOne K (.ref C_InvalidSize) (.ref C_InvalidOrder) = some false
  ki_InvalidSize_InvalidWishes : PySem.W.kitOne K (.ref C_InvalidSize) (.ref C_InvalidWishes) = some false
  ki_InvalidSize_ValueError : PySem.W.kitOne K (.ref C_InvalidSize) (.type "ValueError") = some true
  xk_InvalidPlace : L2.ExcC K C_InvalidPlace
  ki_InvalidPlace_InvalidSize : PySem.W.kitOne K (.ref C_InvalidPlace) (.ref C_InvalidSize) = some false
  ki_InvalidPlace_InvalidPlaces : PySem.W.kitOne K (.ref C_InvalidPlace) (.ref C_InvalidPlaces) = some false
  ki_InvalidPlace_InvalidPair : PySem.W.kitOne K (.ref C_InvalidPlace) (.ref C_InvalidPair) = some false
  ki_InvalidPlace_InvalidPattern : PySem.W.kitOne K (.ref C_InvalidPlace) (.ref C_InvalidPattern) = some false
  ki_InvalidPlace_InvalidNumber : PySem.W.kitOne K (.ref C_InvalidPlace) (.ref C_InvalidNumber) = some false
  ki_InvalidPlace_InvalidFacts : PySem.W.kitOne K (.ref C_InvalidPlace) (.ref C_InvalidFacts) = some false
  ki_InvalidPlace_InvalidOffsets : PySem.W.kitOne K (.ref C_InvalidPlace) (.ref C_InvalidOffsets) = some false
  ki_InvalidPlace_InvalidPlace : PySem.W.kitOne K (.ref C_InvalidPlace) (.ref C_InvalidPlace) = some true
  ki_InvalidPlace_InvalidBook : PySem.W.kitOne K (.ref C_InvalidPlace) (.ref C_InvalidBook) = some false
  ki_InvalidPlace_NothingToUndo : PySem.W.kitOne K (.ref C_InvalidPlace) (.ref C_NothingToUndo) = some false
  ki_InvalidPlace_InvalidCommand : PySem.W.kitOne K (.ref C_InvalidPlace) (.ref C_InvalidCommand) = some false
  ki_InvalidPlace_InvalidSchedule : PySem.W.kitOne K (.ref C_InvalidPlace) (.ref C_InvalidSchedule) = some false
  ki_InvalidPlace_Obstructed : PySem.W.kitOne K (.ref C_InvalidPlace) (.ref C_Obstructed) = some false
  ki_InvalidPlace_Contradiction : PySem.W.kitOne K (.ref C_InvalidPlace) (.ref C_Contradiction) = some false
  ki_InvalidPlace_TooMany : PySem.W.kitOne K (.ref C_InvalidPlace) (.ref C_TooMany) = some false
  ki_InvalidPlace_InvalidText : PySem.W.kitOne K (.ref C_InvalidPlace) (.ref C_InvalidText) = some false
  ki_InvalidPlace_InvalidOrder : PySem.W.kitOne K (.ref C_InvalidPlace) (.ref C_InvalidOrder) = some false
  ki_InvalidPlace_InvalidWishes : PySem.W.kitOne K (.ref C_InvalidPlace) (.ref C_InvalidWishes) = some false
  ki_InvalidPlace_ValueError : PySem.W.kitOne K (.ref C_InvalidPlace) (.type "ValueError") = some true
  xk_InvalidBook : L2.ExcC K C_InvalidBook
  ki_InvalidBook_InvalidSize : PySem.W.kitOne K (.ref C_InvalidBook) (.ref C_InvalidSize) = some false
  ki_InvalidBook_InvalidPlaces : PySem.W.kitOne K (.ref C_InvalidBook) (.ref C_InvalidPlaces) = some false
  ki_InvalidBook_InvalidPair : PySem.W.kitOne K (.ref C_InvalidBook) (.ref C_InvalidPair) = some false
  ki_InvalidBook_InvalidPattern : PySem.W.kitOne K (.ref C_InvalidBook) (.ref C_InvalidPattern) = some false
  ki_InvalidBook_InvalidNumber : PySem.W.kitOne K (.ref C_InvalidBook) (.ref C_InvalidNumber) = some false
  ki_InvalidBook_InvalidFacts : PySem.W.kitOne K (.ref C_InvalidBook) (.ref C_InvalidFacts) = some false
  ki_InvalidBook_InvalidOffsets : PySem.W.kitOne K (.ref C_InvalidBook) (.ref C_InvalidOffsets) = some false
  ki_InvalidBook_InvalidPlace : PySem.W.kitOne K (.ref C_InvalidBook) (.ref C_InvalidPlace) = some false
  ki_InvalidBook_InvalidBook : PySem.W.kitOne K (.ref C_InvalidBook) (.ref C_InvalidBook) = some true
  ki_InvalidBook_NothingToUndo : PySem.W.kitOne K (.ref C_InvalidBook) (.ref C_NothingToUndo) = some false
  ki_InvalidBook_InvalidCommand : PySem.W.kitOne K (.ref C_InvalidBook) (.ref C_InvalidCommand) = some false
  ki_InvalidBook_InvalidSchedule : PySem.W.kitOne K (.ref C_InvalidBook) (.ref C_InvalidSchedule) = some false
  ki_InvalidBook_Obstructed : PySem.W.kitOne K (.ref C_InvalidBook) (.ref C_Obstructed) = some false
  ki_InvalidBook_Contradiction : PySem.W.kitOne K (.ref C_InvalidBook) (.ref C_Contradiction) = some false
  ki_InvalidBook_TooMany : PySem.W.kitOne K (.ref C_InvalidBook) (.ref C_TooMany) = some false
  ki_InvalidBook_InvalidText : PySem.W.kitOne K (.ref C_InvalidBook) (.ref C_InvalidText) = some false
  ki_InvalidBook_InvalidOrder : PySem.W.kitOne K (.ref C_InvalidBook) (.ref C_InvalidOrder) = some false
  ki_InvalidBook_InvalidWishes : PySem.W.kitOne K (.ref C_InvalidBook) (.ref C_InvalidWishes) = some false
  ki_InvalidBook_ValueError : PySem.W.kitOne K (.ref C_InvalidBook) (.type "ValueError") = some true
  xk_NothingToUndo : L2.ExcC K C_NothingToUndo
  ki_NothingToUndo_InvalidSize : PySem.W.kitOne K (.ref C_NothingToUndo) (.ref C_InvalidSize) = some false
  ki_NothingToUndo_InvalidPlaces : PySem.W.kitOne K (.ref C_NothingToUndo) (.ref C_InvalidPlaces) = some false
  ki_NothingToUndo_InvalidPair : PySem.W.kitOne K (.ref C_NothingToUndo) (.ref C_InvalidPair) = some false
  ki_NothingToUndo_InvalidPattern : PySem.W.kitOne K (.ref C_NothingToUndo) (.ref C_InvalidPattern) = some false
  ki_NothingToUndo_InvalidNumber : PySem.W.kitOne K (.ref C_NothingToUndo) (.ref C_InvalidNumber) = some false
  ki_NothingToUndo_InvalidFacts : PySem.W.kitOne K (.ref C_NothingToUndo) (.ref C_InvalidFacts) = some false
  ki_NothingToUndo_InvalidOffsets : PySem.W.kitOne K (.ref C_NothingToUndo) (.ref C_InvalidOffsets) = some false
  ki_NothingToUndo_InvalidPlace : PySem.W.kitOne K (.ref C_NothingToUndo) (.ref C_InvalidPlace) = some false
  ki_NothingToUndo_InvalidBook : PySem.W.kitOne K (.ref C_NothingToUndo) (.ref C_InvalidBook) = some false
  ki_NothingToUndo_NothingToUndo : PySem.W.kitOne K (.ref C_NothingToUndo) (.ref C_NothingToUndo) = some true
  ki_NothingToUndo_InvalidCommand : PySem.W.kitOne K (.ref C_NothingToUndo) (.ref C_InvalidCommand) = some false
  ki_NothingToUndo_InvalidSchedule : PySem.W.kitOne K (.ref C_NothingToUndo) (.ref C_InvalidSchedule) = some false
  ki_NothingToUndo_Obstructed : PySem.W.kitOne K (.ref C_NothingToUndo) (.ref C_Obstructed) = some false
  ki_NothingToUndo_Contradiction : PySem.W.kitOne K (.ref C_NothingToUndo) (.ref C_Contradiction) = some false
  ki_NothingToUndo_TooMany : PySem.W.kitOne K (.ref C_NothingToUndo) (.ref C_TooMany) = some false
  ki_NothingToUndo_InvalidText : PySem.W.kitOne K (.ref C_NothingToUndo) (.ref C_InvalidText) = some false
  ki_NothingToUndo_InvalidOrder : PySem.W.kitOne K (.ref C_NothingToUndo) (.ref C_InvalidOrder) = some false
  ki_NothingToUndo_InvalidWishes : PySem.W.kitOne K (.ref C_NothingToUndo) (.ref C_InvalidWishes) = some false
  ki_NothingToUndo_ValueError : PySem.W.kitOne K (.ref C_NothingToUndo) (.type "ValueError") = some true
  xk_InvalidCommand : L2.ExcC K C_InvalidCommand
  ki_InvalidCommand_InvalidSize : PySem.W.kitOne K (.ref C_InvalidCommand) (.ref C_InvalidSize) = some false
  ki_InvalidCommand_InvalidPlaces : PySem.W.kitOne K (.ref C_InvalidCommand) (.ref C_InvalidPlaces) = some false
  ki_InvalidCommand_InvalidPair : PySem.W.kitOne K (.ref C_InvalidCommand) (.ref C_InvalidPair) = some false
  ki_InvalidCommand_InvalidPattern : PySem.W.kitOne K (.ref C_InvalidCommand) (.ref C_InvalidPattern) = some false
  ki_InvalidCommand_InvalidNumber : PySem.W.kitOne K (.ref C_InvalidCommand) (.ref C_InvalidNumber) = some false
  ki_InvalidCommand_InvalidFacts : PySem.W.kitOne K (.ref C_InvalidCommand) (.ref C_InvalidFacts) = some false
  ki_InvalidCommand_InvalidOffsets : PySem.W.kitOne K (.ref C_InvalidCommand) (.ref C_InvalidOffsets) = some false
  ki_InvalidCommand_InvalidPlace : PySem.W.kitOne K (.ref C_InvalidCommand) (.ref C_InvalidPlace) = some false
  ki_InvalidCommand_InvalidBook : PySem.W.kitOne K (.ref C_InvalidCommand) (.ref C_InvalidBook) = some false
  ki_InvalidCommand_NothingToUndo : PySem.W.kitOne K (.ref C_InvalidCommand) (.ref C_NothingToUndo) = some false
  ki_InvalidCommand_InvalidCommand : PySem.W.kitOne K (.ref C_InvalidCommand) (.ref C_InvalidCommand) = some true
  ki_InvalidCommand_InvalidSchedule : PySem.W.kitOne K (.ref C_InvalidCommand) (.ref C_InvalidSchedule) = some false
  ki_InvalidCommand_Obstructed : PySem.W.kitOne K (.ref C_InvalidCommand) (.ref C_Obstructed) = some false
  ki_InvalidCommand_Contradiction : PySem.W.kitOne K (.ref C_InvalidCommand) (.ref C_Contradiction) = some false
  ki_InvalidCommand_TooMany : PySem.W.kitOne K (.ref C_InvalidCommand) (.ref C_TooMany) = some false
  ki_InvalidCommand_InvalidText : PySem.W.kitOne K (.ref C_InvalidCommand) (.ref C_InvalidText) = some false
  ki_InvalidCommand_InvalidOrder : PySem.W.kitOne K (.ref C_InvalidCommand) (.ref C_InvalidOrder) = some false
  ki_InvalidCommand_InvalidWishes : PySem.W.kitOne K (.ref C_InvalidCommand) (.ref C_InvalidWishes) = some false
  ki_InvalidCommand_ValueError : PySem.W.kitOne K (.ref C_InvalidCommand) (.type "ValueError") = some true
  te_InvalidSize_ShelfError : PySem.W.exmOne K (.ref C_InvalidSize) (.ref C_ShelfError) = some true
  te_InvalidPlace_ShelfError : PySem.W.exmOne K (.ref C_InvalidPlace) (.ref C_ShelfError) = some true
  te_InvalidBook_ShelfError : PySem.W.exmOne K (.ref C_InvalidBook) (.ref C_ShelfError) = some true
  te_NothingToUndo_ShelfError : PySem.W.exmOne K (.ref C_NothingToUndo) (.ref C_ShelfError) = some true
  te_InvalidCommand_ShelfError : PySem.W.exmOne K (.ref C_InvalidCommand) (.ref C_ShelfError) = some true
  C_Shelf : Addr
  g_Shelf : mg "Shelf" = some (.ref C_Shelf)
  cl_Shelf : Cls K C_Shelf
  nA_Shelf_books : NoAttr K C_Shelf "books"
  nA_Shelf_out : NoAttr K C_Shelf "out"
  C_LiveShelf : Addr
  g_LiveShelf : mg "LiveShelf" = some (.ref C_LiveShelf)
  cl_LiveShelf : Cls K C_LiveShelf
  nA_LiveShelf__shelf : NoAttr K C_LiveShelf "_shelf"
  nA_LiveShelf__steps : NoAttr K C_LiveShelf "_steps"
  C_Console : Addr
  g_Console : mg "Console" = some (.ref C_Console)
  cl_Console : Cls K C_Console
  nA_Console__live : NoAttr K C_Console "_live"
  a_is_whole : Addr
  d_is_whole : FuncData
  f_is_whole : Fun K "is_whole" "is_whole" s_is_whole a_is_whole d_is_whole
  b_is_whole : Binds K d_is_whole ["value"] []
  g_is_whole : mg "is_whole" = some (.ref a_is_whole)
  a_check_size : Addr
  d_check_size : FuncData
  f_check_size : Fun K "check_size" "check_size" s_check_size a_check_size d_check_size
  b_check_size : Binds K d_check_size ["size"] []
  g_check_size : mg "check_size" = some (.ref a_check_size)
  a_Shelf_init : Addr
  d_Shelf_init : FuncData
  f_Shelf_init : Fun K "__init__" "Shelf.__init__" s_Shelf_init a_Shelf_init d_Shelf_init
  b_Shelf_init : Binds K d_Shelf_init ["self", "size"] []
  mk_Shelf : Mk K C_Shelf a_Shelf_init
  a_Shelf_can_take : Addr
  d_Shelf_can_take : FuncData
  f_Shelf_can_take : Fun K "can_take" "Shelf.can_take" s_Shelf_can_take a_Shelf_can_take d_Shelf_can_take
  b_Shelf_can_take : Binds K d_Shelf_can_take ["self", "place"] []
  m_Shelf_can_take : Meth K C_Shelf "can_take" a_Shelf_can_take
  a_Shelf_can_return : Addr
  d_Shelf_can_return : FuncData
  f_Shelf_can_return : Fun K "can_return" "Shelf.can_return" s_Shelf_can_return a_Shelf_can_return d_Shelf_can_return
  b_Shelf_can_return : Binds K d_Shelf_can_return ["self", "book"] []
  m_Shelf_can_return : Meth K C_Shelf "can_return" a_Shelf_can_return
  a_Shelf_first_gap : Addr
  d_Shelf_first_gap : FuncData
  f_Shelf_first_gap : Fun K "first_gap" "Shelf.first_gap" s_Shelf_first_gap a_Shelf_first_gap d_Shelf_first_gap
  b_Shelf_first_gap : Binds K d_Shelf_first_gap ["self"] []
  m_Shelf_first_gap : Meth K C_Shelf "first_gap" a_Shelf_first_gap
  a_Shelf_take_from : Addr
  d_Shelf_take_from : FuncData
  f_Shelf_take_from : Fun K "take_from" "Shelf.take_from" s_Shelf_take_from a_Shelf_take_from d_Shelf_take_from
  b_Shelf_take_from : Binds K d_Shelf_take_from ["self", "place"] []
  m_Shelf_take_from : Meth K C_Shelf "take_from" a_Shelf_take_from
  a_Shelf_put_back : Addr
  d_Shelf_put_back : FuncData
  f_Shelf_put_back : Fun K "put_back" "Shelf.put_back" s_Shelf_put_back a_Shelf_put_back d_Shelf_put_back
  b_Shelf_put_back : Binds K d_Shelf_put_back ["self", "book"] []
  m_Shelf_put_back : Meth K C_Shelf "put_back" a_Shelf_put_back
  a_Shelf_revert_take : Addr
  d_Shelf_revert_take : FuncData
  f_Shelf_revert_take : Fun K "revert_take" "Shelf.revert_take" s_Shelf_revert_take a_Shelf_revert_take d_Shelf_revert_take
  b_Shelf_revert_take : Binds K d_Shelf_revert_take ["self", "place"] []
  m_Shelf_revert_take : Meth K C_Shelf "revert_take" a_Shelf_revert_take
  a_Shelf_revert_return : Addr
  d_Shelf_revert_return : FuncData
  f_Shelf_revert_return : Fun K "revert_return" "Shelf.revert_return" s_Shelf_revert_return a_Shelf_revert_return d_Shelf_revert_return
  b_Shelf_revert_return : Binds K d_Shelf_revert_return ["self", "place", "number"] []
  m_Shelf_revert_return : Meth K C_Shelf "revert_return" a_Shelf_revert_return
  a_LiveShelf_init : Addr
  d_LiveShelf_init : FuncData
  f_LiveShelf_init : Fun K "__init__" "LiveShelf.__init__" s_LiveShelf_init a_LiveShelf_init d_LiveShelf_init
  b_LiveShelf_init : Binds K d_LiveShelf_init ["self", "size"] []
  mk_LiveShelf : Mk K C_LiveShelf a_LiveShelf_init
  a_LiveShelf_take_book : Addr
  d_LiveShelf_take_book : FuncData
  f_LiveShelf_take_book : Fun K "take_book" "LiveShelf.take_book" s_LiveShelf_take_book a_LiveShelf_take_book d_LiveShelf_take_book
  b_LiveShelf_take_book : Binds K d_LiveShelf_take_book ["self", "place"] []
  m_LiveShelf_take_book : Meth K C_LiveShelf "take_book" a_LiveShelf_take_book
  a_LiveShelf_return_book : Addr
  d_LiveShelf_return_book : FuncData
  f_LiveShelf_return_book : Fun K "return_book" "LiveShelf.return_book" s_LiveShelf_return_book a_LiveShelf_return_book d_LiveShelf_return_book
  b_LiveShelf_return_book : Binds K d_LiveShelf_return_book ["self", "book"] []
  m_LiveShelf_return_book : Meth K C_LiveShelf "return_book" a_LiveShelf_return_book
  a_LiveShelf_undo : Addr
  d_LiveShelf_undo : FuncData
  f_LiveShelf_undo : Fun K "undo" "LiveShelf.undo" s_LiveShelf_undo a_LiveShelf_undo d_LiveShelf_undo
  b_LiveShelf_undo : Binds K d_LiveShelf_undo ["self"] []
  m_LiveShelf_undo : Meth K C_LiveShelf "undo" a_LiveShelf_undo
  a_LiveShelf_current_books : Addr
  d_LiveShelf_current_books : FuncData
  f_LiveShelf_current_books : Fun K "current_books" "LiveShelf.current_books" s_LiveShelf_current_books a_LiveShelf_current_books d_LiveShelf_current_books
  b_LiveShelf_current_books : Binds K d_LiveShelf_current_books ["self"] []
  m_LiveShelf_current_books : Meth K C_LiveShelf "current_books" a_LiveShelf_current_books
  a_LiveShelf_current_gaps : Addr
  d_LiveShelf_current_gaps : FuncData
  f_LiveShelf_current_gaps : Fun K "current_gaps" "LiveShelf.current_gaps" s_LiveShelf_current_gaps a_LiveShelf_current_gaps d_LiveShelf_current_gaps
  b_LiveShelf_current_gaps : Binds K d_LiveShelf_current_gaps ["self"] []
  m_LiveShelf_current_gaps : Meth K C_LiveShelf "current_gaps" a_LiveShelf_current_gaps
  a_LiveShelf_current_out : Addr
  d_LiveShelf_current_out : FuncData
  f_LiveShelf_current_out : Fun K "current_out" "LiveShelf.current_out" s_LiveShelf_current_out a_LiveShelf_current_out d_LiveShelf_current_out
  b_LiveShelf_current_out : Binds K d_LiveShelf_current_out ["self"] []
  m_LiveShelf_current_out : Meth K C_LiveShelf "current_out" a_LiveShelf_current_out
  a_LiveShelf_current_schedule : Addr
  d_LiveShelf_current_schedule : FuncData
  f_LiveShelf_current_schedule : Fun K "current_schedule" "LiveShelf.current_schedule" s_LiveShelf_current_schedule a_LiveShelf_current_schedule d_LiveShelf_current_schedule
  b_LiveShelf_current_schedule : Binds K d_LiveShelf_current_schedule ["self"] []
  m_LiveShelf_current_schedule : Meth K C_LiveShelf "current_schedule" a_LiveShelf_current_schedule
  a_numbers_text : Addr
  d_numbers_text : FuncData
  f_numbers_text : Fun K "numbers_text" "numbers_text" s_numbers_text a_numbers_text d_numbers_text
  b_numbers_text : Binds K d_numbers_text ["numbers"] []
  g_numbers_text : mg "numbers_text" = some (.ref a_numbers_text)
  a_operations_text : Addr
  d_operations_text : FuncData
  f_operations_text : Fun K "operations_text" "operations_text" s_operations_text a_operations_text d_operations_text
  b_operations_text : Binds K d_operations_text ["operations"] []
  g_operations_text : mg "operations_text" = some (.ref a_operations_text)
  a_read_number : Addr
  d_read_number : FuncData
  f_read_number : Fun K "read_number" "read_number" s_read_number a_read_number d_read_number
  b_read_number : Binds K d_read_number ["text"] []
  g_read_number : mg "read_number" = some (.ref a_read_number)
  a_text_or_none : Addr
  d_text_or_none : FuncData
  f_text_or_none : Fun K "text_or_none" "text_or_none" s_text_or_none a_text_or_none d_text_or_none
  b_text_or_none : Binds K d_text_or_none ["text"] []
  g_text_or_none : mg "text_or_none" = some (.ref a_text_or_none)
  a_undo_last : Addr
  d_undo_last : FuncData
  f_undo_last : Fun K "undo_last" "undo_last" s_undo_last a_undo_last d_undo_last
  b_undo_last : Binds K d_undo_last ["live"] []
  g_undo_last : mg "undo_last" = some (.ref a_undo_last)
  a_show_books : Addr
  d_show_books : FuncData
  f_show_books : Fun K "show_books" "show_books" s_show_books a_show_books d_show_books
  b_show_books : Binds K d_show_books ["live"] []
  g_show_books : mg "show_books" = some (.ref a_show_books)
  a_show_gaps : Addr
  d_show_gaps : FuncData
  f_show_gaps : Fun K "show_gaps" "show_gaps" s_show_gaps a_show_gaps d_show_gaps
  b_show_gaps : Binds K d_show_gaps ["live"] []
  g_show_gaps : mg "show_gaps" = some (.ref a_show_gaps)
  a_show_out : Addr
  d_show_out : FuncData
  f_show_out : Fun K "show_out" "show_out" s_show_out a_show_out d_show_out
  b_show_out : Binds K d_show_out ["live"] []
  g_show_out : mg "show_out" = some (.ref a_show_out)
  a_show_schedule : Addr
  d_show_schedule : FuncData
  f_show_schedule : Fun K "show_schedule" "show_schedule" s_show_schedule a_show_schedule d_show_schedule
  b_show_schedule : Binds K d_show_schedule ["live"] []
  g_show_schedule : mg "show_schedule" = some (.ref a_show_schedule)
  a_show_size : Addr
  d_show_size : FuncData
  f_show_size : Fun K "show_size" "show_size" s_show_size a_show_size d_show_size
  b_show_size : Binds K d_show_size ["live"] []
  g_show_size : mg "show_size" = some (.ref a_show_size)
  a_read_line : Addr
  d_read_line : FuncData
  f_read_line : Fun K "read_line" "read_line" s_read_line a_read_line d_read_line
  b_read_line : Binds K d_read_line ["line"] []
  g_read_line : mg "read_line" = some (.ref a_read_line)
  a_Console_init : Addr
  d_Console_init : FuncData
  f_Console_init : Fun K "__init__" "Console.__init__" s_Console_init a_Console_init d_Console_init
  b_Console_init : Binds K d_Console_init ["self", "size"] []
  mk_Console : Mk K C_Console a_Console_init
  a_Console_execute : Addr
  d_Console_execute : FuncData
  f_Console_execute : Fun K "execute" "Console.execute" s_Console_execute a_Console_execute d_Console_execute
  b_Console_execute : Binds K d_Console_execute ["self", "line"] []
  m_Console_execute : Meth K C_Console "execute" a_Console_execute
  a__law_reel : Addr
  d__law_reel : FuncData
  f__law_reel : Fun K "_law_reel" "_law_reel" s__law_reel a__law_reel d__law_reel
  b__law_reel : Binds K d__law_reel ["script"] []
  g__law_reel : mg "_law_reel" = some (.ref a__law_reel)
  a__law_draw : Addr
  d__law_draw : FuncData
  f__law_draw : Fun K "_law_draw" "_law_draw" s__law_draw a__law_draw d__law_draw
  b__law_draw : Binds K d__law_draw ["reel", "many"] []
  g__law_draw : mg "_law_draw" = some (.ref a__law_draw)
  a__law_moved : Addr
  d__law_moved : FuncData
  f__law_moved : Fun K "_law_moved" "_law_moved" s__law_moved a__law_moved d__law_moved
  b__law_moved : Binds K d__law_moved ["model", "kind", "number"] []
  g__law_moved : mg "_law_moved" = some (.ref a__law_moved)
  a__law_next : Addr
  d__law_next : FuncData
  f__law_next : Fun K "_law_next" "_law_next" s__law_next a__law_next d__law_next
  b__law_next : Binds K d__law_next ["reel", "model"] []
  g__law_next : mg "_law_next" = some (.ref a__law_next)
  a__law_kind_of : Addr
  d__law_kind_of : FuncData
  f__law_kind_of : Fun K "_law_kind_of" "_law_kind_of" s__law_kind_of a__law_kind_of d__law_kind_of
  b__law_kind_of : Binds K d__law_kind_of ["e"] []
  g__law_kind_of : mg "_law_kind_of" = some (.ref a__law_kind_of)
  a__law_error : Addr
  d__law_error : FuncData
  f__law_error : Fun K "_law_error" "_law_error" s__law_error a__law_error d__law_error
  b__law_error : Binds K d__law_error ["some", "line"] []
  g__law_error : mg "_law_error" = some (.ref a__law_error)
  a__law_seen : Addr
  d__law_seen : FuncData
  f__law_seen : Fun K "_law_seen" "_law_seen" s__law_seen a__law_seen d__law_seen
  b__law_seen : Binds K d__law_seen ["some"] []
  g__law_seen : mg "_law_seen" = some (.ref a__law_seen)
  a__law_no_lines : Addr
  d__law_no_lines : FuncData
  f__law_no_lines : Fun K "_law_no_lines" "_law_no_lines" s__law_no_lines a__law_no_lines d__law_no_lines
  b__law_no_lines : Binds K d__law_no_lines [] []
  g__law_no_lines : mg "_law_no_lines" = some (.ref a__law_no_lines)
  a_law : Addr
  d_law : FuncData
  f_law : Fun K "law" "law" s_law a_law d_law
  b_law : Binds K d_law ["script"] []
  g_law : mg "law" = some (.ref a_law)
  x_ANSWERS : Addr
  g_ANSWERS : mg "ANSWERS" = some (.ref x_ANSWERS)
  wd_ANSWERS : LX.WDict K w x_ANSWERS [("undo", .ref a_undo_last), ("books", .ref a_show_books), ("gaps", .ref a_show_gaps), ("out", .ref a_show_out), ("schedule", .ref a_show_schedule), ("size", .ref a_show_size)]
end LP

namespace LP
open PySem L2 LT LG LQ LH LC LX LR
local macro_rules | `(tactic| array_mem_dec) => `(tactic| first
  | assumption
  | ((with_reducible apply LS.hp_s); assumption; array_mem_dec)
  | ((with_reducible apply LS.hp_f); assumption; array_mem_dec; array_mem_dec)
  | ((with_reducible apply LS.hp_t); assumption; array_mem_dec; array_mem_dec)
  | ((with_reducible apply LS.hp_l); assumption; array_mem_dec; array_mem_dec)
  | ((with_reducible apply LS.sq_o); array_mem_dec)
  | ((with_reducible apply LS.sq_s); assumption; array_mem_dec)
  | ((with_reducible apply LS.sq_f); assumption; array_mem_dec; array_mem_dec)
  | ((with_reducible apply LS.sq_t); assumption; array_mem_dec; array_mem_dec)
  | ((with_reducible apply LS.sq_l); assumption; array_mem_dec; array_mem_dec)
  | ((with_reducible apply LS.tu_o); array_mem_dec)
  | ((with_reducible apply LS.tu_s); assumption; array_mem_dec)
  | ((with_reducible apply LS.tu_f); assumption; array_mem_dec; array_mem_dec)
  | ((with_reducible apply LS.tu_t); assumption; array_mem_dec; array_mem_dec)
  | ((with_reducible apply LS.tu_l); assumption; array_mem_dec; array_mem_dec)
  | ((with_reducible apply LS.se_l); array_mem_dec)
  | ((with_reducible apply LS.se_t); array_mem_dec)
  | ((with_reducible apply LS.se_s); assumption; array_mem_dec)
  | ((with_reducible apply LS.se_f); assumption; array_mem_dec; array_mem_dec)
  | ((with_reducible apply LS.se_tt); assumption; array_mem_dec; array_mem_dec)
  | ((with_reducible exact Same.refl _))
  | ((with_reducible apply LS.sm_s); assumption; array_mem_dec)
  | ((with_reducible apply LS.sm_f); assumption; array_mem_dec; array_mem_dec)
  | ((with_reducible exact Fr.refl _ _))
  | ((with_reducible apply LS.fr_b); assumption; array_mem_dec)
  | ((with_reducible apply LS.fr_s); assumption; array_mem_dec)
  | ((with_reducible apply LS.fr_n); assumption; array_mem_dec; array_mem_dec)
  | ((with_reducible apply LS.fr_t); assumption; array_mem_dec)
  | ((with_reducible apply LS.no_s); assumption; array_mem_dec)
  | ((with_reducible apply LS.no_f); assumption; array_mem_dec; array_mem_dec)
  | ((with_reducible apply LS.no_t); assumption; array_mem_dec)
  | ((with_reducible apply LS.no_l); assumption; assumption)
  | ((with_reducible apply Ne.symm); assumption)
  | ((with_reducible apply LS.ne_a); assumption; array_mem_dec)
  | ((with_reducible apply LS.ne_b); assumption; array_mem_dec)
  | ((with_reducible apply LS.ne_ap); assumption)
  | ((with_reducible apply LS.ne_il); assumption; array_mem_dec)
  | ((with_reducible apply LS.ne_li); assumption; array_mem_dec)
  | ((with_reducible apply LS.ne_lt); assumption; assumption)
  | ((with_reducible apply LS.ne_tl); assumption; assumption)
  | ((with_reducible apply LS.ne_rl); assumption; array_mem_dec)
  | ((with_reducible apply LS.rl_t); assumption)
  | ((with_reducible apply LS.rl_s); assumption; array_mem_dec)
  | ((with_reducible apply LS.rl_f); assumption; array_mem_dec; array_mem_dec)
  | ((with_reducible apply LS.rl_l); assumption; array_mem_dec; array_mem_dec)
  | ((with_reducible apply LS.ap_new); assumption; assumption; array_mem_dec)
  | ((with_reducible apply LS.ap_t); assumption; array_mem_dec; array_mem_dec)
  | ((with_reducible apply LS.ap_s); assumption; array_mem_dec; array_mem_dec)
  | ((with_reducible apply LS.ap_f); assumption; array_mem_dec; array_mem_dec; array_mem_dec)
  | ((with_reducible apply LS.ap_l); assumption; array_mem_dec; array_mem_dec; array_mem_dec)
  | (with_reducible apply LS.ni_nil)
  | ((with_reducible apply LS.ni_cons); array_mem_dec; array_mem_dec)
  | (with_reducible apply LS.trk_nil)
  | ((with_reducible apply LS.trk_cons); array_mem_dec; array_mem_dec)
  | (with_reducible apply LS.al_nil)
  | ((with_reducible apply LS.al_cons); array_mem_dec; array_mem_dec)
  | (with_reducible apply LS.mem_hd)
  | ((with_reducible apply LS.mem_tl); array_mem_dec)
  | ((with_reducible apply LS.fl_refl); array_mem_dec)
  | ((with_reducible apply LS.fl_l); assumption; array_mem_dec)
  | ((with_reducible apply LS.fl_lm); assumption; array_mem_dec; array_mem_dec)
  | (with_reducible apply LS.sub_nil)
  | ((with_reducible apply LS.sub_cons); array_mem_dec; array_mem_dec)
  | ((with_reducible apply LS.fl_s); assumption; array_mem_dec)
  | ((with_reducible apply LS.fl_m); assumption; array_mem_dec; array_mem_dec; array_mem_dec)
  | ((with_reducible apply LS.fl_n); assumption; array_mem_dec; array_mem_dec; array_mem_dec)
  | ((with_reducible apply LS.rt_refl); array_mem_dec)
  | ((with_reducible apply LS.rt_t); assumption; array_mem_dec)
  | ((with_reducible apply LS.rt_s); assumption; array_mem_dec)
  | ((with_reducible apply LS.rt_f); assumption; array_mem_dec; array_mem_dec; array_mem_dec)
  | ((with_reducible apply LS.sz); (first | decide | (simp only [List.length_append, List.length_map, List.length_cons, List.length_nil, List.length_replicate]; omega)))
  | ((with_reducible apply LS.szl); (first | decide | (simp only [List.length_append, List.length_map, List.length_cons, List.length_nil, List.length_replicate]; omega))))
local macro_rules | `(tactic| array_get_dec) => `(tactic| first
  | ((with_reducible apply LS.var); exact rfl)
  | (with_reducible apply LS.con)
  | (with_reducible apply LS.op)
  | (with_reducible apply LS.ri0)
  | (with_reducible apply LS.tseq)
  | (with_reducible apply LS.tasg)
  | (with_reducible apply LS.gname)
  | (with_reducible apply LS.tcons)
  | (with_reducible apply LS.tnil)
  | (with_reducible apply LS.tcb)
  | (with_reducible apply LS.tcall)
  | (with_reducible apply LS.ttest)
  | (with_reducible apply LS.k_b)
  | (with_reducible apply LS.tb)
  | (with_reducible apply LS.tifs)
  | (with_reducible apply LS.ift)
  | (with_reducible apply LS.iff_)
  | (with_reducible apply LS.ifnt)
  | (with_reducible apply LS.ifnf)
  | (with_reducible apply LS.tnext)
  | (with_reducible apply LS.tdrop)
  | (with_reducible apply LS.tret)
  | (with_reducible apply LS.tretn)
  | (with_reducible apply LS.un)
  | (with_reducible apply LS.ru)
  | (with_reducible apply LS.tyes)
  | (with_reducible apply LS.tand)
  | (with_reducible apply LS.tor)
  | (with_reducible apply LS.tnot)
  | (with_reducible apply LS.tif)
  | (with_reducible apply LS.tandv)
  | (with_reducible apply LS.k_av)
  | (with_reducible apply LS.torv)
  | (with_reducible apply LS.k_ov)
  | (with_reducible apply LS.tnotv)
  | (with_reducible apply LS.k_nv)
  | (with_reducible apply LS.tchain)
  | (with_reducible apply LS.k_ch)
  | (with_reducible apply LS.req_i)
  | (with_reducible apply LS.rne_i)
  | (with_reducible apply LS.req_s)
  | (with_reducible apply LS.rne_s)
  | (with_reducible apply LS.req_b)
  | (with_reducible apply LS.rne_b)
  | ((with_reducible apply LS.rin_i); array_mem_dec)
  | ((with_reducible apply LS.rni_i); array_mem_dec)
  | ((with_reducible apply LS.rlen_li); array_mem_dec)
  | ((with_reducible apply LS.rlen_ls); array_mem_dec)
  | ((with_reducible apply LS.rlen_l); array_mem_dec)
  | ((with_reducible apply LS.rlen_Ei); array_mem_dec)
  | ((with_reducible apply LS.rlen_E); array_mem_dec)
  | ((with_reducible apply LS.rlen_t); array_mem_dec)
  | ((with_reducible apply LS.rixl); array_mem_dec; exact rfl)
  | ((with_reducible apply LS.rixt); array_mem_dec; exact rfl)
  | (with_reducible apply LS.isi_int_int)
  | (with_reducible apply LS.isi_int_bool)
  | (with_reducible apply LS.isi_int_str)
  | (with_reducible apply LS.isi_str_int)
  | (with_reducible apply LS.isi_str_bool)
  | (with_reducible apply LS.isi_str_str)
  | (with_reducible apply LS.isi_bool_int)
  | (with_reducible apply LS.isi_bool_bool)
  | (with_reducible apply LS.isi_bool_str)
  | (with_reducible apply LS.isi_non_int)
  | (with_reducible apply LS.isi_non_bool)
  | (with_reducible apply LS.isi_non_str)
  | ((with_reducible apply LS.isi_list_int); array_mem_dec)
  | ((with_reducible apply LS.isi_list_bool); array_mem_dec)
  | ((with_reducible apply LS.isi_list_str); array_mem_dec)
  | ((with_reducible apply LS.isi_list_list); array_mem_dec)
  | ((with_reducible apply LS.isi_list_tuple); array_mem_dec)
  | ((with_reducible apply LS.isi_tuple_int); array_mem_dec)
  | ((with_reducible apply LS.isi_tuple_bool); array_mem_dec)
  | ((with_reducible apply LS.isi_tuple_str); array_mem_dec)
  | ((with_reducible apply LS.isi_tuple_list); array_mem_dec)
  | ((with_reducible apply LS.isi_tuple_tuple); array_mem_dec)
  | ((with_reducible apply LS.isiT_i); array_mem_dec)
  | ((with_reducible apply LS.isiT_s); array_mem_dec)
  | ((with_reducible apply LS.isiT_E); array_mem_dec; array_mem_dec)
  | (with_reducible apply LS.tfld)
  | ((with_reducible apply LS.k_fl); array_mem_dec; assumption; assumption; exact rfl)
  | (with_reducible apply LS.tmeth)
  | ((with_reducible apply LS.k_me); array_mem_dec; exact rfl)
  | (with_reducible apply LS.tmake)
  | (with_reducible apply LS.tsfld)
  | (with_reducible apply LS.tprop)
  | ((with_reducible apply LS.k_pr); array_mem_dec)
  | ((with_reducible apply LS.rlen_own); array_mem_dec)
  | (with_reducible apply LS.rabs)
  | (with_reducible apply LS.rmin2)
  | (with_reducible apply LS.rmax2)
  | (with_reducible apply LS.tsl)
  | (with_reducible apply LS.tthen)
  | (with_reducible apply LS.tstep)
  | (with_reducible apply LS.tnop)
  | (with_reducible apply LS.tpart)
  | (with_reducible apply LS.k_part)
  | (with_reducible apply LS.ttup)
  | (with_reducible apply LS.tlst)
  | (with_reducible apply LS.tbm)
  | (with_reducible apply LS.tbm0)
  | ((with_reducible apply LS.ty_l); array_mem_dec)
  | (with_reducible apply LS.tpar)
  | (with_reducible apply LS.tfor)
  | (with_reducible apply LS.tlc)
  | (with_reducible apply LS.ilist)
  | ((with_reducible apply LS.k_il); array_mem_dec)
  | (with_reducible apply LS.itup)
  | ((with_reducible apply LS.k_it); array_mem_dec)
  | (with_reducible apply LS.istr)
  | (with_reducible apply LS.k_is)
  | (with_reducible apply LS.irng1)
  | ((with_reducible apply LS.k_r1n); omega)
  | ((with_reducible apply LS.k_r1); (first | omega | decide); (first | omega | decide))
  | (with_reducible apply LS.irng2)
  | ((with_reducible apply LS.k_r2); (first | omega | decide); (first | omega | decide); (first | omega | decide); (first | omega | decide))
  | (with_reducible apply LS.ienum)
  | ((with_reducible apply LS.k_en); array_mem_dec)
  | (with_reducible apply LS.izip)
  | ((with_reducible apply LS.k_zip); array_mem_dec; array_mem_dec)
  | (with_reducible apply LS.tlstrg)
  | (with_reducible apply LS.trg1)
  | (with_reducible apply LS.k_g1)
  | (with_reducible apply LS.risn_i)
  | (with_reducible apply LS.risn_s)
  | (with_reducible apply LS.risn_n)
  | (with_reducible apply LS.rnotn_i)
  | (with_reducible apply LS.rnotn_n)
  | (with_reducible apply LS.rint_b)
  | (with_reducible apply LS.rint_i)
  | (with_reducible apply LS.tm0)
  | (with_reducible apply LS.tm1)
  | (with_reducible apply LS.is_str)
  | (with_reducible apply LS.ex_s0)
  | (with_reducible apply LS.ex_int_b)
  | (with_reducible apply LS.k_par)
  | (with_reducible apply LS.tpar3)
  | (with_reducible apply LS.k_par3)
  | ((with_reducible apply LS.taug); exact rfl)
  | (with_reducible apply LS.ipi)
  | ((with_reducible apply LS.gtup); array_mem_dec; exact rfl)
  | ((with_reducible apply LS.gunl); array_mem_dec; exact rfl)
  | (with_reducible apply LS.gnil)
  | (with_reducible apply LS.gcons)
  | (with_reducible apply LS.gsub)
  | ((with_reducible apply LS.ri); first | omega | decide | assumption | exact ⟨by decide, by decide, by decide⟩ | exact .inl ⟨by decide, by decide⟩ | exact .inr ⟨by decide, by decide⟩ | exact .inl ⟨by omega, by omega⟩ | exact .inr ⟨by omega, by omega⟩)
  | (with_reducible apply LS.ex_ss)
  | (with_reducible apply LS.ex_s1)
  | (with_reducible apply LS.ex_i1)
  | (with_reducible apply LS.and_rfl)
  | (with_reducible apply LS.and_tr)
  | (with_reducible apply LS.is_non))
local macro_rules | `(tactic| array_mem_dec) => `(tactic| first
  | ((with_reducible apply LP.lv_s); assumption; array_mem_dec)
  | ((with_reducible apply LP.lv_l); assumption; array_mem_dec; array_mem_dec; array_mem_dec)
  | ((with_reducible apply LP.lv_f); assumption; array_mem_dec; array_mem_dec; array_mem_dec)
  | ((with_reducible apply LP.lv_t); assumption; array_mem_dec; array_mem_dec; array_mem_dec)
  | ((with_reducible apply LP.ops_s); assumption; array_mem_dec)
  | ((with_reducible apply LP.md_s); assumption; array_mem_dec)
  | ((with_reducible apply LP.md_l); assumption; array_mem_dec; array_mem_dec; array_mem_dec)
  | ((with_reducible apply LP.md_f); assumption; array_mem_dec; array_mem_dec; array_mem_dec)
  | ((with_reducible apply LP.md_t); assumption; array_mem_dec; array_mem_dec; array_mem_dec)
  | ((with_reducible apply LP.al_s); assumption; array_mem_dec; array_mem_dec)
  | ((with_reducible apply LP.al_t); assumption; array_mem_dec; array_mem_dec)
  | ((with_reducible apply LP.al_l); assumption; array_mem_dec; array_mem_dec; array_mem_dec)
  | ((with_reducible apply LP.al_f); assumption; array_mem_dec; array_mem_dec; array_mem_dec)
  | ((with_reducible apply LP.Lv.lists); array_mem_dec)
  | ((with_reducible apply LP.Lv.trk); array_mem_dec)
  | ((with_reducible apply LP.Mdl.trk); array_mem_dec)
  | ((with_reducible apply LP.al_no); assumption; array_mem_dec))
local macro_rules | `(tactic| array_get_dec) => `(tactic| first
  | (with_reducible apply LS.tcalle)
  | (with_reducible apply LS.tcalls))
local macro_rules | `(tactic| array_get_dec) => `(tactic| first
  | (with_reducible apply LS.tmethv)
  | (with_reducible apply LS.tmakev)
  | (with_reducible apply LS.rnotn_rr)
  | (with_reducible apply LS.risn_rr)
  | ((with_reducible apply LS.k_mev); array_mem_dec; exact rfl))
local macro_rules | `(tactic| array_get_dec) => `(tactic| first
  | (with_reducible apply LS.trg2)
  | (with_reducible apply LS.k_g2))

section
variable {P : Program} {w : World} {K : PySem.W.Frag} {mg : Str → Option Value} {base : Heap}

theorem log2_lt {n : Int} {k : Nat} (h0 : 0 ≤ n) (h : n ≤ 10 ^ 30) (hk : 101 ≤ k) : n.natAbs.log2 < k := by
  by_cases z : n.natAbs = 0
  · rw [z]; show Nat.log2 0 < k; rw [show Nat.log2 0 = 0 by decide]; omega
  · exact Nat.lt_of_lt_of_le ((Nat.log2_lt z).mpr (show n.natAbs < 2 ^ 100 by omega)) (by omega)
theorem ok_numbers_text (e : Env w K mg) : FnOk P w K mg base CX0 1 e.a_numbers_text e.d_numbers_text ["numbers"] (sp_numbers_text K) := by
  refine Fun.ok e.f_numbers_text sc_numbers_text (fun vs H Q E h => ?_) (fun cdv A outer s H vs Q E hr h => ?_)
  · obtain ⟨a, ns, rfl, _⟩ := h; rfl
  · obtain ⟨a, ns, rfl, hE, hb, hl, k⟩ := h
    refine ⟨_, (pss_one (ps_ret (pe_m1 PySem.F.slot_str_join PySem.F.type_str_join LS.mt_join pe_str (pe_lc (own := [("number", 1)]) rfl sc_numbers_text.nd (PI.or (pi_list (pv 0)) (pi_tup (pv 0))) (blkOk_by (N := ["numbers", "number"]) (sc := defScope s_numbers_text) (by decide +kernel)) (fun _ _ _ _ _ => (pg_name (i := 1) sc_numbers_text.nd rfl (by first | exact Or.inl rfl | exact Or.inr rfl))) (fun _ _ _ _ _ => pts_nil) (fun _ _ _ _ _ => (pe_callTy LS.call_strI (by rfl) e.n_str (by decide +kernel) (pa_cons (pv 1) pa_nil))))))), ?_⟩
    repeat array_get_dec
    refine or_E hE rfl fun J G wk hG => ?_
    refine LS.map_ wk (by rw [List.length_map]; omega) (fun v => match v with | .int i => .str (LQ.nst i) | v => v) hG (fun x Hq hx s KK KN kk => ?_) fun D H1 nD s1 h1 => ?_
    · obtain ⟨i, hi, rfl⟩ := List.mem_map.mp hx
      refine ⟨rfl, ?_⟩
      repeat array_get_dec
      exact LS.rstr_i (log2_lt (hb i hi).1 (hb i hi).2 (by decide)) (kk _ (Same.refl _))
    · have e : List.map (fun v => match v with | .int i => V.str (LQ.nst i) | v => v) (ns.map V.int) = (ns.map LQ.nst).map V.str := by rw [List.map_map, List.map_map]; rfl
      rw [e] at h1
      exact LS.rjoin (SqL.of h1) (LQ.txtN_sz hb hl) (k _ s1)
theorem ok_operations_text (e : Env w K mg) : FnOk P w K mg base CX0 1 e.a_operations_text e.d_operations_text ["operations"] (sp_operations_text K) := by
  refine Fun.ok e.f_operations_text sc_operations_text (fun vs H Q E h => ?_) (fun cdv A outer s H vs Q E hr h => ?_)
  · obtain ⟨a, as, os, rfl, _⟩ := h; rfl
  · obtain ⟨a, as, os, rfl, hE, hos, hb, hl, k⟩ := h
    refine ⟨_, (pss_one (ps_ret (pe_m1 PySem.F.slot_str_join PySem.F.type_str_join LS.mt_join pe_str (pe_lc (own := [("word", 1), ("number", 2)]) rfl sc_operations_text.nd (PI.or (pi_list (pv 0)) (pi_tup (pv 0))) (blkOk_by (N := ["operations", "word", "number"]) (sc := defScope s_operations_text) (by decide +kernel)) (fun _ _ _ _ _ => (LX.pgor (show PG _ _ (gTup K 2 _) from pg_tup (by rfl) (pgs_cons (pg_name (i := 1) sc_operations_text.nd rfl (by first | exact Or.inl rfl | exact Or.inr rfl)) (pgs_cons (pg_name (i := 2) sc_operations_text.nd rfl (by first | exact Or.inl rfl | exact Or.inr rfl)) pgs_nil))) (show PG _ _ (gUnl K 2 _) from pg_unl rfl (pgs_cons (pg_name (i := 1) sc_operations_text.nd rfl (by first | exact Or.inl rfl | exact Or.inr rfl)) (pgs_cons (pg_name (i := 2) sc_operations_text.nd rfl (by first | exact Or.inl rfl | exact Or.inr rfl)) pgs_nil))))) (fun _ _ _ _ _ => pts_nil) (fun _ _ _ _ _ => (pe_op LS.op_addS (pe_ix ix_str (pv 1) pe_int (fun _ _ => rfl)) (pe_callTy LS.call_strI (by rfl) e.n_str (by decide +kernel) (pa_cons (pv 2) pa_nil)))))))), ?_⟩
    have hl1 := hos.1
    repeat array_get_dec
    refine or_E hE rfl fun J G wk hG => ?_
    refine LS.comp wk (fun D i acc H' => Same H H' ∧ acc = ((os.take i).map wordO).map V.str) (fun D H' nD s' hD => ⟨s', rfl⟩) (fun D i acc H' hi nD hD h => hG _ h.1) ?_ ?_
    · rintro D i acc x H3 H2 nD hi hl2 hD ⟨s2, rfl⟩ ⟨rfl, hx⟩
      rw [List.length_map] at hi
      rw [List.getElem?_map] at hx
      obtain ⟨p, hp⟩ : ∃ p, as[i]? = some p := ⟨_, List.getElem?_eq_getElem hi⟩
      rw [hp] at hx
      cases hx
      obtain ⟨o, ho⟩ : ∃ o, os[i]? = some o := ⟨_, List.getElem?_eq_getElem (by omega)⟩
      have hpo : SqE K H2 p [.str (kst o.1), .int o.2] := (hos.2 i p o hp ho).same s2
      obtain ⟨b0, b1⟩ := hb o (List.mem_of_getElem? ho)
      refine LS.gorE hpo rfl ?_
      repeat array_get_dec
      refine ⟨rfl, ?_⟩
      repeat array_get_dec
      refine LS.rixs (j := 0) (c := if o.1 then 116 else 114) (by cases o.1 <;> decide +kernel) (by cases o.1 <;> decide +kernel) rfl ?_
      repeat array_get_dec
      refine LS.rstr_i (log2_lt b0 (by omega) (by decide)) ?_
      repeat array_get_dec
      have hc1 : (⟨#[if o.1 then 116 else 114]⟩ : Str) = kch o.1 := by cases o.1 <;> decide +kernel
      have hz : (kch o.1).length + (LQ.nst o.2).length ≤ sizeLine := by
        have := (wd_wordO (o := o) b0 (by omega)).le
        unfold wordO at this
        rw [str_len_app] at this
        exact LS.sz (by omega)
      rw [hc1]
      refine ⟨_, _, rfl, rfl, hz, ?_⟩
      exact LS.k_lc (acc := ((os.take i).map wordO).map V.str) (by array_mem_dec) hl2 (by omega) fun H5 f5 h5 => ⟨(by array_mem_dec), by rw [List.take_add_one, ho, List.map_append, List.map_append, Option.toList_some]; rfl⟩
    · rintro D acc H2 nD hD hl2 ⟨s2, rfl⟩
      rw [List.length_map, hl1, List.take_length] at hD
      exact LS.rjoin (SqL.of hD) (txtW_sz (fun w hw => by
        obtain ⟨o, ho, rfl⟩ := List.mem_map.mp hw
        exact wd_wordO (hb o ho).1 (by have := (hb o ho).2; omega)) (by rw [List.length_map]; omega)) (k _ s2)
theorem ok_read_number (e : Env w K mg) : FnOk P w K mg base CX0 1 e.a_read_number e.d_read_number ["text"] (sp_read_number) := by
  refine Fun.ok e.f_read_number sc_read_number (fun vs H Q E h => ?_) (fun cdv A outer s H vs Q E hr h => ?_)
  · obtain ⟨a, rfl, _⟩ := h; rfl
  · obtain ⟨n, rfl, h0, h1, k⟩ := h
    refine ⟨_, (pss_cons (ps_if (PW.pt (pw_or (pt_not (PW.pt (pw_and (pt_val (pe_m0 PySem.F.slot_str_isascii PySem.F.type_str_isascii mt_isascii (pv 0))) (pw_and1 (pt_val (pe_m0 PySem.F.slot_str_isdigit PySem.F.type_str_isdigit mt_isdigit (pv 0))))))) (pw_or1 (PW.pt (pw_and (pt_cmpR op_eq (pe_ix ix_str (pv 0) pe_int (fun _ _ => rfl)) pe_str (nomark _)) (pw_and1 (pt_cmpR op_ne (pv 0) pe_str (nomark _))))))))
        (pss_one (ps_ret pe_non))
        pss_nil)
      (pss_cons (ps_set (i := 1) sc_read_number.nd rfl (by first | exact Or.inl rfl | exact Or.inr rfl) pe_int)
      (pss_cons (ps_for PassesOwn.never rfl (pi_str (pv 0)) (pg_name (i := 2) sc_read_number.nd rfl (by first | exact Or.inl rfl | exact Or.inr rfl))
      (pss_one (ps_set (i := 1) sc_read_number.nd rfl (by first | exact Or.inl rfl | exact Or.inr rfl) (pe_op op_add (pe_op op_mulW (pv 1) pe_int) (pe_callTy LS.call_intS (by rfl) e.n_int (by decide +kernel) (pa_cons (pv 2) pa_nil))))))
      (pss_one (ps_ret (pv 1)))))), ?_⟩
    obtain ⟨m, rfl⟩ : ∃ m : Nat, n = m := ⟨n.toNat, by omega⟩
    repeat array_get_dec
    refine iteB (LQ.nst_ascii m) ?_
    repeat array_get_dec
    rw [LQ.nst_digit]
    repeat array_get_dec
    have hz : (LQ.nst (m : Int)).length ≤ 31 := LQ.nst_len (by have : (m : Int) ≤ 10 ^ 30 := h1; omega)
    have hne := TL.numL_ne m
    obtain ⟨c, hc⟩ : ∃ c, (TL.numL m)[0]? = some c := ⟨_, List.getElem?_eq_getElem (List.length_pos_iff.mpr hne)⟩
    refine LS.rixs (j := 0) (c := c) (by omega) (by rw [LQ.tl_nst]; exact hc) rfl ?_
    repeat array_get_dec
    refine LS.tail_t (fun e x => ?_) ?_
    · have e2 : c = 48 := by
        have := congrArg (fun z : Str => z.cps.toList) e
        have e3 : ("0" : Str).cps.toList = [48] := by decide +kernel
        rw [e3] at this
        simpa using this
      have e4 := LQ.head_numL m (by rw [hc, e2])
      subst e4
      repeat array_get_dec
      rw [decide_eq_true (show LQ.nst ((0 : Nat) : Int) = ("0" : Str) from LQ.zero_txt)]
      exact LS.ifnt (LS.of_iff x)
    repeat array_get_dec
    refine LS.for_ walk_str (fun i σ H1 => ∃ v : Option V, H1 = H ∧ σ = [some (.str (LQ.nst m)), some (.int (LQ.dval ((TL.numL m).take i) : Nat)), v]) ⟨_, rfl, rfl⟩ (fun _ _ _ _ _ => trivial) ?_ ?_
    · rintro i x σ H1 H2 hi ⟨v, rfl, rfl⟩ ⟨rfl, d, hd, rfl⟩
      have hd2 : (TL.numL m)[i]? = some d := by rw [← LQ.tl_nst, Array.getElem?_toList]; exact hd
      have hb := LQ.numL_all m d (List.mem_of_getElem? hd2)
      have hle := LQ.dval_take (TL.numL m) i
      rw [LQ.dval_num] at hle
      repeat array_get_dec
      refine LS.ri (by
        have := log2_lt (n := ((LQ.dval ((TL.numL m).take i) : Nat) : Int)) (k := 200) (by omega) (Int.le_trans (by omega) h1) (by decide)
        show _ + Nat.log2 10 < 1000000
        have e10 : Nat.log2 10 = 3 := by decide +kernel
        omega) ?_
      repeat array_get_dec
      refine LS.rint_s (LQ.int_dig hb) (by show 1 ≤ 640; decide) ?_
      repeat array_get_dec
      refine ⟨some (.str ⟨#[d]⟩), rfl, ?_⟩
      rw [LQ.dval_snoc hd2]
      rfl
    · rintro σ H1 ⟨v, rfl, rfl⟩
      repeat array_get_dec
      have e : (TL.numL m).take (LQ.nst (m : Int)).cps.size = TL.numL m := by rw [← Array.length_toList, LQ.tl_nst, List.take_length]
      rw [e, LQ.dval_num]
      exact k
theorem ok_text_or_none (e : Env w K mg) : FnOk P w K mg base CX0 1 e.a_text_or_none e.d_text_or_none ["text"] (sp_text_or_none) := by
  refine Fun.ok e.f_text_or_none sc_text_or_none (fun vs H Q E h => ?_) (fun cdv A outer s H vs Q E hr h => ?_)
  · obtain ⟨t, rfl, _⟩ := h; rfl
  · obtain ⟨t, rfl, k⟩ := h
    refine ⟨_, (pss_one (ps_ret (pe_ifExp (pt_cmpR op_ne (pv 0) pe_str (nomark _)) (pv 0) pe_str))), ?_⟩
    repeat array_get_dec
    unfold orNone at k
    by_cases ht : t = ("" : Str)
    · rw [if_pos ht] at k
      rw [decide_eq_true ht]
      exact k
    · rw [if_neg ht] at k
      rw [decide_eq_false ht]
      repeat array_get_dec
      exact k
end
end LP

namespace LP
open PySem L2 LT LG LQ LH LC LX LR
local macro_rules | `(tactic| array_mem_dec) => `(tactic| first
  | assumption
  | ((with_reducible apply LS.hp_s); assumption; array_mem_dec)
  | ((with_reducible apply LS.hp_f); assumption; array_mem_dec; array_mem_dec)
  | ((with_reducible apply LS.hp_t); assumption; array_mem_dec; array_mem_dec)
  | ((with_reducible apply LS.hp_l); assumption; array_mem_dec; array_mem_dec)
  | ((with_reducible apply LS.sq_o); array_mem_dec)
  | ((with_reducible apply LS.sq_s); assumption; array_mem_dec)
  | ((with_reducible apply LS.sq_f); assumption; array_mem_dec; array_mem_dec)
  | ((with_reducible apply LS.sq_t); assumption; array_mem_dec; array_mem_dec)
  | ((with_reducible apply LS.sq_l); assumption; array_mem_dec; array_mem_dec)
  | ((with_reducible apply LS.tu_o); array_mem_dec)
  | ((with_reducible apply LS.tu_s); assumption; array_mem_dec)
  | ((with_reducible apply LS.tu_f); assumption; array_mem_dec; array_mem_dec)
  | ((with_reducible apply LS.tu_t); assumption; array_mem_dec; array_mem_dec)
  | ((with_reducible apply LS.tu_l); assumption; array_mem_dec; array_mem_dec)
  | ((with_reducible apply LS.se_l); array_mem_dec)
  | ((with_reducible apply LS.se_t); array_mem_dec)
  | ((with_reducible apply LS.se_s); assumption; array_mem_dec)
  | ((with_reducible apply LS.se_f); assumption; array_mem_dec; array_mem_dec)
  | ((with_reducible apply LS.se_tt); assumption; array_mem_dec; array_mem_dec)
  | ((with_reducible exact Same.refl _))
  | ((with_reducible apply LS.sm_s); assumption; array_mem_dec)
  | ((with_reducible apply LS.sm_f); assumption; array_mem_dec; array_mem_dec)
  | ((with_reducible exact Fr.refl _ _))
  | ((with_reducible apply LS.fr_b); assumption; array_mem_dec)
  | ((with_reducible apply LS.fr_s); assumption; array_mem_dec)
  | ((with_reducible apply LS.fr_n); assumption; array_mem_dec; array_mem_dec)
  | ((with_reducible apply LS.fr_t); assumption; array_mem_dec)
  | ((with_reducible apply LS.no_s); assumption; array_mem_dec)
  | ((with_reducible apply LS.no_f); assumption; array_mem_dec; array_mem_dec)
  | ((with_reducible apply LS.no_t); assumption; array_mem_dec)
  | ((with_reducible apply LS.no_l); assumption; assumption)
  | ((with_reducible apply Ne.symm); assumption)
  | ((with_reducible apply LS.ne_a); assumption; array_mem_dec)
  | ((with_reducible apply LS.ne_b); assumption; array_mem_dec)
  | ((with_reducible apply LS.ne_ap); assumption)
  | ((with_reducible apply LS.ne_il); assumption; array_mem_dec)
  | ((with_reducible apply LS.ne_li); assumption; array_mem_dec)
  | ((with_reducible apply LS.ne_lt); assumption; assumption)
  | ((with_reducible apply LS.ne_tl); assumption; assumption)
  | ((with_reducible apply LS.ne_rl); assumption; array_mem_dec)
  | ((with_reducible apply LS.rl_t); assumption)
  | ((with_reducible apply LS.rl_s); assumption; array_mem_dec)
  | ((with_reducible apply LS.rl_f); assumption; array_mem_dec; array_mem_dec)
  | ((with_reducible apply LS.rl_l); assumption; array_mem_dec; array_mem_dec)
  | ((with_reducible apply LS.ap_new); assumption; assumption; array_mem_dec)
  | ((with_reducible apply LS.ap_t); assumption; array_mem_dec; array_mem_dec)
  | ((with_reducible apply LS.ap_s); assumption; array_mem_dec; array_mem_dec)
  | ((with_reducible apply LS.ap_f); assumption; array_mem_dec; array_mem_dec; array_mem_dec)
  | ((with_reducible apply LS.ap_l); assumption; array_mem_dec; array_mem_dec; array_mem_dec)
  | (with_reducible apply LS.ni_nil)
  | ((with_reducible apply LS.ni_cons); array_mem_dec; array_mem_dec)
  | (with_reducible apply LS.trk_nil)
  | ((with_reducible apply LS.trk_cons); array_mem_dec; array_mem_dec)
  | (with_reducible apply LS.al_nil)
  | ((with_reducible apply LS.al_cons); array_mem_dec; array_mem_dec)
  | (with_reducible apply LS.mem_hd)
  | ((with_reducible apply LS.mem_tl); array_mem_dec)
  | ((with_reducible apply LS.fl_refl); array_mem_dec)
  | ((with_reducible apply LS.fl_l); assumption; array_mem_dec)
  | ((with_reducible apply LS.fl_lm); assumption; array_mem_dec; array_mem_dec)
  | (with_reducible apply LS.sub_nil)
  | ((with_reducible apply LS.sub_cons); array_mem_dec; array_mem_dec)
  | ((with_reducible apply LS.fl_s); assumption; array_mem_dec)
  | ((with_reducible apply LS.fl_m); assumption; array_mem_dec; array_mem_dec; array_mem_dec)
  | ((with_reducible apply LS.fl_n); assumption; array_mem_dec; array_mem_dec; array_mem_dec)
  | ((with_reducible apply LS.rt_refl); array_mem_dec)
  | ((with_reducible apply LS.rt_t); assumption; array_mem_dec)
  | ((with_reducible apply LS.rt_s); assumption; array_mem_dec)
  | ((with_reducible apply LS.rt_f); assumption; array_mem_dec; array_mem_dec; array_mem_dec)
  | ((with_reducible apply LS.sz); (first | decide | (simp only [List.length_append, List.length_map, List.length_cons, List.length_nil, List.length_replicate]; omega)))
  | ((with_reducible apply LS.szl); (first | decide | (simp only [List.length_append, List.length_map, List.length_cons, List.length_nil, List.length_replicate]; omega))))
local macro_rules | `(tactic| array_get_dec) => `(tactic| first
  | ((with_reducible apply LS.var); exact rfl)
  | (with_reducible apply LS.con)
  | (with_reducible apply LS.op)
  | (with_reducible apply LS.ri0)
  | (with_reducible apply LS.tseq)
  | (with_reducible apply LS.tasg)
  | (with_reducible apply LS.gname)
  | (with_reducible apply LS.tcons)
  | (with_reducible apply LS.tnil)
  | (with_reducible apply LS.tcb)
  | (with_reducible apply LS.tcall)
  | (with_reducible apply LS.ttest)
  | (with_reducible apply LS.k_b)
  | (with_reducible apply LS.tb)
  | (with_reducible apply LS.tifs)
  | (with_reducible apply LS.ift)
  | (with_reducible apply LS.iff_)
  | (with_reducible apply LS.ifnt)
  | (with_reducible apply LS.ifnf)
  | (with_reducible apply LS.tnext)
  | (with_reducible apply LS.tdrop)
  | (with_reducible apply LS.tret)
  | (with_reducible apply LS.tretn)
  | (with_reducible apply LS.un)
  | (with_reducible apply LS.ru)
  | (with_reducible apply LS.tyes)
  | (with_reducible apply LS.tand)
  | (with_reducible apply LS.tor)
  | (with_reducible apply LS.tnot)
  | (with_reducible apply LS.tif)
  | (with_reducible apply LS.tandv)
  | (with_reducible apply LS.k_av)
  | (with_reducible apply LS.torv)
  | (with_reducible apply LS.k_ov)
  | (with_reducible apply LS.tnotv)
  | (with_reducible apply LS.k_nv)
  | (with_reducible apply LS.tchain)
  | (with_reducible apply LS.k_ch)
  | (with_reducible apply LS.req_i)
  | (with_reducible apply LS.rne_i)
  | (with_reducible apply LS.req_s)
  | (with_reducible apply LS.rne_s)
  | (with_reducible apply LS.req_b)
  | (with_reducible apply LS.rne_b)
  | ((with_reducible apply LS.rin_i); array_mem_dec)
  | ((with_reducible apply LS.rni_i); array_mem_dec)
  | ((with_reducible apply LS.rlen_li); array_mem_dec)
  | ((with_reducible apply LS.rlen_ls); array_mem_dec)
  | ((with_reducible apply LS.rlen_l); array_mem_dec)
  | ((with_reducible apply LS.rlen_Ei); array_mem_dec)
  | ((with_reducible apply LS.rlen_E); array_mem_dec)
  | ((with_reducible apply LS.rlen_t); array_mem_dec)
  | ((with_reducible apply LS.rixl); array_mem_dec; exact rfl)
  | ((with_reducible apply LS.rixt); array_mem_dec; exact rfl)
  | (with_reducible apply LS.isi_int_int)
  | (with_reducible apply LS.isi_int_bool)
  | (with_reducible apply LS.isi_int_str)
  | (with_reducible apply LS.isi_str_int)
  | (with_reducible apply LS.isi_str_bool)
  | (with_reducible apply LS.isi_str_str)
  | (with_reducible apply LS.isi_bool_int)
  | (with_reducible apply LS.isi_bool_bool)
  | (with_reducible apply LS.isi_bool_str)
  | (with_reducible apply LS.isi_non_int)
  | (with_reducible apply LS.isi_non_bool)
  | (with_reducible apply LS.isi_non_str)
  | ((with_reducible apply LS.isi_list_int); array_mem_dec)
  | ((with_reducible apply LS.isi_list_bool); array_mem_dec)
  | ((with_reducible apply LS.isi_list_str); array_mem_dec)
  | ((with_reducible apply LS.isi_list_list); array_mem_dec)
  | ((with_reducible apply LS.isi_list_tuple); array_mem_dec)
  | ((with_reducible apply LS.isi_tuple_int); array_mem_dec)
  | ((with_reducible apply LS.isi_tuple_bool); array_mem_dec)
  | ((with_reducible apply LS.isi_tuple_str); array_mem_dec)
  | ((with_reducible apply LS.isi_tuple_list); array_mem_dec)
  | ((with_reducible apply LS.isi_tuple_tuple); array_mem_dec)
  | ((with_reducible apply LS.isiT_i); array_mem_dec)
  | ((with_reducible apply LS.isiT_s); array_mem_dec)
  | ((with_reducible apply LS.isiT_E); array_mem_dec; array_mem_dec)
  | (with_reducible apply LS.tfld)
  | ((with_reducible apply LS.k_fl); array_mem_dec; assumption; assumption; exact rfl)
  | (with_reducible apply LS.tmeth)
  | ((with_reducible apply LS.k_me); array_mem_dec; exact rfl)
  | (with_reducible apply LS.tmake)
  | (with_reducible apply LS.tsfld)
  | (with_reducible apply LS.tprop)
  | ((with_reducible apply LS.k_pr); array_mem_dec)
  | ((with_reducible apply LS.rlen_own); array_mem_dec)
  | (with_reducible apply LS.rabs)
  | (with_reducible apply LS.rmin2)
  | (with_reducible apply LS.rmax2)
  | (with_reducible apply LS.tsl)
  | (with_reducible apply LS.tthen)
  | (with_reducible apply LS.tstep)
  | (with_reducible apply LS.tnop)
  | (with_reducible apply LS.tpart)
  | (with_reducible apply LS.k_part)
  | (with_reducible apply LS.ttup)
  | (with_reducible apply LS.tlst)
  | (with_reducible apply LS.tbm)
  | (with_reducible apply LS.tbm0)
  | ((with_reducible apply LS.ty_l); array_mem_dec)
  | (with_reducible apply LS.tpar)
  | (with_reducible apply LS.tfor)
  | (with_reducible apply LS.tlc)
  | (with_reducible apply LS.ilist)
  | ((with_reducible apply LS.k_il); array_mem_dec)
  | (with_reducible apply LS.itup)
  | ((with_reducible apply LS.k_it); array_mem_dec)
  | (with_reducible apply LS.istr)
  | (with_reducible apply LS.k_is)
  | (with_reducible apply LS.irng1)
  | ((with_reducible apply LS.k_r1n); omega)
  | ((with_reducible apply LS.k_r1); (first | omega | decide); (first | omega | decide))
  | (with_reducible apply LS.irng2)
  | ((with_reducible apply LS.k_r2); (first | omega | decide); (first | omega | decide); (first | omega | decide); (first | omega | decide))
  | (with_reducible apply LS.ienum)
  | ((with_reducible apply LS.k_en); array_mem_dec)
  | (with_reducible apply LS.izip)
  | ((with_reducible apply LS.k_zip); array_mem_dec; array_mem_dec)
  | (with_reducible apply LS.tlstrg)
  | (with_reducible apply LS.trg1)
  | (with_reducible apply LS.k_g1)
  | (with_reducible apply LS.risn_i)
  | (with_reducible apply LS.risn_s)
  | (with_reducible apply LS.risn_n)
  | (with_reducible apply LS.rnotn_i)
  | (with_reducible apply LS.rnotn_n)
  | (with_reducible apply LS.rint_b)
  | (with_reducible apply LS.rint_i)
  | (with_reducible apply LS.tm0)
  | (with_reducible apply LS.tm1)
  | (with_reducible apply LS.is_str)
  | (with_reducible apply LS.ex_s0)
  | (with_reducible apply LS.ex_int_b)
  | (with_reducible apply LS.k_par)
  | (with_reducible apply LS.tpar3)
  | (with_reducible apply LS.k_par3)
  | ((with_reducible apply LS.taug); exact rfl)
  | (with_reducible apply LS.ipi)
  | ((with_reducible apply LS.gtup); array_mem_dec; exact rfl)
  | ((with_reducible apply LS.gunl); array_mem_dec; exact rfl)
  | (with_reducible apply LS.gnil)
  | (with_reducible apply LS.gcons)
  | (with_reducible apply LS.gsub)
  | ((with_reducible apply LS.ri); first | omega | decide | assumption | exact ⟨by decide, by decide, by decide⟩ | exact .inl ⟨by decide, by decide⟩ | exact .inr ⟨by decide, by decide⟩ | exact .inl ⟨by omega, by omega⟩ | exact .inr ⟨by omega, by omega⟩)
  | (with_reducible apply LS.ex_ss)
  | (with_reducible apply LS.ex_s1)
  | (with_reducible apply LS.ex_i1)
  | (with_reducible apply LS.and_rfl)
  | (with_reducible apply LS.and_tr)
  | (with_reducible apply LS.is_non))
local macro_rules | `(tactic| array_mem_dec) => `(tactic| first
  | ((with_reducible apply LP.lv_s); assumption; array_mem_dec)
  | ((with_reducible apply LP.lv_l); assumption; array_mem_dec; array_mem_dec; array_mem_dec)
  | ((with_reducible apply LP.lv_f); assumption; array_mem_dec; array_mem_dec; array_mem_dec)
  | ((with_reducible apply LP.lv_t); assumption; array_mem_dec; array_mem_dec; array_mem_dec)
  | ((with_reducible apply LP.ops_s); assumption; array_mem_dec)
  | ((with_reducible apply LP.md_s); assumption; array_mem_dec)
  | ((with_reducible apply LP.md_l); assumption; array_mem_dec; array_mem_dec; array_mem_dec)
  | ((with_reducible apply LP.md_f); assumption; array_mem_dec; array_mem_dec; array_mem_dec)
  | ((with_reducible apply LP.md_t); assumption; array_mem_dec; array_mem_dec; array_mem_dec)
  | ((with_reducible apply LP.al_s); assumption; array_mem_dec; array_mem_dec)
  | ((with_reducible apply LP.al_t); assumption; array_mem_dec; array_mem_dec)
  | ((with_reducible apply LP.al_l); assumption; array_mem_dec; array_mem_dec; array_mem_dec)
  | ((with_reducible apply LP.al_f); assumption; array_mem_dec; array_mem_dec; array_mem_dec)
  | ((with_reducible apply LP.Lv.lists); array_mem_dec)
  | ((with_reducible apply LP.Lv.trk); array_mem_dec)
  | ((with_reducible apply LP.Mdl.trk); array_mem_dec)
  | ((with_reducible apply LP.al_no); assumption; array_mem_dec))
local macro_rules | `(tactic| array_get_dec) => `(tactic| first
  | (with_reducible apply LS.tcalle)
  | (with_reducible apply LS.tcalls))
local macro_rules | `(tactic| array_get_dec) => `(tactic| first
  | (with_reducible apply LS.tmethv)
  | (with_reducible apply LS.tmakev)
  | (with_reducible apply LS.rnotn_rr)
  | (with_reducible apply LS.risn_rr)
  | ((with_reducible apply LS.k_mev); array_mem_dec; exact rfl))
local macro_rules | `(tactic| array_get_dec) => `(tactic| first
  | (with_reducible apply LS.trg2)
  | (with_reducible apply LS.k_g2))

section
variable {P : Program} {w : World} {K : PySem.W.Frag} {mg : Str → Option Value} {base : Heap}

theorem ok_is_whole (e : Env w K mg) : FnOk P w K mg base CX0 1 e.a_is_whole e.d_is_whole ["value"] (sp_is_whole) := by
  refine Fun.ok e.f_is_whole sc_is_whole (fun vs H Q E h => ?_) (fun cdv A outer s H vs Q E hr h => ?_)
  · obtain ⟨n, rfl, _⟩ := h; rfl
  · obtain ⟨n, rfl, k⟩ := h
    refine ⟨_, (pss_one (ps_ret (pe_and (pe_callB call_isi (by rfl) e.n_isinstance (by decide +kernel) (pa_cons (pv 0) (pa_cons (pe_bltn (v := V.ty "int") (by rfl) e.n_int (by decide +kernel) rfl) pa_nil))) (pe_one (pe_not (pe_callB call_isi (by rfl) e.n_isinstance (by decide +kernel) (pa_cons (pv 0) (pa_cons (pe_bltn (v := V.ty "bool") (by rfl) e.n_bool (by decide +kernel) rfl) pa_nil)))))))), ?_⟩
    repeat array_get_dec
    exact k
theorem ok_check_size (e : Env w K mg) : FnOk P w K mg base CX0 2 e.a_check_size e.d_check_size ["size"] (sp_check_size) := by
  refine Fun.ok e.f_check_size sc_check_size (fun vs H Q E h => ?_) (fun cdv A outer s H vs Q E hr h => ?_)
  · obtain ⟨n, rfl, _⟩ := h; rfl
  · obtain ⟨n, rfl, h0, h1, k⟩ := h
    refine ⟨_, (pss_one (ps_if (pt_not (PW.pt (pw_and (pt_val (pe_call ((ok_is_whole e).mono (by decide)) hr rfl e.g_is_whole e.f_is_whole.kp e.b_is_whole .nil pass0 (pa_cons (pv 0) pa_nil))) (pw_and1 (pt_chain op_le op_le pe_int (pv 0) (pe_glob (v := V.int 200) rfl e.g_MOST_SIZE ⟨_, rfl⟩))))))
        (pss_one ps_never)
        pss_nil)), ?_⟩
    repeat array_get_dec
    refine ⟨n, rfl, ?_⟩
    repeat array_get_dec
    rw [decide_eq_true h0]
    repeat array_get_dec
    rw [decide_eq_true h1]
    repeat array_get_dec
    exact k
theorem init_books (n : Nat) : (simInit n).books.map vo = rgV 0 n := by
  unfold simInit rgV rangeI
  simp only [List.map_map]
  have e : ((n : Int) - 0).toNat = n := by omega
  rw [e]
  refine List.map_congr_left fun k hk => ?_
  show V.int (k : Int) = V.int (0 + (k : Int))
  rw [Int.zero_add]
theorem ok_Shelf_init (e : Env w K mg) : FnOk P w K mg base CX0 1 e.a_Shelf_init e.d_Shelf_init ["self", "size"] (sp_Shelf_init e.C_Shelf) := by
  refine Fun.ok e.f_Shelf_init sc_Shelf_init (fun vs H Q E h => ?_) (fun cdv A outer s H vs Q E hr h => ?_)
  · obtain ⟨p, dx, n, rfl, _⟩ := h; rfl
  · obtain ⟨p, dx, n, rfl, hn, hp, k⟩ := h
    refine ⟨_, (pss_cons (ps_fld (pv 0) (pe_listRg rfl (by rfl) e.n_list (prg_1 (by rfl) e.n_range (pv 1))) rfl)
      (pss_one (ps_fld (pv 0) (pe_lst pa_nil) rfl))), ?_⟩
    have c_Shelf := e.cl_Shelf; have a_Shelf_books := e.nA_Shelf_books; have a_Shelf_out := e.nA_Shelf_out; have c_LiveShelf := e.cl_LiveShelf; have a_LiveShelf__shelf := e.nA_LiveShelf__shelf; have a_LiveShelf__steps := e.nA_LiveShelf__steps; have c_Console := e.cl_Console; have a_Console__live := e.nA_Console__live
    repeat array_get_dec
    refine LS.k_lr (by omega) fun bl H1 nb s1 hb => ?_
    repeat array_get_dec
    refine LS.k_sf (gs := [("books", .ref bl)]) (by array_mem_dec) c_Shelf a_Shelf_books (by decide) rfl fun H2 f2 h2 => ?_
    repeat array_get_dec
    refine LS.k_lst (by array_mem_dec) fun ol H3 no s3 ho => ?_
    repeat array_get_dec
    refine LS.k_sf (gs := [("books", .ref bl), ("out", .ref ol)]) (by array_mem_dec) c_Shelf a_Shelf_out (by show 1 < 1000; decide) rfl fun H4 f4 h4 => ?_
    repeat array_get_dec
    refine k H4 bl ol (by array_mem_dec) ⟨h4, ?_, (by array_mem_dec), (by array_mem_dec)⟩ (by array_mem_dec) (by array_mem_dec)
    rw [init_books]
    exact (by array_mem_dec)
theorem flat_vo (l : List (Option Int)) : (l.map vo).all flatV = true := by
  rw [List.all_eq_true]; intro v hv; obtain ⟨i, _, rfl⟩ := List.mem_map.mp hv; cases i <;> rfl
theorem vo_at {l : List (Option Int)} {i : Nat} {v : V} (h : (l.map vo)[i]? = some v) : ∃ o, l[i]? = some o ∧ v = vo o := by
  rw [List.getElem?_map] at h
  cases q : l[i]? with
  | none => rw [q] at h; cases h
  | some x => rw [q] at h; cases h; exact ⟨x, rfl, rfl⟩
theorem ok_Shelf_can_take (e : Env w K mg) : FnOk P w K mg base CX0 2 e.a_Shelf_can_take e.d_Shelf_can_take ["self", "place"] (sp_Shelf_can_take e.C_Shelf) := by
  refine Fun.ok e.f_Shelf_can_take sc_Shelf_can_take (fun vs H Q E h => ?_) (fun cdv A outer s H vs Q E hr h => ?_)
  · obtain ⟨sh, dx, bl, ol, s, p, rfl, _⟩ := h; rfl
  · obtain ⟨sh, dx, bl, ol, s, p, rfl, S, k⟩ := h
    refine ⟨_, (pss_one (ps_ret (pe_and (pe_call ((ok_is_whole e).mono (by decide)) hr rfl e.g_is_whole e.f_is_whole.kp e.b_is_whole .nil pass0 (pa_cons (pv 1) pa_nil)) (pe_and (pe_chain op_le op_lt pe_int (pv 1) (pe_callB LS.call_len (by rfl) e.n_len PySem.boot_len (pa_cons (pe_fld (pv 0) rfl) pa_nil))) (pe_one (pe_cmpR LS.op_notN (pe_ix ix_list (pe_fld (pv 0) rfl) (pv 1) (fun _ _ => rfl)) pe_non (nomark _))))))), ?_⟩
    have c_Shelf := e.cl_Shelf; have a_Shelf_books := e.nA_Shelf_books; have a_Shelf_out := e.nA_Shelf_out; have c_LiveShelf := e.cl_LiveShelf; have a_LiveShelf__shelf := e.nA_LiveShelf__shelf; have a_LiveShelf__steps := e.nA_LiveShelf__steps; have c_Console := e.cl_Console; have a_Console__live := e.nA_Console__live
    have ho := S.ob
    have hb := S.bk
    repeat array_get_dec
    refine ⟨p, rfl, ?_⟩
    repeat array_get_dec
    by_cases h0 : 0 ≤ p
    · rw [decide_eq_true h0]
      repeat array_get_dec
      rw [List.length_map]
      by_cases h1 : p < (s.books.length : Nat)
      · rw [decide_eq_true h1]
        obtain ⟨o, hx⟩ : ∃ o, s.books[p.toNat]? = some o := ⟨_, List.getElem?_eq_getElem (by omega)⟩
        repeat array_get_dec
        refine LS.rixl_n (j := p.toNat) (v := vo o) (by array_mem_dec) (by rw [List.getElem?_map, hx]; rfl) (by omega) ?_
        cases o with
        | none =>
          repeat array_get_dec
          rw [show (stp s (true, p)).isSome = false by unfold stp; rw [if_pos rfl, if_pos h0]; dsimp only; rw [hx]; rfl] at k
          exact LS.rnotn_n k
        | some b =>
          repeat array_get_dec
          rw [show (stp s (true, p)).isSome = true by unfold stp; rw [if_pos rfl, if_pos h0]; dsimp only; rw [hx]; rfl] at k
          exact LS.rnotn_i k
      · rw [decide_eq_false h1]
        repeat array_get_dec
        rw [show (stp s (true, p)).isSome = false by unfold stp; rw [if_pos rfl, if_pos h0]; dsimp only; rw [List.getElem?_eq_none (by omega)]; rfl] at k
        exact k
    · rw [decide_eq_false h0]
      repeat array_get_dec
      rw [show (stp s (true, p)).isSome = false by unfold stp; rw [if_pos rfl, if_neg h0]; rfl] at k
      exact k
theorem ok_Shelf_can_return (e : Env w K mg) : FnOk P w K mg base CX0 2 e.a_Shelf_can_return e.d_Shelf_can_return ["self", "book"] (sp_Shelf_can_return e.C_Shelf) := by
  refine Fun.ok e.f_Shelf_can_return sc_Shelf_can_return (fun vs H Q E h => ?_) (fun cdv A outer s H vs Q E hr h => ?_)
  · obtain ⟨sh, dx, bl, ol, s, p, rfl, _⟩ := h; rfl
  · obtain ⟨sh, dx, bl, ol, s, p, rfl, S, k⟩ := h
    refine ⟨_, (pss_one (ps_ret (pe_and (pe_call ((ok_is_whole e).mono (by decide)) hr rfl e.g_is_whole e.f_is_whole.kp e.b_is_whole .nil pass0 (pa_cons (pv 1) pa_nil)) (pe_one (pe_cmpR op_in_seq (pv 1) (pe_fld (pv 0) rfl) (by rfl)))))), ?_⟩
    have c_Shelf := e.cl_Shelf; have a_Shelf_books := e.nA_Shelf_books; have a_Shelf_out := e.nA_Shelf_out; have c_LiveShelf := e.cl_LiveShelf; have a_LiveShelf__shelf := e.nA_LiveShelf__shelf; have a_LiveShelf__steps := e.nA_LiveShelf__steps; have c_Console := e.cl_Console; have a_Console__live := e.nA_Console__live
    have ho := S.ob
    have hb := S.ou
    repeat array_get_dec
    refine ⟨p, rfl, ?_⟩
    repeat array_get_dec
    rw [show (stp s (false, p)).isSome = decide (p ∈ s.out) by
      unfold stp
      rw [if_neg (by simp)]
      dsimp only
      by_cases q : p ∈ s.out
      · rw [if_pos q, decide_eq_true q]; rfl
      · rw [if_neg q, decide_eq_false q]; rfl] at k
    exact k
theorem ok_Shelf_first_gap (e : Env w K mg) : FnOk P w K mg base CX0 1 e.a_Shelf_first_gap e.d_Shelf_first_gap ["self"] (sp_Shelf_first_gap e.C_Shelf) := by
  refine Fun.ok e.f_Shelf_first_gap sc_Shelf_first_gap (fun vs H Q E h => ?_) (fun cdv A outer s H vs Q E hr h => ?_)
  · obtain ⟨sh, dx, bl, ol, s, rfl, _⟩ := h; rfl
  · obtain ⟨sh, dx, bl, ol, s, rfl, S, hg, k⟩ := h
    refine ⟨_, (pss_one (ps_ret (pe_bm PySem.F.plainAttrs_list PySem.F.slot_list_index PySem.F.type_list_index mt_index (pe_fld (pv 0) rfl) (pa_cons pe_non pa_nil)))), ?_⟩
    have c_Shelf := e.cl_Shelf; have a_Shelf_books := e.nA_Shelf_books; have a_Shelf_out := e.nA_Shelf_out; have c_LiveShelf := e.cl_LiveShelf; have a_LiveShelf__shelf := e.nA_LiveShelf__shelf; have a_LiveShelf__steps := e.nA_LiveShelf__steps; have c_Console := e.cl_Console; have a_Console__live := e.nA_Console__live
    have ho := S.ob
    have hb := S.bk
    repeat array_get_dec
    refine LS.rindex (j := gap s.books) (by array_mem_dec) rfl (flat_vo _) (by rw [List.getElem?_map, gap_get hg]; rfl) rfl (fun m z hm hz => ?_) ?_
    · obtain ⟨o, ho2, rfl⟩ := vo_at hz
      have := gap_before hm ho2
      cases o with
      | none => exact absurd rfl this
      | some b => rfl
    · exact k
theorem ok_Shelf_take_from (e : Env w K mg) : FnOk P w K mg base CX0 1 e.a_Shelf_take_from e.d_Shelf_take_from ["self", "place"] (sp_Shelf_take_from e.C_Shelf) := by
  refine Fun.ok e.f_Shelf_take_from sc_Shelf_take_from (fun vs H Q E h => ?_) (fun cdv A outer s H vs Q E hr h => ?_)
  · obtain ⟨sh, dx, bl, ol, s, u, p, rfl, _⟩ := h; rfl
  · obtain ⟨sh, dx, bl, ol, s, u, p, rfl, S, hu, hl, hl2, k⟩ := h
    refine ⟨_, (pss_cons (ps_set (i := 2) sc_Shelf_take_from.nd rfl (by first | exact Or.inl rfl | exact Or.inr rfl) (pe_ix ix_list (pe_fld (pv 0) rfl) (pv 1) (fun _ _ => rfl)))
      (pss_cons (ps_asg pe_non (pg_sub (pe_fld (pv 0) rfl) (pv 1) set_list))
      (pss_cons (ps_expr (pe_bm PySem.F.plainAttrs_list PySem.F.slot_list_append PySem.F.type_list_append mt_append (pe_fld (pv 0) rfl) (pa_cons (pv 2) pa_nil)))
      (pss_one (ps_ret (pv 2)))))), ?_⟩
    have c_Shelf := e.cl_Shelf; have a_Shelf_books := e.nA_Shelf_books; have a_Shelf_out := e.nA_Shelf_out; have c_LiveShelf := e.cl_LiveShelf; have a_LiveShelf__shelf := e.nA_LiveShelf__shelf; have a_LiveShelf__steps := e.nA_LiveShelf__steps; have c_Console := e.cl_Console; have a_Console__live := e.nA_Console__live
    have ho := S.ob
    have hb := S.bk
    have hou := S.ou
    have hne := S.ne
    repeat array_get_dec
    obtain ⟨h0, bb, hx, rfl⟩ := stp_take hu
    refine LS.rixl_n (j := p.toNat) (v := .int bb) (by array_mem_dec) (by rw [List.getElem?_map, hx]; rfl) (by omega) ?_
    repeat array_get_dec
    refine LS.rset (j := p.toNat) (by array_mem_dec) (by rw [List.length_map]; exact ixN_int h0 (List.getElem?_eq_some_iff.mp hx).1) fun H1 f1 h1 => ?_
    repeat array_get_dec
    refine LS.rapp (xs := s.out.map V.int) (by array_mem_dec) (LS.szl (by rw [List.length_map]; omega)) fun H2 f2 h2 => ?_
    repeat array_get_dec
    have ed : due s (true, p) = bb := by unfold due; rw [if_pos rfl, hx]
    rw [← ed]
    refine k H2 (by array_mem_dec) ⟨(by array_mem_dec), ?_, ?_, hne⟩
    · rw [LS.hp_f f2 h1 (by array_mem_dec), List.map_set]; rfl
    · rw [h2, List.map_append]; rfl
theorem ok_Shelf_put_back (e : Env w K mg) : FnOk P w K mg base CX0 2 e.a_Shelf_put_back e.d_Shelf_put_back ["self", "book"] (sp_Shelf_put_back e.C_Shelf) := by
  refine Fun.ok e.f_Shelf_put_back sc_Shelf_put_back (fun vs H Q E h => ?_) (fun cdv A outer s H vs Q E hr h => ?_)
  · obtain ⟨sh, dx, bl, ol, s, u, p, rfl, _⟩ := h; rfl
  · obtain ⟨sh, dx, bl, ol, s, u, p, rfl, S, hu, hg, hl, k⟩ := h
    refine ⟨_, (pss_cons (ps_set (i := 2) sc_Shelf_put_back.nd rfl (by first | exact Or.inl rfl | exact Or.inr rfl) (pe_meth0 (pv 0) e.cl_Shelf e.m_Shelf_first_gap ((ok_Shelf_first_gap e).mono (by decide)) hr e.b_Shelf_first_gap .nil pass0))
      (pss_cons (ps_asg (pv 1) (pg_sub (pe_fld (pv 0) rfl) (pv 2) set_list))
      (pss_cons (ps_expr (pe_bm PySem.F.plainAttrs_list PySem.F.slot_list_remove PySem.F.type_list_remove mt_remove (pe_fld (pv 0) rfl) (pa_cons (pv 1) pa_nil)))
      (pss_one (ps_ret (pv 2)))))), ?_⟩
    have c_Shelf := e.cl_Shelf; have a_Shelf_books := e.nA_Shelf_books; have a_Shelf_out := e.nA_Shelf_out; have c_LiveShelf := e.cl_LiveShelf; have a_LiveShelf__shelf := e.nA_LiveShelf__shelf; have a_LiveShelf__steps := e.nA_LiveShelf__steps; have c_Console := e.cl_Console; have a_Console__live := e.nA_Console__live
    have ho := S.ob
    have hb := S.bk
    have hou := S.ou
    have hne := S.ne
    obtain ⟨hp, rfl⟩ := stp_ret hu
    repeat array_get_dec
    refine ⟨sh, dx, bl, ol, s, rfl, S, hg, ?_⟩
    repeat array_get_dec
    refine LS.rset (j := gap s.books) (by array_mem_dec) (by rw [List.length_map]; exact ixN_at (gap_lt hg)) fun H1 f1 h1 => ?_
    repeat array_get_dec
    refine LS.rrem (k := s.out.idxOf p) (by array_mem_dec) (idx_get hp) (fun m hm => idx_before hm) fun H2 f2 h2 => ?_
    repeat array_get_dec
    have ed : due s (false, p) = (gap s.books : Nat) := by unfold due; rw [if_neg (by simp)]
    rw [← ed]
    refine k H2 (by array_mem_dec) ⟨(by array_mem_dec), ?_, ?_, hne⟩
    · rw [LS.hp_f f2 h1 (by array_mem_dec), List.map_set]; rfl
    · rw [h2, List.erase_eq_eraseIdx_of_idxOf rfl]
end
end LP

namespace LP
open PySem L2 LT LG LQ LH LC LX LR
local macro_rules | `(tactic| array_mem_dec) => `(tactic| first
  | assumption
  | ((with_reducible apply LS.hp_s); assumption; array_mem_dec)
  | ((with_reducible apply LS.hp_f); assumption; array_mem_dec; array_mem_dec)
  | ((with_reducible apply LS.hp_t); assumption; array_mem_dec; array_mem_dec)
  | ((with_reducible apply LS.hp_l); assumption; array_mem_dec; array_mem_dec)
  | ((with_reducible apply LS.sq_o); array_mem_dec)
  | ((with_reducible apply LS.sq_s); assumption; array_mem_dec)
  | ((with_reducible apply LS.sq_f); assumption; array_mem_dec; array_mem_dec)
  | ((with_reducible apply LS.sq_t); assumption; array_mem_dec; array_mem_dec)
  | ((with_reducible apply LS.sq_l); assumption; array_mem_dec; array_mem_dec)
  | ((with_reducible apply LS.tu_o); array_mem_dec)
  | ((with_reducible apply LS.tu_s); assumption; array_mem_dec)
  | ((with_reducible apply LS.tu_f); assumption; array_mem_dec; array_mem_dec)
  | ((with_reducible apply LS.tu_t); assumption; array_mem_dec; array_mem_dec)
  | ((with_reducible apply LS.tu_l); assumption; array_mem_dec; array_mem_dec)
  | ((with_reducible apply LS.se_l); array_mem_dec)
  | ((with_reducible apply LS.se_t); array_mem_dec)
  | ((with_reducible apply LS.se_s); assumption; array_mem_dec)
  | ((with_reducible apply LS.se_f); assumption; array_mem_dec; array_mem_dec)
  | ((with_reducible apply LS.se_tt); assumption; array_mem_dec; array_mem_dec)
  | ((with_reducible exact Same.refl _))
  | ((with_reducible apply LS.sm_s); assumption; array_mem_dec)
  | ((with_reducible apply LS.sm_f); assumption; array_mem_dec; array_mem_dec)
  | ((with_reducible exact Fr.refl _ _))
  | ((with_reducible apply LS.fr_b); assumption; array_mem_dec)
  | ((with_reducible apply LS.fr_s); assumption; array_mem_dec)
  | ((with_reducible apply LS.fr_n); assumption; array_mem_dec; array_mem_dec)
  | ((with_reducible apply LS.fr_t); assumption; array_mem_dec)
  | ((with_reducible apply LS.no_s); assumption; array_mem_dec)
  | ((with_reducible apply LS.no_f); assumption; array_mem_dec; array_mem_dec)
  | ((with_reducible apply LS.no_t); assumption; array_mem_dec)
  | ((with_reducible apply LS.no_l); assumption; assumption)
  | ((with_reducible apply Ne.symm); assumption)
  | ((with_reducible apply LS.ne_a); assumption; array_mem_dec)
  | ((with_reducible apply LS.ne_b); assumption; array_mem_dec)
  | ((with_reducible apply LS.ne_ap); assumption)
  | ((with_reducible apply LS.ne_il); assumption; array_mem_dec)
  | ((with_reducible apply LS.ne_li); assumption; array_mem_dec)
  | ((with_reducible apply LS.ne_lt); assumption; assumption)
  | ((with_reducible apply LS.ne_tl); assumption; assumption)
  | ((with_reducible apply LS.ne_rl); assumption; array_mem_dec)
  | ((with_reducible apply LS.rl_t); assumption)
  | ((with_reducible apply LS.rl_s); assumption; array_mem_dec)
  | ((with_reducible apply LS.rl_f); assumption; array_mem_dec; array_mem_dec)
  | ((with_reducible apply LS.rl_l); assumption; array_mem_dec; array_mem_dec)
  | ((with_reducible apply LS.ap_new); assumption; assumption; array_mem_dec)
  | ((with_reducible apply LS.ap_t); assumption; array_mem_dec; array_mem_dec)
  | ((with_reducible apply LS.ap_s); assumption; array_mem_dec; array_mem_dec)
  | ((with_reducible apply LS.ap_f); assumption; array_mem_dec; array_mem_dec; array_mem_dec)
  | ((with_reducible apply LS.ap_l); assumption; array_mem_dec; array_mem_dec; array_mem_dec)
  | (with_reducible apply LS.ni_nil)
  | ((with_reducible apply LS.ni_cons); array_mem_dec; array_mem_dec)
  | (with_reducible apply LS.trk_nil)
  | ((with_reducible apply LS.trk_cons); array_mem_dec; array_mem_dec)
  | (with_reducible apply LS.al_nil)
  | ((with_reducible apply LS.al_cons); array_mem_dec; array_mem_dec)
  | (with_reducible apply LS.mem_hd)
  | ((with_reducible apply LS.mem_tl); array_mem_dec)
  | ((with_reducible apply LS.fl_refl); array_mem_dec)
  | ((with_reducible apply LS.fl_l); assumption; array_mem_dec)
  | ((with_reducible apply LS.fl_lm); assumption; array_mem_dec; array_mem_dec)
  | (with_reducible apply LS.sub_nil)
  | ((with_reducible apply LS.sub_cons); array_mem_dec; array_mem_dec)
  | ((with_reducible apply LS.fl_s); assumption; array_mem_dec)
  | ((with_reducible apply LS.fl_m); assumption; array_mem_dec; array_mem_dec; array_mem_dec)
  | ((with_reducible apply LS.fl_n); assumption; array_mem_dec; array_mem_dec; array_mem_dec)
  | ((with_reducible apply LS.rt_refl); array_mem_dec)
  | ((with_reducible apply LS.rt_t); assumption; array_mem_dec)
  | ((with_reducible apply LS.rt_s); assumption; array_mem_dec)
  | ((with_reducible apply LS.rt_f); assumption; array_mem_dec; array_mem_dec; array_mem_dec)
  | ((with_reducible apply LS.sz); (first | decide | (simp only [List.length_append, List.length_map, List.length_cons, List.length_nil, List.length_replicate]; omega)))
  | ((with_reducible apply LS.szl); (first | decide | (simp only [List.length_append, List.length_map, List.length_cons, List.length_nil, List.length_replicate]; omega))))
local macro_rules | `(tactic| array_get_dec) => `(tactic| first
  | ((with_reducible apply LS.var); exact rfl)
  | (with_reducible apply LS.con)
  | (with_reducible apply LS.op)
  | (with_reducible apply LS.ri0)
  | (with_reducible apply LS.tseq)
  | (with_reducible apply LS.tasg)
  | (with_reducible apply LS.gname)
  | (with_reducible apply LS.tcons)
  | (with_reducible apply LS.tnil)
  | (with_reducible apply LS.tcb)
  | (with_reducible apply LS.tcall)
  | (with_reducible apply LS.ttest)
  | (with_reducible apply LS.k_b)
  | (with_reducible apply LS.tb)
  | (with_reducible apply LS.tifs)
  | (with_reducible apply LS.ift)
  | (with_reducible apply LS.iff_)
  | (with_reducible apply LS.ifnt)
  | (with_reducible apply LS.ifnf)
  | (with_reducible apply LS.tnext)
  | (with_reducible apply LS.tdrop)
  | (with_reducible apply LS.tret)
  | (with_reducible apply LS.tretn)
  | (with_reducible apply LS.un)
  | (with_reducible apply LS.ru)
  | (with_reducible apply LS.tyes)
  | (with_reducible apply LS.tand)
  | (with_reducible apply LS.tor)
  | (with_reducible apply LS.tnot)
  | (with_reducible apply LS.tif)
  | (with_reducible apply LS.tandv)
  | (with_reducible apply LS.k_av)
  | (with_reducible apply LS.torv)
  | (with_reducible apply LS.k_ov)
  | (with_reducible apply LS.tnotv)
  | (with_reducible apply LS.k_nv)
  | (with_reducible apply LS.tchain)
  | (with_reducible apply LS.k_ch)
  | (with_reducible apply LS.req_i)
  | (with_reducible apply LS.rne_i)
  | (with_reducible apply LS.req_s)
  | (with_reducible apply LS.rne_s)
  | (with_reducible apply LS.req_b)
  | (with_reducible apply LS.rne_b)
  | ((with_reducible apply LS.rin_i); array_mem_dec)
  | ((with_reducible apply LS.rni_i); array_mem_dec)
  | ((with_reducible apply LS.rlen_li); array_mem_dec)
  | ((with_reducible apply LS.rlen_ls); array_mem_dec)
  | ((with_reducible apply LS.rlen_l); array_mem_dec)
  | ((with_reducible apply LS.rlen_Ei); array_mem_dec)
  | ((with_reducible apply LS.rlen_E); array_mem_dec)
  | ((with_reducible apply LS.rlen_t); array_mem_dec)
  | ((with_reducible apply LS.rixl); array_mem_dec; exact rfl)
  | ((with_reducible apply LS.rixt); array_mem_dec; exact rfl)
  | (with_reducible apply LS.isi_int_int)
  | (with_reducible apply LS.isi_int_bool)
  | (with_reducible apply LS.isi_int_str)
  | (with_reducible apply LS.isi_str_int)
  | (with_reducible apply LS.isi_str_bool)
  | (with_reducible apply LS.isi_str_str)
  | (with_reducible apply LS.isi_bool_int)
  | (with_reducible apply LS.isi_bool_bool)
  | (with_reducible apply LS.isi_bool_str)
  | (with_reducible apply LS.isi_non_int)
  | (with_reducible apply LS.isi_non_bool)
  | (with_reducible apply LS.isi_non_str)
  | ((with_reducible apply LS.isi_list_int); array_mem_dec)
  | ((with_reducible apply LS.isi_list_bool); array_mem_dec)
  | ((with_reducible apply LS.isi_list_str); array_mem_dec)
  | ((with_reducible apply LS.isi_list_list); array_mem_dec)
  | ((with_reducible apply LS.isi_list_tuple); array_mem_dec)
  | ((with_reducible apply LS.isi_tuple_int); array_mem_dec)
  | ((with_reducible apply LS.isi_tuple_bool); array_mem_dec)
  | ((with_reducible apply LS.isi_tuple_str); array_mem_dec)
  | ((with_reducible apply LS.isi_tuple_list); array_mem_dec)
  | ((with_reducible apply LS.isi_tuple_tuple); array_mem_dec)
  | ((with_reducible apply LS.isiT_i); array_mem_dec)
  | ((with_reducible apply LS.isiT_s); array_mem_dec)
  | ((with_reducible apply LS.isiT_E); array_mem_dec; array_mem_dec)
  | (with_reducible apply LS.tfld)
  | ((with_reducible apply LS.k_fl); array_mem_dec; assumption; assumption; exact rfl)
  | (with_reducible apply LS.tmeth)
  | ((with_reducible apply LS.k_me); array_mem_dec; exact rfl)
  | (with_reducible apply LS.tmake)
  | (with_reducible apply LS.tsfld)
  | (with_reducible apply LS.tprop)
  | ((with_reducible apply LS.k_pr); array_mem_dec)
  | ((with_reducible apply LS.rlen_own); array_mem_dec)
  | (with_reducible apply LS.rabs)
  | (with_reducible apply LS.rmin2)
  | (with_reducible apply LS.rmax2)
  | (with_reducible apply LS.tsl)
  | (with_reducible apply LS.tthen)
  | (with_reducible apply LS.tstep)
  | (with_reducible apply LS.tnop)
  | (with_reducible apply LS.tpart)
  | (with_reducible apply LS.k_part)
  | (with_reducible apply LS.ttup)
  | (with_reducible apply LS.tlst)
  | (with_reducible apply LS.tbm)
  | (with_reducible apply LS.tbm0)
  | ((with_reducible apply LS.ty_l); array_mem_dec)
  | (with_reducible apply LS.tpar)
  | (with_reducible apply LS.tfor)
  | (with_reducible apply LS.tlc)
  | (with_reducible apply LS.ilist)
  | ((with_reducible apply LS.k_il); array_mem_dec)
  | (with_reducible apply LS.itup)
  | ((with_reducible apply LS.k_it); array_mem_dec)
  | (with_reducible apply LS.istr)
  | (with_reducible apply LS.k_is)
  | (with_reducible apply LS.irng1)
  | ((with_reducible apply LS.k_r1n); omega)
  | ((with_reducible apply LS.k_r1); (first | omega | decide); (first | omega | decide))
  | (with_reducible apply LS.irng2)
  | ((with_reducible apply LS.k_r2); (first | omega | decide); (first | omega | decide); (first | omega | decide); (first | omega | decide))
  | (with_reducible apply LS.ienum)
  | ((with_reducible apply LS.k_en); array_mem_dec)
  | (with_reducible apply LS.izip)
  | ((with_reducible apply LS.k_zip); array_mem_dec; array_mem_dec)
  | (with_reducible apply LS.tlstrg)
  | (with_reducible apply LS.trg1)
  | (with_reducible apply LS.k_g1)
  | (with_reducible apply LS.risn_i)
  | (with_reducible apply LS.risn_s)
  | (with_reducible apply LS.risn_n)
  | (with_reducible apply LS.rnotn_i)
  | (with_reducible apply LS.rnotn_n)
  | (with_reducible apply LS.rint_b)
  | (with_reducible apply LS.rint_i)
  | (with_reducible apply LS.tm0)
  | (with_reducible apply LS.tm1)
  | (with_reducible apply LS.is_str)
  | (with_reducible apply LS.ex_s0)
  | (with_reducible apply LS.ex_int_b)
  | (with_reducible apply LS.k_par)
  | (with_reducible apply LS.tpar3)
  | (with_reducible apply LS.k_par3)
  | ((with_reducible apply LS.taug); exact rfl)
  | (with_reducible apply LS.ipi)
  | ((with_reducible apply LS.gtup); array_mem_dec; exact rfl)
  | ((with_reducible apply LS.gunl); array_mem_dec; exact rfl)
  | (with_reducible apply LS.gnil)
  | (with_reducible apply LS.gcons)
  | (with_reducible apply LS.gsub)
  | ((with_reducible apply LS.ri); first | omega | decide | assumption | exact ⟨by decide, by decide, by decide⟩ | exact .inl ⟨by decide, by decide⟩ | exact .inr ⟨by decide, by decide⟩ | exact .inl ⟨by omega, by omega⟩ | exact .inr ⟨by omega, by omega⟩)
  | (with_reducible apply LS.ex_ss)
  | (with_reducible apply LS.ex_s1)
  | (with_reducible apply LS.ex_i1)
  | (with_reducible apply LS.and_rfl)
  | (with_reducible apply LS.and_tr)
  | (with_reducible apply LS.is_non))
local macro_rules | `(tactic| array_mem_dec) => `(tactic| first
  | ((with_reducible apply LP.lv_s); assumption; array_mem_dec)
  | ((with_reducible apply LP.lv_l); assumption; array_mem_dec; array_mem_dec; array_mem_dec)
  | ((with_reducible apply LP.lv_f); assumption; array_mem_dec; array_mem_dec; array_mem_dec)
  | ((with_reducible apply LP.lv_t); assumption; array_mem_dec; array_mem_dec; array_mem_dec)
  | ((with_reducible apply LP.ops_s); assumption; array_mem_dec)
  | ((with_reducible apply LP.md_s); assumption; array_mem_dec)
  | ((with_reducible apply LP.md_l); assumption; array_mem_dec; array_mem_dec; array_mem_dec)
  | ((with_reducible apply LP.md_f); assumption; array_mem_dec; array_mem_dec; array_mem_dec)
  | ((with_reducible apply LP.md_t); assumption; array_mem_dec; array_mem_dec; array_mem_dec)
  | ((with_reducible apply LP.al_s); assumption; array_mem_dec; array_mem_dec)
  | ((with_reducible apply LP.al_t); assumption; array_mem_dec; array_mem_dec)
  | ((with_reducible apply LP.al_l); assumption; array_mem_dec; array_mem_dec; array_mem_dec)
  | ((with_reducible apply LP.al_f); assumption; array_mem_dec; array_mem_dec; array_mem_dec)
  | ((with_reducible apply LP.Lv.lists); array_mem_dec)
  | ((with_reducible apply LP.Lv.trk); array_mem_dec)
  | ((with_reducible apply LP.Mdl.trk); array_mem_dec)
  | ((with_reducible apply LP.al_no); assumption; array_mem_dec))
local macro_rules | `(tactic| array_get_dec) => `(tactic| first
  | (with_reducible apply LS.tcalle)
  | (with_reducible apply LS.tcalls))
local macro_rules | `(tactic| array_get_dec) => `(tactic| first
  | (with_reducible apply LS.tmethv)
  | (with_reducible apply LS.tmakev)
  | (with_reducible apply LS.rnotn_rr)
  | (with_reducible apply LS.risn_rr)
  | ((with_reducible apply LS.k_mev); array_mem_dec; exact rfl))
local macro_rules | `(tactic| array_get_dec) => `(tactic| first
  | (with_reducible apply LS.trg2)
  | (with_reducible apply LS.k_g2))

section
variable {P : Program} {w : World} {K : PySem.W.Frag} {mg : Str → Option Value} {base : Heap}

theorem outs_le {n : Nat} {s : Sim} (g : Good n s) : s.out.length ≤ n := by
  have := g.perm.length_eq
  rw [List.length_append, rangeI_length] at this
  omega
theorem ok_LiveShelf_init (e : Env w K mg) : FnOk P w K mg base CX0 3 e.a_LiveShelf_init e.d_LiveShelf_init ["self", "size"] (sp_LiveShelf_init e.C_LiveShelf e.C_Shelf) := by
  refine Fun.ok e.f_LiveShelf_init sc_LiveShelf_init (fun vs H Q E h => ?_) (fun cdv A outer s H vs Q E hr h => ?_)
  · obtain ⟨p, dx, n, rfl, _⟩ := h; rfl
  · obtain ⟨p, dx, n, rfl, hn1, hn, hp, k⟩ := h
    refine ⟨_, (pss_cons (ps_expr (pe_call ((ok_check_size e).mono (by decide)) hr rfl e.g_check_size e.f_check_size.kp e.b_check_size .nil pass0 (pa_cons (pv 1) pa_nil)))
      (pss_cons (ps_fld (pv 0) (pe_make e.mk_Shelf ((ok_Shelf_init e).mono (by decide)) hr rfl e.g_Shelf e.b_Shelf_init .nil pass0 (pa_cons (pv 1) pa_nil)) rfl)
      (pss_one (ps_fld (pv 0) (pe_lst pa_nil) rfl)))), ?_⟩
    have c_Shelf := e.cl_Shelf; have a_Shelf_books := e.nA_Shelf_books; have a_Shelf_out := e.nA_Shelf_out; have c_LiveShelf := e.cl_LiveShelf; have a_LiveShelf__shelf := e.nA_LiveShelf__shelf; have a_LiveShelf__steps := e.nA_LiveShelf__steps; have c_Console := e.cl_Console; have a_Console__live := e.nA_Console__live
    repeat array_get_dec
    refine ⟨_, rfl, by omega, by omega, ?_⟩
    repeat array_get_dec
    refine LS.k_mk fun sh ds H1 n1 n2 s1 h1 => ?_
    refine ⟨sh, ds, n, rfl, hn, h1, fun H2 bl ol f2 S nb no => ⟨rfl, ?_⟩⟩
    have hsb := S.ob
    have hsk := S.bk
    have hso := S.ou
    repeat array_get_dec
    refine LS.k_sf (gs := [("_shelf", .ref sh)]) (by array_mem_dec) c_LiveShelf a_LiveShelf__shelf (by decide) rfl fun H3 f3 h3 => ?_
    repeat array_get_dec
    refine LS.k_lst (by array_mem_dec) fun st H4 n4 s4 h4 => ?_
    repeat array_get_dec
    refine LS.k_sf (gs := [("_shelf", .ref sh), ("_steps", .ref st)]) (by array_mem_dec) c_LiveShelf a_LiveShelf__steps (by show 1 < 1000; decide) rfl fun H5 f5 h5 => ?_
    repeat array_get_dec
    have nbs : bl ≠ st := (by array_mem_dec)
    have nos : ol ≠ st := (by array_mem_dec)
    have nb0 : H bl = none := (by array_mem_dec)
    have no0 : H ol = none := (by array_mem_dec)
    have nst : H st = none := (by array_mem_dec)
    refine k H5 ⟨p, dx, sh, ds, bl, ol, st⟩ rfl (by array_mem_dec) ⟨h5, ⟨(by array_mem_dec), (by array_mem_dec), (by array_mem_dec), S.ne⟩, ⟨[], (by array_mem_dec), ⟨rfl, fun i a t ha => by simp at ha⟩⟩, nbs, nos⟩ (fun a ha => ?_) (by array_mem_dec)
    simp [Ad.L] at ha
    rcases ha with rfl | rfl | rfl <;> assumption
theorem ok_LiveShelf_take_book (e : Env w K mg) : FnOk P w K mg base CX0 3 e.a_LiveShelf_take_book e.d_LiveShelf_take_book ["self", "place"] (sp_LiveShelf_take_book e.C_LiveShelf e.C_Shelf) := by
  refine Fun.ok e.f_LiveShelf_take_book sc_LiveShelf_take_book (fun vs H Q E h => ?_) (fun cdv A outer s H vs Q E hr h => ?_)
  · obtain ⟨A, s, u, ss, p, n, rfl, _⟩ := h; rfl
  · obtain ⟨A, s, u, ss, p, n, rfl, l, g, hn, hu, hl, k⟩ := h
    refine ⟨_, (pss_cons (ps_if (pt_not (pt_val (pe_meth (pe_fld (pv 0) rfl) e.cl_Shelf e.m_Shelf_can_take ((ok_Shelf_can_take e).mono (by decide)) hr e.b_Shelf_can_take .nil pass0 (pa_cons (pv 1) pa_nil))))
        (pss_one ps_never)
        pss_nil)
      (pss_cons (ps_set (i := 2) sc_LiveShelf_take_book.nd rfl (by first | exact Or.inl rfl | exact Or.inr rfl) (pe_callB LS.call_len (by rfl) e.n_len PySem.boot_len (pa_cons (pe_fld (pe_fld (pv 0) rfl) rfl) pa_nil)))
      (pss_cons (ps_expr (pe_bm PySem.F.plainAttrs_list PySem.F.slot_list_append PySem.F.type_list_append mt_append (pe_fld (pv 0) rfl) (pa_cons (pe_tup (pa_cons (pe_tup (pa_cons pe_str (pa_cons (pv 1) pa_nil))) (pa_cons (pv 1) (pa_cons (pv 2) pa_nil)))) pa_nil)))
      (pss_one (ps_ret (pe_meth (pe_fld (pv 0) rfl) e.cl_Shelf e.m_Shelf_take_from ((ok_Shelf_take_from e).mono (by decide)) hr e.b_Shelf_take_from .nil pass0 (pa_cons (pv 1) pa_nil))))))), ?_⟩
    have c_Shelf := e.cl_Shelf; have a_Shelf_books := e.nA_Shelf_books; have a_Shelf_out := e.nA_Shelf_out; have c_LiveShelf := e.cl_LiveShelf; have a_LiveShelf__shelf := e.nA_LiveShelf__shelf; have a_LiveShelf__steps := e.nA_LiveShelf__steps; have c_Console := e.cl_Console; have a_Console__live := e.nA_Console__live
    have ho := l.ob
    have hs := l.sf.ob
    have hk := l.sf.bk
    have hou := l.sf.ou
    have g1 := g.len
    have g2 := outs_le g
    have nb := l.n1
    have no := l.n2
    obtain ⟨as, h1, h2⟩ := l.ex
    have hsl := h2.1
    repeat array_get_dec
    refine ⟨A.sh, A.ds, A.bl, A.ol, s, p, rfl, l.sf, ?_⟩
    rw [hu, Option.isSome_some]
    repeat array_get_dec
    refine LS.k_tup (by array_mem_dec) fun t1 H_t1 n_t1 s_t1 h_t1 => ?_
    repeat array_get_dec
    refine LS.k_tup (by array_mem_dec) fun t2 H_t2 n_t2 s_t2 h_t2 => ?_
    repeat array_get_dec
    refine LS.rapp (xs := as.map V.ref) (by array_mem_dec) (LS.szl (by rw [List.length_map]; omega)) fun H3 f3 h3 => ?_
    repeat array_get_dec
    refine ⟨A.sh, A.ds, A.bl, A.ol, s, u, p, rfl, ⟨(by array_mem_dec), (by array_mem_dec), (by array_mem_dec), l.sf.ne⟩, hu, by omega, by omega, fun H4 f4 S4 => ?_⟩
    have t1' : H4 t1 = some (.tup [.str "take", .int p]) := (by array_mem_dec)
    have t2' : H4 t2 = some (.tup [.ref t1, .int p, .int (s.out.length : Nat)]) := (by array_mem_dec)
    have kn : KN H H4 := kn_l (L := [A.bl, A.ol, A.st]) (by array_mem_dec) (li_cons hk (li_cons hou (li_cons h1 li_nil)))
    exact k H4 (show LS.FrL H H4 [A.bl, A.ol, A.st] from (by array_mem_dec)) ⟨(by array_mem_dec), S4, ⟨as ++ [t2], by rw [List.map_append]; exact (by array_mem_dec), (h2.kn kn).snoc t2' t1'⟩, nb, no⟩
theorem ok_LiveShelf_return_book (e : Env w K mg) : FnOk P w K mg base CX0 3 e.a_LiveShelf_return_book e.d_LiveShelf_return_book ["self", "book"] (sp_LiveShelf_return_book e.C_LiveShelf e.C_Shelf) := by
  refine Fun.ok e.f_LiveShelf_return_book sc_LiveShelf_return_book (fun vs H Q E h => ?_) (fun cdv A outer s H vs Q E hr h => ?_)
  · obtain ⟨A, s, u, ss, p, n, rfl, _⟩ := h; rfl
  · obtain ⟨A, s, u, ss, p, n, rfl, l, g, hn, hu, hl, k⟩ := h
    refine ⟨_, (pss_cons (ps_if (pt_not (pt_val (pe_meth (pe_fld (pv 0) rfl) e.cl_Shelf e.m_Shelf_can_return ((ok_Shelf_can_return e).mono (by decide)) hr e.b_Shelf_can_return .nil pass0 (pa_cons (pv 1) pa_nil))))
        (pss_one ps_never)
        pss_nil)
      (pss_cons (ps_set (i := 2) sc_LiveShelf_return_book.nd rfl (by first | exact Or.inl rfl | exact Or.inr rfl) (pe_bm PySem.F.plainAttrs_list PySem.F.slot_list_index PySem.F.type_list_index mt_index (pe_fld (pe_fld (pv 0) rfl) rfl) (pa_cons (pv 1) pa_nil)))
      (pss_cons (ps_set (i := 3) sc_LiveShelf_return_book.nd rfl (by first | exact Or.inl rfl | exact Or.inr rfl) (pe_meth (pe_fld (pv 0) rfl) e.cl_Shelf e.m_Shelf_put_back ((ok_Shelf_put_back e).mono (by decide)) hr e.b_Shelf_put_back .nil pass0 (pa_cons (pv 1) pa_nil)))
      (pss_cons (ps_expr (pe_bm PySem.F.plainAttrs_list PySem.F.slot_list_append PySem.F.type_list_append mt_append (pe_fld (pv 0) rfl) (pa_cons (pe_tup (pa_cons (pe_tup (pa_cons pe_str (pa_cons (pv 1) pa_nil))) (pa_cons (pv 3) (pa_cons (pv 2) pa_nil)))) pa_nil)))
      (pss_one (ps_ret (pv 3))))))), ?_⟩
    have c_Shelf := e.cl_Shelf; have a_Shelf_books := e.nA_Shelf_books; have a_Shelf_out := e.nA_Shelf_out; have c_LiveShelf := e.cl_LiveShelf; have a_LiveShelf__shelf := e.nA_LiveShelf__shelf; have a_LiveShelf__steps := e.nA_LiveShelf__steps; have c_Console := e.cl_Console; have a_Console__live := e.nA_Console__live
    have ho := l.ob
    have hs := l.sf.ob
    have hk := l.sf.bk
    have hou := l.sf.ou
    have g1 := g.len
    have g2 := outs_le g
    have nb := l.n1
    have no := l.n2
    obtain ⟨as, h1, h2⟩ := l.ex
    have hsl := h2.1
    have hin := (stp_ret hu).1
    have hgap := g.gap hin
    repeat array_get_dec
    refine ⟨A.sh, A.ds, A.bl, A.ol, s, p, rfl, l.sf, ?_⟩
    rw [hu, Option.isSome_some]
    repeat array_get_dec
    refine LS.rindex (j := s.out.idxOf p) (ys := s.out.map V.int) (by array_mem_dec) rfl (flat_ints _) (int_at (idx_get hin)) (by simp [eqV]) (fun m z hm hz => ?_) ?_
    · obtain ⟨i, hi, rfl⟩ := at_int hz
      have := idx_before hm
      show (i == p) = false
      exact beq_eq_false_iff_ne.mpr fun q => this (q ▸ hi)
    repeat array_get_dec
    refine ⟨A.sh, A.ds, A.bl, A.ol, s, u, p, rfl, l.sf, hu, hgap, by omega, fun H1 f1 S1 => ?_⟩
    repeat array_get_dec
    refine LS.k_tup (by array_mem_dec) fun t1 H_t1 n_t1 s_t1 h_t1 => ?_
    repeat array_get_dec
    refine LS.k_tup (by array_mem_dec) fun t2 H_t2 n_t2 s_t2 h_t2 => ?_
    repeat array_get_dec
    refine LS.rapp (xs := as.map V.ref) (by array_mem_dec) (LS.szl (by rw [List.length_map]; omega)) fun H3 f3 h3 => ?_
    repeat array_get_dec
    have ed : due s (false, p) = (gap s.books : Nat) := by unfold due; rw [if_neg (by simp)]
    have t1' : H3 t1 = some (.tup [.str "return", .int p]) := (by array_mem_dec)
    have t2' : H3 t2 = some (.tup [.ref t1, .int (due s (false, p)), .int (s.out.idxOf p : Nat)]) := (by array_mem_dec)
    rw [ed] at t2'
    have hs1 := S1.ob
    have hk1 := S1.bk
    have hou1 := S1.ou
    have kn : KN H H3 := kn_l (L := [A.bl, A.ol, A.st]) (by array_mem_dec) (li_cons hk (li_cons hou (li_cons h1 li_nil)))
    exact k H3 (show LS.FrL H H3 [A.bl, A.ol, A.st] from (by array_mem_dec)) ⟨(by array_mem_dec), ⟨(by array_mem_dec), (by array_mem_dec), (by array_mem_dec), S1.ne⟩, ⟨as ++ [t2], by rw [List.map_append]; exact h3, (h2.kn kn).snoc t2' t1'⟩, nb, no⟩
theorem ok_LiveShelf_current_books (e : Env w K mg) : FnOk P w K mg base CX0 1 e.a_LiveShelf_current_books e.d_LiveShelf_current_books ["self"] (sp_LiveShelf_current_books e.C_LiveShelf e.C_Shelf) := by
  refine Fun.ok e.f_LiveShelf_current_books sc_LiveShelf_current_books (fun vs H Q E h => ?_) (fun cdv A outer s H vs Q E hr h => ?_)
  · obtain ⟨A, s, ss, rfl, _⟩ := h; rfl
  · obtain ⟨A, s, ss, rfl, l, k⟩ := h
    refine ⟨_, (pss_one (ps_ret (pe_callTy LS.call_list (by rfl) e.n_list (by decide +kernel) (pa_cons (pe_fld (pe_fld (pv 0) rfl) rfl) pa_nil)))), ?_⟩
    have c_Shelf := e.cl_Shelf; have a_Shelf_books := e.nA_Shelf_books; have a_Shelf_out := e.nA_Shelf_out; have c_LiveShelf := e.cl_LiveShelf; have a_LiveShelf__shelf := e.nA_LiveShelf__shelf; have a_LiveShelf__steps := e.nA_LiveShelf__steps; have c_Console := e.cl_Console; have a_Console__live := e.nA_Console__live
    have ho := l.ob
    have hs := l.sf.ob
    have hk := l.sf.bk
    repeat array_get_dec
    exact LS.rlist_l (by array_mem_dec) k
theorem ok_LiveShelf_current_out (e : Env w K mg) : FnOk P w K mg base CX0 1 e.a_LiveShelf_current_out e.d_LiveShelf_current_out ["self"] (sp_LiveShelf_current_out e.C_LiveShelf e.C_Shelf) := by
  refine Fun.ok e.f_LiveShelf_current_out sc_LiveShelf_current_out (fun vs H Q E h => ?_) (fun cdv A outer s H vs Q E hr h => ?_)
  · obtain ⟨A, s, ss, rfl, _⟩ := h; rfl
  · obtain ⟨A, s, ss, rfl, l, k⟩ := h
    refine ⟨_, (pss_one (ps_ret (pe_callTy LS.call_list (by rfl) e.n_list (by decide +kernel) (pa_cons (pe_fld (pe_fld (pv 0) rfl) rfl) pa_nil)))), ?_⟩
    have c_Shelf := e.cl_Shelf; have a_Shelf_books := e.nA_Shelf_books; have a_Shelf_out := e.nA_Shelf_out; have c_LiveShelf := e.cl_LiveShelf; have a_LiveShelf__shelf := e.nA_LiveShelf__shelf; have a_LiveShelf__steps := e.nA_LiveShelf__steps; have c_Console := e.cl_Console; have a_Console__live := e.nA_Console__live
    have ho := l.ob
    have hs := l.sf.ob
    have hk := l.sf.ou
    repeat array_get_dec
    exact LS.rlist_l (by array_mem_dec) k
theorem ok_LiveShelf_current_gaps (e : Env w K mg) : FnOk P w K mg base CX0 1 e.a_LiveShelf_current_gaps e.d_LiveShelf_current_gaps ["self"] (sp_LiveShelf_current_gaps e.C_LiveShelf e.C_Shelf) := by
  refine Fun.ok e.f_LiveShelf_current_gaps sc_LiveShelf_current_gaps (fun vs H Q E h => ?_) (fun cdv A outer s H vs Q E hr h => ?_)
  · obtain ⟨A, s, ss, rfl, _⟩ := h; rfl
  · obtain ⟨A, s, ss, rfl, l, hl, k⟩ := h
    refine ⟨_, (pss_one (ps_ret (pe_lc (own := [("place", 1), ("book", 2)]) rfl sc_LiveShelf_current_gaps.nd (pi_enum (by rfl) e.n_enumerate (pa_cons (pe_fld (pe_fld (pv 0) rfl) rfl) pa_nil)) (blkOk_by (N := ["self", "place", "book"]) (sc := defScope s_LiveShelf_current_gaps) (by decide +kernel)) (fun _ _ _ _ _ => (show PG _ _ (gTup K 2 _) from pg_tup (by rfl) (pgs_cons (pg_name (i := 1) sc_LiveShelf_current_gaps.nd rfl (by first | exact Or.inl rfl | exact Or.inr rfl)) (pgs_cons (pg_name (i := 2) sc_LiveShelf_current_gaps.nd rfl (by first | exact Or.inl rfl | exact Or.inr rfl)) pgs_nil)))) (fun _ _ _ _ _ => pts_one (pt_cmpR LS.op_isN (pv 2) pe_non (nomark _))) (fun _ _ _ _ _ => (pv 1))))), ?_⟩
    have c_Shelf := e.cl_Shelf; have a_Shelf_books := e.nA_Shelf_books; have a_Shelf_out := e.nA_Shelf_out; have c_LiveShelf := e.cl_LiveShelf; have a_LiveShelf__shelf := e.nA_LiveShelf__shelf; have a_LiveShelf__steps := e.nA_LiveShelf__steps; have c_Console := e.cl_Console; have a_Console__live := e.nA_Console__live
    have ho := l.ob
    have hs := l.sf.ob
    have hk := l.sf.bk
    repeat array_get_dec
    refine LS.comp (walk_enum (xs := s.books.map vo)) (fun D i acc H' => Same H H' ∧ acc = (gapsTo s.books i).map V.int) (fun D H' nD s' hD => ⟨s', rfl⟩) (fun D i acc H' hi nD hD h => (by obtain ⟨h, _⟩ := h; exact (by array_mem_dec))) ?_ ?_
    · rintro D i acc x H2 H3 nD hi hl2 hD ⟨s2, rfl⟩ y
      obtain ⟨T, y, z, rfl, nT, s3, hT, hy, hz⟩ := LS.ypair y
      cases hy
      obtain ⟨o, ho2, rfl⟩ := vo_at hz
      rw [List.length_map] at hi
      repeat array_get_dec
      refine ⟨rfl, ?_⟩
      repeat array_get_dec
      cases o with
      | none =>
        refine LS.risn_n ?_
        repeat array_get_dec
        exact LS.k_lc (acc := (gapsTo s.books i).map V.int) (by array_mem_dec) hl2 (by omega) fun H5 f5 h5 => ⟨(by array_mem_dec), by rw [gapsTo, ho2, List.map_append]; rfl⟩
      | some bb =>
        refine LS.risn_i ?_
        repeat array_get_dec
        exact LS.k_lc0 (acc := (gapsTo s.books i).map V.int) (by array_mem_dec) hl2 ⟨(by array_mem_dec), by rw [gapsTo, ho2, List.append_nil]⟩
    · rintro D acc H2 nD hD hl2 ⟨s2, rfl⟩
      rw [List.length_map] at hD
      exact k D H2 nD s2 hD
theorem ok_LiveShelf_current_schedule (e : Env w K mg) : FnOk P w K mg base CX0 1 e.a_LiveShelf_current_schedule e.d_LiveShelf_current_schedule ["self"] (sp_LiveShelf_current_schedule e.C_LiveShelf e.C_Shelf) := by
  refine Fun.ok e.f_LiveShelf_current_schedule sc_LiveShelf_current_schedule (fun vs H Q E h => ?_) (fun cdv A outer s H vs Q E hr h => ?_)
  · obtain ⟨A, s, ss, rfl, _⟩ := h; rfl
  · obtain ⟨A, s, ss, rfl, l, hl, k⟩ := h
    refine ⟨_, (pss_one (ps_ret (pe_lc (own := [("operation", 1), ("_", 2)]) rfl sc_LiveShelf_current_schedule.nd (pi_list (pe_fld (pv 0) rfl)) (blkOk_by (N := ["self", "operation", "_"]) (sc := defScope s_LiveShelf_current_schedule) (by decide +kernel)) (fun _ _ _ _ _ => (show PG _ _ (gTup K 3 _) from pg_tup (by rfl) (pgs_cons (pg_name (i := 1) sc_LiveShelf_current_schedule.nd rfl (by first | exact Or.inl rfl | exact Or.inr rfl)) (pgs_cons (pg_name (i := 2) sc_LiveShelf_current_schedule.nd rfl (by first | exact Or.inl rfl | exact Or.inr rfl)) (pgs_cons (pg_name (i := 2) sc_LiveShelf_current_schedule.nd rfl (by first | exact Or.inl rfl | exact Or.inr rfl)) pgs_nil))))) (fun _ _ _ _ _ => pts_nil) (fun _ _ _ _ _ => (pv 1))))), ?_⟩
    have c_Shelf := e.cl_Shelf; have a_Shelf_books := e.nA_Shelf_books; have a_Shelf_out := e.nA_Shelf_out; have c_LiveShelf := e.cl_LiveShelf; have a_LiveShelf__shelf := e.nA_LiveShelf__shelf; have a_LiveShelf__steps := e.nA_LiveShelf__steps; have c_Console := e.cl_Console; have a_Console__live := e.nA_Console__live
    have ho := l.ob
    have hs := l.sf.ob
    obtain ⟨as, h1, h2⟩ := l.ex
    have hsl := h2.1
    repeat array_get_dec
    refine LS.comp (walk_list (xs := as.map V.ref)) (fun D i acc H' => Same H H' ∧ ∃ os, acc = os.map V.ref ∧ OpsOk H' os ((ss.take i).map (·.op))) (fun D H' nD s' hD => ⟨s', [], rfl, rfl, fun i a o ha => by simp at ha⟩) (fun D i acc H' hi nD hD h => (by obtain ⟨h, _⟩ := h; exact (by array_mem_dec))) ?_ ?_
    · rintro D i acc x H2 H3 nD hi hl2 hD ⟨s2, os, rfl, hos⟩ ⟨rfl, hx⟩
      rw [List.length_map] at hi
      obtain ⟨a, ha, rfl⟩ : ∃ a, as[i]? = some a ∧ x = .ref a := by
        rw [List.getElem?_map] at hx
        cases q : as[i]? with
        | none => rw [q] at hx; cases hx
        | some a => rw [q] at hx; cases hx; exact ⟨a, rfl, rfl⟩
      have ht : ss[i]? = some ss[i] := List.getElem?_eq_getElem (by omega)
      obtain ⟨o, e1, e2⟩ := h2.2 i a _ ha ht
      have e1' := s2 _ _ e1
      have e2' := s2 _ _ e2
      repeat array_get_dec
      refine ⟨rfl, ?_⟩
      repeat array_get_dec
      refine LS.k_lc (acc := os.map V.ref) (by array_mem_dec) hl2 (by omega) fun H5 f5 h5 => ⟨(by array_mem_dec), os ++ [o], by rw [List.map_append]; rfl, ?_⟩
      rw [List.take_add_one, ht, List.map_append]
      exact (hos.kn (kn_f f5 hD)).snoc (kn_f f5 hD _ _ e2' (by intro xs q; cases q))
    · rintro D acc H2 nD hD hl2 ⟨s2, os, rfl, hos⟩
      rw [List.length_map, List.take_of_length_le (by omega)] at hos
      exact k D H2 os nD s2 hD hos
theorem books_out_ne {n : Nat} {s : Sim} (g : Good n s) {x : Int} (h : x ∈ s.out) : ¬ some x ∈ s.books := fun q => by
  have nd := g.nodup
  rw [List.nodup_append] at nd
  exact nd.2.2 x (List.mem_filterMap.mpr ⟨some x, q, rfl⟩) x h rfl
theorem books_of_out {n : Nat} {s : Sim} (g : Good n s) {x : Int} (h0 : 0 ≤ x) (h1 : x < n) (h : ¬ x ∈ s.out) : some x ∈ s.books := by
  have := g.perm.symm.subset (mem_rangeI.mpr ⟨h0, h1⟩)
  rcases List.mem_append.mp this with q | q
  · obtain ⟨o, ho, e⟩ := List.mem_filterMap.mp q
    cases o with
    | none => cases e
    | some y => cases e; exact ho
  · exact absurd q h
end
end LP

namespace LP
open PySem L2 LT LG LQ LH LC LX LR
local macro_rules | `(tactic| array_mem_dec) => `(tactic| first
  | assumption
  | ((with_reducible apply LS.hp_s); assumption; array_mem_dec)
  | ((with_reducible apply LS.hp_f); assumption; array_mem_dec; array_mem_dec)
  | ((with_reducible apply LS.hp_t); assumption; array_mem_dec; array_mem_dec)
  | ((with_reducible apply LS.hp_l); assumption; array_mem_dec; array_mem_dec)
  | ((with_reducible apply LS.sq_o); array_mem_dec)
  | ((with_reducible apply LS.sq_s); assumption; array_mem_dec)
  | ((with_reducible apply LS.sq_f); assumption; array_mem_dec; array_mem_dec)
  | ((with_reducible apply LS.sq_t); assumption; array_mem_dec; array_mem_dec)
  | ((with_reducible apply LS.sq_l); assumption; array_mem_dec; array_mem_dec)
  | ((with_reducible apply LS.tu_o); array_mem_dec)
  | ((with_reducible apply LS.tu_s); assumption; array_mem_dec)
  | ((with_reducible apply LS.tu_f); assumption; array_mem_dec; array_mem_dec)
  | ((with_reducible apply LS.tu_t); assumption; array_mem_dec; array_mem_dec)
  | ((with_reducible apply LS.tu_l); assumption; array_mem_dec; array_mem_dec)
  | ((with_reducible apply LS.se_l); array_mem_dec)
  | ((with_reducible apply LS.se_t); array_mem_dec)
  | ((with_reducible apply LS.se_s); assumption; array_mem_dec)
  | ((with_reducible apply LS.se_f); assumption; array_mem_dec; array_mem_dec)
  | ((with_reducible apply LS.se_tt); assumption; array_mem_dec; array_mem_dec)
  | ((with_reducible exact Same.refl _))
  | ((with_reducible apply LS.sm_s); assumption; array_mem_dec)
  | ((with_reducible apply LS.sm_f); assumption; array_mem_dec; array_mem_dec)
  | ((with_reducible exact Fr.refl _ _))
  | ((with_reducible apply LS.fr_b); assumption; array_mem_dec)
  | ((with_reducible apply LS.fr_s); assumption; array_mem_dec)
  | ((with_reducible apply LS.fr_n); assumption; array_mem_dec; array_mem_dec)
  | ((with_reducible apply LS.fr_t); assumption; array_mem_dec)
  | ((with_reducible apply LS.no_s); assumption; array_mem_dec)
  | ((with_reducible apply LS.no_f); assumption; array_mem_dec; array_mem_dec)
  | ((with_reducible apply LS.no_t); assumption; array_mem_dec)
  | ((with_reducible apply LS.no_l); assumption; assumption)
  | ((with_reducible apply Ne.symm); assumption)
  | ((with_reducible apply LS.ne_a); assumption; array_mem_dec)
  | ((with_reducible apply LS.ne_b); assumption; array_mem_dec)
  | ((with_reducible apply LS.ne_ap); assumption)
  | ((with_reducible apply LS.ne_il); assumption; array_mem_dec)
  | ((with_reducible apply LS.ne_li); assumption; array_mem_dec)
  | ((with_reducible apply LS.ne_lt); assumption; assumption)
  | ((with_reducible apply LS.ne_tl); assumption; assumption)
  | ((with_reducible apply LS.ne_rl); assumption; array_mem_dec)
  | ((with_reducible apply LS.rl_t); assumption)
  | ((with_reducible apply LS.rl_s); assumption; array_mem_dec)
  | ((with_reducible apply LS.rl_f); assumption; array_mem_dec; array_mem_dec)
  | ((with_reducible apply LS.rl_l); assumption; array_mem_dec; array_mem_dec)
  | ((with_reducible apply LS.ap_new); assumption; assumption; array_mem_dec)
  | ((with_reducible apply LS.ap_t); assumption; array_mem_dec; array_mem_dec)
  | ((with_reducible apply LS.ap_s); assumption; array_mem_dec; array_mem_dec)
  | ((with_reducible apply LS.ap_f); assumption; array_mem_dec; array_mem_dec; array_mem_dec)
  | ((with_reducible apply LS.ap_l); assumption; array_mem_dec; array_mem_dec; array_mem_dec)
  | (with_reducible apply LS.ni_nil)
  | ((with_reducible apply LS.ni_cons); array_mem_dec; array_mem_dec)
  | (with_reducible apply LS.trk_nil)
  | ((with_reducible apply LS.trk_cons); array_mem_dec; array_mem_dec)
  | (with_reducible apply LS.al_nil)
  | ((with_reducible apply LS.al_cons); array_mem_dec; array_mem_dec)
  | (with_reducible apply LS.mem_hd)
  | ((with_reducible apply LS.mem_tl); array_mem_dec)
  | ((with_reducible apply LS.fl_refl); array_mem_dec)
  | ((with_reducible apply LS.fl_l); assumption; array_mem_dec)
  | ((with_reducible apply LS.fl_lm); assumption; array_mem_dec; array_mem_dec)
  | (with_reducible apply LS.sub_nil)
  | ((with_reducible apply LS.sub_cons); array_mem_dec; array_mem_dec)
  | ((with_reducible apply LS.fl_s); assumption; array_mem_dec)
  | ((with_reducible apply LS.fl_m); assumption; array_mem_dec; array_mem_dec; array_mem_dec)
  | ((with_reducible apply LS.fl_n); assumption; array_mem_dec; array_mem_dec; array_mem_dec)
  | ((with_reducible apply LS.rt_refl); array_mem_dec)
  | ((with_reducible apply LS.rt_t); assumption; array_mem_dec)
  | ((with_reducible apply LS.rt_s); assumption; array_mem_dec)
  | ((with_reducible apply LS.rt_f); assumption; array_mem_dec; array_mem_dec; array_mem_dec)
  | ((with_reducible apply LS.sz); (first | decide | (simp only [List.length_append, List.length_map, List.length_cons, List.length_nil, List.length_replicate]; omega)))
  | ((with_reducible apply LS.szl); (first | decide | (simp only [List.length_append, List.length_map, List.length_cons, List.length_nil, List.length_replicate]; omega))))
local macro_rules | `(tactic| array_get_dec) => `(tactic| first
  | ((with_reducible apply LS.var); exact rfl)
  | (with_reducible apply LS.con)
  | (with_reducible apply LS.op)
  | (with_reducible apply LS.ri0)
  | (with_reducible apply LS.tseq)
  | (with_reducible apply LS.tasg)
  | (with_reducible apply LS.gname)
  | (with_reducible apply LS.tcons)
  | (with_reducible apply LS.tnil)
  | (with_reducible apply LS.tcb)
  | (with_reducible apply LS.tcall)
  | (with_reducible apply LS.ttest)
  | (with_reducible apply LS.k_b)
  | (with_reducible apply LS.tb)
  | (with_reducible apply LS.tifs)
  | (with_reducible apply LS.ift)
  | (with_reducible apply LS.iff_)
  | (with_reducible apply LS.ifnt)
  | (with_reducible apply LS.ifnf)
  | (with_reducible apply LS.tnext)
  | (with_reducible apply LS.tdrop)
  | (with_reducible apply LS.tret)
  | (with_reducible apply LS.tretn)
  | (with_reducible apply LS.un)
  | (with_reducible apply LS.ru)
  | (with_reducible apply LS.tyes)
  | (with_reducible apply LS.tand)
  | (with_reducible apply LS.tor)
  | (with_reducible apply LS.tnot)
  | (with_reducible apply LS.tif)
  | (with_reducible apply LS.tandv)
  | (with_reducible apply LS.k_av)
  | (with_reducible apply LS.torv)
  | (with_reducible apply LS.k_ov)
  | (with_reducible apply LS.tnotv)
  | (with_reducible apply LS.k_nv)
  | (with_reducible apply LS.tchain)
  | (with_reducible apply LS.k_ch)
  | (with_reducible apply LS.req_i)
  | (with_reducible apply LS.rne_i)
  | (with_reducible apply LS.req_s)
  | (with_reducible apply LS.rne_s)
  | (with_reducible apply LS.req_b)
  | (with_reducible apply LS.rne_b)
  | ((with_reducible apply LS.rin_i); array_mem_dec)
  | ((with_reducible apply LS.rni_i); array_mem_dec)
  | ((with_reducible apply LS.rlen_li); array_mem_dec)
  | ((with_reducible apply LS.rlen_ls); array_mem_dec)
  | ((with_reducible apply LS.rlen_l); array_mem_dec)
  | ((with_reducible apply LS.rlen_Ei); array_mem_dec)
  | ((with_reducible apply LS.rlen_E); array_mem_dec)
  | ((with_reducible apply LS.rlen_t); array_mem_dec)
  | ((with_reducible apply LS.rixl); array_mem_dec; exact rfl)
  | ((with_reducible apply LS.rixt); array_mem_dec; exact rfl)
  | (with_reducible apply LS.isi_int_int)
  | (with_reducible apply LS.isi_int_bool)
  | (with_reducible apply LS.isi_int_str)
  | (with_reducible apply LS.isi_str_int)
  | (with_reducible apply LS.isi_str_bool)
  | (with_reducible apply LS.isi_str_str)
  | (with_reducible apply LS.isi_bool_int)
  | (with_reducible apply LS.isi_bool_bool)
  | (with_reducible apply LS.isi_bool_str)
  | (with_reducible apply LS.isi_non_int)
  | (with_reducible apply LS.isi_non_bool)
  | (with_reducible apply LS.isi_non_str)
  | ((with_reducible apply LS.isi_list_int); array_mem_dec)
  | ((with_reducible apply LS.isi_list_bool); array_mem_dec)
  | ((with_reducible apply LS.isi_list_str); array_mem_dec)
  | ((with_reducible apply LS.isi_list_list); array_mem_dec)
  | ((with_reducible apply LS.isi_list_tuple); array_mem_dec)
  | ((with_reducible apply LS.isi_tuple_int); array_mem_dec)
  | ((with_reducible apply LS.isi_tuple_bool); array_mem_dec)
  | ((with_reducible apply LS.isi_tuple_str); array_mem_dec)
  | ((with_reducible apply LS.isi_tuple_list); array_mem_dec)
  | ((with_reducible apply LS.isi_tuple_tuple); array_mem_dec)
  | ((with_reducible apply LS.isiT_i); array_mem_dec)
  | ((with_reducible apply LS.isiT_s); array_mem_dec)
  | ((with_reducible apply LS.isiT_E); array_mem_dec; array_mem_dec)
  | (with_reducible apply LS.tfld)
  | ((with_reducible apply LS.k_fl); array_mem_dec; assumption; assumption; exact rfl)
  | (with_reducible apply LS.tmeth)
  | ((with_reducible apply LS.k_me); array_mem_dec; exact rfl)
  | (with_reducible apply LS.tmake)
  | (with_reducible apply LS.tsfld)
  | (with_reducible apply LS.tprop)
  | ((with_reducible apply LS.k_pr); array_mem_dec)
  | ((with_reducible apply LS.rlen_own); array_mem_dec)
  | (with_reducible apply LS.rabs)
  | (with_reducible apply LS.rmin2)
  | (with_reducible apply LS.rmax2)
  | (with_reducible apply LS.tsl)
  | (with_reducible apply LS.tthen)
  | (with_reducible apply LS.tstep)
  | (with_reducible apply LS.tnop)
  | (with_reducible apply LS.tpart)
  | (with_reducible apply LS.k_part)
  | (with_reducible apply LS.ttup)
  | (with_reducible apply LS.tlst)
  | (with_reducible apply LS.tbm)
  | (with_reducible apply LS.tbm0)
  | ((with_reducible apply LS.ty_l); array_mem_dec)
  | (with_reducible apply LS.tpar)
  | (with_reducible apply LS.tfor)
  | (with_reducible apply LS.tlc)
  | (with_reducible apply LS.ilist)
  | ((with_reducible apply LS.k_il); array_mem_dec)
  | (with_reducible apply LS.itup)
  | ((with_reducible apply LS.k_it); array_mem_dec)
  | (with_reducible apply LS.istr)
  | (with_reducible apply LS.k_is)
  | (with_reducible apply LS.irng1)
  | ((with_reducible apply LS.k_r1n); omega)
  | ((with_reducible apply LS.k_r1); (first | omega | decide); (first | omega | decide))
  | (with_reducible apply LS.irng2)
  | ((with_reducible apply LS.k_r2); (first | omega | decide); (first | omega | decide); (first | omega | decide); (first | omega | decide))
  | (with_reducible apply LS.ienum)
  | ((with_reducible apply LS.k_en); array_mem_dec)
  | (with_reducible apply LS.izip)
  | ((with_reducible apply LS.k_zip); array_mem_dec; array_mem_dec)
  | (with_reducible apply LS.tlstrg)
  | (with_reducible apply LS.trg1)
  | (with_reducible apply LS.k_g1)
  | (with_reducible apply LS.risn_i)
  | (with_reducible apply LS.risn_s)
  | (with_reducible apply LS.risn_n)
  | (with_reducible apply LS.rnotn_i)
  | (with_reducible apply LS.rnotn_n)
  | (with_reducible apply LS.rint_b)
  | (with_reducible apply LS.rint_i)
  | (with_reducible apply LS.tm0)
  | (with_reducible apply LS.tm1)
  | (with_reducible apply LS.is_str)
  | (with_reducible apply LS.ex_s0)
  | (with_reducible apply LS.ex_int_b)
  | (with_reducible apply LS.k_par)
  | (with_reducible apply LS.tpar3)
  | (with_reducible apply LS.k_par3)
  | ((with_reducible apply LS.taug); exact rfl)
  | (with_reducible apply LS.ipi)
  | ((with_reducible apply LS.gtup); array_mem_dec; exact rfl)
  | ((with_reducible apply LS.gunl); array_mem_dec; exact rfl)
  | (with_reducible apply LS.gnil)
  | (with_reducible apply LS.gcons)
  | (with_reducible apply LS.gsub)
  | ((with_reducible apply LS.ri); first | omega | decide | assumption | exact ⟨by decide, by decide, by decide⟩ | exact .inl ⟨by decide, by decide⟩ | exact .inr ⟨by decide, by decide⟩ | exact .inl ⟨by omega, by omega⟩ | exact .inr ⟨by omega, by omega⟩)
  | (with_reducible apply LS.ex_ss)
  | (with_reducible apply LS.ex_s1)
  | (with_reducible apply LS.ex_i1)
  | (with_reducible apply LS.and_rfl)
  | (with_reducible apply LS.and_tr)
  | (with_reducible apply LS.is_non))
local macro_rules | `(tactic| array_mem_dec) => `(tactic| first
  | ((with_reducible apply LP.lv_s); assumption; array_mem_dec)
  | ((with_reducible apply LP.lv_l); assumption; array_mem_dec; array_mem_dec; array_mem_dec)
  | ((with_reducible apply LP.lv_f); assumption; array_mem_dec; array_mem_dec; array_mem_dec)
  | ((with_reducible apply LP.lv_t); assumption; array_mem_dec; array_mem_dec; array_mem_dec)
  | ((with_reducible apply LP.ops_s); assumption; array_mem_dec)
  | ((with_reducible apply LP.md_s); assumption; array_mem_dec)
  | ((with_reducible apply LP.md_l); assumption; array_mem_dec; array_mem_dec; array_mem_dec)
  | ((with_reducible apply LP.md_f); assumption; array_mem_dec; array_mem_dec; array_mem_dec)
  | ((with_reducible apply LP.md_t); assumption; array_mem_dec; array_mem_dec; array_mem_dec)
  | ((with_reducible apply LP.al_s); assumption; array_mem_dec; array_mem_dec)
  | ((with_reducible apply LP.al_t); assumption; array_mem_dec; array_mem_dec)
  | ((with_reducible apply LP.al_l); assumption; array_mem_dec; array_mem_dec; array_mem_dec)
  | ((with_reducible apply LP.al_f); assumption; array_mem_dec; array_mem_dec; array_mem_dec)
  | ((with_reducible apply LP.Lv.lists); array_mem_dec)
  | ((with_reducible apply LP.Lv.trk); array_mem_dec)
  | ((with_reducible apply LP.Mdl.trk); array_mem_dec)
  | ((with_reducible apply LP.al_no); assumption; array_mem_dec))
local macro_rules | `(tactic| array_get_dec) => `(tactic| first
  | (with_reducible apply LS.tcalle)
  | (with_reducible apply LS.tcalls))
local macro_rules | `(tactic| array_get_dec) => `(tactic| first
  | (with_reducible apply LS.tmethv)
  | (with_reducible apply LS.tmakev)
  | (with_reducible apply LS.rnotn_rr)
  | (with_reducible apply LS.risn_rr)
  | ((with_reducible apply LS.k_mev); array_mem_dec; exact rfl))
local macro_rules | `(tactic| array_get_dec) => `(tactic| first
  | (with_reducible apply LS.trg2)
  | (with_reducible apply LS.k_g2))

section
variable {P : Program} {w : World} {K : PySem.W.Frag} {mg : Str → Option Value} {base : Heap}

theorem ok_Shelf_revert_take (e : Env w K mg) : FnOk P w K mg base CX0 1 e.a_Shelf_revert_take e.d_Shelf_revert_take ["self", "place"] (sp_Shelf_revert_take e.C_Shelf) := by
  refine Fun.ok e.f_Shelf_revert_take sc_Shelf_revert_take (fun vs H Q E h => ?_) (fun cdv A outer s H vs Q E hr h => ?_)
  · obtain ⟨sh, dx, bl, ol, s, u, p, rfl, _⟩ := h; rfl
  · obtain ⟨sh, dx, bl, ol, s, u, p, rfl, S, hu, k⟩ := h
    refine ⟨_, (pss_one (ps_asg (pe_bm0 PySem.F.plainAttrs_list PySem.F.slot_list_pop PySem.F.type_list_pop mt_pop (pe_fld (pv 0) rfl)) (pg_sub (pe_fld (pv 0) rfl) (pv 1) set_list))), ?_⟩
    have c_Shelf := e.cl_Shelf; have a_Shelf_books := e.nA_Shelf_books; have a_Shelf_out := e.nA_Shelf_out; have c_LiveShelf := e.cl_LiveShelf; have a_LiveShelf__shelf := e.nA_LiveShelf__shelf; have a_LiveShelf__steps := e.nA_LiveShelf__steps; have c_Console := e.cl_Console; have a_Console__live := e.nA_Console__live
    have ho := S.ob
    have hb := S.bk
    have hou := S.ou
    have hne := S.ne
    obtain ⟨h0, hl, b, e1, e2⟩ := und_take hu
    rw [e1, List.map_append] at hou
    repeat array_get_dec
    refine LS.rpop (xs := s.out.map V.int) (y := .int b) (by array_mem_dec) fun H1 f1 h1 => ?_
    repeat array_get_dec
    refine LS.rset (j := p.toNat) (by array_mem_dec) (by rw [List.length_map]; exact ixN_int h0 hl) fun H2 f2 h2 => ?_
    repeat array_get_dec
    refine k H2 (by array_mem_dec) ⟨(by array_mem_dec), ?_, ?_, hne⟩
    · rw [h2, ← e2, List.map_set]; rfl
    · exact (by array_mem_dec)
theorem ok_Shelf_revert_return (e : Env w K mg) : FnOk P w K mg base CX0 1 e.a_Shelf_revert_return e.d_Shelf_revert_return ["self", "place", "number"] (sp_Shelf_revert_return e.C_Shelf) := by
  refine Fun.ok e.f_Shelf_revert_return sc_Shelf_revert_return (fun vs H Q E h => ?_) (fun cdv A outer s H vs Q E hr h => ?_)
  · obtain ⟨sh, dx, bl, ol, s, u, p, rfl, _⟩ := h; rfl
  · obtain ⟨sh, dx, bl, ol, s, u, p, rfl, S, hu, hg, hz, k⟩ := h
    refine ⟨_, (pss_cons (ps_expr (pe_bm PySem.F.plainAttrs_list PySem.F.slot_list_insert PySem.F.type_list_insert mt_ins (pe_fld (pv 0) rfl) (pa_cons (pv 2) (pa_cons (pe_ix ix_list (pe_fld (pv 0) rfl) (pv 1) (fun _ _ => rfl)) pa_nil))))
      (pss_one (ps_asg pe_non (pg_sub (pe_fld (pv 0) rfl) (pv 1) set_list)))), ?_⟩
    have c_Shelf := e.cl_Shelf; have a_Shelf_books := e.nA_Shelf_books; have a_Shelf_out := e.nA_Shelf_out; have c_LiveShelf := e.cl_LiveShelf; have a_LiveShelf__shelf := e.nA_LiveShelf__shelf; have a_LiveShelf__steps := e.nA_LiveShelf__steps; have c_Console := e.cl_Console; have a_Console__live := e.nA_Console__live
    have ho := S.ob
    have hb := S.bk
    have hou := S.ou
    have hne := S.ne
    obtain ⟨e1, e2, e3, e4, e5⟩ := und_ret hg hu
    have hgl := (List.getElem?_eq_some_iff.mp e1).1
    repeat array_get_dec
    refine LS.rixl_n (j := gap s.books) (v := .int p) (by array_mem_dec) (by rw [List.getElem?_map, e1]; rfl) (by omega) ?_
    repeat array_get_dec
    refine rins (by array_mem_dec) (LS.szl (by rw [List.length_map]; omega)) (by omega) (by omega) fun H1 f1 h1 => ?_
    repeat array_get_dec
    refine LS.rset (j := gap s.books) (by array_mem_dec) (by rw [List.length_map]; exact ixN_at hgl) fun H2 f2 h2 => ?_
    repeat array_get_dec
    refine k H2 (by array_mem_dec) ⟨(by array_mem_dec), ?_, ?_, hne⟩
    · have e6 := congrArg (List.map vo) e2
      rw [List.map_set] at e6
      rw [← e6]; exact h2
    · have e7 := congrArg (List.map V.int) e3
      rw [List.map_append, List.map_append, List.map_take, List.map_drop] at e7
      rw [LS.hp_f f2 h1 (by array_mem_dec), ← e7, Int.toNat_natCast]; rfl
end
end LP

namespace LP
open PySem L2 LT LG LQ LH LC LX LR
local macro_rules | `(tactic| array_mem_dec) => `(tactic| first
  | assumption
  | ((with_reducible apply LS.hp_s); assumption; array_mem_dec)
  | ((with_reducible apply LS.hp_f); assumption; array_mem_dec; array_mem_dec)
  | ((with_reducible apply LS.hp_t); assumption; array_mem_dec; array_mem_dec)
  | ((with_reducible apply LS.hp_l); assumption; array_mem_dec; array_mem_dec)
  | ((with_reducible apply LS.sq_o); array_mem_dec)
  | ((with_reducible apply LS.sq_s); assumption; array_mem_dec)
  | ((with_reducible apply LS.sq_f); assumption; array_mem_dec; array_mem_dec)
  | ((with_reducible apply LS.sq_t); assumption; array_mem_dec; array_mem_dec)
  | ((with_reducible apply LS.sq_l); assumption; array_mem_dec; array_mem_dec)
  | ((with_reducible apply LS.tu_o); array_mem_dec)
  | ((with_reducible apply LS.tu_s); assumption; array_mem_dec)
  | ((with_reducible apply LS.tu_f); assumption; array_mem_dec; array_mem_dec)
  | ((with_reducible apply LS.tu_t); assumption; array_mem_dec; array_mem_dec)
  | ((with_reducible apply LS.tu_l); assumption; array_mem_dec; array_mem_dec)
  | ((with_reducible apply LS.se_l); array_mem_dec)
  | ((with_reducible apply LS.se_t); array_mem_dec)
  | ((with_reducible apply LS.se_s); assumption; array_mem_dec)
  | ((with_reducible apply LS.se_f); assumption; array_mem_dec; array_mem_dec)
  | ((with_reducible apply LS.se_tt); assumption; array_mem_dec; array_mem_dec)
  | ((with_reducible exact Same.refl _))
  | ((with_reducible apply LS.sm_s); assumption; array_mem_dec)
  | ((with_reducible apply LS.sm_f); assumption; array_mem_dec; array_mem_dec)
  | ((with_reducible exact Fr.refl _ _))
  | ((with_reducible apply LS.fr_b); assumption; array_mem_dec)
  | ((with_reducible apply LS.fr_s); assumption; array_mem_dec)
  | ((with_reducible apply LS.fr_n); assumption; array_mem_dec; array_mem_dec)
  | ((with_reducible apply LS.fr_t); assumption; array_mem_dec)
  | ((with_reducible apply LS.no_s); assumption; array_mem_dec)
  | ((with_reducible apply LS.no_f); assumption; array_mem_dec; array_mem_dec)
  | ((with_reducible apply LS.no_t); assumption; array_mem_dec)
  | ((with_reducible apply LS.no_l); assumption; assumption)
  | ((with_reducible apply Ne.symm); assumption)
  | ((with_reducible apply LS.ne_a); assumption; array_mem_dec)
  | ((with_reducible apply LS.ne_b); assumption; array_mem_dec)
  | ((with_reducible apply LS.ne_ap); assumption)
  | ((with_reducible apply LS.ne_il); assumption; array_mem_dec)
  | ((with_reducible apply LS.ne_li); assumption; array_mem_dec)
  | ((with_reducible apply LS.ne_lt); assumption; assumption)
  | ((with_reducible apply LS.ne_tl); assumption; assumption)
  | ((with_reducible apply LS.ne_rl); assumption; array_mem_dec)
  | ((with_reducible apply LS.rl_t); assumption)
  | ((with_reducible apply LS.rl_s); assumption; array_mem_dec)
  | ((with_reducible apply LS.rl_f); assumption; array_mem_dec; array_mem_dec)
  | ((with_reducible apply LS.rl_l); assumption; array_mem_dec; array_mem_dec)
  | ((with_reducible apply LS.ap_new); assumption; assumption; array_mem_dec)
  | ((with_reducible apply LS.ap_t); assumption; array_mem_dec; array_mem_dec)
  | ((with_reducible apply LS.ap_s); assumption; array_mem_dec; array_mem_dec)
  | ((with_reducible apply LS.ap_f); assumption; array_mem_dec; array_mem_dec; array_mem_dec)
  | ((with_reducible apply LS.ap_l); assumption; array_mem_dec; array_mem_dec; array_mem_dec)
  | (with_reducible apply LS.ni_nil)
  | ((with_reducible apply LS.ni_cons); array_mem_dec; array_mem_dec)
  | (with_reducible apply LS.trk_nil)
  | ((with_reducible apply LS.trk_cons); array_mem_dec; array_mem_dec)
  | (with_reducible apply LS.al_nil)
  | ((with_reducible apply LS.al_cons); array_mem_dec; array_mem_dec)
  | (with_reducible apply LS.mem_hd)
  | ((with_reducible apply LS.mem_tl); array_mem_dec)
  | ((with_reducible apply LS.fl_refl); array_mem_dec)
  | ((with_reducible apply LS.fl_l); assumption; array_mem_dec)
  | ((with_reducible apply LS.fl_lm); assumption; array_mem_dec; array_mem_dec)
  | (with_reducible apply LS.sub_nil)
  | ((with_reducible apply LS.sub_cons); array_mem_dec; array_mem_dec)
  | ((with_reducible apply LS.fl_s); assumption; array_mem_dec)
  | ((with_reducible apply LS.fl_m); assumption; array_mem_dec; array_mem_dec; array_mem_dec)
  | ((with_reducible apply LS.fl_n); assumption; array_mem_dec; array_mem_dec; array_mem_dec)
  | ((with_reducible apply LS.rt_refl); array_mem_dec)
  | ((with_reducible apply LS.rt_t); assumption; array_mem_dec)
  | ((with_reducible apply LS.rt_s); assumption; array_mem_dec)
  | ((with_reducible apply LS.rt_f); assumption; array_mem_dec; array_mem_dec; array_mem_dec)
  | ((with_reducible apply LS.sz); (first | decide | (simp only [List.length_append, List.length_map, List.length_cons, List.length_nil, List.length_replicate]; omega)))
  | ((with_reducible apply LS.szl); (first | decide | (simp only [List.length_append, List.length_map, List.length_cons, List.length_nil, List.length_replicate]; omega))))
local macro_rules | `(tactic| array_get_dec) => `(tactic| first
  | ((with_reducible apply LS.var); exact rfl)
  | (with_reducible apply LS.con)
  | (with_reducible apply LS.op)
  | (with_reducible apply LS.ri0)
  | (with_reducible apply LS.tseq)
  | (with_reducible apply LS.tasg)
  | (with_reducible apply LS.gname)
  | (with_reducible apply LS.tcons)
  | (with_reducible apply LS.tnil)
  | (with_reducible apply LS.tcb)
  | (with_reducible apply LS.tcall)
  | (with_reducible apply LS.ttest)
  | (with_reducible apply LS.k_b)
  | (with_reducible apply LS.tb)
  | (with_reducible apply LS.tifs)
  | (with_reducible apply LS.ift)
  | (with_reducible apply LS.iff_)
  | (with_reducible apply LS.ifnt)
  | (with_reducible apply LS.ifnf)
  | (with_reducible apply LS.tnext)
  | (with_reducible apply LS.tdrop)
  | (with_reducible apply LS.tret)
  | (with_reducible apply LS.tretn)
  | (with_reducible apply LS.un)
  | (with_reducible apply LS.ru)
  | (with_reducible apply LS.tyes)
  | (with_reducible apply LS.tand)
  | (with_reducible apply LS.tor)
  | (with_reducible apply LS.tnot)
  | (with_reducible apply LS.tif)
  | (with_reducible apply LS.tandv)
  | (with_reducible apply LS.k_av)
  | (with_reducible apply LS.torv)
  | (with_reducible apply LS.k_ov)
  | (with_reducible apply LS.tnotv)
  | (with_reducible apply LS.k_nv)
  | (with_reducible apply LS.tchain)
  | (with_reducible apply LS.k_ch)
  | (with_reducible apply LS.req_i)
  | (with_reducible apply LS.rne_i)
  | (with_reducible apply LS.req_s)
  | (with_reducible apply LS.rne_s)
  | (with_reducible apply LS.req_b)
  | (with_reducible apply LS.rne_b)
  | ((with_reducible apply LS.rin_i); array_mem_dec)
  | ((with_reducible apply LS.rni_i); array_mem_dec)
  | ((with_reducible apply LS.rlen_li); array_mem_dec)
  | ((with_reducible apply LS.rlen_ls); array_mem_dec)
  | ((with_reducible apply LS.rlen_l); array_mem_dec)
  | ((with_reducible apply LS.rlen_Ei); array_mem_dec)
  | ((with_reducible apply LS.rlen_E); array_mem_dec)
  | ((with_reducible apply LS.rlen_t); array_mem_dec)
  | ((with_reducible apply LS.rixl); array_mem_dec; exact rfl)
  | ((with_reducible apply LS.rixt); array_mem_dec; exact rfl)
  | (with_reducible apply LS.isi_int_int)
  | (with_reducible apply LS.isi_int_bool)
  | (with_reducible apply LS.isi_int_str)
  | (with_reducible apply LS.isi_str_int)
  | (with_reducible apply LS.isi_str_bool)
  | (with_reducible apply LS.isi_str_str)
  | (with_reducible apply LS.isi_bool_int)
  | (with_reducible apply LS.isi_bool_bool)
  | (with_reducible apply LS.isi_bool_str)
  | (with_reducible apply LS.isi_non_int)
  | (with_reducible apply LS.isi_non_bool)
  | (with_reducible apply LS.isi_non_str)
  | ((with_reducible apply LS.isi_list_int); array_mem_dec)
  | ((with_reducible apply LS.isi_list_bool); array_mem_dec)
  | ((with_reducible apply LS.isi_list_str); array_mem_dec)
  | ((with_reducible apply LS.isi_list_list); array_mem_dec)
  | ((with_reducible apply LS.isi_list_tuple); array_mem_dec)
  | ((with_reducible apply LS.isi_tuple_int); array_mem_dec)
  | ((with_reducible apply LS.isi_tuple_bool); array_mem_dec)
  | ((with_reducible apply LS.isi_tuple_str); array_mem_dec)
  | ((with_reducible apply LS.isi_tuple_list); array_mem_dec)
  | ((with_reducible apply LS.isi_tuple_tuple); array_mem_dec)
  | ((with_reducible apply LS.isiT_i); array_mem_dec)
  | ((with_reducible apply LS.isiT_s); array_mem_dec)
  | ((with_reducible apply LS.isiT_E); array_mem_dec; array_mem_dec)
  | (with_reducible apply LS.tfld)
  | ((with_reducible apply LS.k_fl); array_mem_dec; assumption; assumption; exact rfl)
  | (with_reducible apply LS.tmeth)
  | ((with_reducible apply LS.k_me); array_mem_dec; exact rfl)
  | (with_reducible apply LS.tmake)
  | (with_reducible apply LS.tsfld)
  | (with_reducible apply LS.tprop)
  | ((with_reducible apply LS.k_pr); array_mem_dec)
  | ((with_reducible apply LS.rlen_own); array_mem_dec)
  | (with_reducible apply LS.rabs)
  | (with_reducible apply LS.rmin2)
  | (with_reducible apply LS.rmax2)
  | (with_reducible apply LS.tsl)
  | (with_reducible apply LS.tthen)
  | (with_reducible apply LS.tstep)
  | (with_reducible apply LS.tnop)
  | (with_reducible apply LS.tpart)
  | (with_reducible apply LS.k_part)
  | (with_reducible apply LS.ttup)
  | (with_reducible apply LS.tlst)
  | (with_reducible apply LS.tbm)
  | (with_reducible apply LS.tbm0)
  | ((with_reducible apply LS.ty_l); array_mem_dec)
  | (with_reducible apply LS.tpar)
  | (with_reducible apply LS.tfor)
  | (with_reducible apply LS.tlc)
  | (with_reducible apply LS.ilist)
  | ((with_reducible apply LS.k_il); array_mem_dec)
  | (with_reducible apply LS.itup)
  | ((with_reducible apply LS.k_it); array_mem_dec)
  | (with_reducible apply LS.istr)
  | (with_reducible apply LS.k_is)
  | (with_reducible apply LS.irng1)
  | ((with_reducible apply LS.k_r1n); omega)
  | ((with_reducible apply LS.k_r1); (first | omega | decide); (first | omega | decide))
  | (with_reducible apply LS.irng2)
  | ((with_reducible apply LS.k_r2); (first | omega | decide); (first | omega | decide); (first | omega | decide); (first | omega | decide))
  | (with_reducible apply LS.ienum)
  | ((with_reducible apply LS.k_en); array_mem_dec)
  | (with_reducible apply LS.izip)
  | ((with_reducible apply LS.k_zip); array_mem_dec; array_mem_dec)
  | (with_reducible apply LS.tlstrg)
  | (with_reducible apply LS.trg1)
  | (with_reducible apply LS.k_g1)
  | (with_reducible apply LS.risn_i)
  | (with_reducible apply LS.risn_s)
  | (with_reducible apply LS.risn_n)
  | (with_reducible apply LS.rnotn_i)
  | (with_reducible apply LS.rnotn_n)
  | (with_reducible apply LS.rint_b)
  | (with_reducible apply LS.rint_i)
  | (with_reducible apply LS.tm0)
  | (with_reducible apply LS.tm1)
  | (with_reducible apply LS.is_str)
  | (with_reducible apply LS.ex_s0)
  | (with_reducible apply LS.ex_int_b)
  | (with_reducible apply LS.k_par)
  | (with_reducible apply LS.tpar3)
  | (with_reducible apply LS.k_par3)
  | ((with_reducible apply LS.taug); exact rfl)
  | (with_reducible apply LS.ipi)
  | ((with_reducible apply LS.gtup); array_mem_dec; exact rfl)
  | ((with_reducible apply LS.gunl); array_mem_dec; exact rfl)
  | (with_reducible apply LS.gnil)
  | (with_reducible apply LS.gcons)
  | (with_reducible apply LS.gsub)
  | ((with_reducible apply LS.ri); first | omega | decide | assumption | exact ⟨by decide, by decide, by decide⟩ | exact .inl ⟨by decide, by decide⟩ | exact .inr ⟨by decide, by decide⟩ | exact .inl ⟨by omega, by omega⟩ | exact .inr ⟨by omega, by omega⟩)
  | (with_reducible apply LS.ex_ss)
  | (with_reducible apply LS.ex_s1)
  | (with_reducible apply LS.ex_i1)
  | (with_reducible apply LS.and_rfl)
  | (with_reducible apply LS.and_tr)
  | (with_reducible apply LS.is_non))
local macro_rules | `(tactic| array_mem_dec) => `(tactic| first
  | ((with_reducible apply LP.lv_s); assumption; array_mem_dec)
  | ((with_reducible apply LP.lv_l); assumption; array_mem_dec; array_mem_dec; array_mem_dec)
  | ((with_reducible apply LP.lv_f); assumption; array_mem_dec; array_mem_dec; array_mem_dec)
  | ((with_reducible apply LP.lv_t); assumption; array_mem_dec; array_mem_dec; array_mem_dec)
  | ((with_reducible apply LP.ops_s); assumption; array_mem_dec)
  | ((with_reducible apply LP.md_s); assumption; array_mem_dec)
  | ((with_reducible apply LP.md_l); assumption; array_mem_dec; array_mem_dec; array_mem_dec)
  | ((with_reducible apply LP.md_f); assumption; array_mem_dec; array_mem_dec; array_mem_dec)
  | ((with_reducible apply LP.md_t); assumption; array_mem_dec; array_mem_dec; array_mem_dec)
  | ((with_reducible apply LP.al_s); assumption; array_mem_dec; array_mem_dec)
  | ((with_reducible apply LP.al_t); assumption; array_mem_dec; array_mem_dec)
  | ((with_reducible apply LP.al_l); assumption; array_mem_dec; array_mem_dec; array_mem_dec)
  | ((with_reducible apply LP.al_f); assumption; array_mem_dec; array_mem_dec; array_mem_dec)
  | ((with_reducible apply LP.Lv.lists); array_mem_dec)
  | ((with_reducible apply LP.Lv.trk); array_mem_dec)
  | ((with_reducible apply LP.Mdl.trk); array_mem_dec)
  | ((with_reducible apply LP.al_no); assumption; array_mem_dec))
local macro_rules | `(tactic| array_get_dec) => `(tactic| first
  | (with_reducible apply LS.tcalle)
  | (with_reducible apply LS.tcalls))
local macro_rules | `(tactic| array_get_dec) => `(tactic| first
  | (with_reducible apply LS.tmethv)
  | (with_reducible apply LS.tmakev)
  | (with_reducible apply LS.rnotn_rr)
  | (with_reducible apply LS.risn_rr)
  | ((with_reducible apply LS.k_mev); array_mem_dec; exact rfl))
local macro_rules | `(tactic| array_get_dec) => `(tactic| first
  | (with_reducible apply LS.trg2)
  | (with_reducible apply LS.k_g2))

section
variable {P : Program} {w : World} {K : PySem.W.Frag} {mg : Str → Option Value} {base : Heap}

theorem kst_tt : kst true = ("take" : Str) := rfl
theorem kst_ff : ¬ kst false = ("take" : Str) := by decide
theorem ok_LiveShelf_undo (e : Env w K mg) : FnOk P w K mg base CX0 3 e.a_LiveShelf_undo e.d_LiveShelf_undo ["self"] (sp_LiveShelf_undo e.C_LiveShelf e.C_Shelf) := by
  refine Fun.ok e.f_LiveShelf_undo sc_LiveShelf_undo (fun vs H Q E h => ?_) (fun cdv A outer s H vs Q E hr h => ?_)
  · obtain ⟨A, s, u, ss, o, n, rfl, _⟩ := h; rfl
  · obtain ⟨A, s, u, ss, o, n, rfl, l, g, hn, hu, k⟩ := h
    refine ⟨_, (pss_cons (ps_if (pt_cmpR op_eq (pe_callB LS.call_len (by rfl) e.n_len PySem.boot_len (pa_cons (pe_fld (pv 0) rfl) pa_nil)) pe_int (nomark _))
        (pss_one ps_never)
        pss_nil)
      (pss_cons (ps_asg (pe_bm0 PySem.F.plainAttrs_list PySem.F.slot_list_pop PySem.F.type_list_pop mt_pop (pe_fld (pv 0) rfl)) (pg_tup (by rfl) (pgs_cons (pg_name (i := 1) sc_LiveShelf_undo.nd rfl (by first | exact Or.inl rfl | exact Or.inr rfl)) (pgs_cons (pg_name (i := 2) sc_LiveShelf_undo.nd rfl (by first | exact Or.inl rfl | exact Or.inr rfl)) (pgs_cons (pg_name (i := 3) sc_LiveShelf_undo.nd rfl (by first | exact Or.inl rfl | exact Or.inr rfl)) pgs_nil)))))
      (pss_one (ps_if (pt_cmpR op_eq (pe_ix ix_tup (pv 1) pe_int (fun _ _ => rfl)) pe_str (nomark _))
        (pss_one (ps_expr (pe_meth (pe_fld (pv 0) rfl) e.cl_Shelf e.m_Shelf_revert_take ((ok_Shelf_revert_take e).mono (by decide)) hr e.b_Shelf_revert_take .nil pass0 (pa_cons (pv 2) pa_nil))))
        (pss_one (ps_expr (pe_meth (pe_fld (pv 0) rfl) e.cl_Shelf e.m_Shelf_revert_return ((ok_Shelf_revert_return e).mono (by decide)) hr e.b_Shelf_revert_return .nil pass0 (pa_cons (pv 2) (pa_cons (pv 3) pa_nil))))))))), ?_⟩
    have c_Shelf := e.cl_Shelf; have a_Shelf_books := e.nA_Shelf_books; have a_Shelf_out := e.nA_Shelf_out; have c_LiveShelf := e.cl_LiveShelf; have a_LiveShelf__shelf := e.nA_LiveShelf__shelf; have a_LiveShelf__steps := e.nA_LiveShelf__steps; have c_Console := e.cl_Console; have a_Console__live := e.nA_Console__live
    have ho := l.ob
    have hs := l.sf.ob
    have hk := l.sf.bk
    have hou := l.sf.ou
    have g1 := g.len
    have g2 := outs_le g
    have nb := l.n1
    have no := l.n2
    obtain ⟨as0, h1, h2⟩ := l.ex
    obtain ⟨as, a, q, rfl, h3, ha, hq⟩ := h2.last
    rw [List.map_append] at h1
    replace h1 : H A.st = some (.lst (as.map V.ref ++ [.ref a])) := h1
    repeat array_get_dec
    rw [decide_eq_false (by rw [List.length_append, List.length_singleton]; omega)]
    repeat array_get_dec
    refine LS.rpop (xs := as.map V.ref) (y := .ref a) (by array_mem_dec) fun H1 f1 h1' => ?_
    have hq' : H q = some (.tup [.str (kst o.1), .int o.2]) := hq
    repeat array_get_dec
    refine LS.if2 (fun hk2 => ?_) fun hk2 => ?_
    · obtain ⟨kd, p⟩ := o
      cases kd with
      | false => exact absurd hk2 kst_ff
      | true =>
        repeat array_get_dec
        refine ⟨A.sh, A.ds, A.bl, A.ol, s, u, p, rfl, ⟨(by array_mem_dec), (by array_mem_dec), (by array_mem_dec), l.sf.ne⟩, hu, fun H4 f4 S4 => ?_⟩
        repeat array_get_dec
        have kn : KN H H4 := kn_l (L := [A.bl, A.ol, A.st]) (by array_mem_dec) (li_cons hk (li_cons hou (li_cons h1 li_nil)))
        exact k H4 (show LS.FrL H H4 [A.bl, A.ol, A.st] from (by array_mem_dec)) ⟨(by array_mem_dec), S4, ⟨as, (by array_mem_dec), h3.kn kn⟩, nb, no⟩
    · obtain ⟨kd, p⟩ := o
      cases kd with
      | true => exact absurd kst_tt hk2
      | false =>
        repeat array_get_dec
        refine ⟨A.sh, A.ds, A.bl, A.ol, s, u, p, rfl, ⟨(by array_mem_dec), (by array_mem_dec), (by array_mem_dec), l.sf.ne⟩, hu, g.gap (stp_ret hu).1, by omega, fun H4 f4 S4 => ?_⟩
        repeat array_get_dec
        have kn : KN H H4 := kn_l (L := [A.bl, A.ol, A.st]) (by array_mem_dec) (li_cons hk (li_cons hou (li_cons h1 li_nil)))
        exact k H4 (show LS.FrL H H4 [A.bl, A.ol, A.st] from (by array_mem_dec)) ⟨(by array_mem_dec), S4, ⟨as, (by array_mem_dec), h3.kn kn⟩, nb, no⟩
end
end LP

namespace LP
open PySem L2 LT LG LQ LH LC LX LR
local macro_rules | `(tactic| array_mem_dec) => `(tactic| first
  | assumption
  | ((with_reducible apply LS.hp_s); assumption; array_mem_dec)
  | ((with_reducible apply LS.hp_f); assumption; array_mem_dec; array_mem_dec)
  | ((with_reducible apply LS.hp_t); assumption; array_mem_dec; array_mem_dec)
  | ((with_reducible apply LS.hp_l); assumption; array_mem_dec; array_mem_dec)
  | ((with_reducible apply LS.sq_o); array_mem_dec)
  | ((with_reducible apply LS.sq_s); assumption; array_mem_dec)
  | ((with_reducible apply LS.sq_f); assumption; array_mem_dec; array_mem_dec)
  | ((with_reducible apply LS.sq_t); assumption; array_mem_dec; array_mem_dec)
  | ((with_reducible apply LS.sq_l); assumption; array_mem_dec; array_mem_dec)
  | ((with_reducible apply LS.tu_o); array_mem_dec)
  | ((with_reducible apply LS.tu_s); assumption; array_mem_dec)
  | ((with_reducible apply LS.tu_f); assumption; array_mem_dec; array_mem_dec)
  | ((with_reducible apply LS.tu_t); assumption; array_mem_dec; array_mem_dec)
  | ((with_reducible apply LS.tu_l); assumption; array_mem_dec; array_mem_dec)
  | ((with_reducible apply LS.se_l); array_mem_dec)
  | ((with_reducible apply LS.se_t); array_mem_dec)
  | ((with_reducible apply LS.se_s); assumption; array_mem_dec)
  | ((with_reducible apply LS.se_f); assumption; array_mem_dec; array_mem_dec)
  | ((with_reducible apply LS.se_tt); assumption; array_mem_dec; array_mem_dec)
  | ((with_reducible exact Same.refl _))
  | ((with_reducible apply LS.sm_s); assumption; array_mem_dec)
  | ((with_reducible apply LS.sm_f); assumption; array_mem_dec; array_mem_dec)
  | ((with_reducible exact Fr.refl _ _))
  | ((with_reducible apply LS.fr_b); assumption; array_mem_dec)
  | ((with_reducible apply LS.fr_s); assumption; array_mem_dec)
  | ((with_reducible apply LS.fr_n); assumption; array_mem_dec; array_mem_dec)
  | ((with_reducible apply LS.fr_t); assumption; array_mem_dec)
  | ((with_reducible apply LS.no_s); assumption; array_mem_dec)
  | ((with_reducible apply LS.no_f); assumption; array_mem_dec; array_mem_dec)
  | ((with_reducible apply LS.no_t); assumption; array_mem_dec)
  | ((with_reducible apply LS.no_l); assumption; assumption)
  | ((with_reducible apply Ne.symm); assumption)
  | ((with_reducible apply LS.ne_a); assumption; array_mem_dec)
  | ((with_reducible apply LS.ne_b); assumption; array_mem_dec)
  | ((with_reducible apply LS.ne_ap); assumption)
  | ((with_reducible apply LS.ne_il); assumption; array_mem_dec)
  | ((with_reducible apply LS.ne_li); assumption; array_mem_dec)
  | ((with_reducible apply LS.ne_lt); assumption; assumption)
  | ((with_reducible apply LS.ne_tl); assumption; assumption)
  | ((with_reducible apply LS.ne_rl); assumption; array_mem_dec)
  | ((with_reducible apply LS.rl_t); assumption)
  | ((with_reducible apply LS.rl_s); assumption; array_mem_dec)
  | ((with_reducible apply LS.rl_f); assumption; array_mem_dec; array_mem_dec)
  | ((with_reducible apply LS.rl_l); assumption; array_mem_dec; array_mem_dec)
  | ((with_reducible apply LS.ap_new); assumption; assumption; array_mem_dec)
  | ((with_reducible apply LS.ap_t); assumption; array_mem_dec; array_mem_dec)
  | ((with_reducible apply LS.ap_s); assumption; array_mem_dec; array_mem_dec)
  | ((with_reducible apply LS.ap_f); assumption; array_mem_dec; array_mem_dec; array_mem_dec)
  | ((with_reducible apply LS.ap_l); assumption; array_mem_dec; array_mem_dec; array_mem_dec)
  | (with_reducible apply LS.ni_nil)
  | ((with_reducible apply LS.ni_cons); array_mem_dec; array_mem_dec)
  | (with_reducible apply LS.trk_nil)
  | ((with_reducible apply LS.trk_cons); array_mem_dec; array_mem_dec)
  | (with_reducible apply LS.al_nil)
  | ((with_reducible apply LS.al_cons); array_mem_dec; array_mem_dec)
  | (with_reducible apply LS.mem_hd)
  | ((with_reducible apply LS.mem_tl); array_mem_dec)
  | ((with_reducible apply LS.fl_refl); array_mem_dec)
  | ((with_reducible apply LS.fl_l); assumption; array_mem_dec)
  | ((with_reducible apply LS.fl_lm); assumption; array_mem_dec; array_mem_dec)
  | (with_reducible apply LS.sub_nil)
  | ((with_reducible apply LS.sub_cons); array_mem_dec; array_mem_dec)
  | ((with_reducible apply LS.fl_s); assumption; array_mem_dec)
  | ((with_reducible apply LS.fl_m); assumption; array_mem_dec; array_mem_dec; array_mem_dec)
  | ((with_reducible apply LS.fl_n); assumption; array_mem_dec; array_mem_dec; array_mem_dec)
  | ((with_reducible apply LS.rt_refl); array_mem_dec)
  | ((with_reducible apply LS.rt_t); assumption; array_mem_dec)
  | ((with_reducible apply LS.rt_s); assumption; array_mem_dec)
  | ((with_reducible apply LS.rt_f); assumption; array_mem_dec; array_mem_dec; array_mem_dec)
  | ((with_reducible apply LS.sz); (first | decide | (simp only [List.length_append, List.length_map, List.length_cons, List.length_nil, List.length_replicate]; omega)))
  | ((with_reducible apply LS.szl); (first | decide | (simp only [List.length_append, List.length_map, List.length_cons, List.length_nil, List.length_replicate]; omega))))
local macro_rules | `(tactic| array_get_dec) => `(tactic| first
  | ((with_reducible apply LS.var); exact rfl)
  | (with_reducible apply LS.con)
  | (with_reducible apply LS.op)
  | (with_reducible apply LS.ri0)
  | (with_reducible apply LS.tseq)
  | (with_reducible apply LS.tasg)
  | (with_reducible apply LS.gname)
  | (with_reducible apply LS.tcons)
  | (with_reducible apply LS.tnil)
  | (with_reducible apply LS.tcb)
  | (with_reducible apply LS.tcall)
  | (with_reducible apply LS.ttest)
  | (with_reducible apply LS.k_b)
  | (with_reducible apply LS.tb)
  | (with_reducible apply LS.tifs)
  | (with_reducible apply LS.ift)
  | (with_reducible apply LS.iff_)
  | (with_reducible apply LS.ifnt)
  | (with_reducible apply LS.ifnf)
  | (with_reducible apply LS.tnext)
  | (with_reducible apply LS.tdrop)
  | (with_reducible apply LS.tret)
  | (with_reducible apply LS.tretn)
  | (with_reducible apply LS.un)
  | (with_reducible apply LS.ru)
  | (with_reducible apply LS.tyes)
  | (with_reducible apply LS.tand)
  | (with_reducible apply LS.tor)
  | (with_reducible apply LS.tnot)
  | (with_reducible apply LS.tif)
  | (with_reducible apply LS.tandv)
  | (with_reducible apply LS.k_av)
  | (with_reducible apply LS.torv)
  | (with_reducible apply LS.k_ov)
  | (with_reducible apply LS.tnotv)
  | (with_reducible apply LS.k_nv)
  | (with_reducible apply LS.tchain)
  | (with_reducible apply LS.k_ch)
  | (with_reducible apply LS.req_i)
  | (with_reducible apply LS.rne_i)
  | (with_reducible apply LS.req_s)
  | (with_reducible apply LS.rne_s)
  | (with_reducible apply LS.req_b)
  | (with_reducible apply LS.rne_b)
  | ((with_reducible apply LS.rin_i); array_mem_dec)
  | ((with_reducible apply LS.rni_i); array_mem_dec)
  | ((with_reducible apply LS.rlen_li); array_mem_dec)
  | ((with_reducible apply LS.rlen_ls); array_mem_dec)
  | ((with_reducible apply LS.rlen_l); array_mem_dec)
  | ((with_reducible apply LS.rlen_Ei); array_mem_dec)
  | ((with_reducible apply LS.rlen_E); array_mem_dec)
  | ((with_reducible apply LS.rlen_t); array_mem_dec)
  | ((with_reducible apply LS.rixl); array_mem_dec; exact rfl)
  | ((with_reducible apply LS.rixt); array_mem_dec; exact rfl)
  | (with_reducible apply LS.isi_int_int)
  | (with_reducible apply LS.isi_int_bool)
  | (with_reducible apply LS.isi_int_str)
  | (with_reducible apply LS.isi_str_int)
  | (with_reducible apply LS.isi_str_bool)
  | (with_reducible apply LS.isi_str_str)
  | (with_reducible apply LS.isi_bool_int)
  | (with_reducible apply LS.isi_bool_bool)
  | (with_reducible apply LS.isi_bool_str)
  | (with_reducible apply LS.isi_non_int)
  | (with_reducible apply LS.isi_non_bool)
  | (with_reducible apply LS.isi_non_str)
  | ((with_reducible apply LS.isi_list_int); array_mem_dec)
  | ((with_reducible apply LS.isi_list_bool); array_mem_dec)
  | ((with_reducible apply LS.isi_list_str); array_mem_dec)
  | ((with_reducible apply LS.isi_list_list); array_mem_dec)
  | ((with_reducible apply LS.isi_list_tuple); array_mem_dec)
  | ((with_reducible apply LS.isi_tuple_int); array_mem_dec)
  | ((with_reducible apply LS.isi_tuple_bool); array_mem_dec)
  | ((with_reducible apply LS.isi_tuple_str); array_mem_dec)
  | ((with_reducible apply LS.isi_tuple_list); array_mem_dec)
  | ((with_reducible apply LS.isi_tuple_tuple); array_mem_dec)
  | ((with_reducible apply LS.isiT_i); array_mem_dec)
  | ((with_reducible apply LS.isiT_s); array_mem_dec)
  | ((with_reducible apply LS.isiT_E); array_mem_dec; array_mem_dec)
  | (with_reducible apply LS.tfld)
  | ((with_reducible apply LS.k_fl); array_mem_dec; assumption; assumption; exact rfl)
  | (with_reducible apply LS.tmeth)
  | ((with_reducible apply LS.k_me); array_mem_dec; exact rfl)
  | (with_reducible apply LS.tmake)
  | (with_reducible apply LS.tsfld)
  | (with_reducible apply LS.tprop)
  | ((with_reducible apply LS.k_pr); array_mem_dec)
  | ((with_reducible apply LS.rlen_own); array_mem_dec)
  | (with_reducible apply LS.rabs)
  | (with_reducible apply LS.rmin2)
  | (with_reducible apply LS.rmax2)
  | (with_reducible apply LS.tsl)
  | (with_reducible apply LS.tthen)
  | (with_reducible apply LS.tstep)
  | (with_reducible apply LS.tnop)
  | (with_reducible apply LS.tpart)
  | (with_reducible apply LS.k_part)
  | (with_reducible apply LS.ttup)
  | (with_reducible apply LS.tlst)
  | (with_reducible apply LS.tbm)
  | (with_reducible apply LS.tbm0)
  | ((with_reducible apply LS.ty_l); array_mem_dec)
  | (with_reducible apply LS.tpar)
  | (with_reducible apply LS.tfor)
  | (with_reducible apply LS.tlc)
  | (with_reducible apply LS.ilist)
  | ((with_reducible apply LS.k_il); array_mem_dec)
  | (with_reducible apply LS.itup)
  | ((with_reducible apply LS.k_it); array_mem_dec)
  | (with_reducible apply LS.istr)
  | (with_reducible apply LS.k_is)
  | (with_reducible apply LS.irng1)
  | ((with_reducible apply LS.k_r1n); omega)
  | ((with_reducible apply LS.k_r1); (first | omega | decide); (first | omega | decide))
  | (with_reducible apply LS.irng2)
  | ((with_reducible apply LS.k_r2); (first | omega | decide); (first | omega | decide); (first | omega | decide); (first | omega | decide))
  | (with_reducible apply LS.ienum)
  | ((with_reducible apply LS.k_en); array_mem_dec)
  | (with_reducible apply LS.izip)
  | ((with_reducible apply LS.k_zip); array_mem_dec; array_mem_dec)
  | (with_reducible apply LS.tlstrg)
  | (with_reducible apply LS.trg1)
  | (with_reducible apply LS.k_g1)
  | (with_reducible apply LS.risn_i)
  | (with_reducible apply LS.risn_s)
  | (with_reducible apply LS.risn_n)
  | (with_reducible apply LS.rnotn_i)
  | (with_reducible apply LS.rnotn_n)
  | (with_reducible apply LS.rint_b)
  | (with_reducible apply LS.rint_i)
  | (with_reducible apply LS.tm0)
  | (with_reducible apply LS.tm1)
  | (with_reducible apply LS.is_str)
  | (with_reducible apply LS.ex_s0)
  | (with_reducible apply LS.ex_int_b)
  | (with_reducible apply LS.k_par)
  | (with_reducible apply LS.tpar3)
  | (with_reducible apply LS.k_par3)
  | ((with_reducible apply LS.taug); exact rfl)
  | (with_reducible apply LS.ipi)
  | ((with_reducible apply LS.gtup); array_mem_dec; exact rfl)
  | ((with_reducible apply LS.gunl); array_mem_dec; exact rfl)
  | (with_reducible apply LS.gnil)
  | (with_reducible apply LS.gcons)
  | (with_reducible apply LS.gsub)
  | ((with_reducible apply LS.ri); first | omega | decide | assumption | exact ⟨by decide, by decide, by decide⟩ | exact .inl ⟨by decide, by decide⟩ | exact .inr ⟨by decide, by decide⟩ | exact .inl ⟨by omega, by omega⟩ | exact .inr ⟨by omega, by omega⟩)
  | (with_reducible apply LS.ex_ss)
  | (with_reducible apply LS.ex_s1)
  | (with_reducible apply LS.ex_i1)
  | (with_reducible apply LS.and_rfl)
  | (with_reducible apply LS.and_tr)
  | (with_reducible apply LS.is_non))
local macro_rules | `(tactic| array_mem_dec) => `(tactic| first
  | ((with_reducible apply LP.lv_s); assumption; array_mem_dec)
  | ((with_reducible apply LP.lv_l); assumption; array_mem_dec; array_mem_dec; array_mem_dec)
  | ((with_reducible apply LP.lv_f); assumption; array_mem_dec; array_mem_dec; array_mem_dec)
  | ((with_reducible apply LP.lv_t); assumption; array_mem_dec; array_mem_dec; array_mem_dec)
  | ((with_reducible apply LP.ops_s); assumption; array_mem_dec)
  | ((with_reducible apply LP.md_s); assumption; array_mem_dec)
  | ((with_reducible apply LP.md_l); assumption; array_mem_dec; array_mem_dec; array_mem_dec)
  | ((with_reducible apply LP.md_f); assumption; array_mem_dec; array_mem_dec; array_mem_dec)
  | ((with_reducible apply LP.md_t); assumption; array_mem_dec; array_mem_dec; array_mem_dec)
  | ((with_reducible apply LP.al_s); assumption; array_mem_dec; array_mem_dec)
  | ((with_reducible apply LP.al_t); assumption; array_mem_dec; array_mem_dec)
  | ((with_reducible apply LP.al_l); assumption; array_mem_dec; array_mem_dec; array_mem_dec)
  | ((with_reducible apply LP.al_f); assumption; array_mem_dec; array_mem_dec; array_mem_dec)
  | ((with_reducible apply LP.Lv.lists); array_mem_dec)
  | ((with_reducible apply LP.Lv.trk); array_mem_dec)
  | ((with_reducible apply LP.Mdl.trk); array_mem_dec)
  | ((with_reducible apply LP.al_no); assumption; array_mem_dec))
local macro_rules | `(tactic| array_get_dec) => `(tactic| first
  | (with_reducible apply LS.tcalle)
  | (with_reducible apply LS.tcalls))
local macro_rules | `(tactic| array_get_dec) => `(tactic| first
  | (with_reducible apply LS.tmethv)
  | (with_reducible apply LS.tmakev)
  | (with_reducible apply LS.rnotn_rr)
  | (with_reducible apply LS.risn_rr)
  | ((with_reducible apply LS.k_mev); array_mem_dec; exact rfl))
local macro_rules | `(tactic| array_get_dec) => `(tactic| first
  | (with_reducible apply LS.trg2)
  | (with_reducible apply LS.k_g2))

section
variable {P : Program} {w : World} {K : PySem.W.Frag} {mg : Str → Option Value} {base : Heap}

theorem ok_undo_last (e : Env w K mg) : FnOk P w K mg base CX0 4 e.a_undo_last e.d_undo_last ["live"] (sp_undo_last e.C_LiveShelf e.C_Shelf) := by
  refine Fun.ok e.f_undo_last sc_undo_last (fun vs H Q E h => ?_) (fun cdv A outer s H vs Q E hr h => ?_)
  · obtain ⟨A, s, u, ss, o, n, rfl, _⟩ := h; rfl
  · obtain ⟨A, s, u, ss, o, n, rfl, l, g, hn, hu, k⟩ := h
    refine ⟨_, (pss_cons (ps_expr (pe_meth0 (pv 0) e.cl_LiveShelf e.m_LiveShelf_undo ((ok_LiveShelf_undo e).mono (by decide)) hr e.b_LiveShelf_undo .nil pass0))
      (pss_one (ps_ret pe_str))), ?_⟩
    have c_Shelf := e.cl_Shelf; have a_Shelf_books := e.nA_Shelf_books; have a_Shelf_out := e.nA_Shelf_out; have c_LiveShelf := e.cl_LiveShelf; have a_LiveShelf__shelf := e.nA_LiveShelf__shelf; have a_LiveShelf__steps := e.nA_LiveShelf__steps; have c_Console := e.cl_Console; have a_Console__live := e.nA_Console__live
    have ho := l.ob
    repeat array_get_dec
    refine ⟨A, s, u, ss, o, n, rfl, l, g, hn, hu, fun H1 f1 l1 => ?_⟩
    repeat array_get_dec
    exact k _ f1 l1
theorem bk_rng {n : Nat} {s : Sim} (g : Good n s) (hn : n ≤ 200) : ∀ x, some x ∈ s.books → 0 ≤ x ∧ x ≤ 200 := fun x hx => by
  have := mem_rangeI.mp (g.perm.subset (List.mem_append_left _ (List.mem_filterMap.mpr ⟨_, hx, rfl⟩)))
  omega
theorem ou_rng {n : Nat} {s : Sim} (g : Good n s) (hn : n ≤ 200) : ∀ x ∈ s.out, 0 ≤ x ∧ x ≤ 200 := fun x hx => by
  have := mem_rangeI.mp (g.perm.subset (List.mem_append_right _ hx))
  omega
theorem ou_len {n : Nat} {s : Sim} (g : Good n s) : s.out.length ≤ n := by
  have := g.perm.length_eq
  rw [List.length_append, rangeI_length] at this
  omega
theorem wd_book {n : Nat} {s : Sim} (g : Good n s) (hn : n ≤ 200) : ∀ w ∈ s.books.map bookW, Wd w := fun w hw => by
  obtain ⟨o, ho, rfl⟩ := List.mem_map.mp hw
  refine wd_bookW fun x hx => ?_
  subst hx
  have := bk_rng g hn x ho
  omega
theorem ok_show_books (e : Env w K mg) : FnOk P w K mg base CX0 4 e.a_show_books e.d_show_books ["live"] (sp_show e.C_LiveShelf e.C_Shelf 0) := by
  refine Fun.ok e.f_show_books sc_show_books (fun vs H Q E h => ?_) (fun cdv A outer s H vs Q E hr h => ?_)
  · obtain ⟨A, s, ss, n, q, t, rfl, _⟩ := h; rfl
  · obtain ⟨A, s, ss, n, q, t, rfl, l, P, hn, hl, e0, k⟩ := h
    refine ⟨_, (pss_one (ps_ret (pe_m1 PySem.F.slot_str_join PySem.F.type_str_join LS.mt_join pe_str (pe_lc (own := [("book", 1)]) rfl sc_show_books.nd (pi_list (pe_meth0 (pv 0) e.cl_LiveShelf e.m_LiveShelf_current_books ((ok_LiveShelf_current_books e).mono (by decide)) hr e.b_LiveShelf_current_books .nil pass0)) (blkOk_by (N := ["live", "book"]) (sc := defScope s_show_books) (by decide +kernel)) (fun _ _ _ _ _ => (pg_name (i := 1) sc_show_books.nd rfl (by first | exact Or.inl rfl | exact Or.inr rfl))) (fun _ _ _ _ _ => pts_nil) (fun _ _ _ _ _ => (pe_ifExp (pt_cmpR LS.op_isN (pv 1) pe_non (nomark _)) pe_str (pe_callTy LS.call_strI (by rfl) e.n_str (by decide +kernel) (pa_cons (pv 1) pa_nil)))))))), ?_⟩
    cases e0
    have c_Shelf := e.cl_Shelf; have a_Shelf_books := e.nA_Shelf_books; have a_Shelf_out := e.nA_Shelf_out; have c_LiveShelf := e.cl_LiveShelf; have a_LiveShelf__shelf := e.nA_LiveShelf__shelf; have a_LiveShelf__steps := e.nA_LiveShelf__steps; have c_Console := e.cl_Console; have a_Console__live := e.nA_Console__live
    have ho := l.ob
    have g := P.good
    have gl := g.len
    repeat array_get_dec
    refine ⟨A, s, ss, rfl, l, fun p H1 np s1 h1 => ?_⟩
    repeat array_get_dec
    refine LS.map_ (walk_list (xs := s.books.map vo)) (by rw [List.length_map]; omega) (fun v => match v with | .int i => .str (LQ.nst i) | _ => .str "-") (fun H' s' => (by array_mem_dec)) (fun x Hq hx s KK KN kk => ?_) fun D H2 nD s2 h2 => ?_
    · obtain ⟨o, ho, rfl⟩ := List.mem_map.mp hx
      refine ⟨rfl, ?_⟩
      repeat array_get_dec
      cases o with
      | none =>
        refine LS.risn_n ?_
        repeat array_get_dec
        exact kk _ (Same.refl _)
      | some i =>
        refine LS.risn_i ?_
        have := bk_rng g hn i ho
        repeat array_get_dec
        exact LS.rstr_i (log2_lt this.1 (by omega) (by decide)) (kk _ (Same.refl _))
    · have e : List.map (fun v => match v with | .int i => V.str (LQ.nst i) | _ => V.str "-") (s.books.map vo) = (s.books.map bookW).map V.str := by
        rw [List.map_map, List.map_map]
        refine List.map_congr_left fun o _ => ?_
        cases o <;> rfl
      rw [e] at h2
      exact LS.rjoin (SqL.of h2) (txtW_sz (wd_book g hn) (by rw [List.length_map]; omega)) (k _ (s1.trans s2))
theorem ok_show_gaps (e : Env w K mg) : FnOk P w K mg base CX0 4 e.a_show_gaps e.d_show_gaps ["live"] (sp_show e.C_LiveShelf e.C_Shelf 1) := by
  refine Fun.ok e.f_show_gaps sc_show_gaps (fun vs H Q E h => ?_) (fun cdv A outer s H vs Q E hr h => ?_)
  · obtain ⟨A, s, ss, n, q, t, rfl, _⟩ := h; rfl
  · obtain ⟨A, s, ss, n, q, t, rfl, l, P, hn, hl, e0, k⟩ := h
    refine ⟨_, (pss_one (ps_ret (pe_call ((ok_text_or_none e).mono (by decide)) hr rfl e.g_text_or_none e.f_text_or_none.kp e.b_text_or_none .nil pass0 (pa_cons (pe_call ((ok_numbers_text e).mono (by decide)) hr rfl e.g_numbers_text e.f_numbers_text.kp e.b_numbers_text .nil pass0 (pa_cons (pe_meth0 (pv 0) e.cl_LiveShelf e.m_LiveShelf_current_gaps ((ok_LiveShelf_current_gaps e).mono (by decide)) hr e.b_LiveShelf_current_gaps .nil pass0) pa_nil)) pa_nil)))), ?_⟩
    cases e0
    have c_Shelf := e.cl_Shelf; have a_Shelf_books := e.nA_Shelf_books; have a_Shelf_out := e.nA_Shelf_out; have c_LiveShelf := e.cl_LiveShelf; have a_LiveShelf__shelf := e.nA_LiveShelf__shelf; have a_LiveShelf__steps := e.nA_LiveShelf__steps; have c_Console := e.cl_Console; have a_Console__live := e.nA_Console__live
    have ho := l.ob
    have gl := P.good.len
    have g2 := gapsTo_len s.books s.books.length
    repeat array_get_dec
    refine ⟨A, s, ss, rfl, l, by omega, fun p H1 np s1 h1 => ?_⟩
    repeat array_get_dec
    refine ⟨p, gapsL s.books, rfl, .inl (SqL.of h1), fun x hx => ?_, Nat.le_trans g2 (by omega), fun H2 s2 => ?_⟩
    · have := gapsTo_lt hx
      show 0 ≤ x ∧ x ≤ 1000000000000000000000000000000
      omega
    repeat array_get_dec
    exact ⟨_, rfl, k _ (s1.trans s2)⟩
theorem ok_show_out (e : Env w K mg) : FnOk P w K mg base CX0 4 e.a_show_out e.d_show_out ["live"] (sp_show e.C_LiveShelf e.C_Shelf 2) := by
  refine Fun.ok e.f_show_out sc_show_out (fun vs H Q E h => ?_) (fun cdv A outer s H vs Q E hr h => ?_)
  · obtain ⟨A, s, ss, n, q, t, rfl, _⟩ := h; rfl
  · obtain ⟨A, s, ss, n, q, t, rfl, l, P, hn, hl, e0, k⟩ := h
    refine ⟨_, (pss_one (ps_ret (pe_call ((ok_text_or_none e).mono (by decide)) hr rfl e.g_text_or_none e.f_text_or_none.kp e.b_text_or_none .nil pass0 (pa_cons (pe_call ((ok_numbers_text e).mono (by decide)) hr rfl e.g_numbers_text e.f_numbers_text.kp e.b_numbers_text .nil pass0 (pa_cons (pe_meth0 (pv 0) e.cl_LiveShelf e.m_LiveShelf_current_out ((ok_LiveShelf_current_out e).mono (by decide)) hr e.b_LiveShelf_current_out .nil pass0) pa_nil)) pa_nil)))), ?_⟩
    cases e0
    have c_Shelf := e.cl_Shelf; have a_Shelf_books := e.nA_Shelf_books; have a_Shelf_out := e.nA_Shelf_out; have c_LiveShelf := e.cl_LiveShelf; have a_LiveShelf__shelf := e.nA_LiveShelf__shelf; have a_LiveShelf__steps := e.nA_LiveShelf__steps; have c_Console := e.cl_Console; have a_Console__live := e.nA_Console__live
    have ho := l.ob
    have g := P.good
    have g2 := ou_len g
    repeat array_get_dec
    refine ⟨A, s, ss, rfl, l, fun p H1 np s1 h1 => ?_⟩
    repeat array_get_dec
    refine ⟨p, s.out, rfl, .inl (SqL.of h1), fun x hx => ?_, by omega, fun H2 s2 => ?_⟩
    · have := ou_rng g hn x hx
      show 0 ≤ x ∧ x ≤ 1000000000000000000000000000000
      omega
    repeat array_get_dec
    exact ⟨_, rfl, k _ (s1.trans s2)⟩
theorem sm_ops {n : Nat} {ss : List Stp} {s : Sim} (P : Pst n ss s) (hn : n ≤ 200) : SmOps (ss.map (·.op)) := fun o ho => by
  obtain ⟨t, ht, rfl⟩ := List.mem_map.mp ho
  have := P.bnd hn t ht
  exact ⟨this.1, by have := this.2; omega⟩
theorem ok_show_schedule (e : Env w K mg) : FnOk P w K mg base CX0 4 e.a_show_schedule e.d_show_schedule ["live"] (sp_show e.C_LiveShelf e.C_Shelf 3) := by
  refine Fun.ok e.f_show_schedule sc_show_schedule (fun vs H Q E h => ?_) (fun cdv A outer s H vs Q E hr h => ?_)
  · obtain ⟨A, s, ss, n, q, t, rfl, _⟩ := h; rfl
  · obtain ⟨A, s, ss, n, q, t, rfl, l, P, hn, hl, e0, k⟩ := h
    refine ⟨_, (pss_one (ps_ret (pe_call ((ok_text_or_none e).mono (by decide)) hr rfl e.g_text_or_none e.f_text_or_none.kp e.b_text_or_none .nil pass0 (pa_cons (pe_call ((ok_operations_text e).mono (by decide)) hr rfl e.g_operations_text e.f_operations_text.kp e.b_operations_text .nil pass0 (pa_cons (pe_meth0 (pv 0) e.cl_LiveShelf e.m_LiveShelf_current_schedule ((ok_LiveShelf_current_schedule e).mono (by decide)) hr e.b_LiveShelf_current_schedule .nil pass0) pa_nil)) pa_nil)))), ?_⟩
    cases e0
    have c_Shelf := e.cl_Shelf; have a_Shelf_books := e.nA_Shelf_books; have a_Shelf_out := e.nA_Shelf_out; have c_LiveShelf := e.cl_LiveShelf; have a_LiveShelf__shelf := e.nA_LiveShelf__shelf; have a_LiveShelf__steps := e.nA_LiveShelf__steps; have c_Console := e.cl_Console; have a_Console__live := e.nA_Console__live
    have ho := l.ob
    repeat array_get_dec
    refine ⟨A, s, ss, rfl, l, hl, fun p H1 as np s1 h1 hos => ?_⟩
    repeat array_get_dec
    refine ⟨p, as, ss.map (·.op), rfl, .inl (SqL.of h1), hos.toE, sm_ops P hn, by rw [List.length_map]; exact hl, fun H2 s2 => ?_⟩
    repeat array_get_dec
    exact ⟨_, rfl, k _ (s1.trans s2)⟩
theorem ok_show_size (e : Env w K mg) : FnOk P w K mg base CX0 4 e.a_show_size e.d_show_size ["live"] (sp_show e.C_LiveShelf e.C_Shelf 4) := by
  refine Fun.ok e.f_show_size sc_show_size (fun vs H Q E h => ?_) (fun cdv A outer s H vs Q E hr h => ?_)
  · obtain ⟨A, s, ss, n, q, t, rfl, _⟩ := h; rfl
  · obtain ⟨A, s, ss, n, q, t, rfl, l, P, hn, hl, e0, k⟩ := h
    refine ⟨_, (pss_one (ps_ret (pe_callTy LS.call_strI (by rfl) e.n_str (by decide +kernel) (pa_cons (pe_callB LS.call_len (by rfl) e.n_len PySem.boot_len (pa_cons (pe_meth0 (pv 0) e.cl_LiveShelf e.m_LiveShelf_current_books ((ok_LiveShelf_current_books e).mono (by decide)) hr e.b_LiveShelf_current_books .nil pass0) pa_nil)) pa_nil)))), ?_⟩
    cases e0
    have c_Shelf := e.cl_Shelf; have a_Shelf_books := e.nA_Shelf_books; have a_Shelf_out := e.nA_Shelf_out; have c_LiveShelf := e.cl_LiveShelf; have a_LiveShelf__shelf := e.nA_LiveShelf__shelf; have a_LiveShelf__steps := e.nA_LiveShelf__steps; have c_Console := e.cl_Console; have a_Console__live := e.nA_Console__live
    have ho := l.ob
    have gl := P.good.len
    repeat array_get_dec
    refine ⟨A, s, ss, rfl, l, fun p H1 np s1 h1 => ?_⟩
    repeat array_get_dec
    rw [List.length_map]
    exact LS.rstr_i (log2_lt (by omega) (by omega) (by decide)) (k _ s1)
theorem lk_none {z : Str} : ∀ {kvs : List (Str × Value)}, (∀ p ∈ kvs, z ≠ p.1) → kvs.lookup z = none
  | [], _ => rfl
  | (a, v) :: r, h => by
    rw [List.lookup_cons]
    have : (z == a) = false := by
      rw [beq_eq_false_iff_ne]
      exact h _ (List.mem_cons_self ..)
    rw [this]
    exact lk_none fun p hp => h p (List.mem_cons_of_mem _ hp)
theorem rinw_t {d : Addr} {kvs : List (Str × Value)} {z : Str} {H : Hp} {Q : VK} (h : (kvs.lookup z).isSome = true) (q : Q (.bl true) H) : LX.rInW d kvs false (.str z) (.ref d) H Q := ⟨z, rfl, rfl, by rw [h]; exact q⟩
theorem rinw_f {d : Addr} {kvs : List (Str × Value)} {z : Str} {H : Hp} {Q : VK} (h : kvs.lookup z = none) (q : Q (.bl false) H) : LX.rInW d kvs false (.str z) (.ref d) H Q := ⟨z, rfl, rfl, by rw [h]; exact q⟩
theorem rpart {a b c d f : Str} {H : Hp} {Q : VK} (h : Txt.partition a b = (c, d, f)) (hb : (b.length == 0) = false) (hl : a.length ≤ 100000) (k : ∀ (p : Addr) (H' : Hp), H p = none → Same H H' → H' p = some (.tup [.str c, .str d, .str f]) → Q (.ref p) H') :
    LX.rPart (.str a) [.str b] H Q :=
  ⟨a, b, rfl, rfl, hb, LS.sz hl, fun p np => by rw [h]; exact k p _ np (same_upd np) upd_same⟩
theorem rnit_t {K : PySem.W.Frag} {x : V} {p : Addr} {xs : List V} {H : Hp} {Q : VK} (h : SqT K H p xs) (hx : flatV x = true) (ha : xs.all flatV = true) (e : inV x xs = true) (q : Q (.bl false) H) : rIn K true x (.ref p) H Q := ⟨p, xs, rfl, .inr h, hx, ha, by rw [e]; exact q⟩
theorem ok_read_line (e : Env w K mg) : FnOk P w K mg base CX0 2 e.a_read_line e.d_read_line ["line"] (sp_read_line) := by
  refine Fun.ok e.f_read_line sc_read_line (fun vs H Q E h => ?_) (fun cdv A outer s H vs Q E hr h => ?_)
  · rcases h with ⟨q, rfl, _⟩ | ⟨o, rfl, _⟩ <;> rfl
  · refine ⟨_, (pss_cons (ps_if (pt_not (pt_val (pe_callB call_isi (by rfl) e.n_isinstance (by decide +kernel) (pa_cons (pv 0) (pa_cons (pe_bltn (v := V.ty "str") (by rfl) e.n_str (by decide +kernel) rfl) pa_nil)))))
        (pss_one ps_never)
        pss_nil)
      (pss_cons (ps_if (pt_cmpR (LX.op_inW e.wd_ANSWERS) (pv 0) (pe_glob (v := V.ref e.x_ANSWERS) rfl e.g_ANSWERS rfl) (by rfl))
        (pss_one (ps_ret (pe_tup (pa_cons (pv 0) (pa_cons pe_non pa_nil)))))
        pss_nil)
      (pss_cons (ps_asg (pe_m1 PySem.F.slot_str_partition PySem.F.type_str_partition LX.mt_partN (pv 0) pe_str) (pg_tup (by rfl) (pgs_cons (pg_name (i := 1) sc_read_line.nd rfl (by first | exact Or.inl rfl | exact Or.inr rfl)) (pgs_cons (pg_name (i := 2) sc_read_line.nd rfl (by first | exact Or.inl rfl | exact Or.inr rfl)) (pgs_cons (pg_name (i := 3) sc_read_line.nd rfl (by first | exact Or.inl rfl | exact Or.inr rfl)) pgs_nil)))))
      (pss_cons (ps_set (i := 4) sc_read_line.nd rfl (by first | exact Or.inl rfl | exact Or.inr rfl) (pe_call ((ok_read_number e).mono (by decide)) hr rfl e.g_read_number e.f_read_number.kp e.b_read_number .nil pass0 (pa_cons (pv 3) pa_nil)))
      (pss_cons (ps_if (PW.pt (pw_or (pt_cmpR op_notIn_seq (pv 1) (pe_tup (pa_cons pe_str (pa_cons pe_str pa_nil))) (by rfl)) (pw_or1 (pt_cmpR LS.op_isN (pv 4) pe_non (nomark _)))))
        (pss_one ps_never)
        pss_nil)
      (pss_one (ps_ret (pe_tup (pa_cons (pv 1) (pa_cons (pv 4) pa_nil)))))))))), ?_⟩
    rcases h with ⟨q, rfl, hq, k⟩ | ⟨o, rfl, h0, h1, k⟩
    · repeat array_get_dec
      have hs : (([("undo", Value.ref e.a_undo_last), ("books", Value.ref e.a_show_books), ("gaps", Value.ref e.a_show_gaps), ("out", Value.ref e.a_show_out), ("schedule", Value.ref e.a_show_schedule), ("size", Value.ref e.a_show_size)] : List (Str × Value)).lookup q).isSome = true := by
        simp only [List.mem_cons, List.not_mem_nil, or_false] at hq
        rcases hq with rfl | rfl | rfl | rfl | rfl | rfl <;> rfl
      refine rinw_t hs ?_
      repeat array_get_dec
      refine LS.k_tup (by array_mem_dec) fun t H_t n_t s_t h_t => ?_
      repeat array_get_dec
      exact k H_t t (by array_mem_dec) (by array_mem_dec) (by array_mem_dec)
    · repeat array_get_dec
      refine rinw_f (lk_none fun p hp => ?_) ?_
      · simp only [List.mem_cons, List.not_mem_nil, or_false] at hp
        have hk : ∀ z : Str, 32 ∉ z.cps.toList → cmd o ≠ z := fun z => cmd_ne
        rcases hp with rfl | rfl | rfl | rfl | rfl | rfl
        · exact hk "undo" (by decide +kernel)
        · exact hk "books" (by decide +kernel)
        · exact hk "gaps" (by decide +kernel)
        · exact hk "out" (by decide +kernel)
        · exact hk "schedule" (by decide +kernel)
        · exact hk "size" (by decide +kernel)
      repeat array_get_dec
      refine rpart (part_cmd o) (by decide +kernel) (Nat.le_trans (cmd_len h0 h1) (by decide)) fun p H1 np s1 h1' => ?_
      repeat array_get_dec
      refine ⟨o.2, rfl, h0, h1, ?_⟩
      repeat array_get_dec
      refine LS.k_tup (by array_mem_dec) fun w H_w n_w s_w h_w => ?_
      repeat array_get_dec
      refine rnit_t (xs := [V.str "take", V.str "return"]) (SqT.of h_w) rfl rfl (by cases o.1 <;> decide +kernel) ?_
      repeat array_get_dec
      refine LS.k_tup (by array_mem_dec) fun t H_t n_t s_t h_t => ?_
      repeat array_get_dec
      exact k H_t t (by array_mem_dec) (by array_mem_dec) (by array_mem_dec)
theorem ok_Console_init (e : Env w K mg) : FnOk P w K mg base CX0 5 e.a_Console_init e.d_Console_init ["self", "size"] (sp_Console_init e.C_LiveShelf e.C_Shelf e.C_Console) := by
  refine Fun.ok e.f_Console_init sc_Console_init (fun vs H Q E h => ?_) (fun cdv A outer s H vs Q E hr h => ?_)
  · obtain ⟨p, dx, n, rfl, _⟩ := h; rfl
  · obtain ⟨p, dx, n, rfl, hn1, hn, hp, k⟩ := h
    refine ⟨_, (pss_one (ps_fld (pv 0) (pe_make e.mk_LiveShelf ((ok_LiveShelf_init e).mono (by decide)) hr rfl e.g_LiveShelf e.b_LiveShelf_init .nil pass0 (pa_cons (pv 1) pa_nil)) rfl)), ?_⟩
    have c_Shelf := e.cl_Shelf; have a_Shelf_books := e.nA_Shelf_books; have a_Shelf_out := e.nA_Shelf_out; have c_LiveShelf := e.cl_LiveShelf; have a_LiveShelf__shelf := e.nA_LiveShelf__shelf; have a_LiveShelf__steps := e.nA_LiveShelf__steps; have c_Console := e.cl_Console; have a_Console__live := e.nA_Console__live
    repeat array_get_dec
    refine LS.k_mk fun lx dl H4 n1 n2 s4 h4 => ?_
    refine ⟨lx, dl, n, rfl, hn1, hn, h4, fun H5 A eA f5 L5 no5 ns5 => ⟨rfl, ?_⟩⟩
    subst eA
    have nep : p ≠ A.lx := ne_of_none hp n1
    have hp5 : H5 p = some (.ins e.C_Console dx []) := f5 _ _ (s4 _ _ hp) nep
    repeat array_get_dec
    refine LS.k_sf (gs := [("_live", .ref A.lx)]) (by array_mem_dec) c_Console a_Console__live (by decide) rfl fun H6 f6 h6 => ?_
    have npA : p ∉ A.L := fun q => by
      have := no5 p q
      rw [s4 _ _ hp] at this; cases this
    have nesh : A.sh ≠ p := fun q => by
      rw [q, s4 _ _ hp] at ns5; cases ns5
    have L6 : Lv e.C_LiveShelf e.C_Shelf H6 A (simInit n) [] := by
      obtain ⟨as, h1, h2⟩ := L5.ex
      have ea : as = [] := List.length_eq_zero_iff.mp h2.1
      subst ea
      exact ⟨f6 _ _ L5.ob nep.symm, ⟨f6 _ _ L5.sf.ob nesh, f6 _ _ L5.sf.bk fun q => npA (by simp [Ad.L, ← q]), f6 _ _ L5.sf.ou fun q => npA (by simp [Ad.L, ← q]), L5.sf.ne⟩, ⟨[], f6 _ _ h1 fun q => npA (by simp [Ad.L, ← q]), rfl, fun i a t ha => by simp at ha⟩, L5.n1, L5.n2⟩
    repeat array_get_dec
    exact k H6 A (fun a o ha ne => f6 _ _ (f5 _ _ (s4 _ _ ha) (ne_of_none ha n1)) ne) ⟨h6, L6⟩ (no_sL s4 no5)
theorem con_cmd {s u : Sim} {o : Op} {n : Nat} (g : Good n s) (hn : n ≤ 200) (h : stp s o = some u) : 0 ≤ o.2 ∧ o.2 ≤ 1000000000000000000000000000000 := by
  have := num_range g h
  omega
theorem con_fl {C D Cc : Addr} {H H' : Hp} {co dc : Addr} {A : Ad} {s s' : Sim} {ss ss' : List Stp} (c : Con C D Cc H co dc A s ss) (f : LS.FrL H H' A.L) (l : Lv C D H' A s' ss') : Con C D Cc H' co dc A s' ss' :=
  ⟨f.k _ _ c.ob (fun q => by
    obtain ⟨xs, hx⟩ := c.lv.lists _ q
    rw [c.ob] at hx
    cases hx), l⟩
theorem frl_pre {H H1 H2 : Hp} {L : List Addr} (s : Same H H1) (f : LS.FrL H1 H2 L) : LS.FrL H H2 L := ⟨fun a o h n => f.k a o (s a o h) n, f.l⟩
theorem kst_t2 : kst true = ("take" : Str) := rfl
theorem kst_f2 : ¬ kst false = ("take" : Str) := by decide
theorem ok_Console_execute (e : Env w K mg) : FnOk P w K mg base CX0 6 e.a_Console_execute e.d_Console_execute ["self", "line"] (sp_Console_execute e.C_LiveShelf e.C_Shelf e.C_Console) := by
  refine Fun.ok e.f_Console_execute sc_Console_execute (fun vs H Q E h => ?_) (fun cdv A outer s H vs Q E hr h => ?_)
  · rcases h with ⟨co, dc, A, s, u, ss, o, n, rfl, _⟩ | ⟨co, dc, A, s, u, ss, o, n, rfl, _⟩ | ⟨co, dc, A, s, ss, n, j, q, t, rfl, _⟩ <;> rfl
  · refine ⟨_, (pss_cons (ps_asg (pe_call ((ok_read_line e).mono (by decide)) hr rfl e.g_read_line e.f_read_line.kp e.b_read_line .nil pass0 (pa_cons (pv 1) pa_nil)) (pg_tup (by rfl) (pgs_cons (pg_name (i := 2) sc_Console_execute.nd rfl (by first | exact Or.inl rfl | exact Or.inr rfl)) (pgs_cons (pg_name (i := 3) sc_Console_execute.nd rfl (by first | exact Or.inl rfl | exact Or.inr rfl)) pgs_nil))))
      (pss_cons (ps_if (pt_cmpR op_eq (pv 2) pe_str (nomark _))
        (pss_one (ps_ret (pe_callTy LS.call_strI (by rfl) e.n_str (by decide +kernel) (pa_cons (pe_meth (pe_fld (pv 0) rfl) e.cl_LiveShelf e.m_LiveShelf_take_book ((ok_LiveShelf_take_book e).mono (by decide)) hr e.b_LiveShelf_take_book .nil pass0 (pa_cons (pv 3) pa_nil)) pa_nil))))
        pss_nil)
      (pss_cons (ps_if (pt_cmpR op_eq (pv 2) pe_str (nomark _))
        (pss_one (ps_ret (pe_callTy LS.call_strI (by rfl) e.n_str (by decide +kernel) (pa_cons (pe_meth (pe_fld (pv 0) rfl) e.cl_LiveShelf e.m_LiveShelf_return_book ((ok_LiveShelf_return_book e).mono (by decide)) hr e.b_LiveShelf_return_book .nil pass0 (pa_cons (pv 3) pa_nil)) pa_nil))))
        pss_nil)
      (pss_cons (ps_set (i := 4) sc_Console_execute.nd rfl (by first | exact Or.inl rfl | exact Or.inr rfl) (pe_ix ix_kdict (pe_glob (v := V.ref e.x_ANSWERS) rfl e.g_ANSWERS rfl) (pv 2) (fun _ _ => rfl)))
      (pss_one (ps_ret (LX.pe_callR (i := 4) (.cons ((ok_undo_last e).mono (by decide)) e.f_undo_last.kp e.b_undo_last (.cons ((ok_show_books e).mono (by decide)) e.f_show_books.kp e.b_show_books (.cons ((ok_show_gaps e).mono (by decide)) e.f_show_gaps.kp e.b_show_gaps (.cons ((ok_show_out e).mono (by decide)) e.f_show_out.kp e.b_show_out (.cons ((ok_show_schedule e).mono (by decide)) e.f_show_schedule.kp e.b_show_schedule (.cons ((ok_show_size e).mono (by decide)) e.f_show_size.kp e.b_show_size .nil)))))) hr rfl (by first | exact Or.inl rfl | exact Or.inr (Or.inl rfl) | exact Or.inr (Or.inr rfl)) (pa_cons (pe_fld (pv 0) rfl) pa_nil)))))))), ?_⟩
    have c_Shelf := e.cl_Shelf; have a_Shelf_books := e.nA_Shelf_books; have a_Shelf_out := e.nA_Shelf_out; have c_LiveShelf := e.cl_LiveShelf; have a_LiveShelf__shelf := e.nA_LiveShelf__shelf; have a_LiveShelf__steps := e.nA_LiveShelf__steps; have c_Console := e.cl_Console; have a_Console__live := e.nA_Console__live
    rcases h with ⟨co, dc, A, s, u, ss, o, n, rfl, c, P, hn, hu, hl, k⟩ | ⟨co, dc, A, s, u, ss, o, n, rfl, c, g, hn, hu, k⟩ | ⟨co, dc, A, s, ss, n, j, q, t, rfl, c, P, hn, hl, ht, k⟩
    · have g := P.good
      have hb := con_cmd g hn hu
      have dr := due_range g hu
      repeat array_get_dec
      refine .inr ⟨o, rfl, hb.1, hb.2, fun H1 t nt s1 h1 => ?_⟩
      have l1 := lv_s s1 c.lv
      have hob := s1 _ _ c.ob
      have hlx := l1.ob
      repeat array_get_dec
      refine LS.if2 (fun hk => ?_) fun hk => ?_
      · obtain ⟨kd, num⟩ := o
        cases kd with
        | false => exact absurd hk kst_f2
        | true =>
          repeat array_get_dec
          refine ⟨A, s, u, ss, num, n, rfl, l1, g, hn, hu, hl, fun H2 f2 l2 => ?_⟩
          exact LS.rstr_i (log2_lt dr.1 (by omega) (by decide)) (k H2 (frl_pre s1 f2) (con_fl c (frl_pre s1 f2) l2))
      · obtain ⟨kd, num⟩ := o
        cases kd with
        | true => exact absurd kst_t2 hk
        | false =>
          repeat array_get_dec
          rw [show decide (kst false = "return") = true by decide]
          repeat array_get_dec
          refine ⟨A, s, u, ss, num, n, rfl, l1, g, hn, hu, hl, fun H2 f2 l2 => ?_⟩
          exact LS.rstr_i (log2_lt dr.1 (by omega) (by decide)) (k H2 (frl_pre s1 f2) (con_fl c (frl_pre s1 f2) l2))
    · repeat array_get_dec
      refine .inl ⟨"undo", rfl, by simp, fun H1 t nt s1 h1 => ?_⟩
      have l1 := lv_s s1 c.lv
      have hob := s1 _ _ c.ob
      have hlx := l1.ob
      repeat array_get_dec
      rw [decide_eq_false (show ¬ ("undo" : Str) = "take" by decide +kernel)]
      repeat array_get_dec
      rw [decide_eq_false (show ¬ ("undo" : Str) = "return" by decide +kernel)]
      repeat array_get_dec
      refine ⟨_, _, _, rfl, rfl, e.wd_ANSWERS.kdct (u := .ref e.a_undo_last) (v := .ref e.a_undo_last) rfl rfl, ?_⟩
      repeat array_get_dec
      refine ⟨0, _, _, rfl, rfl, ?_⟩
      repeat array_get_dec
      exact ⟨A, s, u, ss, o, n, rfl, l1, g, hn, hu, fun H2 f2 l2 => k H2 (frl_pre s1 f2) (con_fl c (frl_pre s1 f2) l2)⟩
    · have hj : j < 5 := (List.getElem?_eq_some_iff.mp ht).1
      rcases (show j = 0 ∨ j = 1 ∨ j = 2 ∨ j = 3 ∨ j = 4 by omega) with rfl | rfl | rfl | rfl | rfl
      · obtain rfl : q = "books" := (congrArg Prod.fst (Option.some.inj ht)).symm
        repeat array_get_dec
        refine .inl ⟨"books", rfl, by simp, fun H1 t1 nt s1 h1 => ?_⟩
        have l1 := lv_s s1 c.lv
        have hob := s1 _ _ c.ob
        have hlx := l1.ob
        repeat array_get_dec
        rw [decide_eq_false (show ¬ ("books" : Str) = "take" by decide +kernel)]
        repeat array_get_dec
        rw [decide_eq_false (show ¬ ("books" : Str) = "return" by decide +kernel)]
        repeat array_get_dec
        refine ⟨_, _, _, rfl, rfl, e.wd_ANSWERS.kdct (u := .ref e.a_show_books) (v := .ref e.a_show_books) rfl rfl, ?_⟩
        repeat array_get_dec
        refine ⟨1, _, _, rfl, rfl, ?_⟩
        repeat array_get_dec
        exact ⟨A, s, ss, n, _, t, rfl, l1, P, hn, hl, ht, fun H2 s2 => k H2 (s1.trans s2)⟩
      · obtain rfl : q = "gaps" := (congrArg Prod.fst (Option.some.inj ht)).symm
        repeat array_get_dec
        refine .inl ⟨"gaps", rfl, by simp, fun H1 t1 nt s1 h1 => ?_⟩
        have l1 := lv_s s1 c.lv
        have hob := s1 _ _ c.ob
        have hlx := l1.ob
        repeat array_get_dec
        rw [decide_eq_false (show ¬ ("gaps" : Str) = "take" by decide +kernel)]
        repeat array_get_dec
        rw [decide_eq_false (show ¬ ("gaps" : Str) = "return" by decide +kernel)]
        repeat array_get_dec
        refine ⟨_, _, _, rfl, rfl, e.wd_ANSWERS.kdct (u := .ref e.a_show_gaps) (v := .ref e.a_show_gaps) rfl rfl, ?_⟩
        repeat array_get_dec
        refine ⟨2, _, _, rfl, rfl, ?_⟩
        repeat array_get_dec
        exact ⟨A, s, ss, n, _, t, rfl, l1, P, hn, hl, ht, fun H2 s2 => k H2 (s1.trans s2)⟩
      · obtain rfl : q = "out" := (congrArg Prod.fst (Option.some.inj ht)).symm
        repeat array_get_dec
        refine .inl ⟨"out", rfl, by simp, fun H1 t1 nt s1 h1 => ?_⟩
        have l1 := lv_s s1 c.lv
        have hob := s1 _ _ c.ob
        have hlx := l1.ob
        repeat array_get_dec
        rw [decide_eq_false (show ¬ ("out" : Str) = "take" by decide +kernel)]
        repeat array_get_dec
        rw [decide_eq_false (show ¬ ("out" : Str) = "return" by decide +kernel)]
        repeat array_get_dec
        refine ⟨_, _, _, rfl, rfl, e.wd_ANSWERS.kdct (u := .ref e.a_show_out) (v := .ref e.a_show_out) rfl rfl, ?_⟩
        repeat array_get_dec
        refine ⟨3, _, _, rfl, rfl, ?_⟩
        repeat array_get_dec
        exact ⟨A, s, ss, n, _, t, rfl, l1, P, hn, hl, ht, fun H2 s2 => k H2 (s1.trans s2)⟩
      · obtain rfl : q = "schedule" := (congrArg Prod.fst (Option.some.inj ht)).symm
        repeat array_get_dec
        refine .inl ⟨"schedule", rfl, by simp, fun H1 t1 nt s1 h1 => ?_⟩
        have l1 := lv_s s1 c.lv
        have hob := s1 _ _ c.ob
        have hlx := l1.ob
        repeat array_get_dec
        rw [decide_eq_false (show ¬ ("schedule" : Str) = "take" by decide +kernel)]
        repeat array_get_dec
        rw [decide_eq_false (show ¬ ("schedule" : Str) = "return" by decide +kernel)]
        repeat array_get_dec
        refine ⟨_, _, _, rfl, rfl, e.wd_ANSWERS.kdct (u := .ref e.a_show_schedule) (v := .ref e.a_show_schedule) rfl rfl, ?_⟩
        repeat array_get_dec
        refine ⟨4, _, _, rfl, rfl, ?_⟩
        repeat array_get_dec
        exact ⟨A, s, ss, n, _, t, rfl, l1, P, hn, hl, ht, fun H2 s2 => k H2 (s1.trans s2)⟩
      · obtain rfl : q = "size" := (congrArg Prod.fst (Option.some.inj ht)).symm
        repeat array_get_dec
        refine .inl ⟨"size", rfl, by simp, fun H1 t1 nt s1 h1 => ?_⟩
        have l1 := lv_s s1 c.lv
        have hob := s1 _ _ c.ob
        have hlx := l1.ob
        repeat array_get_dec
        rw [decide_eq_false (show ¬ ("size" : Str) = "take" by decide +kernel)]
        repeat array_get_dec
        rw [decide_eq_false (show ¬ ("size" : Str) = "return" by decide +kernel)]
        repeat array_get_dec
        refine ⟨_, _, _, rfl, rfl, e.wd_ANSWERS.kdct (u := .ref e.a_show_size) (v := .ref e.a_show_size) rfl rfl, ?_⟩
        repeat array_get_dec
        refine ⟨5, _, _, rfl, rfl, ?_⟩
        repeat array_get_dec
        exact ⟨A, s, ss, n, _, t, rfl, l1, P, hn, hl, ht, fun H2 s2 => k H2 (s1.trans s2)⟩
end
end LP

namespace LP
open PySem L2 LT LG LQ LH LC LX LR
local macro_rules | `(tactic| array_mem_dec) => `(tactic| first
  | assumption
  | ((with_reducible apply LS.hp_s); assumption; array_mem_dec)
  | ((with_reducible apply LS.hp_f); assumption; array_mem_dec; array_mem_dec)
  | ((with_reducible apply LS.hp_t); assumption; array_mem_dec; array_mem_dec)
  | ((with_reducible apply LS.hp_l); assumption; array_mem_dec; array_mem_dec)
  | ((with_reducible apply LS.sq_o); array_mem_dec)
  | ((with_reducible apply LS.sq_s); assumption; array_mem_dec)
  | ((with_reducible apply LS.sq_f); assumption; array_mem_dec; array_mem_dec)
  | ((with_reducible apply LS.sq_t); assumption; array_mem_dec; array_mem_dec)
  | ((with_reducible apply LS.sq_l); assumption; array_mem_dec; array_mem_dec)
  | ((with_reducible apply LS.tu_o); array_mem_dec)
  | ((with_reducible apply LS.tu_s); assumption; array_mem_dec)
  | ((with_reducible apply LS.tu_f); assumption; array_mem_dec; array_mem_dec)
  | ((with_reducible apply LS.tu_t); assumption; array_mem_dec; array_mem_dec)
  | ((with_reducible apply LS.tu_l); assumption; array_mem_dec; array_mem_dec)
  | ((with_reducible apply LS.se_l); array_mem_dec)
  | ((with_reducible apply LS.se_t); array_mem_dec)
  | ((with_reducible apply LS.se_s); assumption; array_mem_dec)
  | ((with_reducible apply LS.se_f); assumption; array_mem_dec; array_mem_dec)
  | ((with_reducible apply LS.se_tt); assumption; array_mem_dec; array_mem_dec)
  | ((with_reducible exact Same.refl _))
  | ((with_reducible apply LS.sm_s); assumption; array_mem_dec)
  | ((with_reducible apply LS.sm_f); assumption; array_mem_dec; array_mem_dec)
  | ((with_reducible exact Fr.refl _ _))
  | ((with_reducible apply LS.fr_b); assumption; array_mem_dec)
  | ((with_reducible apply LS.fr_s); assumption; array_mem_dec)
  | ((with_reducible apply LS.fr_n); assumption; array_mem_dec; array_mem_dec)
  | ((with_reducible apply LS.fr_t); assumption; array_mem_dec)
  | ((with_reducible apply LS.no_s); assumption; array_mem_dec)
  | ((with_reducible apply LS.no_f); assumption; array_mem_dec; array_mem_dec)
  | ((with_reducible apply LS.no_t); assumption; array_mem_dec)
  | ((with_reducible apply LS.no_l); assumption; assumption)
  | ((with_reducible apply Ne.symm); assumption)
  | ((with_reducible apply LS.ne_a); assumption; array_mem_dec)
  | ((with_reducible apply LS.ne_b); assumption; array_mem_dec)
  | ((with_reducible apply LS.ne_ap); assumption)
  | ((with_reducible apply LS.ne_il); assumption; array_mem_dec)
  | ((with_reducible apply LS.ne_li); assumption; array_mem_dec)
  | ((with_reducible apply LS.ne_lt); assumption; assumption)
  | ((with_reducible apply LS.ne_tl); assumption; assumption)
  | ((with_reducible apply LS.ne_rl); assumption; array_mem_dec)
  | ((with_reducible apply LS.rl_t); assumption)
  | ((with_reducible apply LS.rl_s); assumption; array_mem_dec)
  | ((with_reducible apply LS.rl_f); assumption; array_mem_dec; array_mem_dec)
  | ((with_reducible apply LS.rl_l); assumption; array_mem_dec; array_mem_dec)
  | ((with_reducible apply LS.ap_new); assumption; assumption; array_mem_dec)
  | ((with_reducible apply LS.ap_t); assumption; array_mem_dec; array_mem_dec)
  | ((with_reducible apply LS.ap_s); assumption; array_mem_dec; array_mem_dec)
  | ((with_reducible apply LS.ap_f); assumption; array_mem_dec; array_mem_dec; array_mem_dec)
  | ((with_reducible apply LS.ap_l); assumption; array_mem_dec; array_mem_dec; array_mem_dec)
  | (with_reducible apply LS.ni_nil)
  | ((with_reducible apply LS.ni_cons); array_mem_dec; array_mem_dec)
  | (with_reducible apply LS.trk_nil)
  | ((with_reducible apply LS.trk_cons); array_mem_dec; array_mem_dec)
  | (with_reducible apply LS.al_nil)
  | ((with_reducible apply LS.al_cons); array_mem_dec; array_mem_dec)
  | (with_reducible apply LS.mem_hd)
  | ((with_reducible apply LS.mem_tl); array_mem_dec)
  | ((with_reducible apply LS.fl_refl); array_mem_dec)
  | ((with_reducible apply LS.fl_l); assumption; array_mem_dec)
  | ((with_reducible apply LS.fl_lm); assumption; array_mem_dec; array_mem_dec)
  | (with_reducible apply LS.sub_nil)
  | ((with_reducible apply LS.sub_cons); array_mem_dec; array_mem_dec)
  | ((with_reducible apply LS.fl_s); assumption; array_mem_dec)
  | ((with_reducible apply LS.fl_m); assumption; array_mem_dec; array_mem_dec; array_mem_dec)
  | ((with_reducible apply LS.fl_n); assumption; array_mem_dec; array_mem_dec; array_mem_dec)
  | ((with_reducible apply LS.rt_refl); array_mem_dec)
  | ((with_reducible apply LS.rt_t); assumption; array_mem_dec)
  | ((with_reducible apply LS.rt_s); assumption; array_mem_dec)
  | ((with_reducible apply LS.rt_f); assumption; array_mem_dec; array_mem_dec; array_mem_dec)
  | ((with_reducible apply LS.sz); (first | decide | (simp only [List.length_append, List.length_map, List.length_cons, List.length_nil, List.length_replicate]; omega)))
  | ((with_reducible apply LS.szl); (first | decide | (simp only [List.length_append, List.length_map, List.length_cons, List.length_nil, List.length_replicate]; omega))))
local macro_rules | `(tactic| array_get_dec) => `(tactic| first
  | ((with_reducible apply LS.var); exact rfl)
  | (with_reducible apply LS.con)
  | (with_reducible apply LS.op)
  | (with_reducible apply LS.ri0)
  | (with_reducible apply LS.tseq)
  | (with_reducible apply LS.tasg)
  | (with_reducible apply LS.gname)
  | (with_reducible apply LS.tcons)
  | (with_reducible apply LS.tnil)
  | (with_reducible apply LS.tcb)
  | (with_reducible apply LS.tcall)
  | (with_reducible apply LS.ttest)
  | (with_reducible apply LS.k_b)
  | (with_reducible apply LS.tb)
  | (with_reducible apply LS.tifs)
  | (with_reducible apply LS.ift)
  | (with_reducible apply LS.iff_)
  | (with_reducible apply LS.ifnt)
  | (with_reducible apply LS.ifnf)
  | (with_reducible apply LS.tnext)
  | (with_reducible apply LS.tdrop)
  | (with_reducible apply LS.tret)
  | (with_reducible apply LS.tretn)
  | (with_reducible apply LS.un)
  | (with_reducible apply LS.ru)
  | (with_reducible apply LS.tyes)
  | (with_reducible apply LS.tand)
  | (with_reducible apply LS.tor)
  | (with_reducible apply LS.tnot)
  | (with_reducible apply LS.tif)
  | (with_reducible apply LS.tandv)
  | (with_reducible apply LS.k_av)
  | (with_reducible apply LS.torv)
  | (with_reducible apply LS.k_ov)
  | (with_reducible apply LS.tnotv)
  | (with_reducible apply LS.k_nv)
  | (with_reducible apply LS.tchain)
  | (with_reducible apply LS.k_ch)
  | (with_reducible apply LS.req_i)
  | (with_reducible apply LS.rne_i)
  | (with_reducible apply LS.req_s)
  | (with_reducible apply LS.rne_s)
  | (with_reducible apply LS.req_b)
  | (with_reducible apply LS.rne_b)
  | ((with_reducible apply LS.rin_i); array_mem_dec)
  | ((with_reducible apply LS.rni_i); array_mem_dec)
  | ((with_reducible apply LS.rlen_li); array_mem_dec)
  | ((with_reducible apply LS.rlen_ls); array_mem_dec)
  | ((with_reducible apply LS.rlen_l); array_mem_dec)
  | ((with_reducible apply LS.rlen_Ei); array_mem_dec)
  | ((with_reducible apply LS.rlen_E); array_mem_dec)
  | ((with_reducible apply LS.rlen_t); array_mem_dec)
  | ((with_reducible apply LS.rixl); array_mem_dec; exact rfl)
  | ((with_reducible apply LS.rixt); array_mem_dec; exact rfl)
  | (with_reducible apply LS.isi_int_int)
  | (with_reducible apply LS.isi_int_bool)
  | (with_reducible apply LS.isi_int_str)
  | (with_reducible apply LS.isi_str_int)
  | (with_reducible apply LS.isi_str_bool)
  | (with_reducible apply LS.isi_str_str)
  | (with_reducible apply LS.isi_bool_int)
  | (with_reducible apply LS.isi_bool_bool)
  | (with_reducible apply LS.isi_bool_str)
  | (with_reducible apply LS.isi_non_int)
  | (with_reducible apply LS.isi_non_bool)
  | (with_reducible apply LS.isi_non_str)
  | ((with_reducible apply LS.isi_list_int); array_mem_dec)
  | ((with_reducible apply LS.isi_list_bool); array_mem_dec)
  | ((with_reducible apply LS.isi_list_str); array_mem_dec)
  | ((with_reducible apply LS.isi_list_list); array_mem_dec)
  | ((with_reducible apply LS.isi_list_tuple); array_mem_dec)
  | ((with_reducible apply LS.isi_tuple_int); array_mem_dec)
  | ((with_reducible apply LS.isi_tuple_bool); array_mem_dec)
  | ((with_reducible apply LS.isi_tuple_str); array_mem_dec)
  | ((with_reducible apply LS.isi_tuple_list); array_mem_dec)
  | ((with_reducible apply LS.isi_tuple_tuple); array_mem_dec)
  | ((with_reducible apply LS.isiT_i); array_mem_dec)
  | ((with_reducible apply LS.isiT_s); array_mem_dec)
  | ((with_reducible apply LS.isiT_E); array_mem_dec; array_mem_dec)
  | (with_reducible apply LS.tfld)
  | ((with_reducible apply LS.k_fl); array_mem_dec; assumption; assumption; exact rfl)
  | (with_reducible apply LS.tmeth)
  | ((with_reducible apply LS.k_me); array_mem_dec; exact rfl)
  | (with_reducible apply LS.tmake)
  | (with_reducible apply LS.tsfld)
  | (with_reducible apply LS.tprop)
  | ((with_reducible apply LS.k_pr); array_mem_dec)
  | ((with_reducible apply LS.rlen_own); array_mem_dec)
  | (with_reducible apply LS.rabs)
  | (with_reducible apply LS.rmin2)
  | (with_reducible apply LS.rmax2)
  | (with_reducible apply LS.tsl)
  | (with_reducible apply LS.tthen)
  | (with_reducible apply LS.tstep)
  | (with_reducible apply LS.tnop)
  | (with_reducible apply LS.tpart)
  | (with_reducible apply LS.k_part)
  | (with_reducible apply LS.ttup)
  | (with_reducible apply LS.tlst)
  | (with_reducible apply LS.tbm)
  | (with_reducible apply LS.tbm0)
  | ((with_reducible apply LS.ty_l); array_mem_dec)
  | (with_reducible apply LS.tpar)
  | (with_reducible apply LS.tfor)
  | (with_reducible apply LS.tlc)
  | (with_reducible apply LS.ilist)
  | ((with_reducible apply LS.k_il); array_mem_dec)
  | (with_reducible apply LS.itup)
  | ((with_reducible apply LS.k_it); array_mem_dec)
  | (with_reducible apply LS.istr)
  | (with_reducible apply LS.k_is)
  | (with_reducible apply LS.irng1)
  | ((with_reducible apply LS.k_r1n); omega)
  | ((with_reducible apply LS.k_r1); (first | omega | decide); (first | omega | decide))
  | (with_reducible apply LS.irng2)
  | ((with_reducible apply LS.k_r2); (first | omega | decide); (first | omega | decide); (first | omega | decide); (first | omega | decide))
  | (with_reducible apply LS.ienum)
  | ((with_reducible apply LS.k_en); array_mem_dec)
  | (with_reducible apply LS.izip)
  | ((with_reducible apply LS.k_zip); array_mem_dec; array_mem_dec)
  | (with_reducible apply LS.tlstrg)
  | (with_reducible apply LS.trg1)
  | (with_reducible apply LS.k_g1)
  | (with_reducible apply LS.risn_i)
  | (with_reducible apply LS.risn_s)
  | (with_reducible apply LS.risn_n)
  | (with_reducible apply LS.rnotn_i)
  | (with_reducible apply LS.rnotn_n)
  | (with_reducible apply LS.rint_b)
  | (with_reducible apply LS.rint_i)
  | (with_reducible apply LS.tm0)
  | (with_reducible apply LS.tm1)
  | (with_reducible apply LS.is_str)
  | (with_reducible apply LS.ex_s0)
  | (with_reducible apply LS.ex_int_b)
  | (with_reducible apply LS.k_par)
  | (with_reducible apply LS.tpar3)
  | (with_reducible apply LS.k_par3)
  | ((with_reducible apply LS.taug); exact rfl)
  | (with_reducible apply LS.ipi)
  | ((with_reducible apply LS.gtup); array_mem_dec; exact rfl)
  | ((with_reducible apply LS.gunl); array_mem_dec; exact rfl)
  | (with_reducible apply LS.gnil)
  | (with_reducible apply LS.gcons)
  | (with_reducible apply LS.gsub)
  | ((with_reducible apply LS.ri); first | omega | decide | assumption | exact ⟨by decide, by decide, by decide⟩ | exact .inl ⟨by decide, by decide⟩ | exact .inr ⟨by decide, by decide⟩ | exact .inl ⟨by omega, by omega⟩ | exact .inr ⟨by omega, by omega⟩)
  | (with_reducible apply LS.ex_ss)
  | (with_reducible apply LS.ex_s1)
  | (with_reducible apply LS.ex_i1)
  | (with_reducible apply LS.and_rfl)
  | (with_reducible apply LS.and_tr)
  | (with_reducible apply LS.is_non))
local macro_rules | `(tactic| array_mem_dec) => `(tactic| first
  | ((with_reducible apply LP.lv_s); assumption; array_mem_dec)
  | ((with_reducible apply LP.lv_l); assumption; array_mem_dec; array_mem_dec; array_mem_dec)
  | ((with_reducible apply LP.lv_f); assumption; array_mem_dec; array_mem_dec; array_mem_dec)
  | ((with_reducible apply LP.lv_t); assumption; array_mem_dec; array_mem_dec; array_mem_dec)
  | ((with_reducible apply LP.ops_s); assumption; array_mem_dec)
  | ((with_reducible apply LP.md_s); assumption; array_mem_dec)
  | ((with_reducible apply LP.md_l); assumption; array_mem_dec; array_mem_dec; array_mem_dec)
  | ((with_reducible apply LP.md_f); assumption; array_mem_dec; array_mem_dec; array_mem_dec)
  | ((with_reducible apply LP.md_t); assumption; array_mem_dec; array_mem_dec; array_mem_dec)
  | ((with_reducible apply LP.al_s); assumption; array_mem_dec; array_mem_dec)
  | ((with_reducible apply LP.al_t); assumption; array_mem_dec; array_mem_dec)
  | ((with_reducible apply LP.al_l); assumption; array_mem_dec; array_mem_dec; array_mem_dec)
  | ((with_reducible apply LP.al_f); assumption; array_mem_dec; array_mem_dec; array_mem_dec)
  | ((with_reducible apply LP.Lv.lists); array_mem_dec)
  | ((with_reducible apply LP.Lv.trk); array_mem_dec)
  | ((with_reducible apply LP.Mdl.trk); array_mem_dec)
  | ((with_reducible apply LP.al_no); assumption; array_mem_dec))
local macro_rules | `(tactic| array_get_dec) => `(tactic| first
  | (with_reducible apply LS.tcalle)
  | (with_reducible apply LS.tcalls))
local macro_rules | `(tactic| array_get_dec) => `(tactic| first
  | (with_reducible apply LS.tmethv)
  | (with_reducible apply LS.tmakev)
  | (with_reducible apply LS.rnotn_rr)
  | (with_reducible apply LS.risn_rr)
  | ((with_reducible apply LS.k_mev); array_mem_dec; exact rfl))
local macro_rules | `(tactic| array_get_dec) => `(tactic| first
  | (with_reducible apply LS.trg2)
  | (with_reducible apply LS.k_g2))

section
variable {P : Program} {w : World} {K : PySem.W.Frag} {mg : Str → Option Value} {base : Heap}

/-- no size -/
def NoSz (K : PySem.W.Frag) (H : Hp) (x : V) : Prop := (∃ i : Int, x = .int i ∧ ¬ (1 ≤ i ∧ i ≤ 200)) ∨ TyX K H x (.type "bool") ∨ ∃ t : String, kitB t "int" = some false ∧ TyX K H x (.type t)
theorem nosz_s {K : PySem.W.Frag} {H H' : Hp} (s : Same H H') {x : V} (h : NoSz K H x) : NoSz K H' x := by
  rcases h with ⟨i, e, h⟩ | h | ⟨t, h1, h2⟩
  · exact .inl ⟨i, e, h⟩
  · exact .inr (.inl (tyx_s s h))
  · exact .inr (.inr ⟨t, h1, tyx_s s h2⟩)
theorem okV_is_whole (e : Env w K mg) : FnOk P w K mg base CX0 1 e.a_is_whole e.d_is_whole ["value"] (sp_is_wholeV K) := by
  refine Fun.ok e.f_is_whole sc_is_whole (fun vs H Q E h => ?_) (fun cdv A outer s H vs Q E hr h => ?_)
  · obtain ⟨x, b, rfl, _⟩ := h; rfl
  · obtain ⟨x, b, rfl, h, k⟩ := h
    refine ⟨_, (pss_one (ps_ret (pe_and (pe_callB call_isi (by rfl) e.n_isinstance (by decide +kernel) (pa_cons (pv 0) (pa_cons (pe_bltn (v := V.ty "int") (by rfl) e.n_int (by decide +kernel) rfl) pa_nil))) (pe_one (pe_not (pe_callB call_isi (by rfl) e.n_isinstance (by decide +kernel) (pa_cons (pv 0) (pa_cons (pe_bltn (v := V.ty "bool") (by rfl) e.n_bool (by decide +kernel) rfl) pa_nil)))))))), ?_⟩
    repeat array_get_dec
    rcases h with ⟨rfl, i, rfl⟩ | ⟨rfl, h | ⟨t, h1, h2⟩⟩
    · repeat array_get_dec
      exact k
    · refine LS.isi (a := "bool") (b := true) h (by decide +kernel) ?_
      repeat array_get_dec
      refine LS.isi (a := "bool") (b := true) h (by decide +kernel) ?_
      repeat array_get_dec
      exact k
    · refine LS.isi (b := false) h2 h1 ?_
      repeat array_get_dec
      exact k
def spE_check_size (K : PySem.W.Frag) (C : Addr) : Sp := fun vs H Q E => ∃ x, vs = [x] ∧ NoSz K H x ∧ E (.ref C) none H
theorem okE_check_size (e : Env w K mg) : FnOk P w K mg base (L2.CX P w) 2 e.a_check_size e.d_check_size ["size"] (spE_check_size K e.C_InvalidSize) := by
  refine Fun.okX e.f_check_size sc_check_size (fun vs H Q E h => ?_) (fun cdv A outer s H vs Q E hr h => ?_)
  · obtain ⟨x, rfl, _⟩ := h; rfl
  · obtain ⟨x, rfl, h, k⟩ := h
    refine ⟨_, (pss_one (ps_if (pt_not (PW.pt (pw_and (pt_val (pe_call ((okV_is_whole e).mono (by decide)) hr rfl e.g_is_whole e.f_is_whole.kp e.b_is_whole .nil pass0 (pa_cons (pv 0) pa_nil))) (pw_and1 (pt_chain op_le op_le pe_int (pv 0) (pe_glob (v := V.int 200) rfl e.g_MOST_SIZE ⟨_, rfl⟩))))))
        (pss_one (ps_raise rfl (takes_of rfl rfl rfl rfl) (pmk_own PySem.F.excBase_ValueError e.e_InvalidSize.x e.g_InvalidSize e.e_InvalidSize.k e.e_InvalidSize.r rfl)))
        pss_nil)), ?_⟩
    repeat array_get_dec
    rcases h with ⟨i, rfl, hi⟩ | h
    · refine ⟨_, true, rfl, .inl ⟨rfl, i, rfl⟩, ?_⟩
      repeat array_get_dec
      by_cases h1 : 1 ≤ i
      · rw [decide_eq_true h1]
        repeat array_get_dec
        rw [decide_eq_false (show ¬ i ≤ 200 from fun z => hi ⟨h1, z⟩)]
        repeat array_get_dec
        exact k
      · rw [decide_eq_false h1]
        repeat array_get_dec
        exact k
    · refine ⟨_, false, rfl, .inr ⟨rfl, h⟩, ?_⟩
      repeat array_get_dec
      exact k
end
end LP

namespace LP
open PySem L2 LT LG LQ LH LC LX LR
local macro_rules | `(tactic| array_mem_dec) => `(tactic| first
  | assumption
  | ((with_reducible apply LS.hp_s); assumption; array_mem_dec)
  | ((with_reducible apply LS.hp_f); assumption; array_mem_dec; array_mem_dec)
  | ((with_reducible apply LS.hp_t); assumption; array_mem_dec; array_mem_dec)
  | ((with_reducible apply LS.hp_l); assumption; array_mem_dec; array_mem_dec)
  | ((with_reducible apply LS.sq_o); array_mem_dec)
  | ((with_reducible apply LS.sq_s); assumption; array_mem_dec)
  | ((with_reducible apply LS.sq_f); assumption; array_mem_dec; array_mem_dec)
  | ((with_reducible apply LS.sq_t); assumption; array_mem_dec; array_mem_dec)
  | ((with_reducible apply LS.sq_l); assumption; array_mem_dec; array_mem_dec)
  | ((with_reducible apply LS.tu_o); array_mem_dec)
  | ((with_reducible apply LS.tu_s); assumption; array_mem_dec)
  | ((with_reducible apply LS.tu_f); assumption; array_mem_dec; array_mem_dec)
  | ((with_reducible apply LS.tu_t); assumption; array_mem_dec; array_mem_dec)
  | ((with_reducible apply LS.tu_l); assumption; array_mem_dec; array_mem_dec)
  | ((with_reducible apply LS.se_l); array_mem_dec)
  | ((with_reducible apply LS.se_t); array_mem_dec)
  | ((with_reducible apply LS.se_s); assumption; array_mem_dec)
  | ((with_reducible apply LS.se_f); assumption; array_mem_dec; array_mem_dec)
  | ((with_reducible apply LS.se_tt); assumption; array_mem_dec; array_mem_dec)
  | ((with_reducible exact Same.refl _))
  | ((with_reducible apply LS.sm_s); assumption; array_mem_dec)
  | ((with_reducible apply LS.sm_f); assumption; array_mem_dec; array_mem_dec)
  | ((with_reducible exact Fr.refl _ _))
  | ((with_reducible apply LS.fr_b); assumption; array_mem_dec)
  | ((with_reducible apply LS.fr_s); assumption; array_mem_dec)
  | ((with_reducible apply LS.fr_n); assumption; array_mem_dec; array_mem_dec)
  | ((with_reducible apply LS.fr_t); assumption; array_mem_dec)
  | ((with_reducible apply LS.no_s); assumption; array_mem_dec)
  | ((with_reducible apply LS.no_f); assumption; array_mem_dec; array_mem_dec)
  | ((with_reducible apply LS.no_t); assumption; array_mem_dec)
  | ((with_reducible apply LS.no_l); assumption; assumption)
  | ((with_reducible apply Ne.symm); assumption)
  | ((with_reducible apply LS.ne_a); assumption; array_mem_dec)
  | ((with_reducible apply LS.ne_b); assumption; array_mem_dec)
  | ((with_reducible apply LS.ne_ap); assumption)
  | ((with_reducible apply LS.ne_il); assumption; array_mem_dec)
  | ((with_reducible apply LS.ne_li); assumption; array_mem_dec)
  | ((with_reducible apply LS.ne_lt); assumption; assumption)
  | ((with_reducible apply LS.ne_tl); assumption; assumption)
  | ((with_reducible apply LS.ne_rl); assumption; array_mem_dec)
  | ((with_reducible apply LS.rl_t); assumption)
  | ((with_reducible apply LS.rl_s); assumption; array_mem_dec)
  | ((with_reducible apply LS.rl_f); assumption; array_mem_dec; array_mem_dec)
  | ((with_reducible apply LS.rl_l); assumption; array_mem_dec; array_mem_dec)
  | ((with_reducible apply LS.ap_new); assumption; assumption; array_mem_dec)
  | ((with_reducible apply LS.ap_t); assumption; array_mem_dec; array_mem_dec)
  | ((with_reducible apply LS.ap_s); assumption; array_mem_dec; array_mem_dec)
  | ((with_reducible apply LS.ap_f); assumption; array_mem_dec; array_mem_dec; array_mem_dec)
  | ((with_reducible apply LS.ap_l); assumption; array_mem_dec; array_mem_dec; array_mem_dec)
  | (with_reducible apply LS.ni_nil)
  | ((with_reducible apply LS.ni_cons); array_mem_dec; array_mem_dec)
  | (with_reducible apply LS.trk_nil)
  | ((with_reducible apply LS.trk_cons); array_mem_dec; array_mem_dec)
  | (with_reducible apply LS.al_nil)
  | ((with_reducible apply LS.al_cons); array_mem_dec; array_mem_dec)
  | (with_reducible apply LS.mem_hd)
  | ((with_reducible apply LS.mem_tl); array_mem_dec)
  | ((with_reducible apply LS.fl_refl); array_mem_dec)
  | ((with_reducible apply LS.fl_l); assumption; array_mem_dec)
  | ((with_reducible apply LS.fl_lm); assumption; array_mem_dec; array_mem_dec)
  | (with_reducible apply LS.sub_nil)
  | ((with_reducible apply LS.sub_cons); array_mem_dec; array_mem_dec)
  | ((with_reducible apply LS.fl_s); assumption; array_mem_dec)
  | ((with_reducible apply LS.fl_m); assumption; array_mem_dec; array_mem_dec; array_mem_dec)
  | ((with_reducible apply LS.fl_n); assumption; array_mem_dec; array_mem_dec; array_mem_dec)
  | ((with_reducible apply LS.rt_refl); array_mem_dec)
  | ((with_reducible apply LS.rt_t); assumption; array_mem_dec)
  | ((with_reducible apply LS.rt_s); assumption; array_mem_dec)
  | ((with_reducible apply LS.rt_f); assumption; array_mem_dec; array_mem_dec; array_mem_dec)
  | ((with_reducible apply LS.sz); (first | decide | (simp only [List.length_append, List.length_map, List.length_cons, List.length_nil, List.length_replicate]; omega)))
  | ((with_reducible apply LS.szl); (first | decide | (simp only [List.length_append, List.length_map, List.length_cons, List.length_nil, List.length_replicate]; omega))))
local macro_rules | `(tactic| array_get_dec) => `(tactic| first
  | ((with_reducible apply LS.var); exact rfl)
  | (with_reducible apply LS.con)
  | (with_reducible apply LS.op)
  | (with_reducible apply LS.ri0)
  | (with_reducible apply LS.tseq)
  | (with_reducible apply LS.tasg)
  | (with_reducible apply LS.gname)
  | (with_reducible apply LS.tcons)
  | (with_reducible apply LS.tnil)
  | (with_reducible apply LS.tcb)
  | (with_reducible apply LS.tcall)
  | (with_reducible apply LS.ttest)
  | (with_reducible apply LS.k_b)
  | (with_reducible apply LS.tb)
  | (with_reducible apply LS.tifs)
  | (with_reducible apply LS.ift)
  | (with_reducible apply LS.iff_)
  | (with_reducible apply LS.ifnt)
  | (with_reducible apply LS.ifnf)
  | (with_reducible apply LS.tnext)
  | (with_reducible apply LS.tdrop)
  | (with_reducible apply LS.tret)
  | (with_reducible apply LS.tretn)
  | (with_reducible apply LS.un)
  | (with_reducible apply LS.ru)
  | (with_reducible apply LS.tyes)
  | (with_reducible apply LS.tand)
  | (with_reducible apply LS.tor)
  | (with_reducible apply LS.tnot)
  | (with_reducible apply LS.tif)
  | (with_reducible apply LS.tandv)
  | (with_reducible apply LS.k_av)
  | (with_reducible apply LS.torv)
  | (with_reducible apply LS.k_ov)
  | (with_reducible apply LS.tnotv)
  | (with_reducible apply LS.k_nv)
  | (with_reducible apply LS.tchain)
  | (with_reducible apply LS.k_ch)
  | (with_reducible apply LS.req_i)
  | (with_reducible apply LS.rne_i)
  | (with_reducible apply LS.req_s)
  | (with_reducible apply LS.rne_s)
  | (with_reducible apply LS.req_b)
  | (with_reducible apply LS.rne_b)
  | ((with_reducible apply LS.rin_i); array_mem_dec)
  | ((with_reducible apply LS.rni_i); array_mem_dec)
  | ((with_reducible apply LS.rlen_li); array_mem_dec)
  | ((with_reducible apply LS.rlen_ls); array_mem_dec)
  | ((with_reducible apply LS.rlen_l); array_mem_dec)
  | ((with_reducible apply LS.rlen_Ei); array_mem_dec)
  | ((with_reducible apply LS.rlen_E); array_mem_dec)
  | ((with_reducible apply LS.rlen_t); array_mem_dec)
  | ((with_reducible apply LS.rixl); array_mem_dec; exact rfl)
  | ((with_reducible apply LS.rixt); array_mem_dec; exact rfl)
  | (with_reducible apply LS.isi_int_int)
  | (with_reducible apply LS.isi_int_bool)
  | (with_reducible apply LS.isi_int_str)
  | (with_reducible apply LS.isi_str_int)
  | (with_reducible apply LS.isi_str_bool)
  | (with_reducible apply LS.isi_str_str)
  | (with_reducible apply LS.isi_bool_int)
  | (with_reducible apply LS.isi_bool_bool)
  | (with_reducible apply LS.isi_bool_str)
  | (with_reducible apply LS.isi_non_int)
  | (with_reducible apply LS.isi_non_bool)
  | (with_reducible apply LS.isi_non_str)
  | ((with_reducible apply LS.isi_list_int); array_mem_dec)
  | ((with_reducible apply LS.isi_list_bool); array_mem_dec)
  | ((with_reducible apply LS.isi_list_str); array_mem_dec)
  | ((with_reducible apply LS.isi_list_list); array_mem_dec)
  | ((with_reducible apply LS.isi_list_tuple); array_mem_dec)
  | ((with_reducible apply LS.isi_tuple_int); array_mem_dec)
  | ((with_reducible apply LS.isi_tuple_bool); array_mem_dec)
  | ((with_reducible apply LS.isi_tuple_str); array_mem_dec)
  | ((with_reducible apply LS.isi_tuple_list); array_mem_dec)
  | ((with_reducible apply LS.isi_tuple_tuple); array_mem_dec)
  | ((with_reducible apply LS.isiT_i); array_mem_dec)
  | ((with_reducible apply LS.isiT_s); array_mem_dec)
  | ((with_reducible apply LS.isiT_E); array_mem_dec; array_mem_dec)
  | (with_reducible apply LS.tfld)
  | ((with_reducible apply LS.k_fl); array_mem_dec; assumption; assumption; exact rfl)
  | (with_reducible apply LS.tmeth)
  | ((with_reducible apply LS.k_me); array_mem_dec; exact rfl)
  | (with_reducible apply LS.tmake)
  | (with_reducible apply LS.tsfld)
  | (with_reducible apply LS.tprop)
  | ((with_reducible apply LS.k_pr); array_mem_dec)
  | ((with_reducible apply LS.rlen_own); array_mem_dec)
  | (with_reducible apply LS.rabs)
  | (with_reducible apply LS.rmin2)
  | (with_reducible apply LS.rmax2)
  | (with_reducible apply LS.tsl)
  | (with_reducible apply LS.tthen)
  | (with_reducible apply LS.tstep)
  | (with_reducible apply LS.tnop)
  | (with_reducible apply LS.tpart)
  | (with_reducible apply LS.k_part)
  | (with_reducible apply LS.ttup)
  | (with_reducible apply LS.tlst)
  | (with_reducible apply LS.tbm)
  | (with_reducible apply LS.tbm0)
  | ((with_reducible apply LS.ty_l); array_mem_dec)
  | (with_reducible apply LS.tpar)
  | (with_reducible apply LS.tfor)
  | (with_reducible apply LS.tlc)
  | (with_reducible apply LS.ilist)
  | ((with_reducible apply LS.k_il); array_mem_dec)
  | (with_reducible apply LS.itup)
  | ((with_reducible apply LS.k_it); array_mem_dec)
  | (with_reducible apply LS.istr)
  | (with_reducible apply LS.k_is)
  | (with_reducible apply LS.irng1)
  | ((with_reducible apply LS.k_r1n); omega)
  | ((with_reducible apply LS.k_r1); (first | omega | decide); (first | omega | decide))
  | (with_reducible apply LS.irng2)
  | ((with_reducible apply LS.k_r2); (first | omega | decide); (first | omega | decide); (first | omega | decide); (first | omega | decide))
  | (with_reducible apply LS.ienum)
  | ((with_reducible apply LS.k_en); array_mem_dec)
  | (with_reducible apply LS.izip)
  | ((with_reducible apply LS.k_zip); array_mem_dec; array_mem_dec)
  | (with_reducible apply LS.tlstrg)
  | (with_reducible apply LS.trg1)
  | (with_reducible apply LS.k_g1)
  | (with_reducible apply LS.risn_i)
  | (with_reducible apply LS.risn_s)
  | (with_reducible apply LS.risn_n)
  | (with_reducible apply LS.rnotn_i)
  | (with_reducible apply LS.rnotn_n)
  | (with_reducible apply LS.rint_b)
  | (with_reducible apply LS.rint_i)
  | (with_reducible apply LS.tm0)
  | (with_reducible apply LS.tm1)
  | (with_reducible apply LS.is_str)
  | (with_reducible apply LS.ex_s0)
  | (with_reducible apply LS.ex_int_b)
  | (with_reducible apply LS.k_par)
  | (with_reducible apply LS.tpar3)
  | (with_reducible apply LS.k_par3)
  | ((with_reducible apply LS.taug); exact rfl)
  | (with_reducible apply LS.ipi)
  | ((with_reducible apply LS.gtup); array_mem_dec; exact rfl)
  | ((with_reducible apply LS.gunl); array_mem_dec; exact rfl)
  | (with_reducible apply LS.gnil)
  | (with_reducible apply LS.gcons)
  | (with_reducible apply LS.gsub)
  | ((with_reducible apply LS.ri); first | omega | decide | assumption | exact ⟨by decide, by decide, by decide⟩ | exact .inl ⟨by decide, by decide⟩ | exact .inr ⟨by decide, by decide⟩ | exact .inl ⟨by omega, by omega⟩ | exact .inr ⟨by omega, by omega⟩)
  | (with_reducible apply LS.ex_ss)
  | (with_reducible apply LS.ex_s1)
  | (with_reducible apply LS.ex_i1)
  | (with_reducible apply LS.and_rfl)
  | (with_reducible apply LS.and_tr)
  | (with_reducible apply LS.is_non))
local macro_rules | `(tactic| array_mem_dec) => `(tactic| first
  | ((with_reducible apply LP.lv_s); assumption; array_mem_dec)
  | ((with_reducible apply LP.lv_l); assumption; array_mem_dec; array_mem_dec; array_mem_dec)
  | ((with_reducible apply LP.lv_f); assumption; array_mem_dec; array_mem_dec; array_mem_dec)
  | ((with_reducible apply LP.lv_t); assumption; array_mem_dec; array_mem_dec; array_mem_dec)
  | ((with_reducible apply LP.ops_s); assumption; array_mem_dec)
  | ((with_reducible apply LP.md_s); assumption; array_mem_dec)
  | ((with_reducible apply LP.md_l); assumption; array_mem_dec; array_mem_dec; array_mem_dec)
  | ((with_reducible apply LP.md_f); assumption; array_mem_dec; array_mem_dec; array_mem_dec)
  | ((with_reducible apply LP.md_t); assumption; array_mem_dec; array_mem_dec; array_mem_dec)
  | ((with_reducible apply LP.al_s); assumption; array_mem_dec; array_mem_dec)
  | ((with_reducible apply LP.al_t); assumption; array_mem_dec; array_mem_dec)
  | ((with_reducible apply LP.al_l); assumption; array_mem_dec; array_mem_dec; array_mem_dec)
  | ((with_reducible apply LP.al_f); assumption; array_mem_dec; array_mem_dec; array_mem_dec)
  | ((with_reducible apply LP.Lv.lists); array_mem_dec)
  | ((with_reducible apply LP.Lv.trk); array_mem_dec)
  | ((with_reducible apply LP.Mdl.trk); array_mem_dec)
  | ((with_reducible apply LP.al_no); assumption; array_mem_dec))
local macro_rules | `(tactic| array_get_dec) => `(tactic| first
  | (with_reducible apply LS.tcalle)
  | (with_reducible apply LS.tcalls))
local macro_rules | `(tactic| array_get_dec) => `(tactic| first
  | (with_reducible apply LS.tmethv)
  | (with_reducible apply LS.tmakev)
  | (with_reducible apply LS.rnotn_rr)
  | (with_reducible apply LS.risn_rr)
  | ((with_reducible apply LS.k_mev); array_mem_dec; exact rfl))
local macro_rules | `(tactic| array_get_dec) => `(tactic| first
  | (with_reducible apply LS.trg2)
  | (with_reducible apply LS.k_g2))

section
variable {P : Program} {w : World} {K : PySem.W.Frag} {mg : Str → Option Value} {base : Heap}

theorem okx_check_size (e : Env w K mg) : FnOk P w K mg base (L2.CX P w) 2 e.a_check_size e.d_check_size ["size"] (fun vs H Q E => sp_check_size vs H Q E ∨ spE_check_size K e.C_InvalidSize vs H Q E) := LX.fn_both (LX.fn_cx (ok_check_size e)) (okE_check_size e)
def spE_init (K : PySem.W.Frag) (C : Addr) : Sp := fun vs H Q E => ∃ (p : Addr) (x : V), vs = [.ref p, x] ∧ NoSz K H x ∧ E (.ref C) none H
theorem okE_LiveShelf_init (e : Env w K mg) : FnOk P w K mg base (L2.CX P w) 3 e.a_LiveShelf_init e.d_LiveShelf_init ["self", "size"] (spE_init K e.C_InvalidSize) := by
  refine Fun.okX e.f_LiveShelf_init sc_LiveShelf_init (fun vs H Q E h => ?_) (fun cdv A outer s H vs Q E hr h => ?_)
  · obtain ⟨p, x, rfl, _⟩ := h; rfl
  · obtain ⟨p, x, rfl, h, k⟩ := h
    refine ⟨_, (pss_cons (ps_expr (pe_call ((okx_check_size e).mono (by decide)) hr rfl e.g_check_size e.f_check_size.kp e.b_check_size .nil (passes_call (takes_of rfl rfl rfl rfl) (fun _ _ _ _ h => h)) (pa_cons (pv 1) pa_nil)))
      (pss_cons (ps_fld (pv 0) (pe_make e.mk_Shelf ((ok_Shelf_init e).mono (by decide)) hr rfl e.g_Shelf e.b_Shelf_init .nil pass0 (pa_cons (pv 1) pa_nil)) rfl)
      (pss_one (ps_fld (pv 0) (pe_lst pa_nil) rfl)))), ?_⟩
    have c_Shelf := e.cl_Shelf; have a_Shelf_books := e.nA_Shelf_books; have a_Shelf_out := e.nA_Shelf_out; have c_LiveShelf := e.cl_LiveShelf; have a_LiveShelf__shelf := e.nA_LiveShelf__shelf; have a_LiveShelf__steps := e.nA_LiveShelf__steps; have c_Console := e.cl_Console; have a_Console__live := e.nA_Console__live
    repeat array_get_dec
    exact .inr ⟨x, rfl, h, k⟩
theorem okx_LiveShelf_init (e : Env w K mg) : FnOk P w K mg base (L2.CX P w) 3 e.a_LiveShelf_init e.d_LiveShelf_init ["self", "size"] (fun vs H Q E => sp_LiveShelf_init e.C_LiveShelf e.C_Shelf vs H Q E ∨ spE_init K e.C_InvalidSize vs H Q E) := LX.fn_both (LX.fn_cx (ok_LiveShelf_init e)) (okE_LiveShelf_init e)
def spE_cinit (K : PySem.W.Frag) (C Cc : Addr) : Sp := fun vs H Q E => ∃ (p dx : Addr) (x : V), vs = [.ref p, x] ∧ H p = some (.ins Cc dx []) ∧ NoSz K H x ∧ ∀ H', Same H H' → E (.ref C) none H'
theorem okE_Console_init (e : Env w K mg) : FnOk P w K mg base (L2.CX P w) 5 e.a_Console_init e.d_Console_init ["self", "size"] (spE_cinit K e.C_InvalidSize e.C_Console) := by
  refine Fun.okX e.f_Console_init sc_Console_init (fun vs H Q E h => ?_) (fun cdv A outer s H vs Q E hr h => ?_)
  · obtain ⟨p, dx, x, rfl, _⟩ := h; rfl
  · obtain ⟨p, dx, x, rfl, hp, h, k⟩ := h
    refine ⟨_, (pss_one (ps_fld (pv 0) (pe_make e.mk_LiveShelf ((okx_LiveShelf_init e).mono (by decide)) hr rfl e.g_LiveShelf e.b_LiveShelf_init .nil (passes_call (takes_of rfl rfl rfl rfl) (fun _ _ _ _ h => h)) (pa_cons (pv 1) pa_nil)) rfl)), ?_⟩
    have c_Shelf := e.cl_Shelf; have a_Shelf_books := e.nA_Shelf_books; have a_Shelf_out := e.nA_Shelf_out; have c_LiveShelf := e.cl_LiveShelf; have a_LiveShelf__shelf := e.nA_LiveShelf__shelf; have a_LiveShelf__steps := e.nA_LiveShelf__steps; have c_Console := e.cl_Console; have a_Console__live := e.nA_Console__live
    repeat array_get_dec
    refine LS.k_mk fun lx dl H4 n1 n2 s4 h4 => ?_
    exact .inr ⟨lx, x, rfl, nosz_s s4 h, k H4 s4⟩
theorem okx_Console_init (e : Env w K mg) : FnOk P w K mg base (L2.CX P w) 5 e.a_Console_init e.d_Console_init ["self", "size"] (fun vs H Q E => sp_Console_init e.C_LiveShelf e.C_Shelf e.C_Console vs H Q E ∨ spE_cinit K e.C_InvalidSize e.C_Console vs H Q E) := LX.fn_both (LX.fn_cx (ok_Console_init e)) (okE_Console_init e)
/-- an operation that is not possible -/
def spE_op (C D : Addr) (kd : Bool) (CE : Addr) : Sp := fun vs H Q E => ∃ (A : Ad) (s : Sim) (ss : List Stp) (p : Int), vs = [.ref A.lx, .int p] ∧ Lv C D H A s ss ∧ stp s (kd, p) = none ∧ E (.ref CE) none H
theorem okE_LiveShelf_take_book (e : Env w K mg) : FnOk P w K mg base (L2.CX P w) 3 e.a_LiveShelf_take_book e.d_LiveShelf_take_book ["self", "place"] (spE_op e.C_LiveShelf e.C_Shelf true e.C_InvalidPlace) := by
  refine Fun.okX e.f_LiveShelf_take_book sc_LiveShelf_take_book (fun vs H Q E h => ?_) (fun cdv A outer s H vs Q E hr h => ?_)
  · obtain ⟨A, s, ss, p, rfl, _⟩ := h; rfl
  · obtain ⟨A, s, ss, p, rfl, l, hn, k⟩ := h
    refine ⟨_, (pss_cons (ps_if (pt_not (pt_val (pe_meth (pe_fld (pv 0) rfl) e.cl_Shelf e.m_Shelf_can_take ((ok_Shelf_can_take e).mono (by decide)) hr e.b_Shelf_can_take .nil pass0 (pa_cons (pv 1) pa_nil))))
        (pss_one (ps_raise rfl (takes_of rfl rfl rfl rfl) (pmk_own PySem.F.excBase_ValueError e.e_InvalidPlace.x e.g_InvalidPlace e.e_InvalidPlace.k e.e_InvalidPlace.r rfl)))
        pss_nil)
      (pss_cons (ps_set (i := 2) sc_LiveShelf_take_book.nd rfl (by first | exact Or.inl rfl | exact Or.inr rfl) (pe_callB LS.call_len (by rfl) e.n_len PySem.boot_len (pa_cons (pe_fld (pe_fld (pv 0) rfl) rfl) pa_nil)))
      (pss_cons (ps_expr (pe_bm PySem.F.plainAttrs_list PySem.F.slot_list_append PySem.F.type_list_append mt_append (pe_fld (pv 0) rfl) (pa_cons (pe_tup (pa_cons (pe_tup (pa_cons pe_str (pa_cons (pv 1) pa_nil))) (pa_cons (pv 1) (pa_cons (pv 2) pa_nil)))) pa_nil)))
      (pss_one (ps_ret (pe_meth (pe_fld (pv 0) rfl) e.cl_Shelf e.m_Shelf_take_from ((ok_Shelf_take_from e).mono (by decide)) hr e.b_Shelf_take_from .nil pass0 (pa_cons (pv 1) pa_nil))))))), ?_⟩
    have c_Shelf := e.cl_Shelf; have a_Shelf_books := e.nA_Shelf_books; have a_Shelf_out := e.nA_Shelf_out; have c_LiveShelf := e.cl_LiveShelf; have a_LiveShelf__shelf := e.nA_LiveShelf__shelf; have a_LiveShelf__steps := e.nA_LiveShelf__steps; have c_Console := e.cl_Console; have a_Console__live := e.nA_Console__live
    have ho := l.ob
    have hs := l.sf.ob
    repeat array_get_dec
    refine ⟨A.sh, A.ds, A.bl, A.ol, s, p, rfl, l.sf, ?_⟩
    rw [hn, show (none : Option Sim).isSome = false from rfl]
    repeat array_get_dec
    exact k
theorem okE_LiveShelf_return_book (e : Env w K mg) : FnOk P w K mg base (L2.CX P w) 3 e.a_LiveShelf_return_book e.d_LiveShelf_return_book ["self", "book"] (spE_op e.C_LiveShelf e.C_Shelf false e.C_InvalidBook) := by
  refine Fun.okX e.f_LiveShelf_return_book sc_LiveShelf_return_book (fun vs H Q E h => ?_) (fun cdv A outer s H vs Q E hr h => ?_)
  · obtain ⟨A, s, ss, p, rfl, _⟩ := h; rfl
  · obtain ⟨A, s, ss, p, rfl, l, hn, k⟩ := h
    refine ⟨_, (pss_cons (ps_if (pt_not (pt_val (pe_meth (pe_fld (pv 0) rfl) e.cl_Shelf e.m_Shelf_can_return ((ok_Shelf_can_return e).mono (by decide)) hr e.b_Shelf_can_return .nil pass0 (pa_cons (pv 1) pa_nil))))
        (pss_one (ps_raise rfl (takes_of rfl rfl rfl rfl) (pmk_own PySem.F.excBase_ValueError e.e_InvalidBook.x e.g_InvalidBook e.e_InvalidBook.k e.e_InvalidBook.r rfl)))
        pss_nil)
      (pss_cons (ps_set (i := 2) sc_LiveShelf_return_book.nd rfl (by first | exact Or.inl rfl | exact Or.inr rfl) (pe_bm PySem.F.plainAttrs_list PySem.F.slot_list_index PySem.F.type_list_index mt_index (pe_fld (pe_fld (pv 0) rfl) rfl) (pa_cons (pv 1) pa_nil)))
      (pss_cons (ps_set (i := 3) sc_LiveShelf_return_book.nd rfl (by first | exact Or.inl rfl | exact Or.inr rfl) (pe_meth (pe_fld (pv 0) rfl) e.cl_Shelf e.m_Shelf_put_back ((ok_Shelf_put_back e).mono (by decide)) hr e.b_Shelf_put_back .nil pass0 (pa_cons (pv 1) pa_nil)))
      (pss_cons (ps_expr (pe_bm PySem.F.plainAttrs_list PySem.F.slot_list_append PySem.F.type_list_append mt_append (pe_fld (pv 0) rfl) (pa_cons (pe_tup (pa_cons (pe_tup (pa_cons pe_str (pa_cons (pv 1) pa_nil))) (pa_cons (pv 3) (pa_cons (pv 2) pa_nil)))) pa_nil)))
      (pss_one (ps_ret (pv 3))))))), ?_⟩
    have c_Shelf := e.cl_Shelf; have a_Shelf_books := e.nA_Shelf_books; have a_Shelf_out := e.nA_Shelf_out; have c_LiveShelf := e.cl_LiveShelf; have a_LiveShelf__shelf := e.nA_LiveShelf__shelf; have a_LiveShelf__steps := e.nA_LiveShelf__steps; have c_Console := e.cl_Console; have a_Console__live := e.nA_Console__live
    have ho := l.ob
    have hs := l.sf.ob
    repeat array_get_dec
    refine ⟨A.sh, A.ds, A.bl, A.ol, s, p, rfl, l.sf, ?_⟩
    rw [hn, show (none : Option Sim).isSome = false from rfl]
    repeat array_get_dec
    exact k
theorem okx_LiveShelf_take_book (e : Env w K mg) : FnOk P w K mg base (L2.CX P w) 3 e.a_LiveShelf_take_book e.d_LiveShelf_take_book ["self", "place"] (spE_op e.C_LiveShelf e.C_Shelf true e.C_InvalidPlace) := okE_LiveShelf_take_book e
theorem okx_LiveShelf_return_book (e : Env w K mg) : FnOk P w K mg base (L2.CX P w) 3 e.a_LiveShelf_return_book e.d_LiveShelf_return_book ["self", "book"] (spE_op e.C_LiveShelf e.C_Shelf false e.C_InvalidBook) := okE_LiveShelf_return_book e
def spE_undo (C D : Addr) (CE : Addr) : Sp := fun vs H Q E => ∃ (A : Ad) (s : Sim), vs = [.ref A.lx] ∧ Lv C D H A s [] ∧ E (.ref CE) none H
theorem okE_LiveShelf_undo (e : Env w K mg) : FnOk P w K mg base (L2.CX P w) 3 e.a_LiveShelf_undo e.d_LiveShelf_undo ["self"] (spE_undo e.C_LiveShelf e.C_Shelf e.C_NothingToUndo) := by
  refine Fun.okX e.f_LiveShelf_undo sc_LiveShelf_undo (fun vs H Q E h => ?_) (fun cdv A outer s H vs Q E hr h => ?_)
  · obtain ⟨A, s, rfl, _⟩ := h; rfl
  · obtain ⟨A, s, rfl, l, k⟩ := h
    refine ⟨_, (pss_cons (ps_if (pt_cmpR op_eq (pe_callB LS.call_len (by rfl) e.n_len PySem.boot_len (pa_cons (pe_fld (pv 0) rfl) pa_nil)) pe_int (nomark _))
        (pss_one (ps_raise rfl (takes_of rfl rfl rfl rfl) (pmk_own PySem.F.excBase_ValueError e.e_NothingToUndo.x e.g_NothingToUndo e.e_NothingToUndo.k e.e_NothingToUndo.r rfl)))
        pss_nil)
      (pss_cons (ps_asg (pe_bm0 PySem.F.plainAttrs_list PySem.F.slot_list_pop PySem.F.type_list_pop mt_pop (pe_fld (pv 0) rfl)) (pg_tup (by rfl) (pgs_cons (pg_name (i := 1) sc_LiveShelf_undo.nd rfl (by first | exact Or.inl rfl | exact Or.inr rfl)) (pgs_cons (pg_name (i := 2) sc_LiveShelf_undo.nd rfl (by first | exact Or.inl rfl | exact Or.inr rfl)) (pgs_cons (pg_name (i := 3) sc_LiveShelf_undo.nd rfl (by first | exact Or.inl rfl | exact Or.inr rfl)) pgs_nil)))))
      (pss_one (ps_if (pt_cmpR op_eq (pe_ix ix_tup (pv 1) pe_int (fun _ _ => rfl)) pe_str (nomark _))
        (pss_one (ps_expr (pe_meth (pe_fld (pv 0) rfl) e.cl_Shelf e.m_Shelf_revert_take ((ok_Shelf_revert_take e).mono (by decide)) hr e.b_Shelf_revert_take .nil pass0 (pa_cons (pv 2) pa_nil))))
        (pss_one (ps_expr (pe_meth (pe_fld (pv 0) rfl) e.cl_Shelf e.m_Shelf_revert_return ((ok_Shelf_revert_return e).mono (by decide)) hr e.b_Shelf_revert_return .nil pass0 (pa_cons (pv 2) (pa_cons (pv 3) pa_nil))))))))), ?_⟩
    have c_Shelf := e.cl_Shelf; have a_Shelf_books := e.nA_Shelf_books; have a_Shelf_out := e.nA_Shelf_out; have c_LiveShelf := e.cl_LiveShelf; have a_LiveShelf__shelf := e.nA_LiveShelf__shelf; have a_LiveShelf__steps := e.nA_LiveShelf__steps; have c_Console := e.cl_Console; have a_Console__live := e.nA_Console__live
    have ho := l.ob
    obtain ⟨as, h1, h2⟩ := l.ex
    have ea : as = [] := List.length_eq_zero_iff.mp h2.1
    subst ea
    repeat array_get_dec
    exact k
theorem okx_LiveShelf_undo (e : Env w K mg) : FnOk P w K mg base (L2.CX P w) 3 e.a_LiveShelf_undo e.d_LiveShelf_undo ["self"] (fun vs H Q E => sp_LiveShelf_undo e.C_LiveShelf e.C_Shelf vs H Q E ∨ spE_undo e.C_LiveShelf e.C_Shelf e.C_NothingToUndo vs H Q E) := LX.fn_both (LX.fn_cx (ok_LiveShelf_undo e)) (okE_LiveShelf_undo e)
theorem okE_undo_last (e : Env w K mg) : FnOk P w K mg base (L2.CX P w) 4 e.a_undo_last e.d_undo_last ["live"] (spE_undo e.C_LiveShelf e.C_Shelf e.C_NothingToUndo) := by
  refine Fun.okX e.f_undo_last sc_undo_last (fun vs H Q E h => ?_) (fun cdv A outer s H vs Q E hr h => ?_)
  · obtain ⟨A, s, rfl, _⟩ := h; rfl
  · obtain ⟨A, s, rfl, l, k⟩ := h
    refine ⟨_, (pss_cons (ps_expr (pe_meth0 (pv 0) e.cl_LiveShelf e.m_LiveShelf_undo ((okx_LiveShelf_undo e).mono (by decide)) hr e.b_LiveShelf_undo .nil (passes_call (takes_of rfl rfl rfl rfl) (fun _ _ _ _ h => h))))
      (pss_one (ps_ret pe_str))), ?_⟩
    have c_Shelf := e.cl_Shelf; have a_Shelf_books := e.nA_Shelf_books; have a_Shelf_out := e.nA_Shelf_out; have c_LiveShelf := e.cl_LiveShelf; have a_LiveShelf__shelf := e.nA_LiveShelf__shelf; have a_LiveShelf__steps := e.nA_LiveShelf__steps; have c_Console := e.cl_Console; have a_Console__live := e.nA_Console__live
    have ho := l.ob
    repeat array_get_dec
    exact .inr ⟨A, s, rfl, l, k⟩
theorem okx_undo_last (e : Env w K mg) : FnOk P w K mg base (L2.CX P w) 4 e.a_undo_last e.d_undo_last ["live"] (spE_undo e.C_LiveShelf e.C_Shelf e.C_NothingToUndo) := okE_undo_last e
end
end LP

namespace LP
open PySem L2 LT LG LQ LH LC LX LR
local macro_rules | `(tactic| array_mem_dec) => `(tactic| first
  | assumption
  | ((with_reducible apply LS.hp_s); assumption; array_mem_dec)
  | ((with_reducible apply LS.hp_f); assumption; array_mem_dec; array_mem_dec)
  | ((with_reducible apply LS.hp_t); assumption; array_mem_dec; array_mem_dec)
  | ((with_reducible apply LS.hp_l); assumption; array_mem_dec; array_mem_dec)
  | ((with_reducible apply LS.sq_o); array_mem_dec)
  | ((with_reducible apply LS.sq_s); assumption; array_mem_dec)
  | ((with_reducible apply LS.sq_f); assumption; array_mem_dec; array_mem_dec)
  | ((with_reducible apply LS.sq_t); assumption; array_mem_dec; array_mem_dec)
  | ((with_reducible apply LS.sq_l); assumption; array_mem_dec; array_mem_dec)
  | ((with_reducible apply LS.tu_o); array_mem_dec)
  | ((with_reducible apply LS.tu_s); assumption; array_mem_dec)
  | ((with_reducible apply LS.tu_f); assumption; array_mem_dec; array_mem_dec)
  | ((with_reducible apply LS.tu_t); assumption; array_mem_dec; array_mem_dec)
  | ((with_reducible apply LS.tu_l); assumption; array_mem_dec; array_mem_dec)
  | ((with_reducible apply LS.se_l); array_mem_dec)
  | ((with_reducible apply LS.se_t); array_mem_dec)
  | ((with_reducible apply LS.se_s); assumption; array_mem_dec)
  | ((with_reducible apply LS.se_f); assumption; array_mem_dec; array_mem_dec)
  | ((with_reducible apply LS.se_tt); assumption; array_mem_dec; array_mem_dec)
  | ((with_reducible exact Same.refl _))
  | ((with_reducible apply LS.sm_s); assumption; array_mem_dec)
  | ((with_reducible apply LS.sm_f); assumption; array_mem_dec; array_mem_dec)
  | ((with_reducible exact Fr.refl _ _))
  | ((with_reducible apply LS.fr_b); assumption; array_mem_dec)
  | ((with_reducible apply LS.fr_s); assumption; array_mem_dec)
  | ((with_reducible apply LS.fr_n); assumption; array_mem_dec; array_mem_dec)
  | ((with_reducible apply LS.fr_t); assumption; array_mem_dec)
  | ((with_reducible apply LS.no_s); assumption; array_mem_dec)
  | ((with_reducible apply LS.no_f); assumption; array_mem_dec; array_mem_dec)
  | ((with_reducible apply LS.no_t); assumption; array_mem_dec)
  | ((with_reducible apply LS.no_l); assumption; assumption)
  | ((with_reducible apply Ne.symm); assumption)
  | ((with_reducible apply LS.ne_a); assumption; array_mem_dec)
  | ((with_reducible apply LS.ne_b); assumption; array_mem_dec)
  | ((with_reducible apply LS.ne_ap); assumption)
  | ((with_reducible apply LS.ne_il); assumption; array_mem_dec)
  | ((with_reducible apply LS.ne_li); assumption; array_mem_dec)
  | ((with_reducible apply LS.ne_lt); assumption; assumption)
  | ((with_reducible apply LS.ne_tl); assumption; assumption)
  | ((with_reducible apply LS.ne_rl); assumption; array_mem_dec)
  | ((with_reducible apply LS.rl_t); assumption)
  | ((with_reducible apply LS.rl_s); assumption; array_mem_dec)
  | ((with_reducible apply LS.rl_f); assumption; array_mem_dec; array_mem_dec)
  | ((with_reducible apply LS.rl_l); assumption; array_mem_dec; array_mem_dec)
  | ((with_reducible apply LS.ap_new); assumption; assumption; array_mem_dec)
  | ((with_reducible apply LS.ap_t); assumption; array_mem_dec; array_mem_dec)
  | ((with_reducible apply LS.ap_s); assumption; array_mem_dec; array_mem_dec)
  | ((with_reducible apply LS.ap_f); assumption; array_mem_dec; array_mem_dec; array_mem_dec)
  | ((with_reducible apply LS.ap_l); assumption; array_mem_dec; array_mem_dec; array_mem_dec)
  | (with_reducible apply LS.ni_nil)
  | ((with_reducible apply LS.ni_cons); array_mem_dec; array_mem_dec)
  | (with_reducible apply LS.trk_nil)
  | ((with_reducible apply LS.trk_cons); array_mem_dec; array_mem_dec)
  | (with_reducible apply LS.al_nil)
  | ((with_reducible apply LS.al_cons); array_mem_dec; array_mem_dec)
  | (with_reducible apply LS.mem_hd)
  | ((with_reducible apply LS.mem_tl); array_mem_dec)
  | ((with_reducible apply LS.fl_refl); array_mem_dec)
  | ((with_reducible apply LS.fl_l); assumption; array_mem_dec)
  | ((with_reducible apply LS.fl_lm); assumption; array_mem_dec; array_mem_dec)
  | (with_reducible apply LS.sub_nil)
  | ((with_reducible apply LS.sub_cons); array_mem_dec; array_mem_dec)
  | ((with_reducible apply LS.fl_s); assumption; array_mem_dec)
  | ((with_reducible apply LS.fl_m); assumption; array_mem_dec; array_mem_dec; array_mem_dec)
  | ((with_reducible apply LS.fl_n); assumption; array_mem_dec; array_mem_dec; array_mem_dec)
  | ((with_reducible apply LS.rt_refl); array_mem_dec)
  | ((with_reducible apply LS.rt_t); assumption; array_mem_dec)
  | ((with_reducible apply LS.rt_s); assumption; array_mem_dec)
  | ((with_reducible apply LS.rt_f); assumption; array_mem_dec; array_mem_dec; array_mem_dec)
  | ((with_reducible apply LS.sz); (first | decide | (simp only [List.length_append, List.length_map, List.length_cons, List.length_nil, List.length_replicate]; omega)))
  | ((with_reducible apply LS.szl); (first | decide | (simp only [List.length_append, List.length_map, List.length_cons, List.length_nil, List.length_replicate]; omega))))
local macro_rules | `(tactic| array_get_dec) => `(tactic| first
  | ((with_reducible apply LS.var); exact rfl)
  | (with_reducible apply LS.con)
  | (with_reducible apply LS.op)
  | (with_reducible apply LS.ri0)
  | (with_reducible apply LS.tseq)
  | (with_reducible apply LS.tasg)
  | (with_reducible apply LS.gname)
  | (with_reducible apply LS.tcons)
  | (with_reducible apply LS.tnil)
  | (with_reducible apply LS.tcb)
  | (with_reducible apply LS.tcall)
  | (with_reducible apply LS.ttest)
  | (with_reducible apply LS.k_b)
  | (with_reducible apply LS.tb)
  | (with_reducible apply LS.tifs)
  | (with_reducible apply LS.ift)
  | (with_reducible apply LS.iff_)
  | (with_reducible apply LS.ifnt)
  | (with_reducible apply LS.ifnf)
  | (with_reducible apply LS.tnext)
  | (with_reducible apply LS.tdrop)
  | (with_reducible apply LS.tret)
  | (with_reducible apply LS.tretn)
  | (with_reducible apply LS.un)
  | (with_reducible apply LS.ru)
  | (with_reducible apply LS.tyes)
  | (with_reducible apply LS.tand)
  | (with_reducible apply LS.tor)
  | (with_reducible apply LS.tnot)
  | (with_reducible apply LS.tif)
  | (with_reducible apply LS.tandv)
  | (with_reducible apply LS.k_av)
  | (with_reducible apply LS.torv)
  | (with_reducible apply LS.k_ov)
  | (with_reducible apply LS.tnotv)
  | (with_reducible apply LS.k_nv)
  | (with_reducible apply LS.tchain)
  | (with_reducible apply LS.k_ch)
  | (with_reducible apply LS.req_i)
  | (with_reducible apply LS.rne_i)
  | (with_reducible apply LS.req_s)
  | (with_reducible apply LS.rne_s)
  | (with_reducible apply LS.req_b)
  | (with_reducible apply LS.rne_b)
  | ((with_reducible apply LS.rin_i); array_mem_dec)
  | ((with_reducible apply LS.rni_i); array_mem_dec)
  | ((with_reducible apply LS.rlen_li); array_mem_dec)
  | ((with_reducible apply LS.rlen_ls); array_mem_dec)
  | ((with_reducible apply LS.rlen_l); array_mem_dec)
  | ((with_reducible apply LS.rlen_Ei); array_mem_dec)
  | ((with_reducible apply LS.rlen_E); array_mem_dec)
  | ((with_reducible apply LS.rlen_t); array_mem_dec)
  | ((with_reducible apply LS.rixl); array_mem_dec; exact rfl)
  | ((with_reducible apply LS.rixt); array_mem_dec; exact rfl)
  | (with_reducible apply LS.isi_int_int)
  | (with_reducible apply LS.isi_int_bool)
  | (with_reducible apply LS.isi_int_str)
  | (with_reducible apply LS.isi_str_int)
  | (with_reducible apply LS.isi_str_bool)
  | (with_reducible apply LS.isi_str_str)
  | (with_reducible apply LS.isi_bool_int)
  | (with_reducible apply LS.isi_bool_bool)
  | (with_reducible apply LS.isi_bool_str)
  | (with_reducible apply LS.isi_non_int)
  | (with_reducible apply LS.isi_non_bool)
  | (with_reducible apply LS.isi_non_str)
  | ((with_reducible apply LS.isi_list_int); array_mem_dec)
  | ((with_reducible apply LS.isi_list_bool); array_mem_dec)
  | ((with_reducible apply LS.isi_list_str); array_mem_dec)
  | ((with_reducible apply LS.isi_list_list); array_mem_dec)
  | ((with_reducible apply LS.isi_list_tuple); array_mem_dec)
  | ((with_reducible apply LS.isi_tuple_int); array_mem_dec)
  | ((with_reducible apply LS.isi_tuple_bool); array_mem_dec)
  | ((with_reducible apply LS.isi_tuple_str); array_mem_dec)
  | ((with_reducible apply LS.isi_tuple_list); array_mem_dec)
  | ((with_reducible apply LS.isi_tuple_tuple); array_mem_dec)
  | ((with_reducible apply LS.isiT_i); array_mem_dec)
  | ((with_reducible apply LS.isiT_s); array_mem_dec)
  | ((with_reducible apply LS.isiT_E); array_mem_dec; array_mem_dec)
  | (with_reducible apply LS.tfld)
  | ((with_reducible apply LS.k_fl); array_mem_dec; assumption; assumption; exact rfl)
  | (with_reducible apply LS.tmeth)
  | ((with_reducible apply LS.k_me); array_mem_dec; exact rfl)
  | (with_reducible apply LS.tmake)
  | (with_reducible apply LS.tsfld)
  | (with_reducible apply LS.tprop)
  | ((with_reducible apply LS.k_pr); array_mem_dec)
  | ((with_reducible apply LS.rlen_own); array_mem_dec)
  | (with_reducible apply LS.rabs)
  | (with_reducible apply LS.rmin2)
  | (with_reducible apply LS.rmax2)
  | (with_reducible apply LS.tsl)
  | (with_reducible apply LS.tthen)
  | (with_reducible apply LS.tstep)
  | (with_reducible apply LS.tnop)
  | (with_reducible apply LS.tpart)
  | (with_reducible apply LS.k_part)
  | (with_reducible apply LS.ttup)
  | (with_reducible apply LS.tlst)
  | (with_reducible apply LS.tbm)
  | (with_reducible apply LS.tbm0)
  | ((with_reducible apply LS.ty_l); array_mem_dec)
  | (with_reducible apply LS.tpar)
  | (with_reducible apply LS.tfor)
  | (with_reducible apply LS.tlc)
  | (with_reducible apply LS.ilist)
  | ((with_reducible apply LS.k_il); array_mem_dec)
  | (with_reducible apply LS.itup)
  | ((with_reducible apply LS.k_it); array_mem_dec)
  | (with_reducible apply LS.istr)
  | (with_reducible apply LS.k_is)
  | (with_reducible apply LS.irng1)
  | ((with_reducible apply LS.k_r1n); omega)
  | ((with_reducible apply LS.k_r1); (first | omega | decide); (first | omega | decide))
  | (with_reducible apply LS.irng2)
  | ((with_reducible apply LS.k_r2); (first | omega | decide); (first | omega | decide); (first | omega | decide); (first | omega | decide))
  | (with_reducible apply LS.ienum)
  | ((with_reducible apply LS.k_en); array_mem_dec)
  | (with_reducible apply LS.izip)
  | ((with_reducible apply LS.k_zip); array_mem_dec; array_mem_dec)
  | (with_reducible apply LS.tlstrg)
  | (with_reducible apply LS.trg1)
  | (with_reducible apply LS.k_g1)
  | (with_reducible apply LS.risn_i)
  | (with_reducible apply LS.risn_s)
  | (with_reducible apply LS.risn_n)
  | (with_reducible apply LS.rnotn_i)
  | (with_reducible apply LS.rnotn_n)
  | (with_reducible apply LS.rint_b)
  | (with_reducible apply LS.rint_i)
  | (with_reducible apply LS.tm0)
  | (with_reducible apply LS.tm1)
  | (with_reducible apply LS.is_str)
  | (with_reducible apply LS.ex_s0)
  | (with_reducible apply LS.ex_int_b)
  | (with_reducible apply LS.k_par)
  | (with_reducible apply LS.tpar3)
  | (with_reducible apply LS.k_par3)
  | ((with_reducible apply LS.taug); exact rfl)
  | (with_reducible apply LS.ipi)
  | ((with_reducible apply LS.gtup); array_mem_dec; exact rfl)
  | ((with_reducible apply LS.gunl); array_mem_dec; exact rfl)
  | (with_reducible apply LS.gnil)
  | (with_reducible apply LS.gcons)
  | (with_reducible apply LS.gsub)
  | ((with_reducible apply LS.ri); first | omega | decide | assumption | exact ⟨by decide, by decide, by decide⟩ | exact .inl ⟨by decide, by decide⟩ | exact .inr ⟨by decide, by decide⟩ | exact .inl ⟨by omega, by omega⟩ | exact .inr ⟨by omega, by omega⟩)
  | (with_reducible apply LS.ex_ss)
  | (with_reducible apply LS.ex_s1)
  | (with_reducible apply LS.ex_i1)
  | (with_reducible apply LS.and_rfl)
  | (with_reducible apply LS.and_tr)
  | (with_reducible apply LS.is_non))
local macro_rules | `(tactic| array_mem_dec) => `(tactic| first
  | ((with_reducible apply LP.lv_s); assumption; array_mem_dec)
  | ((with_reducible apply LP.lv_l); assumption; array_mem_dec; array_mem_dec; array_mem_dec)
  | ((with_reducible apply LP.lv_f); assumption; array_mem_dec; array_mem_dec; array_mem_dec)
  | ((with_reducible apply LP.lv_t); assumption; array_mem_dec; array_mem_dec; array_mem_dec)
  | ((with_reducible apply LP.ops_s); assumption; array_mem_dec)
  | ((with_reducible apply LP.md_s); assumption; array_mem_dec)
  | ((with_reducible apply LP.md_l); assumption; array_mem_dec; array_mem_dec; array_mem_dec)
  | ((with_reducible apply LP.md_f); assumption; array_mem_dec; array_mem_dec; array_mem_dec)
  | ((with_reducible apply LP.md_t); assumption; array_mem_dec; array_mem_dec; array_mem_dec)
  | ((with_reducible apply LP.al_s); assumption; array_mem_dec; array_mem_dec)
  | ((with_reducible apply LP.al_t); assumption; array_mem_dec; array_mem_dec)
  | ((with_reducible apply LP.al_l); assumption; array_mem_dec; array_mem_dec; array_mem_dec)
  | ((with_reducible apply LP.al_f); assumption; array_mem_dec; array_mem_dec; array_mem_dec)
  | ((with_reducible apply LP.Lv.lists); array_mem_dec)
  | ((with_reducible apply LP.Lv.trk); array_mem_dec)
  | ((with_reducible apply LP.Mdl.trk); array_mem_dec)
  | ((with_reducible apply LP.al_no); assumption; array_mem_dec))
local macro_rules | `(tactic| array_get_dec) => `(tactic| first
  | (with_reducible apply LS.tcalle)
  | (with_reducible apply LS.tcalls))
local macro_rules | `(tactic| array_get_dec) => `(tactic| first
  | (with_reducible apply LS.tmethv)
  | (with_reducible apply LS.tmakev)
  | (with_reducible apply LS.rnotn_rr)
  | (with_reducible apply LS.risn_rr)
  | ((with_reducible apply LS.k_mev); array_mem_dec; exact rfl))
local macro_rules | `(tactic| array_get_dec) => `(tactic| first
  | (with_reducible apply LS.trg2)
  | (with_reducible apply LS.k_g2))

section
variable {P : Program} {w : World} {K : PySem.W.Frag} {mg : Str → Option Value} {base : Heap}

theorem log2_lt40 {n : Int} {k : Nat} (h0 : 0 ≤ n) (h : n ≤ 10 ^ 40) (hk : 141 ≤ k) : n.natAbs.log2 < k := by
  by_cases z : n.natAbs = 0
  · rw [z]; show Nat.log2 0 < k; rw [show Nat.log2 0 = 0 by decide]; omega
  · exact Nat.lt_of_lt_of_le ((Nat.log2_lt z).mpr (show n.natAbs < 2 ^ 140 by omega)) (by omega)
theorem nst_len40 {n : Nat} (h : n ≤ 10 ^ 40) : (LQ.nst (n : Int)).length ≤ 41 := by
  show (LQ.nst (n : Int)).cps.size ≤ 41
  rw [← Array.length_toList, LQ.tl_nst]
  exact TL.numL_len (by decide) (by have : (10 : Nat) ^ 40 < 10 ^ 41 := by decide
                                    omega)
def sp_read_number40 : Sp := fun vs H Q _ => ∃ n : Int, vs = [.str (LQ.nst n)] ∧ 0 ≤ n ∧ n ≤ 10 ^ 40 ∧ Q (.int n) H
theorem ok40_read_number (e : Env w K mg) : FnOk P w K mg base CX0 1 e.a_read_number e.d_read_number ["text"] (sp_read_number40) := by
  refine Fun.ok e.f_read_number sc_read_number (fun vs H Q E h => ?_) (fun cdv A outer s H vs Q E hr h => ?_)
  · obtain ⟨a, rfl, _⟩ := h; rfl
  · obtain ⟨n, rfl, h0, h1, k⟩ := h
    refine ⟨_, (pss_cons (ps_if (PW.pt (pw_or (pt_not (PW.pt (pw_and (pt_val (pe_m0 PySem.F.slot_str_isascii PySem.F.type_str_isascii mt_isascii (pv 0))) (pw_and1 (pt_val (pe_m0 PySem.F.slot_str_isdigit PySem.F.type_str_isdigit mt_isdigit (pv 0))))))) (pw_or1 (PW.pt (pw_and (pt_cmpR op_eq (pe_ix ix_str (pv 0) pe_int (fun _ _ => rfl)) pe_str (nomark _)) (pw_and1 (pt_cmpR op_ne (pv 0) pe_str (nomark _))))))))
        (pss_one (ps_ret pe_non))
        pss_nil)
      (pss_cons (ps_set (i := 1) sc_read_number.nd rfl (by first | exact Or.inl rfl | exact Or.inr rfl) pe_int)
      (pss_cons (ps_for PassesOwn.never rfl (pi_str (pv 0)) (pg_name (i := 2) sc_read_number.nd rfl (by first | exact Or.inl rfl | exact Or.inr rfl))
      (pss_one (ps_set (i := 1) sc_read_number.nd rfl (by first | exact Or.inl rfl | exact Or.inr rfl) (pe_op op_add (pe_op op_mulW (pv 1) pe_int) (pe_callTy LS.call_intS (by rfl) e.n_int (by decide +kernel) (pa_cons (pv 2) pa_nil))))))
      (pss_one (ps_ret (pv 1)))))), ?_⟩
    obtain ⟨m, rfl⟩ : ∃ m : Nat, n = m := ⟨n.toNat, by omega⟩
    repeat array_get_dec
    refine iteB (LQ.nst_ascii m) ?_
    repeat array_get_dec
    rw [LQ.nst_digit]
    repeat array_get_dec
    have hz : (LQ.nst (m : Int)).length ≤ 41 := nst_len40 (by have : (m : Int) ≤ 10 ^ 40 := h1; omega)
    have hne := TL.numL_ne m
    obtain ⟨c, hc⟩ : ∃ c, (TL.numL m)[0]? = some c := ⟨_, List.getElem?_eq_getElem (List.length_pos_iff.mpr hne)⟩
    refine LS.rixs (j := 0) (c := c) (by omega) (by rw [LQ.tl_nst]; exact hc) rfl ?_
    repeat array_get_dec
    refine LS.tail_t (fun e x => ?_) ?_
    · have e2 : c = 48 := by
        have := congrArg (fun z : Str => z.cps.toList) e
        have e3 : ("0" : Str).cps.toList = [48] := by decide +kernel
        rw [e3] at this
        simpa using this
      have e4 := LQ.head_numL m (by rw [hc, e2])
      subst e4
      repeat array_get_dec
      rw [decide_eq_true (show LQ.nst ((0 : Nat) : Int) = ("0" : Str) from LQ.zero_txt)]
      exact LS.ifnt (LS.of_iff x)
    repeat array_get_dec
    refine LS.for_ walk_str (fun i σ H1 => ∃ v : Option V, H1 = H ∧ σ = [some (.str (LQ.nst m)), some (.int (LQ.dval ((TL.numL m).take i) : Nat)), v]) ⟨_, rfl, rfl⟩ (fun _ _ _ _ _ => trivial) ?_ ?_
    · rintro i x σ H1 H2 hi ⟨v, rfl, rfl⟩ ⟨rfl, d, hd, rfl⟩
      have hd2 : (TL.numL m)[i]? = some d := by rw [← LQ.tl_nst, Array.getElem?_toList]; exact hd
      have hb := LQ.numL_all m d (List.mem_of_getElem? hd2)
      have hle := LQ.dval_take (TL.numL m) i
      rw [LQ.dval_num] at hle
      repeat array_get_dec
      refine LS.ri (by
        have := log2_lt40 (n := ((LQ.dval ((TL.numL m).take i) : Nat) : Int)) (k := 200) (by omega) (Int.le_trans (by omega) h1) (by decide)
        show _ + Nat.log2 10 < 1000000
        have e10 : Nat.log2 10 = 3 := by decide +kernel
        omega) ?_
      repeat array_get_dec
      refine LS.rint_s (LQ.int_dig hb) (by show 1 ≤ 640; decide) ?_
      repeat array_get_dec
      refine ⟨some (.str ⟨#[d]⟩), rfl, ?_⟩
      rw [LQ.dval_snoc hd2]
      rfl
    · rintro σ H1 ⟨v, rfl, rfl⟩
      repeat array_get_dec
      have e : (TL.numL m).take (LQ.nst (m : Int)).cps.size = TL.numL m := by rw [← Array.length_toList, LQ.tl_nst, List.take_length]
      rw [e, LQ.dval_num]
      exact k
/-- no number -/
def BadN (t : Str) : Prop := (Txt.isascii t && Txt.isdigit t) = false ∨ (t.length ≤ 1000 ∧ t.cps.toList[0]? = some 48 ∧ t ≠ ("0" : Str))
def sp_read_numberB : Sp := fun vs H Q _ => ∃ t : Str, vs = [.str t] ∧ BadN t ∧ Q .non H
theorem okB_read_number (e : Env w K mg) : FnOk P w K mg base CX0 1 e.a_read_number e.d_read_number ["text"] (sp_read_numberB) := by
  refine Fun.ok e.f_read_number sc_read_number (fun vs H Q E h => ?_) (fun cdv A outer s H vs Q E hr h => ?_)
  · obtain ⟨t, rfl, _⟩ := h; rfl
  · obtain ⟨t, rfl, hb, k⟩ := h
    refine ⟨_, (pss_cons (ps_if (PW.pt (pw_or (pt_not (PW.pt (pw_and (pt_val (pe_m0 PySem.F.slot_str_isascii PySem.F.type_str_isascii mt_isascii (pv 0))) (pw_and1 (pt_val (pe_m0 PySem.F.slot_str_isdigit PySem.F.type_str_isdigit mt_isdigit (pv 0))))))) (pw_or1 (PW.pt (pw_and (pt_cmpR op_eq (pe_ix ix_str (pv 0) pe_int (fun _ _ => rfl)) pe_str (nomark _)) (pw_and1 (pt_cmpR op_ne (pv 0) pe_str (nomark _))))))))
        (pss_one (ps_ret pe_non))
        pss_nil)
      (pss_cons (ps_set (i := 1) sc_read_number.nd rfl (by first | exact Or.inl rfl | exact Or.inr rfl) pe_int)
      (pss_cons (ps_for PassesOwn.never rfl (pi_str (pv 0)) (pg_name (i := 2) sc_read_number.nd rfl (by first | exact Or.inl rfl | exact Or.inr rfl))
      (pss_one (ps_set (i := 1) sc_read_number.nd rfl (by first | exact Or.inl rfl | exact Or.inr rfl) (pe_op op_add (pe_op op_mulW (pv 1) pe_int) (pe_callTy LS.call_intS (by rfl) e.n_int (by decide +kernel) (pa_cons (pv 2) pa_nil))))))
      (pss_one (ps_ret (pv 1)))))), ?_⟩
    repeat array_get_dec
    rcases hb with hb | ⟨hlt, h48, hne⟩
    · cases ha : Txt.isascii t with
      | false =>
        repeat array_get_dec
        exact k
      | true =>
        rw [ha, Bool.true_and] at hb
        repeat array_get_dec
        rw [hb]
        repeat array_get_dec
        exact k
    · cases ha : Txt.isascii t with
      | false =>
        repeat array_get_dec
        exact k
      | true =>
        repeat array_get_dec
        cases hd : Txt.isdigit t with
        | false =>
          repeat array_get_dec
          exact k
        | true =>
          repeat array_get_dec
          refine LS.rixs (j := 0) (c := 48) (Nat.le_trans hlt (by decide)) h48 rfl ?_
          repeat array_get_dec
          rw [decide_eq_true (show ({ cps := #[48] } : Str) = ("0" : Str) by decide +kernel)]
          repeat array_get_dec
          rw [decide_eq_false hne]
          repeat array_get_dec
          exact k
theorem okC_read_number (e : Env w K mg) : FnOk P w K mg base CX0 1 e.a_read_number e.d_read_number ["text"] (fun vs H Q E => sp_read_numberB vs H Q E ∨ sp_read_number vs H Q E) := LX.fn_both (okB_read_number e) (ok_read_number e)
theorem cmd_len40 {o : Op} (h0 : 0 ≤ o.2) (h1 : o.2 ≤ 10 ^ 40) : (cmd o).length ≤ 60 := by
  show (cmd o).cps.size ≤ 60
  rw [← Array.length_toList, cmd_tl, List.length_append, List.length_append]
  obtain ⟨m, hm⟩ : ∃ m : Nat, o.2 = m := ⟨o.2.toNat, by omega⟩
  have h2 := nst_len40 (n := m) (by omega)
  rw [hm]
  have h3 : (LQ.nst (m : Int)).cps.toList.length ≤ 41 := by rw [Array.length_toList]; exact h2
  have h4 : (kst o.1).cps.toList.length ≤ 6 := by cases o.1 <;> decide +kernel
  show _ + [32].length + _ ≤ 60
  have h5 : ([32] : List Nat).length = 1 := rfl
  omega
def sp_read_line40 : Sp := fun vs H Q _ => ∃ o : Op, vs = [.str (cmd o)] ∧ 0 ≤ o.2 ∧ o.2 ≤ 10 ^ 40 ∧ ∀ (H' : Hp) (t : Addr), H t = none → Same H H' → H' t = some (.tup [.str (kst o.1), .int o.2]) → Q (.ref t) H'
theorem ok40_read_line (e : Env w K mg) : FnOk P w K mg base CX0 2 e.a_read_line e.d_read_line ["line"] (sp_read_line40) := by
  refine Fun.ok e.f_read_line sc_read_line (fun vs H Q E h => ?_) (fun cdv A outer s H vs Q E hr h => ?_)
  · obtain ⟨o, rfl, _⟩ := h; rfl
  · obtain ⟨o, rfl, h0, h1, k⟩ := h
    refine ⟨_, (pss_cons (ps_if (pt_not (pt_val (pe_callB call_isi (by rfl) e.n_isinstance (by decide +kernel) (pa_cons (pv 0) (pa_cons (pe_bltn (v := V.ty "str") (by rfl) e.n_str (by decide +kernel) rfl) pa_nil)))))
        (pss_one ps_never)
        pss_nil)
      (pss_cons (ps_if (pt_cmpR (LX.op_inW e.wd_ANSWERS) (pv 0) (pe_glob (v := V.ref e.x_ANSWERS) rfl e.g_ANSWERS rfl) (by rfl))
        (pss_one (ps_ret (pe_tup (pa_cons (pv 0) (pa_cons pe_non pa_nil)))))
        pss_nil)
      (pss_cons (ps_asg (pe_m1 PySem.F.slot_str_partition PySem.F.type_str_partition LX.mt_partN (pv 0) pe_str) (pg_tup (by rfl) (pgs_cons (pg_name (i := 1) sc_read_line.nd rfl (by first | exact Or.inl rfl | exact Or.inr rfl)) (pgs_cons (pg_name (i := 2) sc_read_line.nd rfl (by first | exact Or.inl rfl | exact Or.inr rfl)) (pgs_cons (pg_name (i := 3) sc_read_line.nd rfl (by first | exact Or.inl rfl | exact Or.inr rfl)) pgs_nil)))))
      (pss_cons (ps_set (i := 4) sc_read_line.nd rfl (by first | exact Or.inl rfl | exact Or.inr rfl) (pe_call ((ok40_read_number e).mono (by decide)) hr rfl e.g_read_number e.f_read_number.kp e.b_read_number .nil pass0 (pa_cons (pv 3) pa_nil)))
      (pss_cons (ps_if (PW.pt (pw_or (pt_cmpR op_notIn_seq (pv 1) (pe_tup (pa_cons pe_str (pa_cons pe_str pa_nil))) (by rfl)) (pw_or1 (pt_cmpR LS.op_isN (pv 4) pe_non (nomark _)))))
        (pss_one ps_never)
        pss_nil)
      (pss_one (ps_ret (pe_tup (pa_cons (pv 1) (pa_cons (pv 4) pa_nil)))))))))), ?_⟩
    repeat array_get_dec
    refine rinw_f (lk_none fun p hp => ?_) ?_
    · simp only [List.mem_cons, List.not_mem_nil, or_false] at hp
      have hk : ∀ z : Str, 32 ∉ z.cps.toList → cmd o ≠ z := fun z => cmd_ne
      rcases hp with rfl | rfl | rfl | rfl | rfl | rfl
      · exact hk "undo" (by decide +kernel)
      · exact hk "books" (by decide +kernel)
      · exact hk "gaps" (by decide +kernel)
      · exact hk "out" (by decide +kernel)
      · exact hk "schedule" (by decide +kernel)
      · exact hk "size" (by decide +kernel)
    repeat array_get_dec
    refine rpart (part_cmd o) (by decide +kernel) (Nat.le_trans (cmd_len40 h0 h1) (by decide)) fun p H1 np s1 h1' => ?_
    repeat array_get_dec
    refine ⟨o.2, rfl, h0, h1, ?_⟩
    repeat array_get_dec
    refine LS.k_tup (by array_mem_dec) fun w H_w n_w s_w h_w => ?_
    repeat array_get_dec
    refine rnit_t (xs := [V.str "take", V.str "return"]) (SqT.of h_w) rfl rfl (by cases o.1 <;> decide +kernel) ?_
    repeat array_get_dec
    refine LS.k_tup (by array_mem_dec) fun t H_t n_t s_t h_t => ?_
    repeat array_get_dec
    exact k H_t t (by array_mem_dec) (by array_mem_dec) (by array_mem_dec)
def keysL : List Str := ["undo", "books", "gaps", "out", "schedule", "size"]
/-- no line of the console -/
def BadL (K : PySem.W.Frag) (H : Hp) (x : V) : Prop := (∃ ty : String, kitB ty "str" = some false ∧ TyX K H x (.type ty)) ∨
  ∃ t w y r : Str, x = .str t ∧ t.length ≤ 1000 ∧ t ∉ keysL ∧ Txt.partition t (" " : Str) = (w, y, r) ∧ (BadN r ∨ ∃ n : Nat, r = LQ.nst (n : Int) ∧ n ≤ 1000 ∧ w ≠ ("take" : Str) ∧ w ≠ ("return" : Str))
theorem badl_s {K : PySem.W.Frag} {H H' : Hp} (s : Same H H') {x : V} (h : BadL K H x) : BadL K H' x := by
  rcases h with ⟨t, h1, h2⟩ | h
  · exact .inl ⟨t, h1, tyx_s s h2⟩
  · exact .inr h
def spE_read_line (K : PySem.W.Frag) (C : Addr) : Sp := fun vs H Q E => ∃ x : V, vs = [x] ∧ BadL K H x ∧ ∀ H', Same H H' → E (.ref C) none H'
theorem okE_read_line (e : Env w K mg) : FnOk P w K mg base (L2.CX P w) 2 e.a_read_line e.d_read_line ["line"] (spE_read_line K e.C_InvalidCommand) := by
  refine Fun.okX e.f_read_line sc_read_line (fun vs H Q E h => ?_) (fun cdv A outer s H vs Q E hr h => ?_)
  · obtain ⟨x, rfl, _⟩ := h; rfl
  · obtain ⟨x, rfl, hb, k⟩ := h
    refine ⟨_, (pss_cons (ps_if (pt_not (pt_val (pe_callB call_isi (by rfl) e.n_isinstance (by decide +kernel) (pa_cons (pv 0) (pa_cons (pe_bltn (v := V.ty "str") (by rfl) e.n_str (by decide +kernel) rfl) pa_nil)))))
        (pss_one (ps_raise rfl (takes_of rfl rfl rfl rfl) (pmk_own PySem.F.excBase_ValueError e.e_InvalidCommand.x e.g_InvalidCommand e.e_InvalidCommand.k e.e_InvalidCommand.r rfl)))
        pss_nil)
      (pss_cons (ps_if (pt_cmpR (LX.op_inW e.wd_ANSWERS) (pv 0) (pe_glob (v := V.ref e.x_ANSWERS) rfl e.g_ANSWERS rfl) (by rfl))
        (pss_one (ps_ret (pe_tup (pa_cons (pv 0) (pa_cons pe_non pa_nil)))))
        pss_nil)
      (pss_cons (ps_asg (pe_m1 PySem.F.slot_str_partition PySem.F.type_str_partition LX.mt_partN (pv 0) pe_str) (pg_tup (by rfl) (pgs_cons (pg_name (i := 1) sc_read_line.nd rfl (by first | exact Or.inl rfl | exact Or.inr rfl)) (pgs_cons (pg_name (i := 2) sc_read_line.nd rfl (by first | exact Or.inl rfl | exact Or.inr rfl)) (pgs_cons (pg_name (i := 3) sc_read_line.nd rfl (by first | exact Or.inl rfl | exact Or.inr rfl)) pgs_nil)))))
      (pss_cons (ps_set (i := 4) sc_read_line.nd rfl (by first | exact Or.inl rfl | exact Or.inr rfl) (pe_call ((okC_read_number e).mono (by decide)) hr rfl e.g_read_number e.f_read_number.kp e.b_read_number .nil pass0 (pa_cons (pv 3) pa_nil)))
      (pss_cons (ps_if (PW.pt (pw_or (pt_cmpR op_notIn_seq (pv 1) (pe_tup (pa_cons pe_str (pa_cons pe_str pa_nil))) (by rfl)) (pw_or1 (pt_cmpR LS.op_isN (pv 4) pe_non (nomark _)))))
        (pss_one (ps_raise rfl (takes_of rfl rfl rfl rfl) (pmk_own PySem.F.excBase_ValueError e.e_InvalidCommand.x e.g_InvalidCommand e.e_InvalidCommand.k e.e_InvalidCommand.r rfl)))
        pss_nil)
      (pss_one (ps_ret (pe_tup (pa_cons (pv 1) (pa_cons (pv 4) pa_nil)))))))))), ?_⟩
    repeat array_get_dec
    rcases hb with ⟨ty, h1, h2⟩ | ⟨t, w, y, r, rfl, hl, hk, hp, hr⟩
    · refine LS.isi (b := false) h2 h1 ?_
      repeat array_get_dec
      exact k _ (Same.refl _)
    · repeat array_get_dec
      refine rinw_f (lk_none fun p hp => ?_) ?_
      · simp only [List.mem_cons, List.not_mem_nil, or_false] at hp
        simp only [keysL, List.mem_cons, List.not_mem_nil, or_false, not_or] at hk
        rcases hp with rfl | rfl | rfl | rfl | rfl | rfl
        · exact hk.1
        · exact hk.2.1
        · exact hk.2.2.1
        · exact hk.2.2.2.1
        · exact hk.2.2.2.2.1
        · exact hk.2.2.2.2.2
      repeat array_get_dec
      refine rpart hp (by decide +kernel) (Nat.le_trans hl (by decide)) fun p H1 np s1 h1' => ?_
      repeat array_get_dec
      rcases hr with hr | ⟨n, rfl, hn, hw1, hw2⟩
      · refine .inl ⟨r, rfl, hr, ?_⟩
        repeat array_get_dec
        refine LS.k_tup (by array_mem_dec) fun z H_z n_z s_z h_z => ?_
        repeat array_get_dec
        refine ⟨z, [V.str "take", V.str "return"], rfl, .inr (SqT.of h_z), rfl, rfl, ?_⟩
        generalize inV (V.str w) [V.str "take", V.str "return"] = b
        cases b with
        | true =>
          show LS.kB _ (V.bl false) H_z
          repeat array_get_dec
          exact k _ (s1.trans s_z)
        | false =>
          show LS.kB _ (V.bl true) H_z
          repeat array_get_dec
          exact k _ (s1.trans s_z)
      · refine .inr ⟨n, rfl, by omega, by show (n : Int) ≤ 10 ^ 30; omega, ?_⟩
        repeat array_get_dec
        refine LS.k_tup (by array_mem_dec) fun z H_z n_z s_z h_z => ?_
        repeat array_get_dec
        have hin : inV (V.str w) [V.str "take", V.str "return"] = false := by
          show ((("take" : Str) == w) || ((("return" : Str) == w) || false)) = false
          simp [Ne.symm hw1, Ne.symm hw2]
        refine ⟨z, [V.str "take", V.str "return"], rfl, .inr (SqT.of h_z), rfl, rfl, ?_⟩
        rw [hin]
        repeat array_get_dec
        exact k _ (s1.trans s_z)
end
end LP

namespace LP
open PySem L2 LT LG LQ LH LC LX LR
local macro_rules | `(tactic| array_mem_dec) => `(tactic| first
  | assumption
  | ((with_reducible apply LS.hp_s); assumption; array_mem_dec)
  | ((with_reducible apply LS.hp_f); assumption; array_mem_dec; array_mem_dec)
  | ((with_reducible apply LS.hp_t); assumption; array_mem_dec; array_mem_dec)
  | ((with_reducible apply LS.hp_l); assumption; array_mem_dec; array_mem_dec)
  | ((with_reducible apply LS.sq_o); array_mem_dec)
  | ((with_reducible apply LS.sq_s); assumption; array_mem_dec)
  | ((with_reducible apply LS.sq_f); assumption; array_mem_dec; array_mem_dec)
  | ((with_reducible apply LS.sq_t); assumption; array_mem_dec; array_mem_dec)
  | ((with_reducible apply LS.sq_l); assumption; array_mem_dec; array_mem_dec)
  | ((with_reducible apply LS.tu_o); array_mem_dec)
  | ((with_reducible apply LS.tu_s); assumption; array_mem_dec)
  | ((with_reducible apply LS.tu_f); assumption; array_mem_dec; array_mem_dec)
  | ((with_reducible apply LS.tu_t); assumption; array_mem_dec; array_mem_dec)
  | ((with_reducible apply LS.tu_l); assumption; array_mem_dec; array_mem_dec)
  | ((with_reducible apply LS.se_l); array_mem_dec)
  | ((with_reducible apply LS.se_t); array_mem_dec)
  | ((with_reducible apply LS.se_s); assumption; array_mem_dec)
  | ((with_reducible apply LS.se_f); assumption; array_mem_dec; array_mem_dec)
  | ((with_reducible apply LS.se_tt); assumption; array_mem_dec; array_mem_dec)
  | ((with_reducible exact Same.refl _))
  | ((with_reducible apply LS.sm_s); assumption; array_mem_dec)
  | ((with_reducible apply LS.sm_f); assumption; array_mem_dec; array_mem_dec)
  | ((with_reducible exact Fr.refl _ _))
  | ((with_reducible apply LS.fr_b); assumption; array_mem_dec)
  | ((with_reducible apply LS.fr_s); assumption; array_mem_dec)
  | ((with_reducible apply LS.fr_n); assumption; array_mem_dec; array_mem_dec)
  | ((with_reducible apply LS.fr_t); assumption; array_mem_dec)
  | ((with_reducible apply LS.no_s); assumption; array_mem_dec)
  | ((with_reducible apply LS.no_f); assumption; array_mem_dec; array_mem_dec)
  | ((with_reducible apply LS.no_t); assumption; array_mem_dec)
  | ((with_reducible apply LS.no_l); assumption; assumption)
  | ((with_reducible apply Ne.symm); assumption)
  | ((with_reducible apply LS.ne_a); assumption; array_mem_dec)
  | ((with_reducible apply LS.ne_b); assumption; array_mem_dec)
  | ((with_reducible apply LS.ne_ap); assumption)
  | ((with_reducible apply LS.ne_il); assumption; array_mem_dec)
  | ((with_reducible apply LS.ne_li); assumption; array_mem_dec)
  | ((with_reducible apply LS.ne_lt); assumption; assumption)
  | ((with_reducible apply LS.ne_tl); assumption; assumption)
  | ((with_reducible apply LS.ne_rl); assumption; array_mem_dec)
  | ((with_reducible apply LS.rl_t); assumption)
  | ((with_reducible apply LS.rl_s); assumption; array_mem_dec)
  | ((with_reducible apply LS.rl_f); assumption; array_mem_dec; array_mem_dec)
  | ((with_reducible apply LS.rl_l); assumption; array_mem_dec; array_mem_dec)
  | ((with_reducible apply LS.ap_new); assumption; assumption; array_mem_dec)
  | ((with_reducible apply LS.ap_t); assumption; array_mem_dec; array_mem_dec)
  | ((with_reducible apply LS.ap_s); assumption; array_mem_dec; array_mem_dec)
  | ((with_reducible apply LS.ap_f); assumption; array_mem_dec; array_mem_dec; array_mem_dec)
  | ((with_reducible apply LS.ap_l); assumption; array_mem_dec; array_mem_dec; array_mem_dec)
  | (with_reducible apply LS.ni_nil)
  | ((with_reducible apply LS.ni_cons); array_mem_dec; array_mem_dec)
  | (with_reducible apply LS.trk_nil)
  | ((with_reducible apply LS.trk_cons); array_mem_dec; array_mem_dec)
  | (with_reducible apply LS.al_nil)
  | ((with_reducible apply LS.al_cons); array_mem_dec; array_mem_dec)
  | (with_reducible apply LS.mem_hd)
  | ((with_reducible apply LS.mem_tl); array_mem_dec)
  | ((with_reducible apply LS.fl_refl); array_mem_dec)
  | ((with_reducible apply LS.fl_l); assumption; array_mem_dec)
  | ((with_reducible apply LS.fl_lm); assumption; array_mem_dec; array_mem_dec)
  | (with_reducible apply LS.sub_nil)
  | ((with_reducible apply LS.sub_cons); array_mem_dec; array_mem_dec)
  | ((with_reducible apply LS.fl_s); assumption; array_mem_dec)
  | ((with_reducible apply LS.fl_m); assumption; array_mem_dec; array_mem_dec; array_mem_dec)
  | ((with_reducible apply LS.fl_n); assumption; array_mem_dec; array_mem_dec; array_mem_dec)
  | ((with_reducible apply LS.rt_refl); array_mem_dec)
  | ((with_reducible apply LS.rt_t); assumption; array_mem_dec)
  | ((with_reducible apply LS.rt_s); assumption; array_mem_dec)
  | ((with_reducible apply LS.rt_f); assumption; array_mem_dec; array_mem_dec; array_mem_dec)
  | ((with_reducible apply LS.sz); (first | decide | (simp only [List.length_append, List.length_map, List.length_cons, List.length_nil, List.length_replicate]; omega)))
  | ((with_reducible apply LS.szl); (first | decide | (simp only [List.length_append, List.length_map, List.length_cons, List.length_nil, List.length_replicate]; omega))))
local macro_rules | `(tactic| array_get_dec) => `(tactic| first
  | ((with_reducible apply LS.var); exact rfl)
  | (with_reducible apply LS.con)
  | (with_reducible apply LS.op)
  | (with_reducible apply LS.ri0)
  | (with_reducible apply LS.tseq)
  | (with_reducible apply LS.tasg)
  | (with_reducible apply LS.gname)
  | (with_reducible apply LS.tcons)
  | (with_reducible apply LS.tnil)
  | (with_reducible apply LS.tcb)
  | (with_reducible apply LS.tcall)
  | (with_reducible apply LS.ttest)
  | (with_reducible apply LS.k_b)
  | (with_reducible apply LS.tb)
  | (with_reducible apply LS.tifs)
  | (with_reducible apply LS.ift)
  | (with_reducible apply LS.iff_)
  | (with_reducible apply LS.ifnt)
  | (with_reducible apply LS.ifnf)
  | (with_reducible apply LS.tnext)
  | (with_reducible apply LS.tdrop)
  | (with_reducible apply LS.tret)
  | (with_reducible apply LS.tretn)
  | (with_reducible apply LS.un)
  | (with_reducible apply LS.ru)
  | (with_reducible apply LS.tyes)
  | (with_reducible apply LS.tand)
  | (with_reducible apply LS.tor)
  | (with_reducible apply LS.tnot)
  | (with_reducible apply LS.tif)
  | (with_reducible apply LS.tandv)
  | (with_reducible apply LS.k_av)
  | (with_reducible apply LS.torv)
  | (with_reducible apply LS.k_ov)
  | (with_reducible apply LS.tnotv)
  | (with_reducible apply LS.k_nv)
  | (with_reducible apply LS.tchain)
  | (with_reducible apply LS.k_ch)
  | (with_reducible apply LS.req_i)
  | (with_reducible apply LS.rne_i)
  | (with_reducible apply LS.req_s)
  | (with_reducible apply LS.rne_s)
  | (with_reducible apply LS.req_b)
  | (with_reducible apply LS.rne_b)
  | ((with_reducible apply LS.rin_i); array_mem_dec)
  | ((with_reducible apply LS.rni_i); array_mem_dec)
  | ((with_reducible apply LS.rlen_li); array_mem_dec)
  | ((with_reducible apply LS.rlen_ls); array_mem_dec)
  | ((with_reducible apply LS.rlen_l); array_mem_dec)
  | ((with_reducible apply LS.rlen_Ei); array_mem_dec)
  | ((with_reducible apply LS.rlen_E); array_mem_dec)
  | ((with_reducible apply LS.rlen_t); array_mem_dec)
  | ((with_reducible apply LS.rixl); array_mem_dec; exact rfl)
  | ((with_reducible apply LS.rixt); array_mem_dec; exact rfl)
  | (with_reducible apply LS.isi_int_int)
  | (with_reducible apply LS.isi_int_bool)
  | (with_reducible apply LS.isi_int_str)
  | (with_reducible apply LS.isi_str_int)
  | (with_reducible apply LS.isi_str_bool)
  | (with_reducible apply LS.isi_str_str)
  | (with_reducible apply LS.isi_bool_int)
  | (with_reducible apply LS.isi_bool_bool)
  | (with_reducible apply LS.isi_bool_str)
  | (with_reducible apply LS.isi_non_int)
  | (with_reducible apply LS.isi_non_bool)
  | (with_reducible apply LS.isi_non_str)
  | ((with_reducible apply LS.isi_list_int); array_mem_dec)
  | ((with_reducible apply LS.isi_list_bool); array_mem_dec)
  | ((with_reducible apply LS.isi_list_str); array_mem_dec)
  | ((with_reducible apply LS.isi_list_list); array_mem_dec)
  | ((with_reducible apply LS.isi_list_tuple); array_mem_dec)
  | ((with_reducible apply LS.isi_tuple_int); array_mem_dec)
  | ((with_reducible apply LS.isi_tuple_bool); array_mem_dec)
  | ((with_reducible apply LS.isi_tuple_str); array_mem_dec)
  | ((with_reducible apply LS.isi_tuple_list); array_mem_dec)
  | ((with_reducible apply LS.isi_tuple_tuple); array_mem_dec)
  | ((with_reducible apply LS.isiT_i); array_mem_dec)
  | ((with_reducible apply LS.isiT_s); array_mem_dec)
  | ((with_reducible apply LS.isiT_E); array_mem_dec; array_mem_dec)
  | (with_reducible apply LS.tfld)
  | ((with_reducible apply LS.k_fl); array_mem_dec; assumption; assumption; exact rfl)
  | (with_reducible apply LS.tmeth)
  | ((with_reducible apply LS.k_me); array_mem_dec; exact rfl)
  | (with_reducible apply LS.tmake)
  | (with_reducible apply LS.tsfld)
  | (with_reducible apply LS.tprop)
  | ((with_reducible apply LS.k_pr); array_mem_dec)
  | ((with_reducible apply LS.rlen_own); array_mem_dec)
  | (with_reducible apply LS.rabs)
  | (with_reducible apply LS.rmin2)
  | (with_reducible apply LS.rmax2)
  | (with_reducible apply LS.tsl)
  | (with_reducible apply LS.tthen)
  | (with_reducible apply LS.tstep)
  | (with_reducible apply LS.tnop)
  | (with_reducible apply LS.tpart)
  | (with_reducible apply LS.k_part)
  | (with_reducible apply LS.ttup)
  | (with_reducible apply LS.tlst)
  | (with_reducible apply LS.tbm)
  | (with_reducible apply LS.tbm0)
  | ((with_reducible apply LS.ty_l); array_mem_dec)
  | (with_reducible apply LS.tpar)
  | (with_reducible apply LS.tfor)
  | (with_reducible apply LS.tlc)
  | (with_reducible apply LS.ilist)
  | ((with_reducible apply LS.k_il); array_mem_dec)
  | (with_reducible apply LS.itup)
  | ((with_reducible apply LS.k_it); array_mem_dec)
  | (with_reducible apply LS.istr)
  | (with_reducible apply LS.k_is)
  | (with_reducible apply LS.irng1)
  | ((with_reducible apply LS.k_r1n); omega)
  | ((with_reducible apply LS.k_r1); (first | omega | decide); (first | omega | decide))
  | (with_reducible apply LS.irng2)
  | ((with_reducible apply LS.k_r2); (first | omega | decide); (first | omega | decide); (first | omega | decide); (first | omega | decide))
  | (with_reducible apply LS.ienum)
  | ((with_reducible apply LS.k_en); array_mem_dec)
  | (with_reducible apply LS.izip)
  | ((with_reducible apply LS.k_zip); array_mem_dec; array_mem_dec)
  | (with_reducible apply LS.tlstrg)
  | (with_reducible apply LS.trg1)
  | (with_reducible apply LS.k_g1)
  | (with_reducible apply LS.risn_i)
  | (with_reducible apply LS.risn_s)
  | (with_reducible apply LS.risn_n)
  | (with_reducible apply LS.rnotn_i)
  | (with_reducible apply LS.rnotn_n)
  | (with_reducible apply LS.rint_b)
  | (with_reducible apply LS.rint_i)
  | (with_reducible apply LS.tm0)
  | (with_reducible apply LS.tm1)
  | (with_reducible apply LS.is_str)
  | (with_reducible apply LS.ex_s0)
  | (with_reducible apply LS.ex_int_b)
  | (with_reducible apply LS.k_par)
  | (with_reducible apply LS.tpar3)
  | (with_reducible apply LS.k_par3)
  | ((with_reducible apply LS.taug); exact rfl)
  | (with_reducible apply LS.ipi)
  | ((with_reducible apply LS.gtup); array_mem_dec; exact rfl)
  | ((with_reducible apply LS.gunl); array_mem_dec; exact rfl)
  | (with_reducible apply LS.gnil)
  | (with_reducible apply LS.gcons)
  | (with_reducible apply LS.gsub)
  | ((with_reducible apply LS.ri); first | omega | decide | assumption | exact ⟨by decide, by decide, by decide⟩ | exact .inl ⟨by decide, by decide⟩ | exact .inr ⟨by decide, by decide⟩ | exact .inl ⟨by omega, by omega⟩ | exact .inr ⟨by omega, by omega⟩)
  | (with_reducible apply LS.ex_ss)
  | (with_reducible apply LS.ex_s1)
  | (with_reducible apply LS.ex_i1)
  | (with_reducible apply LS.and_rfl)
  | (with_reducible apply LS.and_tr)
  | (with_reducible apply LS.is_non))
local macro_rules | `(tactic| array_mem_dec) => `(tactic| first
  | ((with_reducible apply LP.lv_s); assumption; array_mem_dec)
  | ((with_reducible apply LP.lv_l); assumption; array_mem_dec; array_mem_dec; array_mem_dec)
  | ((with_reducible apply LP.lv_f); assumption; array_mem_dec; array_mem_dec; array_mem_dec)
  | ((with_reducible apply LP.lv_t); assumption; array_mem_dec; array_mem_dec; array_mem_dec)
  | ((with_reducible apply LP.ops_s); assumption; array_mem_dec)
  | ((with_reducible apply LP.md_s); assumption; array_mem_dec)
  | ((with_reducible apply LP.md_l); assumption; array_mem_dec; array_mem_dec; array_mem_dec)
  | ((with_reducible apply LP.md_f); assumption; array_mem_dec; array_mem_dec; array_mem_dec)
  | ((with_reducible apply LP.md_t); assumption; array_mem_dec; array_mem_dec; array_mem_dec)
  | ((with_reducible apply LP.al_s); assumption; array_mem_dec; array_mem_dec)
  | ((with_reducible apply LP.al_t); assumption; array_mem_dec; array_mem_dec)
  | ((with_reducible apply LP.al_l); assumption; array_mem_dec; array_mem_dec; array_mem_dec)
  | ((with_reducible apply LP.al_f); assumption; array_mem_dec; array_mem_dec; array_mem_dec)
  | ((with_reducible apply LP.Lv.lists); array_mem_dec)
  | ((with_reducible apply LP.Lv.trk); array_mem_dec)
  | ((with_reducible apply LP.Mdl.trk); array_mem_dec)
  | ((with_reducible apply LP.al_no); assumption; array_mem_dec))
local macro_rules | `(tactic| array_get_dec) => `(tactic| first
  | (with_reducible apply LS.tcalle)
  | (with_reducible apply LS.tcalls))
local macro_rules | `(tactic| array_get_dec) => `(tactic| first
  | (with_reducible apply LS.tmethv)
  | (with_reducible apply LS.tmakev)
  | (with_reducible apply LS.rnotn_rr)
  | (with_reducible apply LS.risn_rr)
  | ((with_reducible apply LS.k_mev); array_mem_dec; exact rfl))
local macro_rules | `(tactic| array_get_dec) => `(tactic| first
  | (with_reducible apply LS.trg2)
  | (with_reducible apply LS.k_g2))

section
variable {P : Program} {w : World} {K : PySem.W.Frag} {mg : Str → Option Value} {base : Heap}

theorem okx_read_line (e : Env w K mg) : FnOk P w K mg base (L2.CX P w) 2 e.a_read_line e.d_read_line ["line"] (fun vs H Q E => (sp_read_line vs H Q E ∨ sp_read_line40 vs H Q E) ∨ spE_read_line K e.C_InvalidCommand vs H Q E) := LX.fn_both (LX.fn_cx (LX.fn_both (ok_read_line e) (ok40_read_line e))) (okE_read_line e)
/-- what execute raises -/
def spE_execute (K : PySem.W.Frag) (C D Cc CI CU CP CB : Addr) : Sp := fun vs H Q E => ∃ (co dc : Addr) (A : Ad) (s : Sim) (ss : List Stp) (x : V), vs = [.ref co, x] ∧ Con C D Cc H co dc A s ss ∧
  ((BadL K H x ∧ ∀ H', Same H H' → E (.ref CI) none H') ∨ (x = .str "undo" ∧ ss = [] ∧ ∀ H', Same H H' → E (.ref CU) none H') ∨ ∃ o : Op, x = .str (cmd o) ∧ 0 ≤ o.2 ∧ o.2 ≤ 10 ^ 40 ∧ stp s o = none ∧ ∀ H', Same H H' → E (.ref (if o.1 = true then CP else CB)) none H')
theorem okE_Console_execute (e : Env w K mg) : FnOk P w K mg base (L2.CX P w) 6 e.a_Console_execute e.d_Console_execute ["self", "line"] (spE_execute K e.C_LiveShelf e.C_Shelf e.C_Console e.C_InvalidCommand e.C_NothingToUndo e.C_InvalidPlace e.C_InvalidBook) := by
  refine Fun.okX e.f_Console_execute sc_Console_execute (fun vs H Q E h => ?_) (fun cdv A outer s H vs Q E hr h => ?_)
  · obtain ⟨co, dc, A, s, ss, x, rfl, _⟩ := h; rfl
  · obtain ⟨co, dc, A, s, ss, x, rfl, c, h⟩ := h
    refine ⟨_, (pss_cons (ps_asg (pe_call ((okx_read_line e).mono (by decide)) hr rfl e.g_read_line e.f_read_line.kp e.b_read_line .nil (passes_call (takes_of rfl rfl rfl rfl) (fun _ _ _ _ h => h)) (pa_cons (pv 1) pa_nil)) (pg_tup (by rfl) (pgs_cons (pg_name (i := 2) sc_Console_execute.nd rfl (by first | exact Or.inl rfl | exact Or.inr rfl)) (pgs_cons (pg_name (i := 3) sc_Console_execute.nd rfl (by first | exact Or.inl rfl | exact Or.inr rfl)) pgs_nil))))
      (pss_cons (ps_if (pt_cmpR op_eq (pv 2) pe_str (nomark _))
        (pss_one (ps_ret (pe_callTy LS.call_strI (by rfl) e.n_str (by decide +kernel) (pa_cons (pe_meth (pe_fld (pv 0) rfl) e.cl_LiveShelf e.m_LiveShelf_take_book ((okx_LiveShelf_take_book e).mono (by decide)) hr e.b_LiveShelf_take_book .nil (passes_call (takes_of rfl rfl rfl rfl) (fun _ _ _ _ h => h)) (pa_cons (pv 3) pa_nil)) pa_nil))))
        pss_nil)
      (pss_cons (ps_if (pt_cmpR op_eq (pv 2) pe_str (nomark _))
        (pss_one (ps_ret (pe_callTy LS.call_strI (by rfl) e.n_str (by decide +kernel) (pa_cons (pe_meth (pe_fld (pv 0) rfl) e.cl_LiveShelf e.m_LiveShelf_return_book ((okx_LiveShelf_return_book e).mono (by decide)) hr e.b_LiveShelf_return_book .nil (passes_call (takes_of rfl rfl rfl rfl) (fun _ _ _ _ h => h)) (pa_cons (pv 3) pa_nil)) pa_nil))))
        pss_nil)
      (pss_cons (ps_set (i := 4) sc_Console_execute.nd rfl (by first | exact Or.inl rfl | exact Or.inr rfl) (pe_ix ix_kdict (pe_glob (v := V.ref e.x_ANSWERS) rfl e.g_ANSWERS rfl) (pv 2) (fun _ _ => rfl)))
      (pss_one (ps_ret (LX.pe_callRX (i := 4) (.cons ((okx_undo_last e).mono (by decide)) e.f_undo_last.kp e.b_undo_last .nil) hr rfl (by first | exact Or.inl rfl | exact Or.inr (Or.inl rfl) | exact Or.inr (Or.inr rfl)) (passes_call (takes_of rfl rfl rfl rfl) (fun _ _ _ _ h => h)) (pa_cons (pe_fld (pv 0) rfl) pa_nil)))))))), ?_⟩
    have c_Shelf := e.cl_Shelf; have a_Shelf_books := e.nA_Shelf_books; have a_Shelf_out := e.nA_Shelf_out; have c_LiveShelf := e.cl_LiveShelf; have a_LiveShelf__shelf := e.nA_LiveShelf__shelf; have a_LiveShelf__steps := e.nA_LiveShelf__steps; have c_Console := e.cl_Console; have a_Console__live := e.nA_Console__live
    repeat array_get_dec
    rcases h with ⟨hb, k⟩ | ⟨rfl, rfl, k⟩ | ⟨o, rfl, h0, h1, hn, k⟩
    · exact .inr ⟨x, rfl, hb, k⟩
    · refine .inl (.inl (.inl ⟨"undo", rfl, by simp, fun H1 t nt s1 h1 => ?_⟩))
      have l1 := lv_s s1 c.lv
      have hob := s1 _ _ c.ob
      have hlx := l1.ob
      repeat array_get_dec
      rw [decide_eq_false (show ¬ ("undo" : Str) = "take" by decide +kernel)]
      repeat array_get_dec
      rw [decide_eq_false (show ¬ ("undo" : Str) = "return" by decide +kernel)]
      repeat array_get_dec
      refine ⟨_, _, _, rfl, rfl, e.wd_ANSWERS.kdct (u := .ref e.a_undo_last) (v := .ref e.a_undo_last) rfl rfl, ?_⟩
      repeat array_get_dec
      refine ⟨0, _, _, rfl, rfl, ?_⟩
      repeat array_get_dec
      exact ⟨A, s, rfl, l1, k H1 s1⟩
    · refine .inl (.inr ⟨o, rfl, h0, h1, fun H1 t nt s1 h1 => ?_⟩)
      have l1 := lv_s s1 c.lv
      have hob := s1 _ _ c.ob
      have hlx := l1.ob
      repeat array_get_dec
      refine LS.if2 (fun hk => ?_) fun hk => ?_
      · obtain ⟨kd, num⟩ := o
        cases kd with
        | false => exact absurd hk kst_f2
        | true =>
          repeat array_get_dec
          exact ⟨A, s, ss, num, rfl, l1, hn, k H1 s1⟩
      · obtain ⟨kd, num⟩ := o
        cases kd with
        | true => exact absurd kst_t2 hk
        | false =>
          repeat array_get_dec
          rw [show decide (kst false = "return") = true by decide]
          repeat array_get_dec
          exact ⟨A, s, ss, num, rfl, l1, hn, k H1 s1⟩
theorem okx_Console_execute (e : Env w K mg) : FnOk P w K mg base (L2.CX P w) 6 e.a_Console_execute e.d_Console_execute ["self", "line"] (fun vs H Q E => sp_Console_execute e.C_LiveShelf e.C_Shelf e.C_Console vs H Q E ∨ spE_execute K e.C_LiveShelf e.C_Shelf e.C_Console e.C_InvalidCommand e.C_NothingToUndo e.C_InvalidPlace e.C_InvalidBook vs H Q E) := LX.fn_both (LX.fn_cx (ok_Console_execute e)) (okE_Console_execute e)
end
end LP

namespace LP
open PySem L2 LT LG LQ LH LC LX LR
local macro_rules | `(tactic| array_mem_dec) => `(tactic| first
  | assumption
  | ((with_reducible apply LS.hp_s); assumption; array_mem_dec)
  | ((with_reducible apply LS.hp_f); assumption; array_mem_dec; array_mem_dec)
  | ((with_reducible apply LS.hp_t); assumption; array_mem_dec; array_mem_dec)
  | ((with_reducible apply LS.hp_l); assumption; array_mem_dec; array_mem_dec)
  | ((with_reducible apply LS.sq_o); array_mem_dec)
  | ((with_reducible apply LS.sq_s); assumption; array_mem_dec)
  | ((with_reducible apply LS.sq_f); assumption; array_mem_dec; array_mem_dec)
  | ((with_reducible apply LS.sq_t); assumption; array_mem_dec; array_mem_dec)
  | ((with_reducible apply LS.sq_l); assumption; array_mem_dec; array_mem_dec)
  | ((with_reducible apply LS.tu_o); array_mem_dec)
  | ((with_reducible apply LS.tu_s); assumption; array_mem_dec)
  | ((with_reducible apply LS.tu_f); assumption; array_mem_dec; array_mem_dec)
  | ((with_reducible apply LS.tu_t); assumption; array_mem_dec; array_mem_dec)
  | ((with_reducible apply LS.tu_l); assumption; array_mem_dec; array_mem_dec)
  | ((with_reducible apply LS.se_l); array_mem_dec)
  | ((with_reducible apply LS.se_t); array_mem_dec)
  | ((with_reducible apply LS.se_s); assumption; array_mem_dec)
  | ((with_reducible apply LS.se_f); assumption; array_mem_dec; array_mem_dec)
  | ((with_reducible apply LS.se_tt); assumption; array_mem_dec; array_mem_dec)
  | ((with_reducible exact Same.refl _))
  | ((with_reducible apply LS.sm_s); assumption; array_mem_dec)
  | ((with_reducible apply LS.sm_f); assumption; array_mem_dec; array_mem_dec)
  | ((with_reducible exact Fr.refl _ _))
  | ((with_reducible apply LS.fr_b); assumption; array_mem_dec)
  | ((with_reducible apply LS.fr_s); assumption; array_mem_dec)
  | ((with_reducible apply LS.fr_n); assumption; array_mem_dec; array_mem_dec)
  | ((with_reducible apply LS.fr_t); assumption; array_mem_dec)
  | ((with_reducible apply LS.no_s); assumption; array_mem_dec)
  | ((with_reducible apply LS.no_f); assumption; array_mem_dec; array_mem_dec)
  | ((with_reducible apply LS.no_t); assumption; array_mem_dec)
  | ((with_reducible apply LS.no_l); assumption; assumption)
  | ((with_reducible apply Ne.symm); assumption)
  | ((with_reducible apply LS.ne_a); assumption; array_mem_dec)
  | ((with_reducible apply LS.ne_b); assumption; array_mem_dec)
  | ((with_reducible apply LS.ne_ap); assumption)
  | ((with_reducible apply LS.ne_il); assumption; array_mem_dec)
  | ((with_reducible apply LS.ne_li); assumption; array_mem_dec)
  | ((with_reducible apply LS.ne_lt); assumption; assumption)
  | ((with_reducible apply LS.ne_tl); assumption; assumption)
  | ((with_reducible apply LS.ne_rl); assumption; array_mem_dec)
  | ((with_reducible apply LS.rl_t); assumption)
  | ((with_reducible apply LS.rl_s); assumption; array_mem_dec)
  | ((with_reducible apply LS.rl_f); assumption; array_mem_dec; array_mem_dec)
  | ((with_reducible apply LS.rl_l); assumption; array_mem_dec; array_mem_dec)
  | ((with_reducible apply LS.ap_new); assumption; assumption; array_mem_dec)
  | ((with_reducible apply LS.ap_t); assumption; array_mem_dec; array_mem_dec)
  | ((with_reducible apply LS.ap_s); assumption; array_mem_dec; array_mem_dec)
  | ((with_reducible apply LS.ap_f); assumption; array_mem_dec; array_mem_dec; array_mem_dec)
  | ((with_reducible apply LS.ap_l); assumption; array_mem_dec; array_mem_dec; array_mem_dec)
  | (with_reducible apply LS.ni_nil)
  | ((with_reducible apply LS.ni_cons); array_mem_dec; array_mem_dec)
  | (with_reducible apply LS.trk_nil)
  | ((with_reducible apply LS.trk_cons); array_mem_dec; array_mem_dec)
  | (with_reducible apply LS.al_nil)
  | ((with_reducible apply LS.al_cons); array_mem_dec; array_mem_dec)
  | (with_reducible apply LS.mem_hd)
  | ((with_reducible apply LS.mem_tl); array_mem_dec)
  | ((with_reducible apply LS.fl_refl); array_mem_dec)
  | ((with_reducible apply LS.fl_l); assumption; array_mem_dec)
  | ((with_reducible apply LS.fl_lm); assumption; array_mem_dec; array_mem_dec)
  | (with_reducible apply LS.sub_nil)
  | ((with_reducible apply LS.sub_cons); array_mem_dec; array_mem_dec)
  | ((with_reducible apply LS.fl_s); assumption; array_mem_dec)
  | ((with_reducible apply LS.fl_m); assumption; array_mem_dec; array_mem_dec; array_mem_dec)
  | ((with_reducible apply LS.fl_n); assumption; array_mem_dec; array_mem_dec; array_mem_dec)
  | ((with_reducible apply LS.rt_refl); array_mem_dec)
  | ((with_reducible apply LS.rt_t); assumption; array_mem_dec)
  | ((with_reducible apply LS.rt_s); assumption; array_mem_dec)
  | ((with_reducible apply LS.rt_f); assumption; array_mem_dec; array_mem_dec; array_mem_dec)
  | ((with_reducible apply LS.sz); (first | decide | (simp only [List.length_append, List.length_map, List.length_cons, List.length_nil, List.length_replicate]; omega)))
  | ((with_reducible apply LS.szl); (first | decide | (simp only [List.length_append, List.length_map, List.length_cons, List.length_nil, List.length_replicate]; omega))))
local macro_rules | `(tactic| array_get_dec) => `(tactic| first
  | ((with_reducible apply LS.var); exact rfl)
  | (with_reducible apply LS.con)
  | (with_reducible apply LS.op)
  | (with_reducible apply LS.ri0)
  | (with_reducible apply LS.tseq)
  | (with_reducible apply LS.tasg)
  | (with_reducible apply LS.gname)
  | (with_reducible apply LS.tcons)
  | (with_reducible apply LS.tnil)
  | (with_reducible apply LS.tcb)
  | (with_reducible apply LS.tcall)
  | (with_reducible apply LS.ttest)
  | (with_reducible apply LS.k_b)
  | (with_reducible apply LS.tb)
  | (with_reducible apply LS.tifs)
  | (with_reducible apply LS.ift)
  | (with_reducible apply LS.iff_)
  | (with_reducible apply LS.ifnt)
  | (with_reducible apply LS.ifnf)
  | (with_reducible apply LS.tnext)
  | (with_reducible apply LS.tdrop)
  | (with_reducible apply LS.tret)
  | (with_reducible apply LS.tretn)
  | (with_reducible apply LS.un)
  | (with_reducible apply LS.ru)
  | (with_reducible apply LS.tyes)
  | (with_reducible apply LS.tand)
  | (with_reducible apply LS.tor)
  | (with_reducible apply LS.tnot)
  | (with_reducible apply LS.tif)
  | (with_reducible apply LS.tandv)
  | (with_reducible apply LS.k_av)
  | (with_reducible apply LS.torv)
  | (with_reducible apply LS.k_ov)
  | (with_reducible apply LS.tnotv)
  | (with_reducible apply LS.k_nv)
  | (with_reducible apply LS.tchain)
  | (with_reducible apply LS.k_ch)
  | (with_reducible apply LS.req_i)
  | (with_reducible apply LS.rne_i)
  | (with_reducible apply LS.req_s)
  | (with_reducible apply LS.rne_s)
  | (with_reducible apply LS.req_b)
  | (with_reducible apply LS.rne_b)
  | ((with_reducible apply LS.rin_i); array_mem_dec)
  | ((with_reducible apply LS.rni_i); array_mem_dec)
  | ((with_reducible apply LS.rlen_li); array_mem_dec)
  | ((with_reducible apply LS.rlen_ls); array_mem_dec)
  | ((with_reducible apply LS.rlen_l); array_mem_dec)
  | ((with_reducible apply LS.rlen_Ei); array_mem_dec)
  | ((with_reducible apply LS.rlen_E); array_mem_dec)
  | ((with_reducible apply LS.rlen_t); array_mem_dec)
  | ((with_reducible apply LS.rixl); array_mem_dec; exact rfl)
  | ((with_reducible apply LS.rixt); array_mem_dec; exact rfl)
  | (with_reducible apply LS.isi_int_int)
  | (with_reducible apply LS.isi_int_bool)
  | (with_reducible apply LS.isi_int_str)
  | (with_reducible apply LS.isi_str_int)
  | (with_reducible apply LS.isi_str_bool)
  | (with_reducible apply LS.isi_str_str)
  | (with_reducible apply LS.isi_bool_int)
  | (with_reducible apply LS.isi_bool_bool)
  | (with_reducible apply LS.isi_bool_str)
  | (with_reducible apply LS.isi_non_int)
  | (with_reducible apply LS.isi_non_bool)
  | (with_reducible apply LS.isi_non_str)
  | ((with_reducible apply LS.isi_list_int); array_mem_dec)
  | ((with_reducible apply LS.isi_list_bool); array_mem_dec)
  | ((with_reducible apply LS.isi_list_str); array_mem_dec)
  | ((with_reducible apply LS.isi_list_list); array_mem_dec)
  | ((with_reducible apply LS.isi_list_tuple); array_mem_dec)
  | ((with_reducible apply LS.isi_tuple_int); array_mem_dec)
  | ((with_reducible apply LS.isi_tuple_bool); array_mem_dec)
  | ((with_reducible apply LS.isi_tuple_str); array_mem_dec)
  | ((with_reducible apply LS.isi_tuple_list); array_mem_dec)
  | ((with_reducible apply LS.isi_tuple_tuple); array_mem_dec)
  | ((with_reducible apply LS.isiT_i); array_mem_dec)
  | ((with_reducible apply LS.isiT_s); array_mem_dec)
  | ((with_reducible apply LS.isiT_E); array_mem_dec; array_mem_dec)
  | (with_reducible apply LS.tfld)
  | ((with_reducible apply LS.k_fl); array_mem_dec; assumption; assumption; exact rfl)
  | (with_reducible apply LS.tmeth)
  | ((with_reducible apply LS.k_me); array_mem_dec; exact rfl)
  | (with_reducible apply LS.tmake)
  | (with_reducible apply LS.tsfld)
  | (with_reducible apply LS.tprop)
  | ((with_reducible apply LS.k_pr); array_mem_dec)
  | ((with_reducible apply LS.rlen_own); array_mem_dec)
  | (with_reducible apply LS.rabs)
  | (with_reducible apply LS.rmin2)
  | (with_reducible apply LS.rmax2)
  | (with_reducible apply LS.tsl)
  | (with_reducible apply LS.tthen)
  | (with_reducible apply LS.tstep)
  | (with_reducible apply LS.tnop)
  | (with_reducible apply LS.tpart)
  | (with_reducible apply LS.k_part)
  | (with_reducible apply LS.ttup)
  | (with_reducible apply LS.tlst)
  | (with_reducible apply LS.tbm)
  | (with_reducible apply LS.tbm0)
  | ((with_reducible apply LS.ty_l); array_mem_dec)
  | (with_reducible apply LS.tpar)
  | (with_reducible apply LS.tfor)
  | (with_reducible apply LS.tlc)
  | (with_reducible apply LS.ilist)
  | ((with_reducible apply LS.k_il); array_mem_dec)
  | (with_reducible apply LS.itup)
  | ((with_reducible apply LS.k_it); array_mem_dec)
  | (with_reducible apply LS.istr)
  | (with_reducible apply LS.k_is)
  | (with_reducible apply LS.irng1)
  | ((with_reducible apply LS.k_r1n); omega)
  | ((with_reducible apply LS.k_r1); (first | omega | decide); (first | omega | decide))
  | (with_reducible apply LS.irng2)
  | ((with_reducible apply LS.k_r2); (first | omega | decide); (first | omega | decide); (first | omega | decide); (first | omega | decide))
  | (with_reducible apply LS.ienum)
  | ((with_reducible apply LS.k_en); array_mem_dec)
  | (with_reducible apply LS.izip)
  | ((with_reducible apply LS.k_zip); array_mem_dec; array_mem_dec)
  | (with_reducible apply LS.tlstrg)
  | (with_reducible apply LS.trg1)
  | (with_reducible apply LS.k_g1)
  | (with_reducible apply LS.risn_i)
  | (with_reducible apply LS.risn_s)
  | (with_reducible apply LS.risn_n)
  | (with_reducible apply LS.rnotn_i)
  | (with_reducible apply LS.rnotn_n)
  | (with_reducible apply LS.rint_b)
  | (with_reducible apply LS.rint_i)
  | (with_reducible apply LS.tm0)
  | (with_reducible apply LS.tm1)
  | (with_reducible apply LS.is_str)
  | (with_reducible apply LS.ex_s0)
  | (with_reducible apply LS.ex_int_b)
  | (with_reducible apply LS.k_par)
  | (with_reducible apply LS.tpar3)
  | (with_reducible apply LS.k_par3)
  | ((with_reducible apply LS.taug); exact rfl)
  | (with_reducible apply LS.ipi)
  | ((with_reducible apply LS.gtup); array_mem_dec; exact rfl)
  | ((with_reducible apply LS.gunl); array_mem_dec; exact rfl)
  | (with_reducible apply LS.gnil)
  | (with_reducible apply LS.gcons)
  | (with_reducible apply LS.gsub)
  | ((with_reducible apply LS.ri); first | omega | decide | assumption | exact ⟨by decide, by decide, by decide⟩ | exact .inl ⟨by decide, by decide⟩ | exact .inr ⟨by decide, by decide⟩ | exact .inl ⟨by omega, by omega⟩ | exact .inr ⟨by omega, by omega⟩)
  | (with_reducible apply LS.ex_ss)
  | (with_reducible apply LS.ex_s1)
  | (with_reducible apply LS.ex_i1)
  | (with_reducible apply LS.and_rfl)
  | (with_reducible apply LS.and_tr)
  | (with_reducible apply LS.is_non))
local macro_rules | `(tactic| array_mem_dec) => `(tactic| first
  | ((with_reducible apply LP.lv_s); assumption; array_mem_dec)
  | ((with_reducible apply LP.lv_l); assumption; array_mem_dec; array_mem_dec; array_mem_dec)
  | ((with_reducible apply LP.lv_f); assumption; array_mem_dec; array_mem_dec; array_mem_dec)
  | ((with_reducible apply LP.lv_t); assumption; array_mem_dec; array_mem_dec; array_mem_dec)
  | ((with_reducible apply LP.ops_s); assumption; array_mem_dec)
  | ((with_reducible apply LP.md_s); assumption; array_mem_dec)
  | ((with_reducible apply LP.md_l); assumption; array_mem_dec; array_mem_dec; array_mem_dec)
  | ((with_reducible apply LP.md_f); assumption; array_mem_dec; array_mem_dec; array_mem_dec)
  | ((with_reducible apply LP.md_t); assumption; array_mem_dec; array_mem_dec; array_mem_dec)
  | ((with_reducible apply LP.al_s); assumption; array_mem_dec; array_mem_dec)
  | ((with_reducible apply LP.al_t); assumption; array_mem_dec; array_mem_dec)
  | ((with_reducible apply LP.al_l); assumption; array_mem_dec; array_mem_dec; array_mem_dec)
  | ((with_reducible apply LP.al_f); assumption; array_mem_dec; array_mem_dec; array_mem_dec)
  | ((with_reducible apply LP.Lv.lists); array_mem_dec)
  | ((with_reducible apply LP.Lv.trk); array_mem_dec)
  | ((with_reducible apply LP.Mdl.trk); array_mem_dec)
  | ((with_reducible apply LP.al_no); assumption; array_mem_dec))
local macro_rules | `(tactic| array_get_dec) => `(tactic| first
  | (with_reducible apply LS.tcalle)
  | (with_reducible apply LS.tcalls))
local macro_rules | `(tactic| array_get_dec) => `(tactic| first
  | (with_reducible apply LS.tmethv)
  | (with_reducible apply LS.tmakev)
  | (with_reducible apply LS.rnotn_rr)
  | (with_reducible apply LS.risn_rr)
  | ((with_reducible apply LS.k_mev); array_mem_dec; exact rfl))
local macro_rules | `(tactic| array_get_dec) => `(tactic| first
  | (with_reducible apply LS.trg2)
  | (with_reducible apply LS.k_g2))

section
variable {P : Program} {w : World} {K : PySem.W.Frag} {mg : Str → Option Value} {base : Heap}

theorem filt_snoc {α : Type} (g : α → Bool) {l : List α} {j : Nat} {c : α} (h : l[j]? = some c) : (l.take (j + 1)).filter g = (l.take j).filter g ++ if g c = true then [c] else [] := by
  rw [List.take_add_one, h, List.filter_append]
  congr 1
  by_cases q : g c = true
  · rw [if_pos q, Option.toList_some, List.filter_cons, if_pos q]; rfl
  · rw [if_neg q, Option.toList_some, List.filter_cons, if_neg q]; rfl
def kinds : List Str := ["size", "places", "pair", "pattern", "number", "facts", "offsets", "place", "book", "undo", "command", "schedule", "obstructed", "contradiction", "many", "text", "odd", "odd"]
def RT (H : Hp) (x : V) (p : Str × Bool) : Prop := ∃ t, x = .ref t ∧ H t = some (.tup [.str p.1, .bl p.2])
/-- a list of names and whether each is one -/
def TW (H : Hp) (xs : List V) (L : List (Str × Bool)) : Prop := xs.length = L.length ∧ ∀ (i : Nat) x p, xs[i]? = some x → L[i]? = some p → RT H x p
theorem TW.same {H H' : Hp} {xs : List V} {L : List (Str × Bool)} (h : TW H xs L) (s : Same H H') : TW H' xs L := ⟨h.1, fun i x p a b => by
  obtain ⟨t, e, q⟩ := h.2 i x p a b
  exact ⟨t, e, s _ _ q⟩⟩
theorem TW.two {H : Hp} {xs : List V} {L : List (Str × Bool)} {t u : Addr} {p q : Str × Bool} (h : TW H xs L) (h1 : H t = some (.tup [.str p.1, .bl p.2])) (h2 : H u = some (.tup [.str q.1, .bl q.2])) : TW H (xs ++ [.ref t, .ref u]) (L ++ [p, q]) :=
  ⟨by rw [List.length_append, List.length_append, h.1]; rfl, fa_app h.1 h.2 (fun i x r a b => by
    match i, a, b with
    | 0, a, b => cases a; cases b; exact ⟨t, rfl, h1⟩
    | 1, a, b => cases a; cases b; exact ⟨u, rfl, h2⟩
    | n + 2, a, b => simp at a)⟩
theorem TW.nil {H : Hp} : TW H [] [] := ⟨rfl, fun i x p h => by simp at h⟩
def sp__law_kind_of (K : PySem.W.Frag) (CS : List Addr) : Sp := fun vs H Q _ => ∃ (a D : Addr) (bs : List Bool) (nm : Str), vs = [.ref a] ∧ H a = some (ExH (.ref D) none a) ∧ ExcC K D ∧ bs.length = 18 ∧ (∀ (i : Nat) C b, CS[i]? = some C → bs[i]? = some b → PySem.W.kitOne K (.ref D) (.ref C) = some b) ∧
  PySem.W.kitOne K (.ref D) (.type "ValueError") = some true ∧ ((kinds.zip bs).filter fun p => p.2) = [(nm, true)] ∧ ∀ H', Same H H' → Q (.str nm) H'
theorem ok__law_kind_of (e : Env w K mg) : FnOk P w K mg base CX0 1 e.a__law_kind_of e.d__law_kind_of ["e"] (sp__law_kind_of K [e.C_InvalidSize, e.C_InvalidPlaces, e.C_InvalidPair, e.C_InvalidPattern, e.C_InvalidNumber, e.C_InvalidFacts, e.C_InvalidOffsets, e.C_InvalidPlace, e.C_InvalidBook, e.C_NothingToUndo, e.C_InvalidCommand, e.C_InvalidSchedule, e.C_Obstructed, e.C_Contradiction, e.C_TooMany, e.C_InvalidText, e.C_InvalidOrder, e.C_InvalidWishes]) := by
  refine Fun.ok e.f__law_kind_of sc__law_kind_of (fun vs H Q E h => ?_) (fun cdv A outer s H vs Q E hr h => ?_)
  · obtain ⟨a, D, bs, nm, rfl, _⟩ := h; rfl
  · obtain ⟨a, D, bs, nm, rfl, ha, xk, bl, hk, hv, hf, k⟩ := h
    refine ⟨_, (pss_cons (ps_set (i := 1) sc__law_kind_of.nd rfl (by first | exact Or.inl rfl | exact Or.inr rfl) (pe_lst (pa_cons (pe_tup (pa_cons pe_str (pa_cons (pe_callB cr_isK (by rfl) e.n_isinstance (by decide +kernel) (pa_cons (pv 0) (pa_cons (pe_glob (v := V.ref e.C_InvalidSize) rfl e.g_InvalidSize rfl) pa_nil))) pa_nil))) (pa_cons (pe_tup (pa_cons pe_str (pa_cons (pe_callB cr_isK (by rfl) e.n_isinstance (by decide +kernel) (pa_cons (pv 0) (pa_cons (pe_glob (v := V.ref e.C_InvalidPlaces) rfl e.g_InvalidPlaces rfl) pa_nil))) pa_nil))) pa_nil))))
      (pss_cons (ps_set (i := 1) sc__law_kind_of.nd rfl (by first | exact Or.inl rfl | exact Or.inr rfl) (pe_op op_cat (pv 1) (pe_lst (pa_cons (pe_tup (pa_cons pe_str (pa_cons (pe_callB cr_isK (by rfl) e.n_isinstance (by decide +kernel) (pa_cons (pv 0) (pa_cons (pe_glob (v := V.ref e.C_InvalidPair) rfl e.g_InvalidPair rfl) pa_nil))) pa_nil))) (pa_cons (pe_tup (pa_cons pe_str (pa_cons (pe_callB cr_isK (by rfl) e.n_isinstance (by decide +kernel) (pa_cons (pv 0) (pa_cons (pe_glob (v := V.ref e.C_InvalidPattern) rfl e.g_InvalidPattern rfl) pa_nil))) pa_nil))) pa_nil)))))
      (pss_cons (ps_set (i := 1) sc__law_kind_of.nd rfl (by first | exact Or.inl rfl | exact Or.inr rfl) (pe_op op_cat (pv 1) (pe_lst (pa_cons (pe_tup (pa_cons pe_str (pa_cons (pe_callB cr_isK (by rfl) e.n_isinstance (by decide +kernel) (pa_cons (pv 0) (pa_cons (pe_glob (v := V.ref e.C_InvalidNumber) rfl e.g_InvalidNumber rfl) pa_nil))) pa_nil))) (pa_cons (pe_tup (pa_cons pe_str (pa_cons (pe_callB cr_isK (by rfl) e.n_isinstance (by decide +kernel) (pa_cons (pv 0) (pa_cons (pe_glob (v := V.ref e.C_InvalidFacts) rfl e.g_InvalidFacts rfl) pa_nil))) pa_nil))) pa_nil)))))
      (pss_cons (ps_set (i := 1) sc__law_kind_of.nd rfl (by first | exact Or.inl rfl | exact Or.inr rfl) (pe_op op_cat (pv 1) (pe_lst (pa_cons (pe_tup (pa_cons pe_str (pa_cons (pe_callB cr_isK (by rfl) e.n_isinstance (by decide +kernel) (pa_cons (pv 0) (pa_cons (pe_glob (v := V.ref e.C_InvalidOffsets) rfl e.g_InvalidOffsets rfl) pa_nil))) pa_nil))) (pa_cons (pe_tup (pa_cons pe_str (pa_cons (pe_callB cr_isK (by rfl) e.n_isinstance (by decide +kernel) (pa_cons (pv 0) (pa_cons (pe_glob (v := V.ref e.C_InvalidPlace) rfl e.g_InvalidPlace rfl) pa_nil))) pa_nil))) pa_nil)))))
      (pss_cons (ps_set (i := 1) sc__law_kind_of.nd rfl (by first | exact Or.inl rfl | exact Or.inr rfl) (pe_op op_cat (pv 1) (pe_lst (pa_cons (pe_tup (pa_cons pe_str (pa_cons (pe_callB cr_isK (by rfl) e.n_isinstance (by decide +kernel) (pa_cons (pv 0) (pa_cons (pe_glob (v := V.ref e.C_InvalidBook) rfl e.g_InvalidBook rfl) pa_nil))) pa_nil))) (pa_cons (pe_tup (pa_cons pe_str (pa_cons (pe_callB cr_isK (by rfl) e.n_isinstance (by decide +kernel) (pa_cons (pv 0) (pa_cons (pe_glob (v := V.ref e.C_NothingToUndo) rfl e.g_NothingToUndo rfl) pa_nil))) pa_nil))) pa_nil)))))
      (pss_cons (ps_set (i := 1) sc__law_kind_of.nd rfl (by first | exact Or.inl rfl | exact Or.inr rfl) (pe_op op_cat (pv 1) (pe_lst (pa_cons (pe_tup (pa_cons pe_str (pa_cons (pe_callB cr_isK (by rfl) e.n_isinstance (by decide +kernel) (pa_cons (pv 0) (pa_cons (pe_glob (v := V.ref e.C_InvalidCommand) rfl e.g_InvalidCommand rfl) pa_nil))) pa_nil))) (pa_cons (pe_tup (pa_cons pe_str (pa_cons (pe_callB cr_isK (by rfl) e.n_isinstance (by decide +kernel) (pa_cons (pv 0) (pa_cons (pe_glob (v := V.ref e.C_InvalidSchedule) rfl e.g_InvalidSchedule rfl) pa_nil))) pa_nil))) pa_nil)))))
      (pss_cons (ps_set (i := 1) sc__law_kind_of.nd rfl (by first | exact Or.inl rfl | exact Or.inr rfl) (pe_op op_cat (pv 1) (pe_lst (pa_cons (pe_tup (pa_cons pe_str (pa_cons (pe_callB cr_isK (by rfl) e.n_isinstance (by decide +kernel) (pa_cons (pv 0) (pa_cons (pe_glob (v := V.ref e.C_Obstructed) rfl e.g_Obstructed rfl) pa_nil))) pa_nil))) (pa_cons (pe_tup (pa_cons pe_str (pa_cons (pe_callB cr_isK (by rfl) e.n_isinstance (by decide +kernel) (pa_cons (pv 0) (pa_cons (pe_glob (v := V.ref e.C_Contradiction) rfl e.g_Contradiction rfl) pa_nil))) pa_nil))) pa_nil)))))
      (pss_cons (ps_set (i := 1) sc__law_kind_of.nd rfl (by first | exact Or.inl rfl | exact Or.inr rfl) (pe_op op_cat (pv 1) (pe_lst (pa_cons (pe_tup (pa_cons pe_str (pa_cons (pe_callB cr_isK (by rfl) e.n_isinstance (by decide +kernel) (pa_cons (pv 0) (pa_cons (pe_glob (v := V.ref e.C_TooMany) rfl e.g_TooMany rfl) pa_nil))) pa_nil))) (pa_cons (pe_tup (pa_cons pe_str (pa_cons (pe_callB cr_isK (by rfl) e.n_isinstance (by decide +kernel) (pa_cons (pv 0) (pa_cons (pe_glob (v := V.ref e.C_InvalidText) rfl e.g_InvalidText rfl) pa_nil))) pa_nil))) pa_nil)))))
      (pss_cons (ps_set (i := 1) sc__law_kind_of.nd rfl (by first | exact Or.inl rfl | exact Or.inr rfl) (pe_op op_cat (pv 1) (pe_lst (pa_cons (pe_tup (pa_cons pe_str (pa_cons (pe_callB cr_isK (by rfl) e.n_isinstance (by decide +kernel) (pa_cons (pv 0) (pa_cons (pe_glob (v := V.ref e.C_InvalidOrder) rfl e.g_InvalidOrder rfl) pa_nil))) pa_nil))) (pa_cons (pe_tup (pa_cons pe_str (pa_cons (pe_callB cr_isK (by rfl) e.n_isinstance (by decide +kernel) (pa_cons (pv 0) (pa_cons (pe_glob (v := V.ref e.C_InvalidWishes) rfl e.g_InvalidWishes rfl) pa_nil))) pa_nil))) pa_nil)))))
      (pss_cons (ps_setLc (i := 2) (own := [("name", 3), ("is_one", 4)]) rfl sc__law_kind_of.nd rfl rfl (sw_true rfl rfl rfl (by decide +kernel)) (pi_list (pv 1)) (blkOk_by (N := ["e", "names", "found", "name", "is_one"]) (sc := defScope s__law_kind_of) (by decide +kernel)) (fun _ _ _ _ _ => (show PG _ _ (gTup K 2 _) from pg_tup (by rfl) (pgs_cons (pg_name (i := 3) sc__law_kind_of.nd rfl (by first | exact Or.inl rfl | exact Or.inr rfl)) (pgs_cons (pg_name (i := 4) sc__law_kind_of.nd rfl (by first | exact Or.inl rfl | exact Or.inr rfl)) pgs_nil)))) (fun _ _ _ _ _ => pts_one (pt_val (pv 4))) (fun _ _ _ _ _ => (pv 3)))
      (pss_one (ps_ret (pe_ifExp (PW.pt (pw_and (pt_cmpR op_eq (pe_callB LS.call_len (by rfl) e.n_len PySem.boot_len (pa_cons (pv 2) pa_nil)) pe_int (nomark _)) (pw_and1 (pt_val (pe_callB cr_isK (by rfl) e.n_isinstance (by decide +kernel) (pa_cons (pv 0) (pa_cons (pe_bltn (v := V.ty "ValueError") (by rfl) e.n_ValueError (by decide +kernel) rfl) pa_nil))))))) (pe_ix ix_list (pv 2) pe_int (fun _ _ => rfl)) pe_str))))))))))))), ?_⟩
    obtain ⟨b0, b1, b2, b3, b4, b5, b6, b7, b8, b9, b10, b11, b12, b13, b14, b15, b16, b17, rfl⟩ : ∃ b0 b1 b2 b3 b4 b5 b6 b7 b8 b9 b10 b11 b12 b13 b14 b15 b16 b17, bs = [b0, b1, b2, b3, b4, b5, b6, b7, b8, b9, b10, b11, b12, b13, b14, b15, b16, b17] := by
      match bs, bl with
      | [b0, b1, b2, b3, b4, b5, b6, b7, b8, b9, b10, b11, b12, b13, b14, b15, b16, b17], _ => exact ⟨b0, b1, b2, b3, b4, b5, b6, b7, b8, b9, b10, b11, b12, b13, b14, b15, b16, b17, rfl⟩
    have k0 := hk 0 e.C_InvalidSize b0 rfl rfl
    have k1 := hk 1 e.C_InvalidPlaces b1 rfl rfl
    have k2 := hk 2 e.C_InvalidPair b2 rfl rfl
    have k3 := hk 3 e.C_InvalidPattern b3 rfl rfl
    have k4 := hk 4 e.C_InvalidNumber b4 rfl rfl
    have k5 := hk 5 e.C_InvalidFacts b5 rfl rfl
    have k6 := hk 6 e.C_InvalidOffsets b6 rfl rfl
    have k7 := hk 7 e.C_InvalidPlace b7 rfl rfl
    have k8 := hk 8 e.C_InvalidBook b8 rfl rfl
    have k9 := hk 9 e.C_NothingToUndo b9 rfl rfl
    have k10 := hk 10 e.C_InvalidCommand b10 rfl rfl
    have k11 := hk 11 e.C_InvalidSchedule b11 rfl rfl
    have k12 := hk 12 e.C_Obstructed b12 rfl rfl
    have k13 := hk 13 e.C_Contradiction b13 rfl rfl
    have k14 := hk 14 e.C_TooMany b14 rfl rfl
    have k15 := hk 15 e.C_InvalidText b15 rfl rfl
    have k16 := hk 16 e.C_InvalidOrder b16 rfl rfl
    have k17 := hk 17 e.C_InvalidWishes b17 rfl rfl
    repeat array_get_dec
    refine LS.risk (D := D) (by array_mem_dec) xk (fun u r => r) k0 ?_
    repeat array_get_dec
    refine LS.k_tup (by array_mem_dec) fun t0 H_t0 n_t0 s_t0 h_t0 => ?_
    repeat array_get_dec
    refine LS.risk (D := D) (by array_mem_dec) xk (fun u r => r) k1 ?_
    repeat array_get_dec
    refine LS.k_tup (by array_mem_dec) fun t1 H_t1 n_t1 s_t1 h_t1 => ?_
    repeat array_get_dec
    refine LS.k_lst (by array_mem_dec) fun l0 H_l0 n_l0 s_l0 h_l0 => ?_
    repeat array_get_dec
    have w0 : TW H_l0 [.ref t0, .ref t1] [("size", b0), ("places", b1)] := TW.two (H := H_l0) (xs := []) (L := []) TW.nil (p := ("size", b0)) (q := ("places", b1)) (s_l0 _ _ (s_t1 _ _ h_t0)) (s_l0 _ _ h_t1)
    have c0 := h_l0
    have q0 : Same H H_l0 := (s_t0.trans s_t1).trans s_l0
    clear h_l0 h_t0 h_t1 s_t0 s_t1 s_l0 k0 k1
    generalize ([.ref t0, .ref t1] : List V) = xs0 at *
    repeat array_get_dec
    refine LS.risk (D := D) (by array_mem_dec) xk (fun u r => r) k2 ?_
    repeat array_get_dec
    refine LS.k_tup (by array_mem_dec) fun t2 H_t2 n_t2 s_t2 h_t2 => ?_
    repeat array_get_dec
    refine LS.risk (D := D) (by array_mem_dec) xk (fun u r => r) k3 ?_
    repeat array_get_dec
    refine LS.k_tup (by array_mem_dec) fun t3 H_t3 n_t3 s_t3 h_t3 => ?_
    repeat array_get_dec
    refine LS.k_lst (by array_mem_dec) fun l1 H_l1 n_l1 s_l1 h_l1 => ?_
    repeat array_get_dec
    refine LS.rcat (xs := xs0) (zs := [.ref t2, .ref t3]) (by array_mem_dec) (by array_mem_dec) (by rw [w0.1]; show 2 + 2 ≤ sizeLine; decide) fun c1p H_c1 nc1 sc1 hc1 => ?_
    have w1 := ((w0.same (((s_t2.trans s_t3).trans s_l1).trans sc1))).two (p := ("pair", b2)) (q := ("pattern", b3)) (sc1 _ _ (s_l1 _ _ (s_t3 _ _ h_t2))) (sc1 _ _ (s_l1 _ _ h_t3))
    have c1 := hc1
    have q1 : Same H H_c1 := q0.trans (((s_t2.trans s_t3).trans s_l1).trans sc1)
    clear w0 c0 hc1
    generalize hxs1 : xs0 ++ [V.ref t2, V.ref t3] = xs1 at *
    clear hxs1
    repeat array_get_dec
    refine LS.risk (D := D) (by array_mem_dec) xk (fun u r => r) k4 ?_
    repeat array_get_dec
    refine LS.k_tup (by array_mem_dec) fun t4 H_t4 n_t4 s_t4 h_t4 => ?_
    repeat array_get_dec
    refine LS.risk (D := D) (by array_mem_dec) xk (fun u r => r) k5 ?_
    repeat array_get_dec
    refine LS.k_tup (by array_mem_dec) fun t5 H_t5 n_t5 s_t5 h_t5 => ?_
    repeat array_get_dec
    refine LS.k_lst (by array_mem_dec) fun l2 H_l2 n_l2 s_l2 h_l2 => ?_
    repeat array_get_dec
    refine LS.rcat (xs := xs1) (zs := [.ref t4, .ref t5]) (by array_mem_dec) (by array_mem_dec) (by rw [w1.1]; show 4 + 2 ≤ sizeLine; decide) fun c2p H_c2 nc2 sc2 hc2 => ?_
    have w2 := ((w1.same (((s_t4.trans s_t5).trans s_l2).trans sc2))).two (p := ("number", b4)) (q := ("facts", b5)) (sc2 _ _ (s_l2 _ _ (s_t5 _ _ h_t4))) (sc2 _ _ (s_l2 _ _ h_t5))
    have c2 := hc2
    have q2 : Same H H_c2 := q1.trans (((s_t4.trans s_t5).trans s_l2).trans sc2)
    clear w1 c1 hc2
    generalize hxs2 : xs1 ++ [V.ref t4, V.ref t5] = xs2 at *
    clear hxs2
    repeat array_get_dec
    refine LS.risk (D := D) (by array_mem_dec) xk (fun u r => r) k6 ?_
    repeat array_get_dec
    refine LS.k_tup (by array_mem_dec) fun t6 H_t6 n_t6 s_t6 h_t6 => ?_
    repeat array_get_dec
    refine LS.risk (D := D) (by array_mem_dec) xk (fun u r => r) k7 ?_
    repeat array_get_dec
    refine LS.k_tup (by array_mem_dec) fun t7 H_t7 n_t7 s_t7 h_t7 => ?_
    repeat array_get_dec
    refine LS.k_lst (by array_mem_dec) fun l3 H_l3 n_l3 s_l3 h_l3 => ?_
    repeat array_get_dec
    refine LS.rcat (xs := xs2) (zs := [.ref t6, .ref t7]) (by array_mem_dec) (by array_mem_dec) (by rw [w2.1]; show 6 + 2 ≤ sizeLine; decide) fun c3p H_c3 nc3 sc3 hc3 => ?_
    have w3 := ((w2.same (((s_t6.trans s_t7).trans s_l3).trans sc3))).two (p := ("offsets", b6)) (q := ("place", b7)) (sc3 _ _ (s_l3 _ _ (s_t7 _ _ h_t6))) (sc3 _ _ (s_l3 _ _ h_t7))
    have c3 := hc3
    have q3 : Same H H_c3 := q2.trans (((s_t6.trans s_t7).trans s_l3).trans sc3)
    clear w2 c2 hc3
    generalize hxs3 : xs2 ++ [V.ref t6, V.ref t7] = xs3 at *
    clear hxs3
    repeat array_get_dec
    refine LS.risk (D := D) (by array_mem_dec) xk (fun u r => r) k8 ?_
    repeat array_get_dec
    refine LS.k_tup (by array_mem_dec) fun t8 H_t8 n_t8 s_t8 h_t8 => ?_
    repeat array_get_dec
    refine LS.risk (D := D) (by array_mem_dec) xk (fun u r => r) k9 ?_
    repeat array_get_dec
    refine LS.k_tup (by array_mem_dec) fun t9 H_t9 n_t9 s_t9 h_t9 => ?_
    repeat array_get_dec
    refine LS.k_lst (by array_mem_dec) fun l4 H_l4 n_l4 s_l4 h_l4 => ?_
    repeat array_get_dec
    refine LS.rcat (xs := xs3) (zs := [.ref t8, .ref t9]) (by array_mem_dec) (by array_mem_dec) (by rw [w3.1]; show 8 + 2 ≤ sizeLine; decide) fun c4p H_c4 nc4 sc4 hc4 => ?_
    have w4 := ((w3.same (((s_t8.trans s_t9).trans s_l4).trans sc4))).two (p := ("book", b8)) (q := ("undo", b9)) (sc4 _ _ (s_l4 _ _ (s_t9 _ _ h_t8))) (sc4 _ _ (s_l4 _ _ h_t9))
    have c4 := hc4
    have q4 : Same H H_c4 := q3.trans (((s_t8.trans s_t9).trans s_l4).trans sc4)
    clear w3 c3 hc4
    generalize hxs4 : xs3 ++ [V.ref t8, V.ref t9] = xs4 at *
    clear hxs4
    repeat array_get_dec
    refine LS.risk (D := D) (by array_mem_dec) xk (fun u r => r) k10 ?_
    repeat array_get_dec
    refine LS.k_tup (by array_mem_dec) fun t10 H_t10 n_t10 s_t10 h_t10 => ?_
    repeat array_get_dec
    refine LS.risk (D := D) (by array_mem_dec) xk (fun u r => r) k11 ?_
    repeat array_get_dec
    refine LS.k_tup (by array_mem_dec) fun t11 H_t11 n_t11 s_t11 h_t11 => ?_
    repeat array_get_dec
    refine LS.k_lst (by array_mem_dec) fun l5 H_l5 n_l5 s_l5 h_l5 => ?_
    repeat array_get_dec
    refine LS.rcat (xs := xs4) (zs := [.ref t10, .ref t11]) (by array_mem_dec) (by array_mem_dec) (by rw [w4.1]; show 10 + 2 ≤ sizeLine; decide) fun c5p H_c5 nc5 sc5 hc5 => ?_
    have w5 := ((w4.same (((s_t10.trans s_t11).trans s_l5).trans sc5))).two (p := ("command", b10)) (q := ("schedule", b11)) (sc5 _ _ (s_l5 _ _ (s_t11 _ _ h_t10))) (sc5 _ _ (s_l5 _ _ h_t11))
    have c5 := hc5
    have q5 : Same H H_c5 := q4.trans (((s_t10.trans s_t11).trans s_l5).trans sc5)
    clear w4 c4 hc5
    generalize hxs5 : xs4 ++ [V.ref t10, V.ref t11] = xs5 at *
    clear hxs5
    repeat array_get_dec
    refine LS.risk (D := D) (by array_mem_dec) xk (fun u r => r) k12 ?_
    repeat array_get_dec
    refine LS.k_tup (by array_mem_dec) fun t12 H_t12 n_t12 s_t12 h_t12 => ?_
    repeat array_get_dec
    refine LS.risk (D := D) (by array_mem_dec) xk (fun u r => r) k13 ?_
    repeat array_get_dec
    refine LS.k_tup (by array_mem_dec) fun t13 H_t13 n_t13 s_t13 h_t13 => ?_
    repeat array_get_dec
    refine LS.k_lst (by array_mem_dec) fun l6 H_l6 n_l6 s_l6 h_l6 => ?_
    repeat array_get_dec
    refine LS.rcat (xs := xs5) (zs := [.ref t12, .ref t13]) (by array_mem_dec) (by array_mem_dec) (by rw [w5.1]; show 12 + 2 ≤ sizeLine; decide) fun c6p H_c6 nc6 sc6 hc6 => ?_
    have w6 := ((w5.same (((s_t12.trans s_t13).trans s_l6).trans sc6))).two (p := ("obstructed", b12)) (q := ("contradiction", b13)) (sc6 _ _ (s_l6 _ _ (s_t13 _ _ h_t12))) (sc6 _ _ (s_l6 _ _ h_t13))
    have c6 := hc6
    have q6 : Same H H_c6 := q5.trans (((s_t12.trans s_t13).trans s_l6).trans sc6)
    clear w5 c5 hc6
    generalize hxs6 : xs5 ++ [V.ref t12, V.ref t13] = xs6 at *
    clear hxs6
    repeat array_get_dec
    refine LS.risk (D := D) (by array_mem_dec) xk (fun u r => r) k14 ?_
    repeat array_get_dec
    refine LS.k_tup (by array_mem_dec) fun t14 H_t14 n_t14 s_t14 h_t14 => ?_
    repeat array_get_dec
    refine LS.risk (D := D) (by array_mem_dec) xk (fun u r => r) k15 ?_
    repeat array_get_dec
    refine LS.k_tup (by array_mem_dec) fun t15 H_t15 n_t15 s_t15 h_t15 => ?_
    repeat array_get_dec
    refine LS.k_lst (by array_mem_dec) fun l7 H_l7 n_l7 s_l7 h_l7 => ?_
    repeat array_get_dec
    refine LS.rcat (xs := xs6) (zs := [.ref t14, .ref t15]) (by array_mem_dec) (by array_mem_dec) (by rw [w6.1]; show 14 + 2 ≤ sizeLine; decide) fun c7p H_c7 nc7 sc7 hc7 => ?_
    have w7 := ((w6.same (((s_t14.trans s_t15).trans s_l7).trans sc7))).two (p := ("many", b14)) (q := ("text", b15)) (sc7 _ _ (s_l7 _ _ (s_t15 _ _ h_t14))) (sc7 _ _ (s_l7 _ _ h_t15))
    have c7 := hc7
    have q7 : Same H H_c7 := q6.trans (((s_t14.trans s_t15).trans s_l7).trans sc7)
    clear w6 c6 hc7
    generalize hxs7 : xs6 ++ [V.ref t14, V.ref t15] = xs7 at *
    clear hxs7
    repeat array_get_dec
    refine LS.risk (D := D) (by array_mem_dec) xk (fun u r => r) k16 ?_
    repeat array_get_dec
    refine LS.k_tup (by array_mem_dec) fun t16 H_t16 n_t16 s_t16 h_t16 => ?_
    repeat array_get_dec
    refine LS.risk (D := D) (by array_mem_dec) xk (fun u r => r) k17 ?_
    repeat array_get_dec
    refine LS.k_tup (by array_mem_dec) fun t17 H_t17 n_t17 s_t17 h_t17 => ?_
    repeat array_get_dec
    refine LS.k_lst (by array_mem_dec) fun l8 H_l8 n_l8 s_l8 h_l8 => ?_
    repeat array_get_dec
    refine LS.rcat (xs := xs7) (zs := [.ref t16, .ref t17]) (by array_mem_dec) (by array_mem_dec) (by rw [w7.1]; show 16 + 2 ≤ sizeLine; decide) fun c8p H_c8 nc8 sc8 hc8 => ?_
    have w8 := ((w7.same (((s_t16.trans s_t17).trans s_l8).trans sc8))).two (p := ("odd", b16)) (q := ("odd", b17)) (sc8 _ _ (s_l8 _ _ (s_t17 _ _ h_t16))) (sc8 _ _ (s_l8 _ _ h_t17))
    have c8 := hc8
    have q8 : Same H H_c8 := q7.trans (((s_t16.trans s_t17).trans s_l8).trans sc8)
    clear w7 c7 hc8
    generalize hxs8 : xs7 ++ [V.ref t16, V.ref t17] = xs8 at *
    clear hxs8
    repeat array_get_dec
    obtain ⟨L, eL⟩ : ∃ L, L = kinds.zip [b0, b1, b2, b3, b4, b5, b6, b7, b8, b9, b10, b11, b12, b13, b14, b15, b16, b17] := ⟨_, rfl⟩
    replace w8 : TW H_c8 xs8 L := by rw [eL]; exact w8
    rw [← eL] at hf
    have hL18 : L.length = 18 := by rw [eL]; rfl
    clear eL
    refine LS.comp walk_list (fun D2 j acc H' => acc = ((L.take j).filter fun p => p.2).map (fun p => V.str p.1) ∧ Same H_c8 H') (fun D2 H' nD s' hD => ⟨rfl, s'⟩) (fun D2 j acc H' _ nD hD h => SqL.of (h.2 _ _ c8)) ?_ ?_
    · rintro D2 j acc x H2 H3 nD hj hlen hD ⟨rfl, s2⟩ ⟨rfl, hx⟩
      have hp := List.getElem?_eq_getElem (l := L) (i := j) (by rw [← w8.1]; exact hj)
      generalize L[j]'(by rw [← w8.1]; exact hj) = p at hp
      obtain ⟨t, rfl, ht⟩ := w8.2 j x p hx hp
      have ht3 := s2 _ _ ht
      have hjl := hj
      rw [w8.1] at hjl
      obtain ⟨pn, pb⟩ := p
      repeat array_get_dec
      refine ⟨rfl, ?_⟩
      repeat array_get_dec
      cases pb with
      | true =>
        repeat array_get_dec
        refine LS.k_lc hD hlen (by omega) fun H5 f5 h5 => ⟨?_, LS.Same.fr_new s2 f5 nD⟩
        rw [filt_snoc _ hp, if_pos rfl, List.map_append]; rfl
      | false =>
        repeat array_get_dec
        refine LS.k_lc0 hD hlen ⟨?_, s2⟩
        rw [filt_snoc _ hp, if_neg Bool.false_ne_true, List.append_nil]
    · rintro D2 acc H2 nD hD hlen ⟨rfl, s2⟩
      rw [w8.1, List.take_length, hf] at hD
      repeat array_get_dec
      rw [decide_eq_true (show ((List.map (fun p : Str × Bool => V.str p.1) [(nm, true)]).length : Int) = 1 from rfl)]
      repeat array_get_dec
      have ha2 := s2 _ _ (q8 _ _ ha)
      refine LS.risk (D := D) ha2 xk (fun u r => r) hv ?_
      repeat array_get_dec
      exact k _ (q8.trans s2)
end
end LP

namespace LP
open PySem L2 LT LG LQ LH LC LX LR
local macro_rules | `(tactic| array_mem_dec) => `(tactic| first
  | assumption
  | ((with_reducible apply LS.hp_s); assumption; array_mem_dec)
  | ((with_reducible apply LS.hp_f); assumption; array_mem_dec; array_mem_dec)
  | ((with_reducible apply LS.hp_t); assumption; array_mem_dec; array_mem_dec)
  | ((with_reducible apply LS.hp_l); assumption; array_mem_dec; array_mem_dec)
  | ((with_reducible apply LS.sq_o); array_mem_dec)
  | ((with_reducible apply LS.sq_s); assumption; array_mem_dec)
  | ((with_reducible apply LS.sq_f); assumption; array_mem_dec; array_mem_dec)
  | ((with_reducible apply LS.sq_t); assumption; array_mem_dec; array_mem_dec)
  | ((with_reducible apply LS.sq_l); assumption; array_mem_dec; array_mem_dec)
  | ((with_reducible apply LS.tu_o); array_mem_dec)
  | ((with_reducible apply LS.tu_s); assumption; array_mem_dec)
  | ((with_reducible apply LS.tu_f); assumption; array_mem_dec; array_mem_dec)
  | ((with_reducible apply LS.tu_t); assumption; array_mem_dec; array_mem_dec)
  | ((with_reducible apply LS.tu_l); assumption; array_mem_dec; array_mem_dec)
  | ((with_reducible apply LS.se_l); array_mem_dec)
  | ((with_reducible apply LS.se_t); array_mem_dec)
  | ((with_reducible apply LS.se_s); assumption; array_mem_dec)
  | ((with_reducible apply LS.se_f); assumption; array_mem_dec; array_mem_dec)
  | ((with_reducible apply LS.se_tt); assumption; array_mem_dec; array_mem_dec)
  | ((with_reducible exact Same.refl _))
  | ((with_reducible apply LS.sm_s); assumption; array_mem_dec)
  | ((with_reducible apply LS.sm_f); assumption; array_mem_dec; array_mem_dec)
  | ((with_reducible exact Fr.refl _ _))
  | ((with_reducible apply LS.fr_b); assumption; array_mem_dec)
  | ((with_reducible apply LS.fr_s); assumption; array_mem_dec)
  | ((with_reducible apply LS.fr_n); assumption; array_mem_dec; array_mem_dec)
  | ((with_reducible apply LS.fr_t); assumption; array_mem_dec)
  | ((with_reducible apply LS.no_s); assumption; array_mem_dec)
  | ((with_reducible apply LS.no_f); assumption; array_mem_dec; array_mem_dec)
  | ((with_reducible apply LS.no_t); assumption; array_mem_dec)
  | ((with_reducible apply LS.no_l); assumption; assumption)
  | ((with_reducible apply Ne.symm); assumption)
  | ((with_reducible apply LS.ne_a); assumption; array_mem_dec)
  | ((with_reducible apply LS.ne_b); assumption; array_mem_dec)
  | ((with_reducible apply LS.ne_ap); assumption)
  | ((with_reducible apply LS.ne_il); assumption; array_mem_dec)
  | ((with_reducible apply LS.ne_li); assumption; array_mem_dec)
  | ((with_reducible apply LS.ne_lt); assumption; assumption)
  | ((with_reducible apply LS.ne_tl); assumption; assumption)
  | ((with_reducible apply LS.ne_rl); assumption; array_mem_dec)
  | ((with_reducible apply LS.rl_t); assumption)
  | ((with_reducible apply LS.rl_s); assumption; array_mem_dec)
  | ((with_reducible apply LS.rl_f); assumption; array_mem_dec; array_mem_dec)
  | ((with_reducible apply LS.rl_l); assumption; array_mem_dec; array_mem_dec)
  | ((with_reducible apply LS.ap_new); assumption; assumption; array_mem_dec)
  | ((with_reducible apply LS.ap_t); assumption; array_mem_dec; array_mem_dec)
  | ((with_reducible apply LS.ap_s); assumption; array_mem_dec; array_mem_dec)
  | ((with_reducible apply LS.ap_f); assumption; array_mem_dec; array_mem_dec; array_mem_dec)
  | ((with_reducible apply LS.ap_l); assumption; array_mem_dec; array_mem_dec; array_mem_dec)
  | (with_reducible apply LS.ni_nil)
  | ((with_reducible apply LS.ni_cons); array_mem_dec; array_mem_dec)
  | (with_reducible apply LS.trk_nil)
  | ((with_reducible apply LS.trk_cons); array_mem_dec; array_mem_dec)
  | (with_reducible apply LS.al_nil)
  | ((with_reducible apply LS.al_cons); array_mem_dec; array_mem_dec)
  | (with_reducible apply LS.mem_hd)
  | ((with_reducible apply LS.mem_tl); array_mem_dec)
  | ((with_reducible apply LS.fl_refl); array_mem_dec)
  | ((with_reducible apply LS.fl_l); assumption; array_mem_dec)
  | ((with_reducible apply LS.fl_lm); assumption; array_mem_dec; array_mem_dec)
  | (with_reducible apply LS.sub_nil)
  | ((with_reducible apply LS.sub_cons); array_mem_dec; array_mem_dec)
  | ((with_reducible apply LS.fl_s); assumption; array_mem_dec)
  | ((with_reducible apply LS.fl_m); assumption; array_mem_dec; array_mem_dec; array_mem_dec)
  | ((with_reducible apply LS.fl_n); assumption; array_mem_dec; array_mem_dec; array_mem_dec)
  | ((with_reducible apply LS.rt_refl); array_mem_dec)
  | ((with_reducible apply LS.rt_t); assumption; array_mem_dec)
  | ((with_reducible apply LS.rt_s); assumption; array_mem_dec)
  | ((with_reducible apply LS.rt_f); assumption; array_mem_dec; array_mem_dec; array_mem_dec)
  | ((with_reducible apply LS.sz); (first | decide | (simp only [List.length_append, List.length_map, List.length_cons, List.length_nil, List.length_replicate]; omega)))
  | ((with_reducible apply LS.szl); (first | decide | (simp only [List.length_append, List.length_map, List.length_cons, List.length_nil, List.length_replicate]; omega))))
local macro_rules | `(tactic| array_get_dec) => `(tactic| first
  | ((with_reducible apply LS.var); exact rfl)
  | (with_reducible apply LS.con)
  | (with_reducible apply LS.op)
  | (with_reducible apply LS.ri0)
  | (with_reducible apply LS.tseq)
  | (with_reducible apply LS.tasg)
  | (with_reducible apply LS.gname)
  | (with_reducible apply LS.tcons)
  | (with_reducible apply LS.tnil)
  | (with_reducible apply LS.tcb)
  | (with_reducible apply LS.tcall)
  | (with_reducible apply LS.ttest)
  | (with_reducible apply LS.k_b)
  | (with_reducible apply LS.tb)
  | (with_reducible apply LS.tifs)
  | (with_reducible apply LS.ift)
  | (with_reducible apply LS.iff_)
  | (with_reducible apply LS.ifnt)
  | (with_reducible apply LS.ifnf)
  | (with_reducible apply LS.tnext)
  | (with_reducible apply LS.tdrop)
  | (with_reducible apply LS.tret)
  | (with_reducible apply LS.tretn)
  | (with_reducible apply LS.un)
  | (with_reducible apply LS.ru)
  | (with_reducible apply LS.tyes)
  | (with_reducible apply LS.tand)
  | (with_reducible apply LS.tor)
  | (with_reducible apply LS.tnot)
  | (with_reducible apply LS.tif)
  | (with_reducible apply LS.tandv)
  | (with_reducible apply LS.k_av)
  | (with_reducible apply LS.torv)
  | (with_reducible apply LS.k_ov)
  | (with_reducible apply LS.tnotv)
  | (with_reducible apply LS.k_nv)
  | (with_reducible apply LS.tchain)
  | (with_reducible apply LS.k_ch)
  | (with_reducible apply LS.req_i)
  | (with_reducible apply LS.rne_i)
  | (with_reducible apply LS.req_s)
  | (with_reducible apply LS.rne_s)
  | (with_reducible apply LS.req_b)
  | (with_reducible apply LS.rne_b)
  | ((with_reducible apply LS.rin_i); array_mem_dec)
  | ((with_reducible apply LS.rni_i); array_mem_dec)
  | ((with_reducible apply LS.rlen_li); array_mem_dec)
  | ((with_reducible apply LS.rlen_ls); array_mem_dec)
  | ((with_reducible apply LS.rlen_l); array_mem_dec)
  | ((with_reducible apply LS.rlen_Ei); array_mem_dec)
  | ((with_reducible apply LS.rlen_E); array_mem_dec)
  | ((with_reducible apply LS.rlen_t); array_mem_dec)
  | ((with_reducible apply LS.rixl); array_mem_dec; exact rfl)
  | ((with_reducible apply LS.rixt); array_mem_dec; exact rfl)
  | (with_reducible apply LS.isi_int_int)
  | (with_reducible apply LS.isi_int_bool)
  | (with_reducible apply LS.isi_int_str)
  | (with_reducible apply LS.isi_str_int)
  | (with_reducible apply LS.isi_str_bool)
  | (with_reducible apply LS.isi_str_str)
  | (with_reducible apply LS.isi_bool_int)
  | (with_reducible apply LS.isi_bool_bool)
  | (with_reducible apply LS.isi_bool_str)
  | (with_reducible apply LS.isi_non_int)
  | (with_reducible apply LS.isi_non_bool)
  | (with_reducible apply LS.isi_non_str)
  | ((with_reducible apply LS.isi_list_int); array_mem_dec)
  | ((with_reducible apply LS.isi_list_bool); array_mem_dec)
  | ((with_reducible apply LS.isi_list_str); array_mem_dec)
  | ((with_reducible apply LS.isi_list_list); array_mem_dec)
  | ((with_reducible apply LS.isi_list_tuple); array_mem_dec)
  | ((with_reducible apply LS.isi_tuple_int); array_mem_dec)
  | ((with_reducible apply LS.isi_tuple_bool); array_mem_dec)
  | ((with_reducible apply LS.isi_tuple_str); array_mem_dec)
  | ((with_reducible apply LS.isi_tuple_list); array_mem_dec)
  | ((with_reducible apply LS.isi_tuple_tuple); array_mem_dec)
  | ((with_reducible apply LS.isiT_i); array_mem_dec)
  | ((with_reducible apply LS.isiT_s); array_mem_dec)
  | ((with_reducible apply LS.isiT_E); array_mem_dec; array_mem_dec)
  | (with_reducible apply LS.tfld)
  | ((with_reducible apply LS.k_fl); array_mem_dec; assumption; assumption; exact rfl)
  | (with_reducible apply LS.tmeth)
  | ((with_reducible apply LS.k_me); array_mem_dec; exact rfl)
  | (with_reducible apply LS.tmake)
  | (with_reducible apply LS.tsfld)
  | (with_reducible apply LS.tprop)
  | ((with_reducible apply LS.k_pr); array_mem_dec)
  | ((with_reducible apply LS.rlen_own); array_mem_dec)
  | (with_reducible apply LS.rabs)
  | (with_reducible apply LS.rmin2)
  | (with_reducible apply LS.rmax2)
  | (with_reducible apply LS.tsl)
  | (with_reducible apply LS.tthen)
  | (with_reducible apply LS.tstep)
  | (with_reducible apply LS.tnop)
  | (with_reducible apply LS.tpart)
  | (with_reducible apply LS.k_part)
  | (with_reducible apply LS.ttup)
  | (with_reducible apply LS.tlst)
  | (with_reducible apply LS.tbm)
  | (with_reducible apply LS.tbm0)
  | ((with_reducible apply LS.ty_l); array_mem_dec)
  | (with_reducible apply LS.tpar)
  | (with_reducible apply LS.tfor)
  | (with_reducible apply LS.tlc)
  | (with_reducible apply LS.ilist)
  | ((with_reducible apply LS.k_il); array_mem_dec)
  | (with_reducible apply LS.itup)
  | ((with_reducible apply LS.k_it); array_mem_dec)
  | (with_reducible apply LS.istr)
  | (with_reducible apply LS.k_is)
  | (with_reducible apply LS.irng1)
  | ((with_reducible apply LS.k_r1n); omega)
  | ((with_reducible apply LS.k_r1); (first | omega | decide); (first | omega | decide))
  | (with_reducible apply LS.irng2)
  | ((with_reducible apply LS.k_r2); (first | omega | decide); (first | omega | decide); (first | omega | decide); (first | omega | decide))
  | (with_reducible apply LS.ienum)
  | ((with_reducible apply LS.k_en); array_mem_dec)
  | (with_reducible apply LS.izip)
  | ((with_reducible apply LS.k_zip); array_mem_dec; array_mem_dec)
  | (with_reducible apply LS.tlstrg)
  | (with_reducible apply LS.trg1)
  | (with_reducible apply LS.k_g1)
  | (with_reducible apply LS.risn_i)
  | (with_reducible apply LS.risn_s)
  | (with_reducible apply LS.risn_n)
  | (with_reducible apply LS.rnotn_i)
  | (with_reducible apply LS.rnotn_n)
  | (with_reducible apply LS.rint_b)
  | (with_reducible apply LS.rint_i)
  | (with_reducible apply LS.tm0)
  | (with_reducible apply LS.tm1)
  | (with_reducible apply LS.is_str)
  | (with_reducible apply LS.ex_s0)
  | (with_reducible apply LS.ex_int_b)
  | (with_reducible apply LS.k_par)
  | (with_reducible apply LS.tpar3)
  | (with_reducible apply LS.k_par3)
  | ((with_reducible apply LS.taug); exact rfl)
  | (with_reducible apply LS.ipi)
  | ((with_reducible apply LS.gtup); array_mem_dec; exact rfl)
  | ((with_reducible apply LS.gunl); array_mem_dec; exact rfl)
  | (with_reducible apply LS.gnil)
  | (with_reducible apply LS.gcons)
  | (with_reducible apply LS.gsub)
  | ((with_reducible apply LS.ri); first | omega | decide | assumption | exact ⟨by decide, by decide, by decide⟩ | exact .inl ⟨by decide, by decide⟩ | exact .inr ⟨by decide, by decide⟩ | exact .inl ⟨by omega, by omega⟩ | exact .inr ⟨by omega, by omega⟩)
  | (with_reducible apply LS.ex_ss)
  | (with_reducible apply LS.ex_s1)
  | (with_reducible apply LS.ex_i1)
  | (with_reducible apply LS.and_rfl)
  | (with_reducible apply LS.and_tr)
  | (with_reducible apply LS.is_non))
local macro_rules | `(tactic| array_mem_dec) => `(tactic| first
  | ((with_reducible apply LP.lv_s); assumption; array_mem_dec)
  | ((with_reducible apply LP.lv_l); assumption; array_mem_dec; array_mem_dec; array_mem_dec)
  | ((with_reducible apply LP.lv_f); assumption; array_mem_dec; array_mem_dec; array_mem_dec)
  | ((with_reducible apply LP.lv_t); assumption; array_mem_dec; array_mem_dec; array_mem_dec)
  | ((with_reducible apply LP.ops_s); assumption; array_mem_dec)
  | ((with_reducible apply LP.md_s); assumption; array_mem_dec)
  | ((with_reducible apply LP.md_l); assumption; array_mem_dec; array_mem_dec; array_mem_dec)
  | ((with_reducible apply LP.md_f); assumption; array_mem_dec; array_mem_dec; array_mem_dec)
  | ((with_reducible apply LP.md_t); assumption; array_mem_dec; array_mem_dec; array_mem_dec)
  | ((with_reducible apply LP.al_s); assumption; array_mem_dec; array_mem_dec)
  | ((with_reducible apply LP.al_t); assumption; array_mem_dec; array_mem_dec)
  | ((with_reducible apply LP.al_l); assumption; array_mem_dec; array_mem_dec; array_mem_dec)
  | ((with_reducible apply LP.al_f); assumption; array_mem_dec; array_mem_dec; array_mem_dec)
  | ((with_reducible apply LP.Lv.lists); array_mem_dec)
  | ((with_reducible apply LP.Lv.trk); array_mem_dec)
  | ((with_reducible apply LP.Mdl.trk); array_mem_dec)
  | ((with_reducible apply LP.al_no); assumption; array_mem_dec))
local macro_rules | `(tactic| array_get_dec) => `(tactic| first
  | (with_reducible apply LS.tcalle)
  | (with_reducible apply LS.tcalls))
local macro_rules | `(tactic| array_get_dec) => `(tactic| first
  | (with_reducible apply LS.tmethv)
  | (with_reducible apply LS.tmakev)
  | (with_reducible apply LS.rnotn_rr)
  | (with_reducible apply LS.risn_rr)
  | ((with_reducible apply LS.k_mev); array_mem_dec; exact rfl))
local macro_rules | `(tactic| array_get_dec) => `(tactic| first
  | (with_reducible apply LS.trg2)
  | (with_reducible apply LS.k_g2))

section
variable {P : Program} {w : World} {K : PySem.W.Frag} {mg : Str → Option Value} {base : Heap}

theorem kf_InvalidSize (e : Env w K mg) : ∀ (i : Nat) (C : Addr) (b : Bool), ([e.C_InvalidSize, e.C_InvalidPlaces, e.C_InvalidPair, e.C_InvalidPattern, e.C_InvalidNumber, e.C_InvalidFacts, e.C_InvalidOffsets, e.C_InvalidPlace, e.C_InvalidBook, e.C_NothingToUndo, e.C_InvalidCommand, e.C_InvalidSchedule, e.C_Obstructed, e.C_Contradiction, e.C_TooMany, e.C_InvalidText, e.C_InvalidOrder, e.C_InvalidWishes] : List Addr)[i]? = some C → ([true, false, false, false, false, false, false, false, false, false, false, false, false, false, false, false, false, false] : List Bool)[i]? = some b → PySem.W.kitOne K (.ref e.C_InvalidSize) (.ref C) = some b := fun i C b h1 h2 => by
  match i, h1, h2 with
  | 0, h1, h2 => cases h1; cases h2; exact e.ki_InvalidSize_InvalidSize
  | 1, h1, h2 => cases h1; cases h2; exact e.ki_InvalidSize_InvalidPlaces
  | 2, h1, h2 => cases h1; cases h2; exact e.ki_InvalidSize_InvalidPair
  | 3, h1, h2 => cases h1; cases h2; exact e.ki_InvalidSize_InvalidPattern
  | 4, h1, h2 => cases h1; cases h2; exact e.ki_InvalidSize_InvalidNumber
  | 5, h1, h2 => cases h1; cases h2; exact e.ki_InvalidSize_InvalidFacts
  | 6, h1, h2 => cases h1; cases h2; exact e.ki_InvalidSize_InvalidOffsets
  | 7, h1, h2 => cases h1; cases h2; exact e.ki_InvalidSize_InvalidPlace
  | 8, h1, h2 => cases h1; cases h2; exact e.ki_InvalidSize_InvalidBook
  | 9, h1, h2 => cases h1; cases h2; exact e.ki_InvalidSize_NothingToUndo
  | 10, h1, h2 => cases h1; cases h2; exact e.ki_InvalidSize_InvalidCommand
  | 11, h1, h2 => cases h1; cases h2; exact e.ki_InvalidSize_InvalidSchedule
  | 12, h1, h2 => cases h1; cases h2; exact e.ki_InvalidSize_Obstructed
  | 13, h1, h2 => cases h1; cases h2; exact e.ki_InvalidSize_Contradiction
  | 14, h1, h2 => cases h1; cases h2; exact e.ki_InvalidSize_TooMany
  | 15, h1, h2 => cases h1; cases h2; exact e.ki_InvalidSize_InvalidText
  | 16, h1, h2 => cases h1; cases h2; exact e.ki_InvalidSize_InvalidOrder
  | 17, h1, h2 => cases h1; cases h2; exact e.ki_InvalidSize_InvalidWishes
  | n + 18, h1, h2 => simp at h1
theorem ks_InvalidSize (e : Env w K mg) {a : Addr} {H : Hp} {Q : VK} {E : XK} (k : ∀ H', Same (upd H a (ExH (.ref e.C_InvalidSize) none a)) H' → Q (.str "size") H') : sp__law_kind_of K [e.C_InvalidSize, e.C_InvalidPlaces, e.C_InvalidPair, e.C_InvalidPattern, e.C_InvalidNumber, e.C_InvalidFacts, e.C_InvalidOffsets, e.C_InvalidPlace, e.C_InvalidBook, e.C_NothingToUndo, e.C_InvalidCommand, e.C_InvalidSchedule, e.C_Obstructed, e.C_Contradiction, e.C_TooMany, e.C_InvalidText, e.C_InvalidOrder, e.C_InvalidWishes] ([V.ref a] ++ []) (upd H a (ExH (.ref e.C_InvalidSize) none a)) Q E := ⟨a, e.C_InvalidSize, [true, false, false, false, false, false, false, false, false, false, false, false, false, false, false, false, false, false], "size", rfl, upd_same, e.xk_InvalidSize, rfl, kf_InvalidSize e, e.ki_InvalidSize_ValueError, by decide +kernel, k⟩
theorem kf_InvalidPlace (e : Env w K mg) : ∀ (i : Nat) (C : Addr) (b : Bool), ([e.C_InvalidSize, e.C_InvalidPlaces, e.C_InvalidPair, e.C_InvalidPattern, e.C_InvalidNumber, e.C_InvalidFacts, e.C_InvalidOffsets, e.C_InvalidPlace, e.C_InvalidBook, e.C_NothingToUndo, e.C_InvalidCommand, e.C_InvalidSchedule, e.C_Obstructed, e.C_Contradiction, e.C_TooMany, e.C_InvalidText, e.C_InvalidOrder, e.C_InvalidWishes] : List Addr)[i]? = some C → ([false, false, false, false, false, false, false, true, false, false, false, false, false, false, false, false, false, false] : List Bool)[i]? = some b → PySem.W.kitOne K (.ref e.C_InvalidPlace) (.ref C) = some b := fun i C b h1 h2 => by
  match i, h1, h2 with
  | 0, h1, h2 => cases h1; cases h2; exact e.ki_InvalidPlace_InvalidSize
  | 1, h1, h2 => cases h1; cases h2; exact e.ki_InvalidPlace_InvalidPlaces
  | 2, h1, h2 => cases h1; cases h2; exact e.ki_InvalidPlace_InvalidPair
  | 3, h1, h2 => cases h1; cases h2; exact e.ki_InvalidPlace_InvalidPattern
  | 4, h1, h2 => cases h1; cases h2; exact e.ki_InvalidPlace_InvalidNumber
  | 5, h1, h2 => cases h1; cases h2; exact e.ki_InvalidPlace_InvalidFacts
  | 6, h1, h2 => cases h1; cases h2; exact e.ki_InvalidPlace_InvalidOffsets
  | 7, h1, h2 => cases h1; cases h2; exact e.ki_InvalidPlace_InvalidPlace
  | 8, h1, h2 => cases h1; cases h2; exact e.ki_InvalidPlace_InvalidBook
  | 9, h1, h2 => cases h1; cases h2; exact e.ki_InvalidPlace_NothingToUndo
  | 10, h1, h2 => cases h1; cases h2; exact e.ki_InvalidPlace_InvalidCommand
  | 11, h1, h2 => cases h1; cases h2; exact e.ki_InvalidPlace_InvalidSchedule
  | 12, h1, h2 => cases h1; cases h2; exact e.ki_InvalidPlace_Obstructed
  | 13, h1, h2 => cases h1; cases h2; exact e.ki_InvalidPlace_Contradiction
  | 14, h1, h2 => cases h1; cases h2; exact e.ki_InvalidPlace_TooMany
  | 15, h1, h2 => cases h1; cases h2; exact e.ki_InvalidPlace_InvalidText
  | 16, h1, h2 => cases h1; cases h2; exact e.ki_InvalidPlace_InvalidOrder
  | 17, h1, h2 => cases h1; cases h2; exact e.ki_InvalidPlace_InvalidWishes
  | n + 18, h1, h2 => simp at h1
theorem ks_InvalidPlace (e : Env w K mg) {a : Addr} {H : Hp} {Q : VK} {E : XK} (k : ∀ H', Same (upd H a (ExH (.ref e.C_InvalidPlace) none a)) H' → Q (.str "place") H') : sp__law_kind_of K [e.C_InvalidSize, e.C_InvalidPlaces, e.C_InvalidPair, e.C_InvalidPattern, e.C_InvalidNumber, e.C_InvalidFacts, e.C_InvalidOffsets, e.C_InvalidPlace, e.C_InvalidBook, e.C_NothingToUndo, e.C_InvalidCommand, e.C_InvalidSchedule, e.C_Obstructed, e.C_Contradiction, e.C_TooMany, e.C_InvalidText, e.C_InvalidOrder, e.C_InvalidWishes] ([V.ref a] ++ []) (upd H a (ExH (.ref e.C_InvalidPlace) none a)) Q E := ⟨a, e.C_InvalidPlace, [false, false, false, false, false, false, false, true, false, false, false, false, false, false, false, false, false, false], "place", rfl, upd_same, e.xk_InvalidPlace, rfl, kf_InvalidPlace e, e.ki_InvalidPlace_ValueError, by decide +kernel, k⟩
theorem kf_InvalidBook (e : Env w K mg) : ∀ (i : Nat) (C : Addr) (b : Bool), ([e.C_InvalidSize, e.C_InvalidPlaces, e.C_InvalidPair, e.C_InvalidPattern, e.C_InvalidNumber, e.C_InvalidFacts, e.C_InvalidOffsets, e.C_InvalidPlace, e.C_InvalidBook, e.C_NothingToUndo, e.C_InvalidCommand, e.C_InvalidSchedule, e.C_Obstructed, e.C_Contradiction, e.C_TooMany, e.C_InvalidText, e.C_InvalidOrder, e.C_InvalidWishes] : List Addr)[i]? = some C → ([false, false, false, false, false, false, false, false, true, false, false, false, false, false, false, false, false, false] : List Bool)[i]? = some b → PySem.W.kitOne K (.ref e.C_InvalidBook) (.ref C) = some b := fun i C b h1 h2 => by
  match i, h1, h2 with
  | 0, h1, h2 => cases h1; cases h2; exact e.ki_InvalidBook_InvalidSize
  | 1, h1, h2 => cases h1; cases h2; exact e.ki_InvalidBook_InvalidPlaces
  | 2, h1, h2 => cases h1; cases h2; exact e.ki_InvalidBook_InvalidPair
  | 3, h1, h2 => cases h1; cases h2; exact e.ki_InvalidBook_InvalidPattern
  | 4, h1, h2 => cases h1; cases h2; exact e.ki_InvalidBook_InvalidNumber
  | 5, h1, h2 => cases h1; cases h2; exact e.ki_InvalidBook_InvalidFacts
  | 6, h1, h2 => cases h1; cases h2; exact e.ki_InvalidBook_InvalidOffsets
  | 7, h1, h2 => cases h1; cases h2; exact e.ki_InvalidBook_InvalidPlace
  | 8, h1, h2 => cases h1; cases h2; exact e.ki_InvalidBook_InvalidBook
  | 9, h1, h2 => cases h1; cases h2; exact e.ki_InvalidBook_NothingToUndo
  | 10, h1, h2 => cases h1; cases h2; exact e.ki_InvalidBook_InvalidCommand
  | 11, h1, h2 => cases h1; cases h2; exact e.ki_InvalidBook_InvalidSchedule
  | 12, h1, h2 => cases h1; cases h2; exact e.ki_InvalidBook_Obstructed
  | 13, h1, h2 => cases h1; cases h2; exact e.ki_InvalidBook_Contradiction
  | 14, h1, h2 => cases h1; cases h2; exact e.ki_InvalidBook_TooMany
  | 15, h1, h2 => cases h1; cases h2; exact e.ki_InvalidBook_InvalidText
  | 16, h1, h2 => cases h1; cases h2; exact e.ki_InvalidBook_InvalidOrder
  | 17, h1, h2 => cases h1; cases h2; exact e.ki_InvalidBook_InvalidWishes
  | n + 18, h1, h2 => simp at h1
theorem ks_InvalidBook (e : Env w K mg) {a : Addr} {H : Hp} {Q : VK} {E : XK} (k : ∀ H', Same (upd H a (ExH (.ref e.C_InvalidBook) none a)) H' → Q (.str "book") H') : sp__law_kind_of K [e.C_InvalidSize, e.C_InvalidPlaces, e.C_InvalidPair, e.C_InvalidPattern, e.C_InvalidNumber, e.C_InvalidFacts, e.C_InvalidOffsets, e.C_InvalidPlace, e.C_InvalidBook, e.C_NothingToUndo, e.C_InvalidCommand, e.C_InvalidSchedule, e.C_Obstructed, e.C_Contradiction, e.C_TooMany, e.C_InvalidText, e.C_InvalidOrder, e.C_InvalidWishes] ([V.ref a] ++ []) (upd H a (ExH (.ref e.C_InvalidBook) none a)) Q E := ⟨a, e.C_InvalidBook, [false, false, false, false, false, false, false, false, true, false, false, false, false, false, false, false, false, false], "book", rfl, upd_same, e.xk_InvalidBook, rfl, kf_InvalidBook e, e.ki_InvalidBook_ValueError, by decide +kernel, k⟩
theorem kf_NothingToUndo (e : Env w K mg) : ∀ (i : Nat) (C : Addr) (b : Bool), ([e.C_InvalidSize, e.C_InvalidPlaces, e.C_InvalidPair, e.C_InvalidPattern, e.C_InvalidNumber, e.C_InvalidFacts, e.C_InvalidOffsets, e.C_InvalidPlace, e.C_InvalidBook, e.C_NothingToUndo, e.C_InvalidCommand, e.C_InvalidSchedule, e.C_Obstructed, e.C_Contradiction, e.C_TooMany, e.C_InvalidText, e.C_InvalidOrder, e.C_InvalidWishes] : List Addr)[i]? = some C → ([false, false, false, false, false, false, false, false, false, true, false, false, false, false, false, false, false, false] : List Bool)[i]? = some b → PySem.W.kitOne K (.ref e.C_NothingToUndo) (.ref C) = some b := fun i C b h1 h2 => by
  match i, h1, h2 with
  | 0, h1, h2 => cases h1; cases h2; exact e.ki_NothingToUndo_InvalidSize
  | 1, h1, h2 => cases h1; cases h2; exact e.ki_NothingToUndo_InvalidPlaces
  | 2, h1, h2 => cases h1; cases h2; exact e.ki_NothingToUndo_InvalidPair
  | 3, h1, h2 => cases h1; cases h2; exact e.ki_NothingToUndo_InvalidPattern
  | 4, h1, h2 => cases h1; cases h2; exact e.ki_NothingToUndo_InvalidNumber
  | 5, h1, h2 => cases h1; cases h2; exact e.ki_NothingToUndo_InvalidFacts
  | 6, h1, h2 => cases h1; cases h2; exact e.ki_NothingToUndo_InvalidOffsets
  | 7, h1, h2 => cases h1; cases h2; exact e.ki_NothingToUndo_InvalidPlace
  | 8, h1, h2 => cases h1; cases h2; exact e.ki_NothingToUndo_InvalidBook
  | 9, h1, h2 => cases h1; cases h2; exact e.ki_NothingToUndo_NothingToUndo
  | 10, h1, h2 => cases h1; cases h2; exact e.ki_NothingToUndo_InvalidCommand
  | 11, h1, h2 => cases h1; cases h2; exact e.ki_NothingToUndo_InvalidSchedule
  | 12, h1, h2 => cases h1; cases h2; exact e.ki_NothingToUndo_Obstructed
  | 13, h1, h2 => cases h1; cases h2; exact e.ki_NothingToUndo_Contradiction
  | 14, h1, h2 => cases h1; cases h2; exact e.ki_NothingToUndo_TooMany
  | 15, h1, h2 => cases h1; cases h2; exact e.ki_NothingToUndo_InvalidText
  | 16, h1, h2 => cases h1; cases h2; exact e.ki_NothingToUndo_InvalidOrder
  | 17, h1, h2 => cases h1; cases h2; exact e.ki_NothingToUndo_InvalidWishes
  | n + 18, h1, h2 => simp at h1
theorem ks_NothingToUndo (e : Env w K mg) {a : Addr} {H : Hp} {Q : VK} {E : XK} (k : ∀ H', Same (upd H a (ExH (.ref e.C_NothingToUndo) none a)) H' → Q (.str "undo") H') : sp__law_kind_of K [e.C_InvalidSize, e.C_InvalidPlaces, e.C_InvalidPair, e.C_InvalidPattern, e.C_InvalidNumber, e.C_InvalidFacts, e.C_InvalidOffsets, e.C_InvalidPlace, e.C_InvalidBook, e.C_NothingToUndo, e.C_InvalidCommand, e.C_InvalidSchedule, e.C_Obstructed, e.C_Contradiction, e.C_TooMany, e.C_InvalidText, e.C_InvalidOrder, e.C_InvalidWishes] ([V.ref a] ++ []) (upd H a (ExH (.ref e.C_NothingToUndo) none a)) Q E := ⟨a, e.C_NothingToUndo, [false, false, false, false, false, false, false, false, false, true, false, false, false, false, false, false, false, false], "undo", rfl, upd_same, e.xk_NothingToUndo, rfl, kf_NothingToUndo e, e.ki_NothingToUndo_ValueError, by decide +kernel, k⟩
theorem kf_InvalidCommand (e : Env w K mg) : ∀ (i : Nat) (C : Addr) (b : Bool), ([e.C_InvalidSize, e.C_InvalidPlaces, e.C_InvalidPair, e.C_InvalidPattern, e.C_InvalidNumber, e.C_InvalidFacts, e.C_InvalidOffsets, e.C_InvalidPlace, e.C_InvalidBook, e.C_NothingToUndo, e.C_InvalidCommand, e.C_InvalidSchedule, e.C_Obstructed, e.C_Contradiction, e.C_TooMany, e.C_InvalidText, e.C_InvalidOrder, e.C_InvalidWishes] : List Addr)[i]? = some C → ([false, false, false, false, false, false, false, false, false, false, true, false, false, false, false, false, false, false] : List Bool)[i]? = some b → PySem.W.kitOne K (.ref e.C_InvalidCommand) (.ref C) = some b := fun i C b h1 h2 => by
  match i, h1, h2 with
  | 0, h1, h2 => cases h1; cases h2; exact e.ki_InvalidCommand_InvalidSize
  | 1, h1, h2 => cases h1; cases h2; exact e.ki_InvalidCommand_InvalidPlaces
  | 2, h1, h2 => cases h1; cases h2; exact e.ki_InvalidCommand_InvalidPair
  | 3, h1, h2 => cases h1; cases h2; exact e.ki_InvalidCommand_InvalidPattern
  | 4, h1, h2 => cases h1; cases h2; exact e.ki_InvalidCommand_InvalidNumber
  | 5, h1, h2 => cases h1; cases h2; exact e.ki_InvalidCommand_InvalidFacts
  | 6, h1, h2 => cases h1; cases h2; exact e.ki_InvalidCommand_InvalidOffsets
  | 7, h1, h2 => cases h1; cases h2; exact e.ki_InvalidCommand_InvalidPlace
  | 8, h1, h2 => cases h1; cases h2; exact e.ki_InvalidCommand_InvalidBook
  | 9, h1, h2 => cases h1; cases h2; exact e.ki_InvalidCommand_NothingToUndo
  | 10, h1, h2 => cases h1; cases h2; exact e.ki_InvalidCommand_InvalidCommand
  | 11, h1, h2 => cases h1; cases h2; exact e.ki_InvalidCommand_InvalidSchedule
  | 12, h1, h2 => cases h1; cases h2; exact e.ki_InvalidCommand_Obstructed
  | 13, h1, h2 => cases h1; cases h2; exact e.ki_InvalidCommand_Contradiction
  | 14, h1, h2 => cases h1; cases h2; exact e.ki_InvalidCommand_TooMany
  | 15, h1, h2 => cases h1; cases h2; exact e.ki_InvalidCommand_InvalidText
  | 16, h1, h2 => cases h1; cases h2; exact e.ki_InvalidCommand_InvalidOrder
  | 17, h1, h2 => cases h1; cases h2; exact e.ki_InvalidCommand_InvalidWishes
  | n + 18, h1, h2 => simp at h1
theorem ks_InvalidCommand (e : Env w K mg) {a : Addr} {H : Hp} {Q : VK} {E : XK} (k : ∀ H', Same (upd H a (ExH (.ref e.C_InvalidCommand) none a)) H' → Q (.str "command") H') : sp__law_kind_of K [e.C_InvalidSize, e.C_InvalidPlaces, e.C_InvalidPair, e.C_InvalidPattern, e.C_InvalidNumber, e.C_InvalidFacts, e.C_InvalidOffsets, e.C_InvalidPlace, e.C_InvalidBook, e.C_NothingToUndo, e.C_InvalidCommand, e.C_InvalidSchedule, e.C_Obstructed, e.C_Contradiction, e.C_TooMany, e.C_InvalidText, e.C_InvalidOrder, e.C_InvalidWishes] ([V.ref a] ++ []) (upd H a (ExH (.ref e.C_InvalidCommand) none a)) Q E := ⟨a, e.C_InvalidCommand, [false, false, false, false, false, false, false, false, false, false, true, false, false, false, false, false, false, false], "command", rfl, upd_same, e.xk_InvalidCommand, rfl, kf_InvalidCommand e, e.ki_InvalidCommand_ValueError, by decide +kernel, k⟩
def sp__law_error (K : PySem.W.Frag) (C D Cc : Addr) : Sp := fun vs H Q _ => (∃ x : V, vs = [.non, x] ∧ NoSz K H x ∧ ∀ H', Same H H' → Q (.str "size") H') ∨ (∃ n : Nat, vs = [.non, .int n] ∧ 1 ≤ n ∧ n ≤ 200 ∧ ∀ H', Same H H' → Q (.str "none") H') ∨
  (∃ (co dc : Addr) (A : Ad) (s : Sim) (ss : List Stp) (x : V), vs = [.ref co, x] ∧ Con C D Cc H co dc A s ss ∧ BadL K H x ∧ ∀ H', Same H H' → Q (.str "command") H') ∨
  (∃ (co dc : Addr) (A : Ad) (s : Sim), vs = [.ref co, .str "undo"] ∧ Con C D Cc H co dc A s [] ∧ ∀ H', Same H H' → Q (.str "undo") H') ∨
  (∃ (co dc : Addr) (A : Ad) (s : Sim) (ss : List Stp) (o : Op), vs = [.ref co, .str (cmd o)] ∧ Con C D Cc H co dc A s ss ∧ 0 ≤ o.2 ∧ o.2 ≤ 10 ^ 40 ∧ stp s o = none ∧ ∀ H', Same H H' → Q (.str (if o.1 = true then "place" else "book")) H') ∨
  (∃ (co dc : Addr) (A : Ad) (s u : Sim) (ss : List Stp) (o : Op) (n : Nat), vs = [.ref co, .str "undo"] ∧ Con C D Cc H co dc A u (ss ++ [stOf s o]) ∧ Good n s ∧ n ≤ 200 ∧ stp s o = some u ∧ ∀ H' : Hp, LS.FrL H H' A.L → Con C D Cc H' co dc A s ss → Q (.str "none") H')
theorem ok__law_error (e : Env w K mg) : FnOk P w K mg base CX0 7 e.a__law_error e.d__law_error ["some", "line"] (sp__law_error K e.C_LiveShelf e.C_Shelf e.C_Console) := by
  refine Fun.ok e.f__law_error sc__law_error (fun vs H Q E h => ?_) (fun cdv A outer s H vs Q E hr h => ?_)
  · rcases h with ⟨x, rfl, _⟩ | ⟨n, rfl, _⟩ | ⟨co, dc, A, s, ss, x, rfl, _⟩ | ⟨co, dc, A, s, rfl, _⟩ | ⟨co, dc, A, s, ss, o, rfl, _⟩ | ⟨co, dc, A, s, u, ss, o, n, rfl, _⟩ <;> rfl
  · refine ⟨_, (pss_cons (ps_set (i := 2) sc__law_error.nd rfl (by first | exact Or.inl rfl | exact Or.inr rfl) pe_non)
      (pss_cons (ps_try_keep (i := 3) rfl rfl rfl sc__law_error.nd rfl rfl ⟨rfl, by decide, .inl e.g_ShelfError⟩ takes0 (fun W pn xe tk hpo => (pss_one (ps_if (pt_cmpR LS.op_isN (pv 0) pe_non (nomark _))
        (pss_one (ps_expr (pe_makeV e.mk_Console ((okx_Console_init e).mono (by decide)) hr rfl e.g_Console e.b_Console_init (fun σ => passAt tk σ) (pa_cons (pv 1) pa_nil))))
        (pss_one (ps_expr (pe_methV (pv 0) e.cl_Console e.m_Console_execute ((okx_Console_execute e).mono (by decide)) hr e.b_Console_execute (fun σ => passAt tk σ) (pa_cons (pv 1) pa_nil))))))) (fun a oe cls d pn hz hf => (pss_one (ps_set (i := 2) sc__law_error.nd rfl (by first | exact Or.inl rfl | exact Or.inr rfl) (pv 3)))))
      (pss_one (ps_ret (pe_ifExp (pt_cmpR LS.op_isN (pv 2) pe_non (nomark _)) pe_str (pe_call ((ok__law_kind_of e).mono (by decide)) hr rfl e.g__law_kind_of e.f__law_kind_of.kp e.b__law_kind_of .nil pass0 (pa_cons (pv 2) pa_nil))))))), ?_⟩
    have c_Shelf := e.cl_Shelf; have a_Shelf_books := e.nA_Shelf_books; have a_Shelf_out := e.nA_Shelf_out; have c_LiveShelf := e.cl_LiveShelf; have a_LiveShelf__shelf := e.nA_LiveShelf__shelf; have a_LiveShelf__steps := e.nA_LiveShelf__steps; have c_Console := e.cl_Console; have a_Console__live := e.nA_Console__live
    have c_Console' := c_Console
    rcases h with ⟨x, rfl, h, k⟩ | ⟨n, rfl, h1, h2, k⟩ | ⟨co, dc, A, s, ss, x, rfl, c, h, k⟩ | ⟨co, dc, A, s, rfl, c, k⟩ | ⟨co, dc, A, s, ss, o, rfl, c, h0, h1, hn, k⟩ | ⟨co, dc, A, s, u, ss, o, n, rfl, c, g, hn, hu, k⟩
    · repeat array_get_dec
      refine LS.k_mkv fun y dy H4 n1 n2 s4 h4 => .inr ⟨y, dy, x, rfl, h4, nosz_s s4 h, fun H5 s5 => LS.w_keep e.te_InvalidSize_ShelfError fun a na => ?_⟩
      repeat array_get_dec
      refine ks_InvalidSize e fun H6 s6 => k H6 ?_
      exact ((s4.trans s5).trans (same_upd na)).trans s6
    · repeat array_get_dec
      refine LS.k_mkv fun y dy H4 n1 n2 s4 h4 => .inl ⟨y, dy, n, rfl, h1, h2, h4, fun H5 A f5 c5 no => ⟨rfl, ?_⟩⟩
      repeat array_get_dec
      exact k H5 fun a o ha => f5 _ _ (s4 _ _ ha) (ne_of_none ha n1)
    · have hob := c.ob
      repeat array_get_dec
      refine .inr ⟨co, dc, A, s, ss, x, rfl, c, .inl ⟨h, fun H5 s5 => LS.w_keep e.te_InvalidCommand_ShelfError fun a na => ?_⟩⟩
      repeat array_get_dec
      refine ks_InvalidCommand e fun H6 s6 => k H6 ?_
      exact (s5.trans (same_upd na)).trans s6
    · have hob := c.ob
      repeat array_get_dec
      refine .inr ⟨co, dc, A, s, [], _, rfl, c, .inr (.inl ⟨rfl, rfl, fun H5 s5 => LS.w_keep e.te_NothingToUndo_ShelfError fun a na => ?_⟩)⟩
      repeat array_get_dec
      refine ks_NothingToUndo e fun H6 s6 => k H6 ?_
      exact (s5.trans (same_upd na)).trans s6
    · have hob := c.ob
      repeat array_get_dec
      refine .inr ⟨co, dc, A, s, ss, _, rfl, c, .inr (.inr ⟨o, rfl, h0, h1, hn, fun H5 s5 => ?_⟩)⟩
      obtain ⟨kd, num⟩ := o
      cases kd with
      | true =>
        refine LS.w_keep e.te_InvalidPlace_ShelfError fun a na => ?_
        repeat array_get_dec
        refine ks_InvalidPlace e fun H6 s6 => k H6 ?_
        exact (s5.trans (same_upd na)).trans s6
      | false =>
        refine LS.w_keep e.te_InvalidBook_ShelfError fun a na => ?_
        repeat array_get_dec
        refine ks_InvalidBook e fun H6 s6 => k H6 ?_
        exact (s5.trans (same_upd na)).trans s6
    · have hob := c.ob
      repeat array_get_dec
      refine .inl (.inr (.inl ⟨co, dc, A, s, u, ss, o, n, rfl, c, g, hn, hu, fun H5 f5 c5 => ?_⟩))
      repeat array_get_dec
      exact k H5 f5 c5
end
end LP

namespace LP
open PySem L2 LT LG LQ LH LC LX LR
local macro_rules | `(tactic| array_mem_dec) => `(tactic| first
  | assumption
  | ((with_reducible apply LS.hp_s); assumption; array_mem_dec)
  | ((with_reducible apply LS.hp_f); assumption; array_mem_dec; array_mem_dec)
  | ((with_reducible apply LS.hp_t); assumption; array_mem_dec; array_mem_dec)
  | ((with_reducible apply LS.hp_l); assumption; array_mem_dec; array_mem_dec)
  | ((with_reducible apply LS.sq_o); array_mem_dec)
  | ((with_reducible apply LS.sq_s); assumption; array_mem_dec)
  | ((with_reducible apply LS.sq_f); assumption; array_mem_dec; array_mem_dec)
  | ((with_reducible apply LS.sq_t); assumption; array_mem_dec; array_mem_dec)
  | ((with_reducible apply LS.sq_l); assumption; array_mem_dec; array_mem_dec)
  | ((with_reducible apply LS.tu_o); array_mem_dec)
  | ((with_reducible apply LS.tu_s); assumption; array_mem_dec)
  | ((with_reducible apply LS.tu_f); assumption; array_mem_dec; array_mem_dec)
  | ((with_reducible apply LS.tu_t); assumption; array_mem_dec; array_mem_dec)
  | ((with_reducible apply LS.tu_l); assumption; array_mem_dec; array_mem_dec)
  | ((with_reducible apply LS.se_l); array_mem_dec)
  | ((with_reducible apply LS.se_t); array_mem_dec)
  | ((with_reducible apply LS.se_s); assumption; array_mem_dec)
  | ((with_reducible apply LS.se_f); assumption; array_mem_dec; array_mem_dec)
  | ((with_reducible apply LS.se_tt); assumption; array_mem_dec; array_mem_dec)
  | ((with_reducible exact Same.refl _))
  | ((with_reducible apply LS.sm_s); assumption; array_mem_dec)
  | ((with_reducible apply LS.sm_f); assumption; array_mem_dec; array_mem_dec)
  | ((with_reducible exact Fr.refl _ _))
  | ((with_reducible apply LS.fr_b); assumption; array_mem_dec)
  | ((with_reducible apply LS.fr_s); assumption; array_mem_dec)
  | ((with_reducible apply LS.fr_n); assumption; array_mem_dec; array_mem_dec)
  | ((with_reducible apply LS.fr_t); assumption; array_mem_dec)
  | ((with_reducible apply LS.no_s); assumption; array_mem_dec)
  | ((with_reducible apply LS.no_f); assumption; array_mem_dec; array_mem_dec)
  | ((with_reducible apply LS.no_t); assumption; array_mem_dec)
  | ((with_reducible apply LS.no_l); assumption; assumption)
  | ((with_reducible apply Ne.symm); assumption)
  | ((with_reducible apply LS.ne_a); assumption; array_mem_dec)
  | ((with_reducible apply LS.ne_b); assumption; array_mem_dec)
  | ((with_reducible apply LS.ne_ap); assumption)
  | ((with_reducible apply LS.ne_il); assumption; array_mem_dec)
  | ((with_reducible apply LS.ne_li); assumption; array_mem_dec)
  | ((with_reducible apply LS.ne_lt); assumption; assumption)
  | ((with_reducible apply LS.ne_tl); assumption; assumption)
  | ((with_reducible apply LS.ne_rl); assumption; array_mem_dec)
  | ((with_reducible apply LS.rl_t); assumption)
  | ((with_reducible apply LS.rl_s); assumption; array_mem_dec)
  | ((with_reducible apply LS.rl_f); assumption; array_mem_dec; array_mem_dec)
  | ((with_reducible apply LS.rl_l); assumption; array_mem_dec; array_mem_dec)
  | ((with_reducible apply LS.ap_new); assumption; assumption; array_mem_dec)
  | ((with_reducible apply LS.ap_t); assumption; array_mem_dec; array_mem_dec)
  | ((with_reducible apply LS.ap_s); assumption; array_mem_dec; array_mem_dec)
  | ((with_reducible apply LS.ap_f); assumption; array_mem_dec; array_mem_dec; array_mem_dec)
  | ((with_reducible apply LS.ap_l); assumption; array_mem_dec; array_mem_dec; array_mem_dec)
  | (with_reducible apply LS.ni_nil)
  | ((with_reducible apply LS.ni_cons); array_mem_dec; array_mem_dec)
  | (with_reducible apply LS.trk_nil)
  | ((with_reducible apply LS.trk_cons); array_mem_dec; array_mem_dec)
  | (with_reducible apply LS.al_nil)
  | ((with_reducible apply LS.al_cons); array_mem_dec; array_mem_dec)
  | (with_reducible apply LS.mem_hd)
  | ((with_reducible apply LS.mem_tl); array_mem_dec)
  | ((with_reducible apply LS.fl_refl); array_mem_dec)
  | ((with_reducible apply LS.fl_l); assumption; array_mem_dec)
  | ((with_reducible apply LS.fl_lm); assumption; array_mem_dec; array_mem_dec)
  | (with_reducible apply LS.sub_nil)
  | ((with_reducible apply LS.sub_cons); array_mem_dec; array_mem_dec)
  | ((with_reducible apply LS.fl_s); assumption; array_mem_dec)
  | ((with_reducible apply LS.fl_m); assumption; array_mem_dec; array_mem_dec; array_mem_dec)
  | ((with_reducible apply LS.fl_n); assumption; array_mem_dec; array_mem_dec; array_mem_dec)
  | ((with_reducible apply LS.rt_refl); array_mem_dec)
  | ((with_reducible apply LS.rt_t); assumption; array_mem_dec)
  | ((with_reducible apply LS.rt_s); assumption; array_mem_dec)
  | ((with_reducible apply LS.rt_f); assumption; array_mem_dec; array_mem_dec; array_mem_dec)
  | ((with_reducible apply LS.sz); (first | decide | (simp only [List.length_append, List.length_map, List.length_cons, List.length_nil, List.length_replicate]; omega)))
  | ((with_reducible apply LS.szl); (first | decide | (simp only [List.length_append, List.length_map, List.length_cons, List.length_nil, List.length_replicate]; omega))))
local macro_rules | `(tactic| array_get_dec) => `(tactic| first
  | ((with_reducible apply LS.var); exact rfl)
  | (with_reducible apply LS.con)
  | (with_reducible apply LS.op)
  | (with_reducible apply LS.ri0)
  | (with_reducible apply LS.tseq)
  | (with_reducible apply LS.tasg)
  | (with_reducible apply LS.gname)
  | (with_reducible apply LS.tcons)
  | (with_reducible apply LS.tnil)
  | (with_reducible apply LS.tcb)
  | (with_reducible apply LS.tcall)
  | (with_reducible apply LS.ttest)
  | (with_reducible apply LS.k_b)
  | (with_reducible apply LS.tb)
  | (with_reducible apply LS.tifs)
  | (with_reducible apply LS.ift)
  | (with_reducible apply LS.iff_)
  | (with_reducible apply LS.ifnt)
  | (with_reducible apply LS.ifnf)
  | (with_reducible apply LS.tnext)
  | (with_reducible apply LS.tdrop)
  | (with_reducible apply LS.tret)
  | (with_reducible apply LS.tretn)
  | (with_reducible apply LS.un)
  | (with_reducible apply LS.ru)
  | (with_reducible apply LS.tyes)
  | (with_reducible apply LS.tand)
  | (with_reducible apply LS.tor)
  | (with_reducible apply LS.tnot)
  | (with_reducible apply LS.tif)
  | (with_reducible apply LS.tandv)
  | (with_reducible apply LS.k_av)
  | (with_reducible apply LS.torv)
  | (with_reducible apply LS.k_ov)
  | (with_reducible apply LS.tnotv)
  | (with_reducible apply LS.k_nv)
  | (with_reducible apply LS.tchain)
  | (with_reducible apply LS.k_ch)
  | (with_reducible apply LS.req_i)
  | (with_reducible apply LS.rne_i)
  | (with_reducible apply LS.req_s)
  | (with_reducible apply LS.rne_s)
  | (with_reducible apply LS.req_b)
  | (with_reducible apply LS.rne_b)
  | ((with_reducible apply LS.rin_i); array_mem_dec)
  | ((with_reducible apply LS.rni_i); array_mem_dec)
  | ((with_reducible apply LS.rlen_li); array_mem_dec)
  | ((with_reducible apply LS.rlen_ls); array_mem_dec)
  | ((with_reducible apply LS.rlen_l); array_mem_dec)
  | ((with_reducible apply LS.rlen_Ei); array_mem_dec)
  | ((with_reducible apply LS.rlen_E); array_mem_dec)
  | ((with_reducible apply LS.rlen_t); array_mem_dec)
  | ((with_reducible apply LS.rixl); array_mem_dec; exact rfl)
  | ((with_reducible apply LS.rixt); array_mem_dec; exact rfl)
  | (with_reducible apply LS.isi_int_int)
  | (with_reducible apply LS.isi_int_bool)
  | (with_reducible apply LS.isi_int_str)
  | (with_reducible apply LS.isi_str_int)
  | (with_reducible apply LS.isi_str_bool)
  | (with_reducible apply LS.isi_str_str)
  | (with_reducible apply LS.isi_bool_int)
  | (with_reducible apply LS.isi_bool_bool)
  | (with_reducible apply LS.isi_bool_str)
  | (with_reducible apply LS.isi_non_int)
  | (with_reducible apply LS.isi_non_bool)
  | (with_reducible apply LS.isi_non_str)
  | ((with_reducible apply LS.isi_list_int); array_mem_dec)
  | ((with_reducible apply LS.isi_list_bool); array_mem_dec)
  | ((with_reducible apply LS.isi_list_str); array_mem_dec)
  | ((with_reducible apply LS.isi_list_list); array_mem_dec)
  | ((with_reducible apply LS.isi_list_tuple); array_mem_dec)
  | ((with_reducible apply LS.isi_tuple_int); array_mem_dec)
  | ((with_reducible apply LS.isi_tuple_bool); array_mem_dec)
  | ((with_reducible apply LS.isi_tuple_str); array_mem_dec)
  | ((with_reducible apply LS.isi_tuple_list); array_mem_dec)
  | ((with_reducible apply LS.isi_tuple_tuple); array_mem_dec)
  | ((with_reducible apply LS.isiT_i); array_mem_dec)
  | ((with_reducible apply LS.isiT_s); array_mem_dec)
  | ((with_reducible apply LS.isiT_E); array_mem_dec; array_mem_dec)
  | (with_reducible apply LS.tfld)
  | ((with_reducible apply LS.k_fl); array_mem_dec; assumption; assumption; exact rfl)
  | (with_reducible apply LS.tmeth)
  | ((with_reducible apply LS.k_me); array_mem_dec; exact rfl)
  | (with_reducible apply LS.tmake)
  | (with_reducible apply LS.tsfld)
  | (with_reducible apply LS.tprop)
  | ((with_reducible apply LS.k_pr); array_mem_dec)
  | ((with_reducible apply LS.rlen_own); array_mem_dec)
  | (with_reducible apply LS.rabs)
  | (with_reducible apply LS.rmin2)
  | (with_reducible apply LS.rmax2)
  | (with_reducible apply LS.tsl)
  | (with_reducible apply LS.tthen)
  | (with_reducible apply LS.tstep)
  | (with_reducible apply LS.tnop)
  | (with_reducible apply LS.tpart)
  | (with_reducible apply LS.k_part)
  | (with_reducible apply LS.ttup)
  | (with_reducible apply LS.tlst)
  | (with_reducible apply LS.tbm)
  | (with_reducible apply LS.tbm0)
  | ((with_reducible apply LS.ty_l); array_mem_dec)
  | (with_reducible apply LS.tpar)
  | (with_reducible apply LS.tfor)
  | (with_reducible apply LS.tlc)
  | (with_reducible apply LS.ilist)
  | ((with_reducible apply LS.k_il); array_mem_dec)
  | (with_reducible apply LS.itup)
  | ((with_reducible apply LS.k_it); array_mem_dec)
  | (with_reducible apply LS.istr)
  | (with_reducible apply LS.k_is)
  | (with_reducible apply LS.irng1)
  | ((with_reducible apply LS.k_r1n); omega)
  | ((with_reducible apply LS.k_r1); (first | omega | decide); (first | omega | decide))
  | (with_reducible apply LS.irng2)
  | ((with_reducible apply LS.k_r2); (first | omega | decide); (first | omega | decide); (first | omega | decide); (first | omega | decide))
  | (with_reducible apply LS.ienum)
  | ((with_reducible apply LS.k_en); array_mem_dec)
  | (with_reducible apply LS.izip)
  | ((with_reducible apply LS.k_zip); array_mem_dec; array_mem_dec)
  | (with_reducible apply LS.tlstrg)
  | (with_reducible apply LS.trg1)
  | (with_reducible apply LS.k_g1)
  | (with_reducible apply LS.risn_i)
  | (with_reducible apply LS.risn_s)
  | (with_reducible apply LS.risn_n)
  | (with_reducible apply LS.rnotn_i)
  | (with_reducible apply LS.rnotn_n)
  | (with_reducible apply LS.rint_b)
  | (with_reducible apply LS.rint_i)
  | (with_reducible apply LS.tm0)
  | (with_reducible apply LS.tm1)
  | (with_reducible apply LS.is_str)
  | (with_reducible apply LS.ex_s0)
  | (with_reducible apply LS.ex_int_b)
  | (with_reducible apply LS.k_par)
  | (with_reducible apply LS.tpar3)
  | (with_reducible apply LS.k_par3)
  | ((with_reducible apply LS.taug); exact rfl)
  | (with_reducible apply LS.ipi)
  | ((with_reducible apply LS.gtup); array_mem_dec; exact rfl)
  | ((with_reducible apply LS.gunl); array_mem_dec; exact rfl)
  | (with_reducible apply LS.gnil)
  | (with_reducible apply LS.gcons)
  | (with_reducible apply LS.gsub)
  | ((with_reducible apply LS.ri); first | omega | decide | assumption | exact ⟨by decide, by decide, by decide⟩ | exact .inl ⟨by decide, by decide⟩ | exact .inr ⟨by decide, by decide⟩ | exact .inl ⟨by omega, by omega⟩ | exact .inr ⟨by omega, by omega⟩)
  | (with_reducible apply LS.ex_ss)
  | (with_reducible apply LS.ex_s1)
  | (with_reducible apply LS.ex_i1)
  | (with_reducible apply LS.and_rfl)
  | (with_reducible apply LS.and_tr)
  | (with_reducible apply LS.is_non))
local macro_rules | `(tactic| array_mem_dec) => `(tactic| first
  | ((with_reducible apply LP.lv_s); assumption; array_mem_dec)
  | ((with_reducible apply LP.lv_l); assumption; array_mem_dec; array_mem_dec; array_mem_dec)
  | ((with_reducible apply LP.lv_f); assumption; array_mem_dec; array_mem_dec; array_mem_dec)
  | ((with_reducible apply LP.lv_t); assumption; array_mem_dec; array_mem_dec; array_mem_dec)
  | ((with_reducible apply LP.ops_s); assumption; array_mem_dec)
  | ((with_reducible apply LP.md_s); assumption; array_mem_dec)
  | ((with_reducible apply LP.md_l); assumption; array_mem_dec; array_mem_dec; array_mem_dec)
  | ((with_reducible apply LP.md_f); assumption; array_mem_dec; array_mem_dec; array_mem_dec)
  | ((with_reducible apply LP.md_t); assumption; array_mem_dec; array_mem_dec; array_mem_dec)
  | ((with_reducible apply LP.al_s); assumption; array_mem_dec; array_mem_dec)
  | ((with_reducible apply LP.al_t); assumption; array_mem_dec; array_mem_dec)
  | ((with_reducible apply LP.al_l); assumption; array_mem_dec; array_mem_dec; array_mem_dec)
  | ((with_reducible apply LP.al_f); assumption; array_mem_dec; array_mem_dec; array_mem_dec)
  | ((with_reducible apply LP.Lv.lists); array_mem_dec)
  | ((with_reducible apply LP.Lv.trk); array_mem_dec)
  | ((with_reducible apply LP.Mdl.trk); array_mem_dec)
  | ((with_reducible apply LP.al_no); assumption; array_mem_dec))
local macro_rules | `(tactic| array_get_dec) => `(tactic| first
  | (with_reducible apply LS.tcalle)
  | (with_reducible apply LS.tcalls))
local macro_rules | `(tactic| array_get_dec) => `(tactic| first
  | (with_reducible apply LS.tmethv)
  | (with_reducible apply LS.tmakev)
  | (with_reducible apply LS.rnotn_rr)
  | (with_reducible apply LS.risn_rr)
  | ((with_reducible apply LS.k_mev); array_mem_dec; exact rfl))
local macro_rules | `(tactic| array_get_dec) => `(tactic| first
  | (with_reducible apply LS.trg2)
  | (with_reducible apply LS.k_g2))

section
variable {P : Program} {w : World} {K : PySem.W.Frag} {mg : Str → Option Value} {base : Heap}

def sp__law_seen (C D Cc : Addr) : Sp := fun vs H Q _ => ∃ (co dc : Addr) (A : Ad) (s : Sim) (ss : List Stp) (n : Nat), vs = [.ref co] ∧ Con C D Cc H co dc A s ss ∧ Pst n ss s ∧ n ≤ 200 ∧ ss.length ≤ 1000 ∧
  ∀ (H' : Hp) (p : Addr), Same H H' → H p = none → H' p = some (.lst ((ansL s (ss.map (·.op))).map fun z => V.str z.2)) → Q (.ref p) H'
theorem con_s {C D Cc : Addr} {H H' : Hp} {co dc : Addr} {A : Ad} {s : Sim} {ss : List Stp} (c : Con C D Cc H co dc A s ss) (t : Same H H') : Con C D Cc H' co dc A s ss := ⟨t _ _ c.ob, lv_s t c.lv⟩
theorem ok__law_seen (e : Env w K mg) : FnOk P w K mg base CX0 7 e.a__law_seen e.d__law_seen ["some"] (sp__law_seen e.C_LiveShelf e.C_Shelf e.C_Console) := by
  refine Fun.ok e.f__law_seen sc__law_seen (fun vs H Q E h => ?_) (fun cdv A outer s H vs Q E hr h => ?_)
  · obtain ⟨co, dc, A, s, ss, n, rfl, _⟩ := h; rfl
  · obtain ⟨co, dc, A, s, ss, n, rfl, c, P, hn, hl, k⟩ := h
    refine ⟨_, (pss_one (ps_ret (pe_lc (own := [("line", 1)]) rfl sc__law_seen.nd (pi_list (pe_lst (pa_cons pe_str (pa_cons pe_str (pa_cons pe_str (pa_cons pe_str (pa_cons pe_str pa_nil))))))) (blkOk_by (N := ["some", "line"]) (sc := defScope s__law_seen) (by decide +kernel)) (fun _ _ _ _ _ => (pg_name (i := 1) sc__law_seen.nd rfl (by first | exact Or.inl rfl | exact Or.inr rfl))) (fun _ _ _ _ _ => pts_nil) (fun _ _ _ _ _ => (pe_meth (pv 0) e.cl_Console e.m_Console_execute ((ok_Console_execute e).mono (by decide)) hr e.b_Console_execute .nil pass0 (pa_cons (pv 1) pa_nil)))))), ?_⟩
    have c_Shelf := e.cl_Shelf; have a_Shelf_books := e.nA_Shelf_books; have a_Shelf_out := e.nA_Shelf_out; have c_LiveShelf := e.cl_LiveShelf; have a_LiveShelf__shelf := e.nA_LiveShelf__shelf; have a_LiveShelf__steps := e.nA_LiveShelf__steps; have c_Console := e.cl_Console; have a_Console__live := e.nA_Console__live
    have hob := c.ob
    repeat array_get_dec
    refine LS.k_lst (by array_mem_dec) fun l H_l n_l s_l h_l => ?_
    repeat array_get_dec
    have hlL : H_l l = some (.lst ((ansL s (ss.map (·.op))).map fun z => V.str z.1)) := h_l
    refine LS.comp (walk_list (xs := (ansL s (ss.map (·.op))).map fun z => V.str z.1)) (fun D j acc H' => acc = ((ansL s (ss.map (·.op))).take j).map (fun z => V.str z.2) ∧ Same H_l H') (fun D H' nD s' hD => ⟨rfl, s'⟩) (fun D j acc H' _ nD hD h => SqL.of (h.2 _ _ hlL)) ?_ ?_
    · rintro D j acc x H2 H3 nD hj hlen hD ⟨rfl, s2⟩ ⟨rfl, hx⟩
      rw [List.length_map] at hj
      have hp := List.getElem?_eq_getElem (l := ansL s (ss.map (·.op))) (i := j) hj
      generalize (ansL s (ss.map (·.op)))[j]'hj = p at hp
      obtain ⟨q, t⟩ := p
      rw [List.getElem?_map, hp] at hx
      cases hx
      have c3 := con_s c (s_l.trans s2)
      have hob3 := c3.ob
      refine ⟨rfl, ?_⟩
      repeat array_get_dec
      refine .inr (.inr ⟨co, dc, A, s, ss, n, j, q, t, rfl, c3, P, hn, hl, hp, fun H4 s4 => ?_⟩)
      have hD4 := s4 _ _ hD
      refine LS.k_lc hD4 hlen (by show j ≤ 99999; have : (ansL s (ss.map (·.op))).length = 5 := rfl; omega) fun H5 f5 h5 => ⟨?_, LS.Same.fr_new (s2.trans s4) f5 nD⟩
      rw [List.take_add_one, hp, List.map_append]; rfl
    · rintro D acc H2 nD hD hlen ⟨rfl, s2⟩
      rw [List.length_map, List.take_length] at hD
      exact k H2 D (s_l.trans s2) (s_l.free nD) hD
/-- a text that is no line -/
def badB (t : Str) : Bool := decide (t.length ≤ 1000) && (!(keysL.contains t) && (match Txt.partition t (" " : Str) with
  | (w, _, r) => !(Txt.isascii r && Txt.isdigit r) || ((decide (r.length ≤ 1000) && (r.cps.toList[0]? == some 48 && r != ("0" : Str))) || ((r == LQ.nst 0 || (r == LQ.nst 1 || r == LQ.nst 2)) && (w != ("take" : Str) && w != ("return" : Str))))))
theorem badB_ok {K : PySem.W.Frag} {H : Hp} {t : Str} (h : badB t = true) : BadL K H (.str t) := by
  unfold badB at h
  obtain ⟨h1, h⟩ := Bool.and_eq_true_iff.mp h
  obtain ⟨h2, h⟩ := Bool.and_eq_true_iff.mp h
  obtain ⟨⟨w, y, r⟩, hp⟩ : ∃ z, Txt.partition t (" " : Str) = z := ⟨_, rfl⟩
  rw [hp] at h
  refine .inr ⟨t, w, y, r, rfl, of_decide_eq_true h1, ?_, hp, ?_⟩
  · intro hm
    rw [List.contains_iff_mem.mpr hm] at h2
    exact Bool.noConfusion h2
  · rcases Bool.or_eq_true_iff.mp h with h | h
    · rw [Bool.not_eq_true'] at h
      exact .inl (.inl h)
    · rcases Bool.or_eq_true_iff.mp h with h | h
      · obtain ⟨a, h⟩ := Bool.and_eq_true_iff.mp h
        obtain ⟨b, c⟩ := Bool.and_eq_true_iff.mp h
        exact .inl (.inr ⟨of_decide_eq_true a, beq_iff_eq.mp b, by simpa using c⟩)
      · obtain ⟨a, h⟩ := Bool.and_eq_true_iff.mp h
        obtain ⟨b, c⟩ := Bool.and_eq_true_iff.mp h
        have hw : w ≠ ("take" : Str) ∧ w ≠ ("return" : Str) := ⟨by simpa using b, by simpa using c⟩
        rcases Bool.or_eq_true_iff.mp a with a | a
        · exact .inr ⟨0, beq_iff_eq.mp a, by omega, hw⟩
        · rcases Bool.or_eq_true_iff.mp a with a | a
          · exact .inr ⟨1, beq_iff_eq.mp a, by omega, hw⟩
          · exact .inr ⟨2, beq_iff_eq.mp a, by omega, hw⟩
def BadLs (K : PySem.W.Frag) (H : Hp) (xs : List V) : Prop := ∀ x ∈ xs, BadL K H x
theorem bad_strs {K : PySem.W.Frag} {H : Hp} {ts : List Str} (h : ts.all badB = true) : BadLs K H (ts.map V.str) := fun x hx => by
  obtain ⟨t, ht, rfl⟩ := List.mem_map.mp hx
  exact badB_ok (List.all_eq_true.mp h t ht)
def sp__law_no_lines (K : PySem.W.Frag) : Sp := fun vs H Q _ => vs = [] ∧ ∀ (H' : Hp) (p : Addr) (xs : List V), Same H H' → H p = none → H' p = some (.lst xs) → xs.length ≤ 100 → BadLs K H' xs → Q (.ref p) H'
theorem ok__law_no_lines (e : Env w K mg) : FnOk P w K mg base CX0 1 e.a__law_no_lines e.d__law_no_lines [] (sp__law_no_lines K) := by
  refine Fun.ok e.f__law_no_lines sc__law_no_lines (fun vs H Q E h => ?_) (fun cdv A outer s H vs Q E hr h => ?_)
  · obtain ⟨rfl, _⟩ := h; rfl
  · obtain ⟨rfl, k⟩ := h
    refine ⟨_, (pss_cons (ps_set (i := 0) sc__law_no_lines.nd rfl (by first | exact Or.inl rfl | exact Or.inr rfl) (pe_lst (pa_cons pe_non (pa_cons pe_int (pa_cons pe_bl (pa_cons (pe_lst (pa_cons pe_str pa_nil)) (pa_cons pe_dnewK (pa_cons pe_str (pa_cons pe_str (pa_cons pe_str (pa_cons pe_str (pa_cons pe_str (pa_cons pe_str (pa_cons pe_str (pa_cons pe_str pa_nil)))))))))))))))
      (pss_cons (ps_set (i := 0) sc__law_no_lines.nd rfl (by first | exact Or.inl rfl | exact Or.inr rfl) (pe_op op_cat (pv 0) (pe_lst (pa_cons pe_str (pa_cons pe_str (pa_cons pe_str (pa_cons pe_str (pa_cons pe_str (pa_cons pe_str (pa_cons pe_str (pa_cons pe_str (pa_cons pe_str pa_nil))))))))))))
      (pss_cons (ps_set (i := 0) sc__law_no_lines.nd rfl (by first | exact Or.inl rfl | exact Or.inr rfl) (pe_op op_cat (pv 0) (pe_lst (pa_cons pe_str (pa_cons pe_str (pa_cons pe_str (pa_cons pe_str (pa_cons pe_str (pa_cons pe_str (pa_cons pe_str (pa_cons pe_str pa_nil)))))))))))
      (pss_cons (ps_set (i := 0) sc__law_no_lines.nd rfl (by first | exact Or.inl rfl | exact Or.inr rfl) (pe_op op_cat (pv 0) (pe_lst (pa_cons pe_str (pa_cons pe_str (pa_cons pe_str (pa_cons pe_str (pa_cons pe_str (pa_cons pe_str (pa_cons pe_str (pa_cons pe_str (pa_cons pe_str pa_nil))))))))))))
      (pss_one (ps_ret (pe_op op_cat (pv 0) (pe_lst (pa_cons pe_str (pa_cons pe_str (pa_cons pe_str (pa_cons pe_str (pa_cons pe_str (pa_cons pe_str pa_nil)))))))))))))), ?_⟩
    repeat array_get_dec
    refine LS.k_lst (by array_mem_dec) fun b0 H_b0 n_b0 s_b0 h_b0 => ?_
    repeat array_get_dec
    refine LS.dnew fun dd H1 nd sd hd => ?_
    repeat array_get_dec
    refine LS.k_lst (by array_mem_dec) fun f0 H_f0 n_f0 s_f0 h_f0 => ?_
    repeat array_get_dec
    have hb0 := s_f0 _ _ (sd _ _ h_b0)
    have hd0 := s_f0 _ _ hd
    have B0 : ∀ H', Same H_f0 H' → BadLs K H' [V.non, .int 0, .bl true, .ref b0, .ref dd, .str "", .str " ", .str "books ", .str " books", .str "books books", .str "Books", .str "book", .str "undo 1"] := fun H' s' x hx => by
      rcases List.mem_cons.mp hx with rfl | hx
      · exact .inl ⟨"NoneType", by decide +kernel, .base .non⟩
      rcases List.mem_cons.mp hx with rfl | hx
      · exact .inl ⟨"int", by decide +kernel, .base (.int 0)⟩
      rcases List.mem_cons.mp hx with rfl | hx
      · exact .inl ⟨"bool", by decide +kernel, .base (.bl true)⟩
      rcases List.mem_cons.mp hx with rfl | hx
      · exact .inl ⟨"list", by decide +kernel, .base (.lst (s' _ _ hb0))⟩
      rcases List.mem_cons.mp hx with rfl | hx
      · exact .inl ⟨"dict", by decide +kernel, .base (.dK (s' _ _ hd0))⟩
      exact bad_strs (ts := ["", " ", "books ", " books", "books books", "Books", "book", "undo 1"]) (by decide +kernel) x hx
    repeat array_get_dec
    refine LS.k_lst (by array_mem_dec) fun f1 H_f1 n_f1 s_f1 h_f1 => ?_
    repeat array_get_dec
    refine LS.rcat (s_f1 _ _ h_f0) h_f1 (by show 13 + 9 ≤ sizeLine; decide) fun c1 H2 nc1 sc1 hc1 => ?_
    repeat array_get_dec
    refine LS.k_lst (by array_mem_dec) fun f2 H_f2 n_f2 s_f2 h_f2 => ?_
    repeat array_get_dec
    refine LS.rcat (s_f2 _ _ hc1) h_f2 (by show 22 + 8 ≤ sizeLine; decide) fun c2 H3 nc2 sc2 hc2 => ?_
    repeat array_get_dec
    refine LS.k_lst (by array_mem_dec) fun f3 H_f3 n_f3 s_f3 h_f3 => ?_
    repeat array_get_dec
    refine LS.rcat (s_f3 _ _ hc2) h_f3 (by show 30 + 9 ≤ sizeLine; decide) fun c3 H4 nc3 sc3 hc3 => ?_
    repeat array_get_dec
    refine LS.k_lst (by array_mem_dec) fun f4 H_f4 n_f4 s_f4 h_f4 => ?_
    repeat array_get_dec
    refine LS.rcat (s_f4 _ _ hc3) h_f4 (by show 39 + 6 ≤ sizeLine; decide) fun c4 H5 nc4 sc4 hc4 => ?_
    have t0 : Same H_f0 H5 := s_f1.trans (sc1.trans (s_f2.trans (sc2.trans (s_f3.trans (sc3.trans (s_f4.trans sc4))))))
    have t00 : Same H H5 := s_b0.trans (sd.trans (s_f0.trans t0))
    have n5 : H c4 = none := (s_b0.trans (sd.trans (s_f0.trans (s_f1.trans (sc1.trans (s_f2.trans (sc2.trans (s_f3.trans (sc3.trans s_f4))))))))).free nc4
    refine k H5 c4 _ t00 n5 hc4 (by show 45 ≤ 100; decide) fun x hx => ?_
    rcases List.mem_append.mp hx with hx | hx
    · rcases List.mem_append.mp hx with hx | hx
      · rcases List.mem_append.mp hx with hx | hx
        · rcases List.mem_append.mp hx with hx | hx
          · exact B0 H5 t0 x hx
          · exact bad_strs (ts := ["take", "take ", "take a", "take 01", "take -1", "take +1", "take 0 0", "take  0", "take 0 "]) (by decide +kernel) x hx
        · exact bad_strs (ts := ["take 1.0", "return", "return a", "return 00", "return 0 1", "return -0", "gaps 0", "out 1"]) (by decide +kernel) x hx
      · exact bad_strs (ts := ["schedule 1", "size 2", "t0", "r0", "none", "books\n", "\nundo", "take 0\n", "TAKE 0"]) (by decide +kernel) x hx
    · exact bad_strs (ts := ["take1", "return  1", "size ", "place 0", "take_book 0", "undo "]) (by decide +kernel) x hx
end
end LP

namespace LP
open PySem L2 LT LG LQ LH LC LX
section
variable {P : Program} {w : World} {K : PySem.W.Frag} {mg : Str → Option Value} {base : Heap}
theorem cut_63 {xs : List V} (h : xs.length ≤ 63) : cutV xs none (some (63 : Int)) = xs := by
  unfold cutV
  rw [HT.sIx_none, List.drop_zero, Nat.sub_zero]
  have : HT.sIx xs.length xs.length (some (63 : Int)) = xs.length := by
    have := HT.sIx_nat xs.length xs.length 63
    rw [show (63 : Int) = ((63 : Nat) : Int) from rfl, this]
    omega
  rw [this, List.take_length]
theorem ok__law_reel (e : Env w K mg) : FnOk P w K mg base CX0 1 e.a__law_reel e.d__law_reel ["script"] (sp__law_reel K) := by
  refine Fun.ok e.f__law_reel sc__law_reel (fun vs H Q E h => ?_) (fun cdv A outer s H vs Q E hr h => ?_)
  · obtain ⟨a, ns, rfl, _⟩ := h; rfl
  · obtain ⟨a, ns, rfl, hS, hl, k⟩ := h
    have hl2 : (ns.map V.int).length ≤ 63 := by rw [List.length_map]; exact hl
    refine ⟨_, (pss_cons (ps_set (i := 1) sc__law_reel.nd rfl (by first | exact Or.inl rfl | exact Or.inr rfl) (pe_op op_pow pe_int pe_int))
      (pss_cons (ps_for PassesOwn.never rfl (pi_list (pe_slice sl_list (pv 0) po_none (po_some pe_int))) (pg_name (i := 2) sc__law_reel.nd rfl (by first | exact Or.inl rfl | exact Or.inr rfl))
      (pss_one (ps_set (i := 1) sc__law_reel.nd rfl (by first | exact Or.inl rfl | exact Or.inr rfl) (pe_op op_mod (pe_op op_add (pe_op op_add (pe_op op_mulW (pv 1) (pv 1)) (pe_op op_mod (pv 2) pe_int)) pe_int) (pe_op op_sub (pe_op op_mulW (pe_op op_pow pe_int pe_int) (pe_op op_pow pe_int pe_int)) pe_int)))))
      (pss_cons (ps_setLc (i := 3) (own := [("cell", 2)]) rfl sc__law_reel.nd rfl rfl (sw_true rfl rfl rfl (by decide +kernel)) (pi_list (pe_slice sl_list (pv 0) po_none (po_some pe_int))) (blkOk_by (N := ["script", "stir", "cell", "great"]) (sc := defScope s__law_reel) (by decide +kernel)) (fun _ _ _ _ _ => (pg_name (i := 2) sc__law_reel.nd rfl (by first | exact Or.inl rfl | exact Or.inr rfl))) (fun _ _ _ _ _ => pts_one (pt_cmpR op_ge (pv 2) (pe_op op_pow pe_int pe_int) (nomark _))) (fun _ _ _ _ _ => (pe_op op_sub (pv 2) (pe_op op_pow pe_int pe_int))))
      (pss_one (ps_ret (pe_lst (pa_cons (pv 3) (pa_cons (pe_op op_cat (pe_lc (own := [("cell", 2)]) rfl sc__law_reel.nd (pi_list (pe_slice sl_list (pv 0) po_none (po_some pe_int))) (blkOk_by (N := ["script", "stir", "cell", "great"]) (sc := defScope s__law_reel) (by decide +kernel)) (fun _ _ _ _ _ => (pg_name (i := 2) sc__law_reel.nd rfl (by first | exact Or.inl rfl | exact Or.inr rfl))) (fun _ _ _ _ _ => pts_nil) (fun _ _ _ _ _ => (pe_op op_mod (pv 2) pe_int))) (pe_lst (pa_cons pe_int pa_nil))) (pa_cons pe_int (pa_cons (pv 1) pa_nil)))))))))), ?_⟩
    refine ⟨_, _, rfl, rfl, ⟨by decide, by decide, by decide⟩, ?_⟩
    refine ⟨_, rfl, _, rfl, a, _, rfl, hS, fun p hp => ?_⟩
    rw [cut_63 hl2]
    have sp := same_upd (o := HO.lst (ns.map V.int)) hp
    refine ⟨p, rfl, ⟨_, SqL.of upd_same⟩, for_it walk_list (fun i σ H1 => ∃ (t : Int) (v : Option V), 0 ≤ t ∧ t < M127 ∧ H1 = upd H p (.lst (ns.map V.int)) ∧ σ = [some (.ref a), some (.int t), v, none])
      ⟨19 ^ 31, none, by decide, by decide, rfl, rfl⟩ (fun i σ H1 _ ⟨_, _, _, _, e1, _⟩ => by rw [e1]; exact SqL.of upd_same) ?_ ?_⟩
    · rintro i x σ H1 H2 hi ⟨t, v, h0, h1, rfl, rfl⟩ ⟨rfl, hx⟩
      obtain ⟨c, hc, rfl⟩ := at_int hx
      have lt := log_m h0 h1
      refine ⟨_, rfl, _, rfl, _, _, rfl, rfl, (by show t.natAbs.log2 + t.natAbs.log2 < 1000000; omega), _, rfl, _, _, rfl, rfl, (by show (0 : Int) < 1000000000000000003; decide), _, _, rfl, rfl, _, _, rfl, rfl, ?_⟩
      refine ⟨_, _, rfl, rfl, ⟨by decide, by decide, by decide⟩, _, _, rfl, rfl, ⟨by decide, by decide, by decide⟩, _, _, rfl, rfl, (by unfold CMulW; decide +kernel), _, _, rfl, rfl, _, _, rfl, rfl, (by show (0 : Int) < 2 ^ 64 * 2 ^ 63 - 1; decide +kernel), ?_⟩
      refine ⟨_, _, Int.emod_nonneg _ (by decide +kernel), Int.lt_trans (Int.emod_lt_of_pos _ (by decide +kernel)) (by decide +kernel), rfl, rfl⟩
    · rintro σ H1 ⟨t, v, h0, h1, rfl, rfl⟩
      have sS := sp.seq hS
      refine ⟨_, rfl, _, rfl, a, _, rfl, sS, fun q hq => ?_⟩
      rw [cut_63 hl2]
      have sq := same_upd (o := HO.lst (ns.map V.int)) hq
      refine ⟨q, rfl, ⟨_, SqL.of upd_same⟩, fun D hD => lc_it walk_list (fun j H' => ∃ gs : List Int, gs.length ≤ j ∧ Same (upd (upd H p (.lst (ns.map V.int))) q (.lst (ns.map V.int))) H' ∧ H' D = some (.lst (gs.map V.int))) ⟨[], Nat.le_refl _, same_upd hD, upd_same⟩ (fun j H' _ ⟨_, _, s, _⟩ => s.seq (SqL.of upd_same)) ?_ ?_⟩
      · rintro j x H3 H4 hj ⟨gs, gl, s3, hd⟩ ⟨rfl, hx⟩
        obtain ⟨c, hc, rfl⟩ := at_int hx
        rw [List.length_map] at hj
        refine ⟨rfl, _, rfl, _, _, rfl, rfl, ⟨by decide, by decide, by decide⟩, _, _, rfl, rfl, _, rfl, ite2d (fun h => ?_) fun h => ?_⟩
        · refine ⟨_, rfl, _, _, rfl, rfl, ⟨by decide, by decide, by decide⟩, _, _, rfl, rfl, _, hd, by rw [List.length_map]; exact small1000 (by omega), gs ++ [c - 10 ^ 18], by rw [List.length_append, List.length_singleton]; omega, fun b o hb => ?_, by rw [upd_same, List.map_append]; rfl⟩
          rw [upd_ne (ne_of_none hb hD)]; exact s3 _ _ hb
        · exact ⟨gs, by omega, s3, hd⟩
      · rintro H3 ⟨gs, gl, s3, hd⟩
        rw [List.length_map] at gl
        have s03 := (sp.trans sq).trans s3
        refine ⟨_, rfl, ?_⟩
        refine ⟨_, rfl, _, rfl, a, _, rfl, s03.seq hS, fun r hr2 => ?_⟩
        rw [cut_63 hl2]
        have sr := same_upd (o := HO.lst (ns.map V.int)) hr2
        refine ⟨r, rfl, ⟨_, SqL.of upd_same⟩, fun E hE => lc_it walk_list (fun j H' => ∃ cs : List Int, cs.length = j ∧ (∀ x ∈ cs, 0 ≤ x ∧ x < 1000003) ∧ Same (upd H3 r (.lst (ns.map V.int))) H' ∧ H' E = some (.lst (cs.map V.int))) ⟨[], rfl, (fun x h => by cases h), same_upd hE, upd_same⟩ (fun j H' _ ⟨_, _, _, s, _⟩ => s.seq (SqL.of upd_same)) ?_ ?_⟩
        · rintro j x H4 H5 hj ⟨cs, cl, cb, s4, he⟩ ⟨rfl, hx⟩
          obtain ⟨c, hc, rfl⟩ := at_int hx
          rw [List.length_map] at hj
          refine ⟨rfl, _, rfl, _, _, rfl, rfl, (by show (0 : Int) < 1000003; decide), _, he, by rw [List.length_map]; exact small1000 (by omega), cs ++ [c % 1000003], by rw [List.length_append, cl]; rfl, fun x hx => ?_, fun b o hb => ?_, by rw [upd_same, List.map_append]; rfl⟩
          · rcases List.mem_append.mp hx with z | z
            · exact cb x z
            · rw [List.mem_singleton.mp z]; exact ⟨Int.emod_nonneg _ (by decide), Int.emod_lt_of_pos _ (by decide)⟩
          · rw [upd_ne (ne_of_none hb hE)]; exact s4 _ _ hb
        · rintro H4 ⟨cs, cl, cb, s4, he⟩
          rw [List.length_map] at cl
          refine ⟨(by show 1 ≤ sizeLine; decide), fun z hz => ?_⟩
          have sz := same_upd (o := HO.lst [V.int 57]) hz
          refine ⟨_, _, _, _, rfl, rfl, sz _ _ he, upd_same, by rw [List.length_map]; exact Nat.le_of_lt (small1000 (by show cs.length + 1 ≤ 1000; omega)), fun w hw => ?_⟩
          have sw := same_upd (o := HO.lst (cs.map V.int ++ [V.int 57])) hw
          refine ⟨_, rfl, (by show 4 ≤ sizeLine; decide), fun b hb => ?_⟩
          have sb := fun o => same_upd (o := o) hb
          have s3b := ((sr.trans s4).trans sz).trans sw
          have hd5 := s3b _ _ hd
          refine k _ b ((s03.trans s3b).trans (sb _)) ((s03.trans s3b).free hb) ⟨⟨D, w, gs, cs ++ [57], 0, t, upd_same, sb _ _ _ hd5, ?_, ne_of_none hd5 hb, ne_of_none upd_same hb, by simp, by rw [List.length_append]; show cs.length + 1 ≤ 64; omega, by omega, fun x hx => ?_, by decide, by decide, h0, h1⟩⟩
          · rw [sb _ _ _ upd_same, List.map_append]; rfl
          · rcases List.mem_append.mp hx with z | z
            · exact cb x z
            · rw [List.mem_singleton.mp z]; decide
end
end LP

namespace LP
open PySem L2 LT LG LQ LH LC LX
section
variable {P : Program} {w : World} {K : PySem.W.Frag} {mg : Str → Option Value} {base : Heap}
theorem dpI {K : PySem.W.Frag} {H : Hp} : ∀ l : List Int, DpAll K H (l.map V.int) (l.map PyData.int)
  | [] => .nil
  | i :: r => .cons (.int i) (dpI r)
theorem shI (l : List Int) : SeqAt.shaped (.list (l.map PyData.int)) = true := by
  have h1 : ∀ l : List Int, PyData.canLayAll0 (l.map PyData.int) = true := fun l => by
    induction l with
    | nil => rfl
    | cons i r ih => simp [PyData.canLayAll0, PyData.canLay0, ih]
  have h2 : ∀ l : List Int, PyData.depthAll (l.map PyData.int) = 0 := fun l => by
    induction l with
    | nil => rfl
    | cons i r ih => simp [PyData.depthAll, PyData.depth, ih]
  simp [SeqAt.shaped, PyData.canLay0, PyData.depth, h1, h2]
theorem eqvI (ns : List Int) : PyData.eqv (.list (ns.map PyData.int)) (.list []) = decide (ns = []) := by
  cases ns with
  | nil => simp [PyData.eqv, PyData.eqvAll]
  | cons a r => simp [PyData.eqv, PyData.eqvAll]
theorem cut_1 {x : V} {r : List V} : cutV (x :: r) (some (1 : Int)) none = r := by
  unfold cutV
  have e : HT.sIx (x :: r).length 0 (some (1 : Int)) = 1 := by
    have := HT.sIx_nat (x :: r).length 0 1
    rw [show (1 : Int) = ((1 : Nat) : Int) from rfl, this]
    simp
  rw [HT.sIx_none, e]
  simp
theorem at_of' {xs : List V} {j : Nat} {v : V} {z : Int} (hz : z = (j : Int)) (e : xs[j]? = some v) : atI xs z = some v := by
  subst hz
  unfold atI
  rw [ixN_at (List.getElem?_eq_some_iff.mp e).1]
  exact e
theorem ok0__law_draw (e : Env w K mg) : FnOk P w K mg base CX0 2 e.a__law_draw e.d__law_draw ["reel", "many"] (sp__law_draw_r) := by
  refine Fun.ok e.f__law_draw sc__law_draw (fun vs H Q E h => ?_) (fun cdv A outer s H vs Q E hr h => ?_)
  · obtain ⟨b, d, n, rfl, _⟩ := h; rfl
  · obtain ⟨b, d, n, rfl, R, hn, hn2, hd, k⟩ := h
    obtain ⟨g, c, gs, cs, kk, t, hb, hg, hc, ngb, ncb, c0, c64, g63, cb, k0, kd, t0, t1⟩ := id R.ex
    refine ⟨_, (pss_cons (ps_if (pt_cmpR (op_neD hr.units) (pe_ix ix_list (pv 0) pe_int (fun _ _ => rfl)) (pe_lst pa_nil) (nomark _))
        (pss_cons (ps_set (i := 2) sc__law_draw.nd rfl (by first | exact Or.inl rfl | exact Or.inr rfl) (pe_ix ix_list (pe_ix ix_list (pv 0) pe_int (fun _ _ => rfl)) pe_int (fun _ _ => rfl)))
      (pss_cons (ps_asg (pe_op op_cat (pe_op op_rep (pe_lst (pa_cons (pe_op op_fdivW (pv 2) (pv 1)) pa_nil)) (pe_callTy LS.call_int1 (by rfl) e.n_int (by decide +kernel) (pa_cons (pe_cmpR op_ge (pv 2) (pv 1) (nomark _)) pa_nil))) (pe_slice sl_list (pe_ix ix_list (pv 0) pe_int (fun _ _ => rfl)) (po_some pe_int) po_none)) (pg_sub (pv 0) pe_int set_list))
      (pss_one (ps_ret (pe_op op_mod (pv 2) (pv 1))))))
        pss_nil)
      (pss_cons (ps_asg (pe_op op_add (pe_ix ix_list (pv 0) pe_int (fun _ _ => rfl)) pe_int) (pg_sub (pv 0) pe_int set_list))
      (pss_cons (ps_set (i := 3) sc__law_draw.nd rfl (by first | exact Or.inl rfl | exact Or.inr rfl) (pe_ix ix_list (pe_ix ix_list (pv 0) pe_int (fun _ _ => rfl)) (pe_op op_mod (pe_ix ix_list (pv 0) pe_int (fun _ _ => rfl)) (pe_callB LS.call_len (by rfl) e.n_len PySem.boot_len (pa_cons (pe_ix ix_list (pv 0) pe_int (fun _ _ => rfl)) pa_nil))) (fun _ _ => rfl)))
      (pss_cons (ps_set (i := 4) sc__law_draw.nd rfl (by first | exact Or.inl rfl | exact Or.inr rfl) (pe_op op_add (pe_op op_add (pe_op op_mulW (pe_ix ix_list (pv 0) pe_int (fun _ _ => rfl)) (pe_ix ix_list (pv 0) pe_int (fun _ _ => rfl))) (pe_op op_mulW (pe_op op_add (pv 3) pe_int) pe_int)) (pe_op op_mulW (pe_ix ix_list (pv 0) pe_int (fun _ _ => rfl)) pe_int)))
      (pss_cons (ps_asg (pe_op op_mod (pv 4) (pe_op op_sub (pe_op op_mulW (pe_op op_pow pe_int pe_int) (pe_op op_pow pe_int pe_int)) pe_int)) (pg_sub (pv 0) pe_int set_list))
      (pss_one (ps_ret (pe_op op_mod (pe_op op_fdivW (pe_ix ix_list (pv 0) pe_int (fun _ _ => rfl)) (pe_op op_pow pe_int pe_int)) (pv 1))))))))), ?_⟩
    have r0 : ∀ r : Int, 0 ≤ r % n := fun r => Int.emod_nonneg _ (by omega)
    have r1 : ∀ r : Int, r % n < n := fun r => Int.emod_lt_of_pos _ hn
    refine ⟨_, rfl, b, _, _, _, rfl, rfl, SqL.of hb, rfl, by decide, fun e he => ?_⟩
    have se := same_upd (o := HO.lst []) he
    have hb1 := se _ _ hb
    have hg1 := se _ _ hg
    have hc1 := se _ _ hc
    refine ⟨_, _, .lst (SqL.of hg1) (dpI gs), .lst (SqL.of upd_same) .nil, shI _, rfl, _, rfl, ?_⟩
    rw [eqvI]
    generalize upd H e (.lst []) = H1 at se hb1 hg1 hc1
    by_cases hgs : gs = []
    · refine iteNB (decide_eq_true hgs) ?_
      refine ⟨_, rfl, b, _, _, _, rfl, rfl, SqL.of hb1, rfl, _, _, rfl, rfl, _, rfl, b, _, _, 2, rfl, rfl, hb1, rfl, ?_⟩
      have hc2 : upd H1 b (.lst [.ref g, .ref c, .int (kk + 1), .int t]) c = some (.lst (cs.map V.int)) := by rw [upd_ne ncb]; exact hc1
      have hg2 : upd H1 b (.lst [.ref g, .ref c, .int (kk + 1), .int t]) g = some (.lst (gs.map V.int)) := by rw [upd_ne ngb]; exact hg1
      have e0 : (cs.map V.int).length = cs.length := List.length_map ..
      have m0 : 0 ≤ (kk + 1) % ((cs.length : Nat) : Int) := Int.emod_nonneg _ (by omega)
      have m1 : (kk + 1) % ((cs.length : Nat) : Int) < cs.length := Int.emod_lt_of_pos _ (by omega)
      have hx : ((kk + 1) % ((cs.length : Nat) : Int)).toNat < cs.length := by omega
      refine ⟨_, rfl, b, _, _, _, rfl, rfl, SqL.of upd_same, rfl, ?_⟩
      refine ⟨_, rfl, b, _, _, _, rfl, rfl, SqL.of upd_same, rfl, _, rfl, b, _, _, _, rfl, rfl, SqL.of upd_same, rfl, c, _, rfl, .inl (SqL.of hc2), _, _, rfl, rfl, (by rw [e0]; omega), ?_⟩
      have hcx := List.getElem?_eq_getElem (l := cs) hx
      generalize cs[((kk + 1) % ((cs.length : Nat) : Int)).toNat]'hx = ex at hcx
      obtain ⟨x0, x1⟩ := cb ex (List.mem_of_getElem? hcx)
      refine ⟨c, _, _, _, rfl, rfl, SqL.of hc2, at_of' (j := ((kk + 1) % ((cs.length : Nat) : Int)).toNat) (v := V.int ex) (by rw [e0]; omega) (by rw [List.getElem?_map, hcx]; rfl), ?_⟩
      have lt := log_m t0 t1
      have lx := log_m (t := ex + 13) (by omega) (by omega)
      have lk := log_m (t := kk + 1) (by omega) (by omega)
      refine ⟨_, rfl, b, _, _, _, rfl, rfl, SqL.of upd_same, rfl, _, rfl, b, _, _, _, rfl, rfl, SqL.of upd_same, rfl, _, _, rfl, rfl, (by show t.natAbs.log2 + t.natAbs.log2 < 1000000; omega), ?_⟩
      refine ⟨_, rfl, _, _, rfl, rfl, _, _, rfl, rfl, (by show (ex + 13).natAbs.log2 + Nat.log2 150889 < 1000000; have : Nat.log2 150889 < 200 := (by decide +kernel); omega), _, _, rfl, rfl, ?_⟩
      refine ⟨_, rfl, b, _, _, _, rfl, rfl, SqL.of upd_same, rfl, _, _, rfl, rfl, (by show (kk + 1).natAbs.log2 + Nat.log2 999961 < 1000000; have : Nat.log2 999961 < 200 := (by decide +kernel); omega), _, _, rfl, rfl, ?_⟩
      refine ⟨_, rfl, _, _, rfl, rfl, ⟨by decide, by decide, by decide⟩, _, _, rfl, rfl, ⟨by decide, by decide, by decide⟩, _, _, rfl, rfl, (by unfold CMulW; decide +kernel), _, _, rfl, rfl, _, _, rfl, rfl, (by show (0 : Int) < 2 ^ 64 * 2 ^ 63 - 1; decide +kernel), ?_⟩
      refine ⟨_, rfl, b, _, _, 3, rfl, rfl, upd_same, rfl, ?_⟩
      rw [upd_upd]
      refine ⟨_, rfl, b, _, _, _, rfl, rfl, SqL.of upd_same, rfl, _, _, rfl, rfl, ⟨by decide, by decide, by decide⟩, _, _, rfl, rfl, ⟨by show (0 : Int) < 2 ^ 41; decide, by show Nat.log2 (2 ^ 41) < 9000; decide +kernel⟩, _, rfl, _, _, rfl, rfl, hn, ?_⟩
      refine k _ _ (r0 _) (r1 _) ⟨⟨g, c, gs, cs, kk + 1, _, upd_same, by rw [upd_ne ngb]; exact hg1, by rw [upd_ne ncb]; exact hc1, ngb, ncb, c0, c64, g63, cb, by omega, by omega, Int.emod_nonneg _ (by decide +kernel), Int.lt_trans (Int.emod_lt_of_pos _ (by decide +kernel)) (by decide +kernel)⟩⟩ (fun a o ha n => by rw [upd_ne n]; exact se _ _ ha) fun a ap _ => ⟨ap.1, fun xs hx hm => by
        rw [upd_same] at hx; cases hx
        refine ap.2 _ hb ?_
        simp at hm ⊢
        exact hm⟩
    · refine iteNX hgs ?_
      obtain ⟨g0, gr, rfl⟩ := List.exists_cons_of_ne_nil hgs
      refine ⟨_, rfl, b, _, _, _, rfl, rfl, SqL.of hb1, rfl, g, _, _, _, rfl, rfl, SqL.of hg1, at_of' (j := 0) (v := V.int g0) rfl rfl, ?_⟩
      refine ⟨_, rfl, _, rfl, _, _, rfl, rfl, ⟨hn, hn2⟩, (by show 1 ≤ sizeLine; decide), fun m hm => ?_⟩
      have sm := same_upd (o := HO.lst [V.int (g0 / n)]) hm
      refine ⟨_, rfl, _, rfl, _, _, rfl, rfl, .inr ⟨_, rfl, ?_⟩⟩
      obtain ⟨q, hq, q01⟩ : ∃ q : Nat, (if decide (n ≤ g0) = true then (1 : Int) else 0) = (q : Int) ∧ (q = 0 ∨ q = 1) := by
        by_cases z : n ≤ g0
        · exact ⟨1, by rw [if_pos (decide_eq_true z)]; rfl, .inr rfl⟩
        · exact ⟨0, by rw [if_neg (by rw [decide_eq_false z]; decide)]; rfl, .inl rfl⟩
      show rRep (V.ref m) (V.int (if decide (n ≤ g0) = true then (1 : Int) else 0)) _ _
      rw [hq]
      refine ⟨m, _, _, rfl, rfl, upd_same, by omega, by omega, by (rcases q01 with rfl | rfl <;> (show 1 * _ ≤ sizeLine; decide)), fun p hp => ?_⟩
      have hfl : (List.replicate ((q : Nat) : Int).toNat [V.int (g0 / n)]).flatten = (List.replicate q (g0 / n)).map V.int := by
        rcases q01 with rfl | rfl <;> rfl
      show tSl _ _ _ _ _ (upd (upd H1 m (.lst [V.int (g0 / n)])) p (.lst (List.replicate ((q : Nat) : Int).toNat [V.int (g0 / n)]).flatten)) _
      rw [hfl]
      have sp := sm.trans (same_upd (o := HO.lst ((List.replicate q (g0 / n)).map V.int)) hp)
      refine ⟨_, rfl, b, _, _, _, rfl, rfl, SqL.of (sp _ _ hb1), rfl, _, rfl, g, _, rfl, SqL.of (sp _ _ hg1), fun p2 hp2 => ?_⟩
      rw [show cutV ((g0 :: gr).map V.int) (some (1 : Int)) none = gr.map V.int from cut_1]
      have s2 := same_upd (o := HO.lst (gr.map V.int)) hp2
      have g63' : gr.length + 1 ≤ 63 := g63
      have ql : (List.replicate q (g0 / n)).length ≤ 1 := by rw [List.length_replicate]; omega
      refine ⟨_, _, _, _, rfl, rfl, s2 _ _ upd_same, upd_same, by rw [List.length_map, List.length_map]; exact Nat.le_of_lt (small1000 (by omega)), fun p3 hp3 => ?_⟩
      rw [← List.map_append]
      have s3 := same_upd (o := HO.lst ((List.replicate q (g0 / n) ++ gr).map V.int)) hp3
      have s13 := (sp.trans s2).trans s3
      refine ⟨_, rfl, b, _, _, 0, rfl, rfl, s13 _ _ hb1, rfl, ?_⟩
      refine ⟨_, rfl, _, rfl, _, _, rfl, rfl, hn, ?_⟩
      have n3 : p3 ≠ b := (ne_of_none ((sp.trans s2) _ _ hb1) hp3).symm
      refine k _ _ (r0 _) (r1 _) ⟨⟨p3, c, List.replicate q (g0 / n) ++ gr, cs, kk, t, upd_same, by rw [upd_ne n3]; exact upd_same, by rw [upd_ne ncb]; exact s13 _ _ hc1, n3, ncb, c0, c64, by rw [List.length_append]; omega, cb, k0, by omega, t0, t1⟩⟩ (fun a o ha n => by rw [upd_ne n]; exact s13 _ _ (se _ _ ha)) fun a ap al => ⟨ap.1, fun xs hx hm => by
        rw [upd_same] at hx; cases hx
        simp at hm
        rcases hm with rfl | rfl
        · exact al (se.free ((sp.trans s2).free hp3))
        · exact ap.2 _ hb (by simp)⟩
theorem ok__law_draw (e : Env w K mg) : FnOk P w K mg base CX0 2 e.a__law_draw e.d__law_draw ["reel", "many"] sp__law_draw_t := LS.fn_imp (ok0__law_draw e) fun _ _ _ _ => draw_t
end
end LP

namespace LP
open PySem L2 LT LG LQ LH LC LX LR
local macro_rules | `(tactic| array_mem_dec) => `(tactic| first
  | assumption
  | ((with_reducible apply LS.hp_s); assumption; array_mem_dec)
  | ((with_reducible apply LS.hp_f); assumption; array_mem_dec; array_mem_dec)
  | ((with_reducible apply LS.hp_t); assumption; array_mem_dec; array_mem_dec)
  | ((with_reducible apply LS.hp_l); assumption; array_mem_dec; array_mem_dec)
  | ((with_reducible apply LS.sq_o); array_mem_dec)
  | ((with_reducible apply LS.sq_s); assumption; array_mem_dec)
  | ((with_reducible apply LS.sq_f); assumption; array_mem_dec; array_mem_dec)
  | ((with_reducible apply LS.sq_t); assumption; array_mem_dec; array_mem_dec)
  | ((with_reducible apply LS.sq_l); assumption; array_mem_dec; array_mem_dec)
  | ((with_reducible apply LS.tu_o); array_mem_dec)
  | ((with_reducible apply LS.tu_s); assumption; array_mem_dec)
  | ((with_reducible apply LS.tu_f); assumption; array_mem_dec; array_mem_dec)
  | ((with_reducible apply LS.tu_t); assumption; array_mem_dec; array_mem_dec)
  | ((with_reducible apply LS.tu_l); assumption; array_mem_dec; array_mem_dec)
  | ((with_reducible apply LS.se_l); array_mem_dec)
  | ((with_reducible apply LS.se_t); array_mem_dec)
  | ((with_reducible apply LS.se_s); assumption; array_mem_dec)
  | ((with_reducible apply LS.se_f); assumption; array_mem_dec; array_mem_dec)
  | ((with_reducible apply LS.se_tt); assumption; array_mem_dec; array_mem_dec)
  | ((with_reducible exact Same.refl _))
  | ((with_reducible apply LS.sm_s); assumption; array_mem_dec)
  | ((with_reducible apply LS.sm_f); assumption; array_mem_dec; array_mem_dec)
  | ((with_reducible exact Fr.refl _ _))
  | ((with_reducible apply LS.fr_b); assumption; array_mem_dec)
  | ((with_reducible apply LS.fr_s); assumption; array_mem_dec)
  | ((with_reducible apply LS.fr_n); assumption; array_mem_dec; array_mem_dec)
  | ((with_reducible apply LS.fr_t); assumption; array_mem_dec)
  | ((with_reducible apply LS.no_s); assumption; array_mem_dec)
  | ((with_reducible apply LS.no_f); assumption; array_mem_dec; array_mem_dec)
  | ((with_reducible apply LS.no_t); assumption; array_mem_dec)
  | ((with_reducible apply LS.no_l); assumption; assumption)
  | ((with_reducible apply Ne.symm); assumption)
  | ((with_reducible apply LS.ne_a); assumption; array_mem_dec)
  | ((with_reducible apply LS.ne_b); assumption; array_mem_dec)
  | ((with_reducible apply LS.ne_ap); assumption)
  | ((with_reducible apply LS.ne_il); assumption; array_mem_dec)
  | ((with_reducible apply LS.ne_li); assumption; array_mem_dec)
  | ((with_reducible apply LS.ne_lt); assumption; assumption)
  | ((with_reducible apply LS.ne_tl); assumption; assumption)
  | ((with_reducible apply LS.ne_rl); assumption; array_mem_dec)
  | ((with_reducible apply LS.rl_t); assumption)
  | ((with_reducible apply LS.rl_s); assumption; array_mem_dec)
  | ((with_reducible apply LS.rl_f); assumption; array_mem_dec; array_mem_dec)
  | ((with_reducible apply LS.rl_l); assumption; array_mem_dec; array_mem_dec)
  | ((with_reducible apply LS.ap_new); assumption; assumption; array_mem_dec)
  | ((with_reducible apply LS.ap_t); assumption; array_mem_dec; array_mem_dec)
  | ((with_reducible apply LS.ap_s); assumption; array_mem_dec; array_mem_dec)
  | ((with_reducible apply LS.ap_f); assumption; array_mem_dec; array_mem_dec; array_mem_dec)
  | ((with_reducible apply LS.ap_l); assumption; array_mem_dec; array_mem_dec; array_mem_dec)
  | (with_reducible apply LS.ni_nil)
  | ((with_reducible apply LS.ni_cons); array_mem_dec; array_mem_dec)
  | (with_reducible apply LS.trk_nil)
  | ((with_reducible apply LS.trk_cons); array_mem_dec; array_mem_dec)
  | (with_reducible apply LS.al_nil)
  | ((with_reducible apply LS.al_cons); array_mem_dec; array_mem_dec)
  | (with_reducible apply LS.mem_hd)
  | ((with_reducible apply LS.mem_tl); array_mem_dec)
  | ((with_reducible apply LS.fl_refl); array_mem_dec)
  | ((with_reducible apply LS.fl_l); assumption; array_mem_dec)
  | ((with_reducible apply LS.fl_lm); assumption; array_mem_dec; array_mem_dec)
  | (with_reducible apply LS.sub_nil)
  | ((with_reducible apply LS.sub_cons); array_mem_dec; array_mem_dec)
  | ((with_reducible apply LS.fl_s); assumption; array_mem_dec)
  | ((with_reducible apply LS.fl_m); assumption; array_mem_dec; array_mem_dec; array_mem_dec)
  | ((with_reducible apply LS.fl_n); assumption; array_mem_dec; array_mem_dec; array_mem_dec)
  | ((with_reducible apply LS.rt_refl); array_mem_dec)
  | ((with_reducible apply LS.rt_t); assumption; array_mem_dec)
  | ((with_reducible apply LS.rt_s); assumption; array_mem_dec)
  | ((with_reducible apply LS.rt_f); assumption; array_mem_dec; array_mem_dec; array_mem_dec)
  | ((with_reducible apply LS.sz); (first | decide | (simp only [List.length_append, List.length_map, List.length_cons, List.length_nil, List.length_replicate]; omega)))
  | ((with_reducible apply LS.szl); (first | decide | (simp only [List.length_append, List.length_map, List.length_cons, List.length_nil, List.length_replicate]; omega))))
local macro_rules | `(tactic| array_get_dec) => `(tactic| first
  | ((with_reducible apply LS.var); exact rfl)
  | (with_reducible apply LS.con)
  | (with_reducible apply LS.op)
  | (with_reducible apply LS.ri0)
  | (with_reducible apply LS.tseq)
  | (with_reducible apply LS.tasg)
  | (with_reducible apply LS.gname)
  | (with_reducible apply LS.tcons)
  | (with_reducible apply LS.tnil)
  | (with_reducible apply LS.tcb)
  | (with_reducible apply LS.tcall)
  | (with_reducible apply LS.ttest)
  | (with_reducible apply LS.k_b)
  | (with_reducible apply LS.tb)
  | (with_reducible apply LS.tifs)
  | (with_reducible apply LS.ift)
  | (with_reducible apply LS.iff_)
  | (with_reducible apply LS.ifnt)
  | (with_reducible apply LS.ifnf)
  | (with_reducible apply LS.tnext)
  | (with_reducible apply LS.tdrop)
  | (with_reducible apply LS.tret)
  | (with_reducible apply LS.tretn)
  | (with_reducible apply LS.un)
  | (with_reducible apply LS.ru)
  | (with_reducible apply LS.tyes)
  | (with_reducible apply LS.tand)
  | (with_reducible apply LS.tor)
  | (with_reducible apply LS.tnot)
  | (with_reducible apply LS.tif)
  | (with_reducible apply LS.tandv)
  | (with_reducible apply LS.k_av)
  | (with_reducible apply LS.torv)
  | (with_reducible apply LS.k_ov)
  | (with_reducible apply LS.tnotv)
  | (with_reducible apply LS.k_nv)
  | (with_reducible apply LS.tchain)
  | (with_reducible apply LS.k_ch)
  | (with_reducible apply LS.req_i)
  | (with_reducible apply LS.rne_i)
  | (with_reducible apply LS.req_s)
  | (with_reducible apply LS.rne_s)
  | (with_reducible apply LS.req_b)
  | (with_reducible apply LS.rne_b)
  | ((with_reducible apply LS.rin_i); array_mem_dec)
  | ((with_reducible apply LS.rni_i); array_mem_dec)
  | ((with_reducible apply LS.rlen_li); array_mem_dec)
  | ((with_reducible apply LS.rlen_ls); array_mem_dec)
  | ((with_reducible apply LS.rlen_l); array_mem_dec)
  | ((with_reducible apply LS.rlen_Ei); array_mem_dec)
  | ((with_reducible apply LS.rlen_E); array_mem_dec)
  | ((with_reducible apply LS.rlen_t); array_mem_dec)
  | ((with_reducible apply LS.rixl); array_mem_dec; exact rfl)
  | ((with_reducible apply LS.rixt); array_mem_dec; exact rfl)
  | (with_reducible apply LS.isi_int_int)
  | (with_reducible apply LS.isi_int_bool)
  | (with_reducible apply LS.isi_int_str)
  | (with_reducible apply LS.isi_str_int)
  | (with_reducible apply LS.isi_str_bool)
  | (with_reducible apply LS.isi_str_str)
  | (with_reducible apply LS.isi_bool_int)
  | (with_reducible apply LS.isi_bool_bool)
  | (with_reducible apply LS.isi_bool_str)
  | (with_reducible apply LS.isi_non_int)
  | (with_reducible apply LS.isi_non_bool)
  | (with_reducible apply LS.isi_non_str)
  | ((with_reducible apply LS.isi_list_int); array_mem_dec)
  | ((with_reducible apply LS.isi_list_bool); array_mem_dec)
  | ((with_reducible apply LS.isi_list_str); array_mem_dec)
  | ((with_reducible apply LS.isi_list_list); array_mem_dec)
  | ((with_reducible apply LS.isi_list_tuple); array_mem_dec)
  | ((with_reducible apply LS.isi_tuple_int); array_mem_dec)
  | ((with_reducible apply LS.isi_tuple_bool); array_mem_dec)
  | ((with_reducible apply LS.isi_tuple_str); array_mem_dec)
  | ((with_reducible apply LS.isi_tuple_list); array_mem_dec)
  | ((with_reducible apply LS.isi_tuple_tuple); array_mem_dec)
  | ((with_reducible apply LS.isiT_i); array_mem_dec)
  | ((with_reducible apply LS.isiT_s); array_mem_dec)
  | ((with_reducible apply LS.isiT_E); array_mem_dec; array_mem_dec)
  | (with_reducible apply LS.tfld)
  | ((with_reducible apply LS.k_fl); array_mem_dec; assumption; assumption; exact rfl)
  | (with_reducible apply LS.tmeth)
  | ((with_reducible apply LS.k_me); array_mem_dec; exact rfl)
  | (with_reducible apply LS.tmake)
  | (with_reducible apply LS.tsfld)
  | (with_reducible apply LS.tprop)
  | ((with_reducible apply LS.k_pr); array_mem_dec)
  | ((with_reducible apply LS.rlen_own); array_mem_dec)
  | (with_reducible apply LS.rabs)
  | (with_reducible apply LS.rmin2)
  | (with_reducible apply LS.rmax2)
  | (with_reducible apply LS.tsl)
  | (with_reducible apply LS.tthen)
  | (with_reducible apply LS.tstep)
  | (with_reducible apply LS.tnop)
  | (with_reducible apply LS.tpart)
  | (with_reducible apply LS.k_part)
  | (with_reducible apply LS.ttup)
  | (with_reducible apply LS.tlst)
  | (with_reducible apply LS.tbm)
  | (with_reducible apply LS.tbm0)
  | ((with_reducible apply LS.ty_l); array_mem_dec)
  | (with_reducible apply LS.tpar)
  | (with_reducible apply LS.tfor)
  | (with_reducible apply LS.tlc)
  | (with_reducible apply LS.ilist)
  | ((with_reducible apply LS.k_il); array_mem_dec)
  | (with_reducible apply LS.itup)
  | ((with_reducible apply LS.k_it); array_mem_dec)
  | (with_reducible apply LS.istr)
  | (with_reducible apply LS.k_is)
  | (with_reducible apply LS.irng1)
  | ((with_reducible apply LS.k_r1n); omega)
  | ((with_reducible apply LS.k_r1); (first | omega | decide); (first | omega | decide))
  | (with_reducible apply LS.irng2)
  | ((with_reducible apply LS.k_r2); (first | omega | decide); (first | omega | decide); (first | omega | decide); (first | omega | decide))
  | (with_reducible apply LS.ienum)
  | ((with_reducible apply LS.k_en); array_mem_dec)
  | (with_reducible apply LS.izip)
  | ((with_reducible apply LS.k_zip); array_mem_dec; array_mem_dec)
  | (with_reducible apply LS.tlstrg)
  | (with_reducible apply LS.trg1)
  | (with_reducible apply LS.k_g1)
  | (with_reducible apply LS.risn_i)
  | (with_reducible apply LS.risn_s)
  | (with_reducible apply LS.risn_n)
  | (with_reducible apply LS.rnotn_i)
  | (with_reducible apply LS.rnotn_n)
  | (with_reducible apply LS.rint_b)
  | (with_reducible apply LS.rint_i)
  | (with_reducible apply LS.tm0)
  | (with_reducible apply LS.tm1)
  | (with_reducible apply LS.is_str)
  | (with_reducible apply LS.ex_s0)
  | (with_reducible apply LS.ex_int_b)
  | (with_reducible apply LS.k_par)
  | (with_reducible apply LS.tpar3)
  | (with_reducible apply LS.k_par3)
  | ((with_reducible apply LS.taug); exact rfl)
  | (with_reducible apply LS.ipi)
  | ((with_reducible apply LS.gtup); array_mem_dec; exact rfl)
  | ((with_reducible apply LS.gunl); array_mem_dec; exact rfl)
  | (with_reducible apply LS.gnil)
  | (with_reducible apply LS.gcons)
  | (with_reducible apply LS.gsub)
  | ((with_reducible apply LS.ri); first | omega | decide | assumption | exact ⟨by decide, by decide, by decide⟩ | exact .inl ⟨by decide, by decide⟩ | exact .inr ⟨by decide, by decide⟩ | exact .inl ⟨by omega, by omega⟩ | exact .inr ⟨by omega, by omega⟩)
  | (with_reducible apply LS.ex_ss)
  | (with_reducible apply LS.ex_s1)
  | (with_reducible apply LS.ex_i1)
  | (with_reducible apply LS.and_rfl)
  | (with_reducible apply LS.and_tr)
  | (with_reducible apply LS.is_non))
local macro_rules | `(tactic| array_mem_dec) => `(tactic| first
  | ((with_reducible apply LP.lv_s); assumption; array_mem_dec)
  | ((with_reducible apply LP.lv_l); assumption; array_mem_dec; array_mem_dec; array_mem_dec)
  | ((with_reducible apply LP.lv_f); assumption; array_mem_dec; array_mem_dec; array_mem_dec)
  | ((with_reducible apply LP.lv_t); assumption; array_mem_dec; array_mem_dec; array_mem_dec)
  | ((with_reducible apply LP.ops_s); assumption; array_mem_dec)
  | ((with_reducible apply LP.md_s); assumption; array_mem_dec)
  | ((with_reducible apply LP.md_l); assumption; array_mem_dec; array_mem_dec; array_mem_dec)
  | ((with_reducible apply LP.md_f); assumption; array_mem_dec; array_mem_dec; array_mem_dec)
  | ((with_reducible apply LP.md_t); assumption; array_mem_dec; array_mem_dec; array_mem_dec)
  | ((with_reducible apply LP.al_s); assumption; array_mem_dec; array_mem_dec)
  | ((with_reducible apply LP.al_t); assumption; array_mem_dec; array_mem_dec)
  | ((with_reducible apply LP.al_l); assumption; array_mem_dec; array_mem_dec; array_mem_dec)
  | ((with_reducible apply LP.al_f); assumption; array_mem_dec; array_mem_dec; array_mem_dec)
  | ((with_reducible apply LP.Lv.lists); array_mem_dec)
  | ((with_reducible apply LP.Lv.trk); array_mem_dec)
  | ((with_reducible apply LP.Mdl.trk); array_mem_dec)
  | ((with_reducible apply LP.al_no); assumption; array_mem_dec))
local macro_rules | `(tactic| array_get_dec) => `(tactic| first
  | (with_reducible apply LS.tcalle)
  | (with_reducible apply LS.tcalls))
local macro_rules | `(tactic| array_get_dec) => `(tactic| first
  | (with_reducible apply LS.tmethv)
  | (with_reducible apply LS.tmakev)
  | (with_reducible apply LS.rnotn_rr)
  | (with_reducible apply LS.risn_rr)
  | ((with_reducible apply LS.k_mev); array_mem_dec; exact rfl))
local macro_rules | `(tactic| array_get_dec) => `(tactic| first
  | (with_reducible apply LS.trg2)
  | (with_reducible apply LS.k_g2))

section
variable {P : Program} {w : World} {K : PySem.W.Frag} {mg : Str → Option Value} {base : Heap}

theorem set_cut {α : Type} {l : List α} {p : Nat} (h : p < l.length) (x : α) : l.take p ++ [x] ++ l.drop (p + 1) = l.set p x := by
  rw [List.set_eq_take_append_cons_drop, if_pos h, List.append_assoc]; rfl
theorem erase_filter {l : List Int} (nd : l.Nodup) {x : Int} : l.erase x = l.filter (fun y => !decide (y = x)) := by
  rw [nd.erase_eq_filter]
  refine List.filter_congr fun y _ => ?_
  by_cases e : y = x
  · subst e; simp
  · simp [e]
theorem kst_t : kst true = ("take" : Str) := rfl
theorem kst_f : ¬ kst false = ("take" : Str) := by decide +kernel
theorem ok__law_moved (e : Env w K mg) : FnOk P w K mg base CX0 1 e.a__law_moved e.d__law_moved ["model", "kind", "number"] (sp__law_moved) := by
  refine Fun.ok e.f__law_moved sc__law_moved (fun vs H Q E h => ?_) (fun cdv A outer s H vs Q E hr h => ?_)
  · obtain ⟨M, s, u, os, n, o, rfl, _⟩ := h; rfl
  · obtain ⟨M, s, u, os, n, o, rfl, md, g, hn, hu, hl, k⟩ := h
    refine ⟨_, (pss_cons (ps_asg (pv 0) (pg_unl (n := 3) rfl (pgs_cons (pg_name (i := 3) sc__law_moved.nd rfl (by first | exact Or.inl rfl | exact Or.inr rfl)) (pgs_cons (pg_name (i := 4) sc__law_moved.nd rfl (by first | exact Or.inl rfl | exact Or.inr rfl)) (pgs_cons (pg_name (i := 5) sc__law_moved.nd rfl (by first | exact Or.inl rfl | exact Or.inr rfl)) pgs_nil)))))
      (pss_cons (ps_if (pt_cmpR op_eq (pv 1) pe_str (nomark _))
        (pss_cons (ps_set (i := 6) sc__law_moved.nd rfl (by first | exact Or.inl rfl | exact Or.inr rfl) (pe_ix ix_list (pv 3) (pv 2) (fun _ _ => rfl)))
      (pss_cons (ps_set (i := 3) sc__law_moved.nd rfl (by first | exact Or.inl rfl | exact Or.inr rfl) (pe_op op_cat (pe_op op_cat (pe_slice sl_list (pv 3) po_none (po_some (pv 2))) (pe_lst (pa_cons pe_non pa_nil))) (pe_slice sl_list (pv 3) (po_some (pe_op op_add (pv 2) pe_int)) po_none)))
      (pss_one (ps_set (i := 4) sc__law_moved.nd rfl (by first | exact Or.inl rfl | exact Or.inr rfl) (pe_op op_cat (pv 4) (pe_lst (pa_cons (pv 6) pa_nil)))))))
        (pss_cons (ps_set (i := 6) sc__law_moved.nd rfl (by first | exact Or.inl rfl | exact Or.inr rfl) (pe_bm PySem.F.plainAttrs_list PySem.F.slot_list_index PySem.F.type_list_index mt_index (pv 3) (pa_cons pe_non pa_nil)))
      (pss_cons (ps_set (i := 3) sc__law_moved.nd rfl (by first | exact Or.inl rfl | exact Or.inr rfl) (pe_op op_cat (pe_op op_cat (pe_slice sl_list (pv 3) po_none (po_some (pv 6))) (pe_lst (pa_cons (pv 2) pa_nil))) (pe_slice sl_list (pv 3) (po_some (pe_op op_add (pv 6) pe_int)) po_none)))
      (pss_one (ps_setLc (i := 4) (own := [("book", 7)]) rfl sc__law_moved.nd rfl rfl (sw_true rfl rfl rfl (by decide +kernel)) (pi_list (pv 4)) (blkOk_by (N := ["model", "kind", "number", "books", "out", "done", "found", "book"]) (sc := defScope s__law_moved) (by decide +kernel)) (fun _ _ _ _ _ => (pg_name (i := 7) sc__law_moved.nd rfl (by first | exact Or.inl rfl | exact Or.inr rfl))) (fun _ _ _ _ _ => pts_one (pt_cmpR op_ne (pv 7) (pv 2) (nomark _))) (fun _ _ _ _ _ => (pv 7)))))))
      (pss_one (ps_ret (pe_tup (pa_cons (pe_lst (pa_cons (pv 3) (pa_cons (pv 4) (pa_cons (pe_op op_cat (pv 5) (pe_lst (pa_cons (pe_tup (pa_cons (pv 1) (pa_cons (pv 2) pa_nil))) pa_nil))) pa_nil)))) (pa_cons (pv 6) pa_nil))))))), ?_⟩
    obtain ⟨kd, num⟩ := o
    have hm := md.m
    have hbk := md.bk
    have hou := md.ou
    obtain ⟨as, hd, ho⟩ := md.ex
    have gl := g.len
    have go := outs_le g
    have hal := ho.1
    cases kd with
    | true =>
      obtain ⟨h0, bb, hx, rfl⟩ := stp_take hu
      have ed : due s (true, num) = bb := by unfold due; rw [if_pos rfl, hx]
      have hlt := (List.getElem?_eq_some_iff.mp hx).1
      repeat array_get_dec
      rw [decide_eq_true kst_t]
      repeat array_get_dec
      refine LS.rixl_n (j := num.toNat) (v := .int bb) (by array_mem_dec) (by rw [List.getElem?_map, hx]; rfl) (by omega) ?_
      repeat array_get_dec
      refine LS.rsll (xs := s.books.map vo) (by array_mem_dec) fun c1 H1 n1 s1 h1 => ?_
      rw [show num = ((num.toNat : Nat) : Int) by omega, LS.cut_to] at h1
      repeat array_get_dec
      refine LS.k_lst (by array_mem_dec) fun nn H_nn n_nn s_nn h_nn => ?_
      repeat array_get_dec
      refine LS.rcat (xs := (s.books.map vo).take num.toNat) (zs := [V.non]) (by array_mem_dec) (by array_mem_dec) (LS.sz (by rw [List.length_take, List.length_map]; show _ + 1 ≤ 100000; omega)) fun c2 H3 n3 s3 h3 => ?_
      repeat array_get_dec
      refine LS.rsll (xs := s.books.map vo) (by array_mem_dec) fun c3 H4 n4 s4 h4 => ?_
      rw [show num + 1 = ((num.toNat + 1 : Nat) : Int) by omega, LS.cut_from] at h4
      refine LS.rcat (xs := (s.books.map vo).take num.toNat ++ [V.non]) (zs := (s.books.map vo).drop (num.toNat + 1)) (by array_mem_dec) (by array_mem_dec) (LS.sz (by rw [List.length_append, List.length_take, List.length_drop, List.length_map]; show _ + 1 + _ ≤ 100000; omega)) fun bk2 H5 n5 s5 h5 => ?_
      rw [set_cut (by rw [List.length_map]; exact hlt), show (s.books.map vo).set num.toNat V.non = (s.books.set num.toNat none).map vo by rw [List.map_set]; rfl] at h5
      repeat array_get_dec
      refine LS.k_lst (by array_mem_dec) fun w1 H_w1 n_w1 s_w1 h_w1 => ?_
      repeat array_get_dec
      refine LS.rcat (xs := s.out.map V.int) (zs := [V.int bb]) (by array_mem_dec) h_w1 (LS.sz (by rw [List.length_map]; show _ + 1 ≤ 100000; omega)) fun ou2 H6 n6 s6 h6 => ?_
      rw [show s.out.map V.int ++ [V.int bb] = (s.out ++ [bb]).map V.int by rw [List.map_append]; rfl] at h6
      repeat array_get_dec
      refine LS.k_tup (by array_mem_dec) fun t_o H7 n7 s7 h7 => ?_
      have h7' : H7 t_o = some (.tup (opv (true, num))) := h7
      repeat array_get_dec
      refine LS.k_lst (by array_mem_dec) fun w H_w n_w s_w h_w => ?_
      repeat array_get_dec
      refine LS.rcat (xs := as.map V.ref) (by array_mem_dec) h_w (by array_mem_dec) fun dn H9 nd s9 h9 => ?_
      repeat array_get_dec
      refine LS.k_lst (by array_mem_dec) fun mm HA na sa ha => ?_
      repeat array_get_dec
      refine LS.k_tup (by array_mem_dec) fun tt HB nt sb ht => ?_
      refine k HB tt ⟨mm, bk2, ou2, dn⟩ (by array_mem_dec) (by array_mem_dec) (fun a ha => ?_) ⟨(by array_mem_dec), (by array_mem_dec), (by array_mem_dec), ⟨as ++ [t_o], by rw [List.map_append]; exact (by array_mem_dec), (ho.kn (kn_s (by array_mem_dec))).snoc (by array_mem_dec)⟩⟩ ?_
      · simp [Md.L] at ha
        rcases ha with rfl | rfl | rfl | rfl <;> exact (by array_mem_dec)
      · rw [ed]; exact ht
    | false =>
      obtain ⟨hin, rfl⟩ := stp_ret hu
      have hg := g.gap hin
      have ed : due s (false, num) = (gap s.books : Nat) := by unfold due; rw [if_neg (by simp)]
      have hlt := gap_lt hg
      have ndo : s.out.Nodup := (List.nodup_append.mp g.nodup).2.1
      repeat array_get_dec
      rw [decide_eq_false kst_f]
      repeat array_get_dec
      refine LS.rindex (j := gap s.books) (by array_mem_dec) rfl (flat_vo _) (by rw [List.getElem?_map, gap_get hg]; rfl) rfl (fun m z hm hz => ?_) ?_
      · obtain ⟨o, ho2, rfl⟩ := vo_at hz
        have := gap_before hm ho2
        cases o with
        | none => exact absurd rfl this
        | some b => rfl
      repeat array_get_dec
      refine LS.rsll (xs := s.books.map vo) (by array_mem_dec) fun c1 H1 n1 s1 h1 => ?_
      rw [LS.cut_to] at h1
      repeat array_get_dec
      refine LS.k_lst (by array_mem_dec) fun nn H_nn n_nn s_nn h_nn => ?_
      repeat array_get_dec
      refine LS.rcat (xs := (s.books.map vo).take (gap s.books)) (zs := [V.int num]) (by array_mem_dec) (by array_mem_dec) (LS.sz (by rw [List.length_take, List.length_map]; show _ + 1 ≤ 100000; omega)) fun c2 H3 n3 s3 h3 => ?_
      repeat array_get_dec
      refine LS.rsll (xs := s.books.map vo) (by array_mem_dec) fun c3 H4 n4 s4 h4 => ?_
      rw [show ((gap s.books : Nat) : Int) + 1 = ((gap s.books + 1 : Nat) : Int) by omega, LS.cut_from] at h4
      refine LS.rcat (xs := (s.books.map vo).take (gap s.books) ++ [V.int num]) (zs := (s.books.map vo).drop (gap s.books + 1)) (by array_mem_dec) (by array_mem_dec) (LS.sz (by rw [List.length_append, List.length_take, List.length_drop, List.length_map]; show _ + 1 + _ ≤ 100000; omega)) fun bk2 H5 n5 s5 h5 => ?_
      rw [set_cut (by rw [List.length_map]; exact hlt), show (s.books.map vo).set (gap s.books) (V.int num) = (s.books.set (gap s.books) (some num)).map vo by rw [List.map_set]; rfl] at h5
      repeat array_get_dec
      refine LS.comp (walk_list (xs := s.out.map V.int)) (fun D i acc H' => Same H5 H' ∧ acc = ((s.out.take i).filter (fun x => !decide (x = num))).map V.int) (fun D H' nD s' hD => ⟨s', rfl⟩) (fun D i acc H' hi nD hD h => (by obtain ⟨h, _⟩ := h; exact (by array_mem_dec))) ?_ ?_
      · rintro D i acc x H2 H2' nD hi hl2 hD ⟨s2, rfl⟩ ⟨rfl, hx⟩
        obtain ⟨z, hz, rfl⟩ := at_int hx
        rw [List.length_map] at hi
        refine ⟨rfl, ?_⟩
        repeat array_get_dec
        refine LS.ifn2 (fun hne => ?_) fun he => ?_
        · repeat array_get_dec
          refine LS.k_lc (acc := ((s.out.take i).filter (fun x => !decide (x = num))).map V.int) (by array_mem_dec) hl2 (by omega) fun H6 f6 h6 => ⟨(by array_mem_dec), ?_⟩
          rw [List.take_add_one, hz, List.filter_append, List.map_append, Option.toList_some, List.filter_cons_of_pos (by simp [hne])]; rfl
        · refine LS.k_lc0 (acc := ((s.out.take i).filter (fun x => !decide (x = num))).map V.int) (by array_mem_dec) hl2 ⟨(by array_mem_dec), ?_⟩
          rw [List.take_add_one, hz, List.filter_append, Option.toList_some, List.filter_cons_of_neg (by simp [he]), List.filter_nil, List.append_nil]
      rintro ou2 acc H6 n6 h6 hl2 ⟨s6, rfl⟩
      rw [List.length_map, List.take_length, ← erase_filter ndo] at h6
      repeat array_get_dec
      refine LS.k_tup (by array_mem_dec) fun t_o H7 n7 s7 h7 => ?_
      have h7' : H7 t_o = some (.tup (opv (false, num))) := h7
      repeat array_get_dec
      refine LS.k_lst (by array_mem_dec) fun w H_w n_w s_w h_w => ?_
      repeat array_get_dec
      refine LS.rcat (xs := as.map V.ref) (by array_mem_dec) h_w (by array_mem_dec) fun dn H9 nd s9 h9 => ?_
      repeat array_get_dec
      refine LS.k_lst (by array_mem_dec) fun mm HA na sa ha => ?_
      repeat array_get_dec
      refine LS.k_tup (by array_mem_dec) fun tt HB nt sb ht => ?_
      refine k HB tt ⟨mm, bk2, ou2, dn⟩ (by array_mem_dec) (by array_mem_dec) (fun a ha => ?_) ⟨(by array_mem_dec), (by array_mem_dec), (by array_mem_dec), ⟨as ++ [t_o], by rw [List.map_append]; exact (by array_mem_dec), (ho.kn (kn_s (by array_mem_dec))).snoc (by array_mem_dec)⟩⟩ ?_
      · simp [Md.L] at ha
        rcases ha with rfl | rfl | rfl | rfl <;> exact (by array_mem_dec)
      · rw [ed]; exact ht
end
end LP

namespace LP
open PySem L2 LT LG LQ LH LC LX LR
local macro_rules | `(tactic| array_mem_dec) => `(tactic| first
  | assumption
  | ((with_reducible apply LS.hp_s); assumption; array_mem_dec)
  | ((with_reducible apply LS.hp_f); assumption; array_mem_dec; array_mem_dec)
  | ((with_reducible apply LS.hp_t); assumption; array_mem_dec; array_mem_dec)
  | ((with_reducible apply LS.hp_l); assumption; array_mem_dec; array_mem_dec)
  | ((with_reducible apply LS.sq_o); array_mem_dec)
  | ((with_reducible apply LS.sq_s); assumption; array_mem_dec)
  | ((with_reducible apply LS.sq_f); assumption; array_mem_dec; array_mem_dec)
  | ((with_reducible apply LS.sq_t); assumption; array_mem_dec; array_mem_dec)
  | ((with_reducible apply LS.sq_l); assumption; array_mem_dec; array_mem_dec)
  | ((with_reducible apply LS.tu_o); array_mem_dec)
  | ((with_reducible apply LS.tu_s); assumption; array_mem_dec)
  | ((with_reducible apply LS.tu_f); assumption; array_mem_dec; array_mem_dec)
  | ((with_reducible apply LS.tu_t); assumption; array_mem_dec; array_mem_dec)
  | ((with_reducible apply LS.tu_l); assumption; array_mem_dec; array_mem_dec)
  | ((with_reducible apply LS.se_l); array_mem_dec)
  | ((with_reducible apply LS.se_t); array_mem_dec)
  | ((with_reducible apply LS.se_s); assumption; array_mem_dec)
  | ((with_reducible apply LS.se_f); assumption; array_mem_dec; array_mem_dec)
  | ((with_reducible apply LS.se_tt); assumption; array_mem_dec; array_mem_dec)
  | ((with_reducible exact Same.refl _))
  | ((with_reducible apply LS.sm_s); assumption; array_mem_dec)
  | ((with_reducible apply LS.sm_f); assumption; array_mem_dec; array_mem_dec)
  | ((with_reducible exact Fr.refl _ _))
  | ((with_reducible apply LS.fr_b); assumption; array_mem_dec)
  | ((with_reducible apply LS.fr_s); assumption; array_mem_dec)
  | ((with_reducible apply LS.fr_n); assumption; array_mem_dec; array_mem_dec)
  | ((with_reducible apply LS.fr_t); assumption; array_mem_dec)
  | ((with_reducible apply LS.no_s); assumption; array_mem_dec)
  | ((with_reducible apply LS.no_f); assumption; array_mem_dec; array_mem_dec)
  | ((with_reducible apply LS.no_t); assumption; array_mem_dec)
  | ((with_reducible apply LS.no_l); assumption; assumption)
  | ((with_reducible apply Ne.symm); assumption)
  | ((with_reducible apply LS.ne_a); assumption; array_mem_dec)
  | ((with_reducible apply LS.ne_b); assumption; array_mem_dec)
  | ((with_reducible apply LS.ne_ap); assumption)
  | ((with_reducible apply LS.ne_il); assumption; array_mem_dec)
  | ((with_reducible apply LS.ne_li); assumption; array_mem_dec)
  | ((with_reducible apply LS.ne_lt); assumption; assumption)
  | ((with_reducible apply LS.ne_tl); assumption; assumption)
  | ((with_reducible apply LS.ne_rl); assumption; array_mem_dec)
  | ((with_reducible apply LS.rl_t); assumption)
  | ((with_reducible apply LS.rl_s); assumption; array_mem_dec)
  | ((with_reducible apply LS.rl_f); assumption; array_mem_dec; array_mem_dec)
  | ((with_reducible apply LS.rl_l); assumption; array_mem_dec; array_mem_dec)
  | ((with_reducible apply LS.ap_new); assumption; assumption; array_mem_dec)
  | ((with_reducible apply LS.ap_t); assumption; array_mem_dec; array_mem_dec)
  | ((with_reducible apply LS.ap_s); assumption; array_mem_dec; array_mem_dec)
  | ((with_reducible apply LS.ap_f); assumption; array_mem_dec; array_mem_dec; array_mem_dec)
  | ((with_reducible apply LS.ap_l); assumption; array_mem_dec; array_mem_dec; array_mem_dec)
  | (with_reducible apply LS.ni_nil)
  | ((with_reducible apply LS.ni_cons); array_mem_dec; array_mem_dec)
  | (with_reducible apply LS.trk_nil)
  | ((with_reducible apply LS.trk_cons); array_mem_dec; array_mem_dec)
  | (with_reducible apply LS.al_nil)
  | ((with_reducible apply LS.al_cons); array_mem_dec; array_mem_dec)
  | (with_reducible apply LS.mem_hd)
  | ((with_reducible apply LS.mem_tl); array_mem_dec)
  | ((with_reducible apply LS.fl_refl); array_mem_dec)
  | ((with_reducible apply LS.fl_l); assumption; array_mem_dec)
  | ((with_reducible apply LS.fl_lm); assumption; array_mem_dec; array_mem_dec)
  | (with_reducible apply LS.sub_nil)
  | ((with_reducible apply LS.sub_cons); array_mem_dec; array_mem_dec)
  | ((with_reducible apply LS.fl_s); assumption; array_mem_dec)
  | ((with_reducible apply LS.fl_m); assumption; array_mem_dec; array_mem_dec; array_mem_dec)
  | ((with_reducible apply LS.fl_n); assumption; array_mem_dec; array_mem_dec; array_mem_dec)
  | ((with_reducible apply LS.rt_refl); array_mem_dec)
  | ((with_reducible apply LS.rt_t); assumption; array_mem_dec)
  | ((with_reducible apply LS.rt_s); assumption; array_mem_dec)
  | ((with_reducible apply LS.rt_f); assumption; array_mem_dec; array_mem_dec; array_mem_dec)
  | ((with_reducible apply LS.sz); (first | decide | (simp only [List.length_append, List.length_map, List.length_cons, List.length_nil, List.length_replicate]; omega)))
  | ((with_reducible apply LS.szl); (first | decide | (simp only [List.length_append, List.length_map, List.length_cons, List.length_nil, List.length_replicate]; omega))))
local macro_rules | `(tactic| array_get_dec) => `(tactic| first
  | ((with_reducible apply LS.var); exact rfl)
  | (with_reducible apply LS.con)
  | (with_reducible apply LS.op)
  | (with_reducible apply LS.ri0)
  | (with_reducible apply LS.tseq)
  | (with_reducible apply LS.tasg)
  | (with_reducible apply LS.gname)
  | (with_reducible apply LS.tcons)
  | (with_reducible apply LS.tnil)
  | (with_reducible apply LS.tcb)
  | (with_reducible apply LS.tcall)
  | (with_reducible apply LS.ttest)
  | (with_reducible apply LS.k_b)
  | (with_reducible apply LS.tb)
  | (with_reducible apply LS.tifs)
  | (with_reducible apply LS.ift)
  | (with_reducible apply LS.iff_)
  | (with_reducible apply LS.ifnt)
  | (with_reducible apply LS.ifnf)
  | (with_reducible apply LS.tnext)
  | (with_reducible apply LS.tdrop)
  | (with_reducible apply LS.tret)
  | (with_reducible apply LS.tretn)
  | (with_reducible apply LS.un)
  | (with_reducible apply LS.ru)
  | (with_reducible apply LS.tyes)
  | (with_reducible apply LS.tand)
  | (with_reducible apply LS.tor)
  | (with_reducible apply LS.tnot)
  | (with_reducible apply LS.tif)
  | (with_reducible apply LS.tandv)
  | (with_reducible apply LS.k_av)
  | (with_reducible apply LS.torv)
  | (with_reducible apply LS.k_ov)
  | (with_reducible apply LS.tnotv)
  | (with_reducible apply LS.k_nv)
  | (with_reducible apply LS.tchain)
  | (with_reducible apply LS.k_ch)
  | (with_reducible apply LS.req_i)
  | (with_reducible apply LS.rne_i)
  | (with_reducible apply LS.req_s)
  | (with_reducible apply LS.rne_s)
  | (with_reducible apply LS.req_b)
  | (with_reducible apply LS.rne_b)
  | ((with_reducible apply LS.rin_i); array_mem_dec)
  | ((with_reducible apply LS.rni_i); array_mem_dec)
  | ((with_reducible apply LS.rlen_li); array_mem_dec)
  | ((with_reducible apply LS.rlen_ls); array_mem_dec)
  | ((with_reducible apply LS.rlen_l); array_mem_dec)
  | ((with_reducible apply LS.rlen_Ei); array_mem_dec)
  | ((with_reducible apply LS.rlen_E); array_mem_dec)
  | ((with_reducible apply LS.rlen_t); array_mem_dec)
  | ((with_reducible apply LS.rixl); array_mem_dec; exact rfl)
  | ((with_reducible apply LS.rixt); array_mem_dec; exact rfl)
  | (with_reducible apply LS.isi_int_int)
  | (with_reducible apply LS.isi_int_bool)
  | (with_reducible apply LS.isi_int_str)
  | (with_reducible apply LS.isi_str_int)
  | (with_reducible apply LS.isi_str_bool)
  | (with_reducible apply LS.isi_str_str)
  | (with_reducible apply LS.isi_bool_int)
  | (with_reducible apply LS.isi_bool_bool)
  | (with_reducible apply LS.isi_bool_str)
  | (with_reducible apply LS.isi_non_int)
  | (with_reducible apply LS.isi_non_bool)
  | (with_reducible apply LS.isi_non_str)
  | ((with_reducible apply LS.isi_list_int); array_mem_dec)
  | ((with_reducible apply LS.isi_list_bool); array_mem_dec)
  | ((with_reducible apply LS.isi_list_str); array_mem_dec)
  | ((with_reducible apply LS.isi_list_list); array_mem_dec)
  | ((with_reducible apply LS.isi_list_tuple); array_mem_dec)
  | ((with_reducible apply LS.isi_tuple_int); array_mem_dec)
  | ((with_reducible apply LS.isi_tuple_bool); array_mem_dec)
  | ((with_reducible apply LS.isi_tuple_str); array_mem_dec)
  | ((with_reducible apply LS.isi_tuple_list); array_mem_dec)
  | ((with_reducible apply LS.isi_tuple_tuple); array_mem_dec)
  | ((with_reducible apply LS.isiT_i); array_mem_dec)
  | ((with_reducible apply LS.isiT_s); array_mem_dec)
  | ((with_reducible apply LS.isiT_E); array_mem_dec; array_mem_dec)
  | (with_reducible apply LS.tfld)
  | ((with_reducible apply LS.k_fl); array_mem_dec; assumption; assumption; exact rfl)
  | (with_reducible apply LS.tmeth)
  | ((with_reducible apply LS.k_me); array_mem_dec; exact rfl)
  | (with_reducible apply LS.tmake)
  | (with_reducible apply LS.tsfld)
  | (with_reducible apply LS.tprop)
  | ((with_reducible apply LS.k_pr); array_mem_dec)
  | ((with_reducible apply LS.rlen_own); array_mem_dec)
  | (with_reducible apply LS.rabs)
  | (with_reducible apply LS.rmin2)
  | (with_reducible apply LS.rmax2)
  | (with_reducible apply LS.tsl)
  | (with_reducible apply LS.tthen)
  | (with_reducible apply LS.tstep)
  | (with_reducible apply LS.tnop)
  | (with_reducible apply LS.tpart)
  | (with_reducible apply LS.k_part)
  | (with_reducible apply LS.ttup)
  | (with_reducible apply LS.tlst)
  | (with_reducible apply LS.tbm)
  | (with_reducible apply LS.tbm0)
  | ((with_reducible apply LS.ty_l); array_mem_dec)
  | (with_reducible apply LS.tpar)
  | (with_reducible apply LS.tfor)
  | (with_reducible apply LS.tlc)
  | (with_reducible apply LS.ilist)
  | ((with_reducible apply LS.k_il); array_mem_dec)
  | (with_reducible apply LS.itup)
  | ((with_reducible apply LS.k_it); array_mem_dec)
  | (with_reducible apply LS.istr)
  | (with_reducible apply LS.k_is)
  | (with_reducible apply LS.irng1)
  | ((with_reducible apply LS.k_r1n); omega)
  | ((with_reducible apply LS.k_r1); (first | omega | decide); (first | omega | decide))
  | (with_reducible apply LS.irng2)
  | ((with_reducible apply LS.k_r2); (first | omega | decide); (first | omega | decide); (first | omega | decide); (first | omega | decide))
  | (with_reducible apply LS.ienum)
  | ((with_reducible apply LS.k_en); array_mem_dec)
  | (with_reducible apply LS.izip)
  | ((with_reducible apply LS.k_zip); array_mem_dec; array_mem_dec)
  | (with_reducible apply LS.tlstrg)
  | (with_reducible apply LS.trg1)
  | (with_reducible apply LS.k_g1)
  | (with_reducible apply LS.risn_i)
  | (with_reducible apply LS.risn_s)
  | (with_reducible apply LS.risn_n)
  | (with_reducible apply LS.rnotn_i)
  | (with_reducible apply LS.rnotn_n)
  | (with_reducible apply LS.rint_b)
  | (with_reducible apply LS.rint_i)
  | (with_reducible apply LS.tm0)
  | (with_reducible apply LS.tm1)
  | (with_reducible apply LS.is_str)
  | (with_reducible apply LS.ex_s0)
  | (with_reducible apply LS.ex_int_b)
  | (with_reducible apply LS.k_par)
  | (with_reducible apply LS.tpar3)
  | (with_reducible apply LS.k_par3)
  | ((with_reducible apply LS.taug); exact rfl)
  | (with_reducible apply LS.ipi)
  | ((with_reducible apply LS.gtup); array_mem_dec; exact rfl)
  | ((with_reducible apply LS.gunl); array_mem_dec; exact rfl)
  | (with_reducible apply LS.gnil)
  | (with_reducible apply LS.gcons)
  | (with_reducible apply LS.gsub)
  | ((with_reducible apply LS.ri); first | omega | decide | assumption | exact ⟨by decide, by decide, by decide⟩ | exact .inl ⟨by decide, by decide⟩ | exact .inr ⟨by decide, by decide⟩ | exact .inl ⟨by omega, by omega⟩ | exact .inr ⟨by omega, by omega⟩)
  | (with_reducible apply LS.ex_ss)
  | (with_reducible apply LS.ex_s1)
  | (with_reducible apply LS.ex_i1)
  | (with_reducible apply LS.and_rfl)
  | (with_reducible apply LS.and_tr)
  | (with_reducible apply LS.is_non))
local macro_rules | `(tactic| array_mem_dec) => `(tactic| first
  | ((with_reducible apply LP.lv_s); assumption; array_mem_dec)
  | ((with_reducible apply LP.lv_l); assumption; array_mem_dec; array_mem_dec; array_mem_dec)
  | ((with_reducible apply LP.lv_f); assumption; array_mem_dec; array_mem_dec; array_mem_dec)
  | ((with_reducible apply LP.lv_t); assumption; array_mem_dec; array_mem_dec; array_mem_dec)
  | ((with_reducible apply LP.ops_s); assumption; array_mem_dec)
  | ((with_reducible apply LP.md_s); assumption; array_mem_dec)
  | ((with_reducible apply LP.md_l); assumption; array_mem_dec; array_mem_dec; array_mem_dec)
  | ((with_reducible apply LP.md_f); assumption; array_mem_dec; array_mem_dec; array_mem_dec)
  | ((with_reducible apply LP.md_t); assumption; array_mem_dec; array_mem_dec; array_mem_dec)
  | ((with_reducible apply LP.al_s); assumption; array_mem_dec; array_mem_dec)
  | ((with_reducible apply LP.al_t); assumption; array_mem_dec; array_mem_dec)
  | ((with_reducible apply LP.al_l); assumption; array_mem_dec; array_mem_dec; array_mem_dec)
  | ((with_reducible apply LP.al_f); assumption; array_mem_dec; array_mem_dec; array_mem_dec)
  | ((with_reducible apply LP.Lv.lists); array_mem_dec)
  | ((with_reducible apply LP.Lv.trk); array_mem_dec)
  | ((with_reducible apply LP.Mdl.trk); array_mem_dec)
  | ((with_reducible apply LP.al_no); assumption; array_mem_dec))
local macro_rules | `(tactic| array_get_dec) => `(tactic| first
  | (with_reducible apply LS.tcalle)
  | (with_reducible apply LS.tcalls))
local macro_rules | `(tactic| array_get_dec) => `(tactic| first
  | (with_reducible apply LS.tmethv)
  | (with_reducible apply LS.tmakev)
  | (with_reducible apply LS.rnotn_rr)
  | (with_reducible apply LS.risn_rr)
  | ((with_reducible apply LS.k_mev); array_mem_dec; exact rfl))
local macro_rules | `(tactic| array_get_dec) => `(tactic| first
  | (with_reducible apply LS.trg2)
  | (with_reducible apply LS.k_g2))

section
variable {P : Program} {w : World} {K : PySem.W.Frag} {mg : Str → Option Value} {base : Heap}

theorem kst_t' : kst true = ("take" : Str) := rfl
theorem no_books {n : Nat} {s : Sim} (g : Good n s) (h1 : 1 ≤ n) (h : thereL s.books = []) : s.out ≠ [] := fun e => by
  have p := g.perm.length_eq
  rw [e, List.append_nil, rangeI_length] at p
  obtain ⟨x, hx⟩ := List.exists_mem_of_length_pos (by omega : 0 < (s.books.filterMap id).length)
  obtain ⟨o, ho, q⟩ := List.mem_filterMap.mp hx
  obtain ⟨j, hj⟩ := List.mem_iff_getElem?.mp ho
  cases o with
  | none => cases q
  | some b => exact thereTo_nil h j (List.getElem?_eq_some_iff.mp hj).1 b hj
theorem ok__law_next (e : Env w K mg) : FnOk P w K mg base CX0 3 e.a__law_next e.d__law_next ["reel", "model"] (sp__law_next) := by
  refine Fun.ok e.f__law_next sc__law_next (fun vs H Q E h => ?_) (fun cdv A outer s H vs Q E hr h => ?_)
  · obtain ⟨b, d, M, s, os, n, rfl, _⟩ := h; rfl
  · obtain ⟨b, d, M, s, os, n, rfl, R, hd, md, al, g, hn1, hn, k⟩ := h
    refine ⟨_, (pss_cons (ps_par (i := 2) (j := 3) (by rfl) sc__law_next.nd rfl rfl (by decide) rfl rfl (pa_cons (pe_ix ix_list (pv 1) pe_int (fun _ _ => rfl)) (pa_cons (pe_ix ix_list (pv 1) pe_int (fun _ _ => rfl)) pa_nil)) (by rfl))
      (pss_cons (ps_setLc (i := 4) (own := [("place", 5), ("book", 6)]) rfl sc__law_next.nd rfl rfl (sw_true rfl rfl rfl (by decide +kernel)) (pi_enum (by rfl) e.n_enumerate (pa_cons (pv 2) pa_nil)) (blkOk_by (N := ["reel", "model", "books", "out", "there", "place", "book"]) (sc := defScope s__law_next) (by decide +kernel)) (fun _ _ _ _ _ => (show PG _ _ (gTup K 2 _) from pg_tup (by rfl) (pgs_cons (pg_name (i := 5) sc__law_next.nd rfl (by first | exact Or.inl rfl | exact Or.inr rfl)) (pgs_cons (pg_name (i := 6) sc__law_next.nd rfl (by first | exact Or.inl rfl | exact Or.inr rfl)) pgs_nil)))) (fun _ _ _ _ _ => pts_one (pt_cmpR LS.op_notN (pv 6) pe_non (nomark _))) (fun _ _ _ _ _ => (pv 5)))
      (pss_cons (ps_if (PW.pt (pw_and (pt_cmpR (op_neD hr.units) (pv 4) (pe_lst pa_nil) (nomark _)) (pw_and1 (PW.pt (pw_or (pt_cmpR (op_eqD hr.units) (pv 3) (pe_lst pa_nil) (nomark _)) (pw_or1 (pt_cmpR op_lt (pe_call ((ok__law_draw e).mono (by decide)) hr rfl e.g__law_draw e.f__law_draw.kp e.b__law_draw .nil pass0 (pa_cons (pv 0) (pa_cons pe_int pa_nil))) pe_int (nomark _))))))))
        (pss_one (ps_ret (pe_tup (pa_cons pe_str (pa_cons (pe_ix ix_list (pv 4) (pe_call ((ok__law_draw e).mono (by decide)) hr rfl e.g__law_draw e.f__law_draw.kp e.b__law_draw .nil pass0 (pa_cons (pv 0) (pa_cons (pe_callB LS.call_len (by rfl) e.n_len PySem.boot_len (pa_cons (pv 4) pa_nil)) pa_nil))) (fun _ _ => rfl)) pa_nil)))))
        pss_nil)
      (pss_one (ps_ret (pe_tup (pa_cons pe_str (pa_cons (pe_ix ix_list (pv 3) (pe_call ((ok__law_draw e).mono (by decide)) hr rfl e.g__law_draw e.f__law_draw.kp e.b__law_draw .nil pass0 (pa_cons (pv 0) (pa_cons (pe_callB LS.call_len (by rfl) e.n_len PySem.boot_len (pa_cons (pv 3) pa_nil)) pa_nil))) (fun _ _ => rfl)) pa_nil)))))))), ?_⟩
    have hm := md.m
    have hbk := md.bk
    have hou := md.ou
    have ab := al M.bk (by simp [Md.L])
    have ao := al M.ou (by simp [Md.L])
    have am := al M.m (by simp [Md.L])
    have gl := g.len
    have go := outs_le g
    repeat array_get_dec
    refine LS.comp (walk_enum (xs := s.books.map vo)) (fun D i acc H' => Same H H' ∧ acc = (thereTo s.books i).map V.int) (fun D H' nD s' hD => ⟨s', rfl⟩) (fun D i acc H' hi nD hD h => (by obtain ⟨h, _⟩ := h; exact (by array_mem_dec))) ?_ ?_
    · rintro D i acc x H2 H3 nD hi hl2 hD ⟨s2, rfl⟩ y
      obtain ⟨T, y, z, rfl, nT, s3, hT, hy, hz⟩ := LS.ypair y
      cases hy
      obtain ⟨o, ho2, rfl⟩ := vo_at hz
      rw [List.length_map] at hi
      repeat array_get_dec
      refine ⟨rfl, ?_⟩
      repeat array_get_dec
      cases o with
      | none =>
        refine LS.rnotn_n ?_
        repeat array_get_dec
        exact LS.k_lc0 (acc := (thereTo s.books i).map V.int) (by array_mem_dec) hl2 ⟨(by array_mem_dec), by rw [thereTo, ho2, List.append_nil]⟩
      | some bb =>
        refine LS.rnotn_i ?_
        repeat array_get_dec
        exact LS.k_lc (acc := (thereTo s.books i).map V.int) (by array_mem_dec) hl2 (by omega) fun H5 f5 h5 => ⟨(by array_mem_dec), by rw [thereTo, ho2, List.map_append]; rfl⟩
    rintro th acc H2 nth hth hl2 ⟨s2, rfl⟩
    rw [List.length_map] at hth
    have hth : H2 th = some (.lst ((thereL s.books).map V.int)) := hth
    have thl := thereTo_len s.books s.books.length
    repeat array_get_dec
    refine LS.k_lst (by array_mem_dec) fun e1 H_e1 n_e1 s_e1 h_e1 => ?_
    repeat array_get_dec
    refine LS.rne_il (x := thereL s.books) (y := []) (by array_mem_dec) (by array_mem_dec) ?_
    repeat array_get_dec
    refine LS.ifn2 (fun hne => ?_) fun he => ?_
    · repeat array_get_dec
      refine LS.k_lst (by array_mem_dec) fun e2 H_e2 n_e2 s_e2 h_e2 => ?_
      repeat array_get_dec
      refine LS.req_il (x := s.out) (y := []) (by array_mem_dec) (by array_mem_dec) ?_
      repeat array_get_dec
      have thp : 0 < (thereL s.books).length := List.length_pos_iff.mpr hne
      have thl2 : (thereL s.books).length ≤ 200 := by unfold thereL; omega
      refine LS.if2 (fun ho => ?_) fun hout => ?_
      · repeat array_get_dec
        refine ⟨b, _, _, rfl, (by array_mem_dec), by omega, log_small (by omega), by omega, fun H7 r r0 r1 T7 => ?_⟩
        have hr : r.toNat < (thereL s.books).length := by omega
        obtain ⟨pl, hpl⟩ : ∃ pl, (thereL s.books)[r.toNat]? = some pl := ⟨_, List.getElem?_eq_getElem hr⟩
        obtain ⟨p0, bb, hx⟩ := thereTo_mem (List.mem_of_getElem? hpl)
        repeat array_get_dec
        refine LS.rixl_n (j := r.toNat) (v := .int pl) (by array_mem_dec) (int_at hpl) (by omega) ?_
        repeat array_get_dec
        refine LS.k_tup (by array_mem_dec) fun t H8 nt s8 ht => ?_
        exact k H8 t (true, pl) _ (LS.rt_mono (d := d + 1) (by array_mem_dec) (by omega)) (by array_mem_dec) ht (stp_take_of p0 hx)
      · repeat array_get_dec
        refine ⟨_, _, _, rfl, (by array_mem_dec), (by first | decide | omega), (by first | (decide +kernel) | exact log_small (by omega)), (by omega), fun H_w w w0 w1 T_w => ?_⟩
        repeat array_get_dec
        refine LS.if2 (fun hw => ?_) fun hw => ?_
        · repeat array_get_dec
          refine ⟨b, _, _, rfl, (by array_mem_dec), by omega, log_small (by omega), by omega, fun H7 r r0 r1 T7 => ?_⟩
          have hr : r.toNat < (thereL s.books).length := by omega
          obtain ⟨pl, hpl⟩ : ∃ pl, (thereL s.books)[r.toNat]? = some pl := ⟨_, List.getElem?_eq_getElem hr⟩
          obtain ⟨p0, bb, hx⟩ := thereTo_mem (List.mem_of_getElem? hpl)
          repeat array_get_dec
          refine LS.rixl_n (j := r.toNat) (v := .int pl) (by array_mem_dec) (int_at hpl) (by omega) ?_
          repeat array_get_dec
          refine LS.k_tup (by array_mem_dec) fun t H8 nt s8 ht => ?_
          exact k H8 t (true, pl) _ (LS.rt_mono (d := d + 1 + 1) (by array_mem_dec) (by omega)) (by array_mem_dec) ht (stp_take_of p0 hx)
        · repeat array_get_dec
          have op : 0 < s.out.length := List.length_pos_iff.mpr hout
          refine ⟨b, _, _, rfl, (by array_mem_dec), by omega, log_small (by omega), by omega, fun H7 r r0 r1 T7 => ?_⟩
          have hr : r.toNat < s.out.length := by omega
          obtain ⟨pl, hpl⟩ : ∃ pl, s.out[r.toNat]? = some pl := ⟨_, List.getElem?_eq_getElem hr⟩
          repeat array_get_dec
          refine LS.rixl_n (j := r.toNat) (v := .int pl) (by array_mem_dec) (int_at hpl) (by omega) ?_
          repeat array_get_dec
          refine LS.k_tup (by array_mem_dec) fun t H8 nt s8 ht => ?_
          exact k H8 t (false, pl) _ (LS.rt_mono (d := d + 1 + 1) (by array_mem_dec) (by omega)) (by array_mem_dec) ht (stp_ret_of (List.mem_of_getElem? hpl))
    · have hout := no_books g hn1 he
      repeat array_get_dec
      have op : 0 < s.out.length := List.length_pos_iff.mpr hout
      refine ⟨b, _, _, rfl, (by array_mem_dec), by omega, log_small (by omega), by omega, fun H7 r r0 r1 T7 => ?_⟩
      have hr : r.toNat < s.out.length := by omega
      obtain ⟨pl, hpl⟩ : ∃ pl, s.out[r.toNat]? = some pl := ⟨_, List.getElem?_eq_getElem hr⟩
      repeat array_get_dec
      refine LS.rixl_n (j := r.toNat) (v := .int pl) (by array_mem_dec) (int_at hpl) (by omega) ?_
      repeat array_get_dec
      refine LS.k_tup (by array_mem_dec) fun t H8 nt s8 ht => ?_
      exact k H8 t (false, pl) _ (LS.rt_mono (d := d + 1) (by array_mem_dec) (by omega)) (by array_mem_dec) ht (stp_ret_of (List.mem_of_getElem? hpl))
end
end LP

/-! schedules, as lists or tuples; their texts -/
namespace LP
open PySem L2 LT LG LX LR LQ TL
theorem run_sm {n : Nat} (hn : n ≤ 200) {os : List Op} {u : Sim} (h : LR.run (simInit n) os = some u) : SmOps os := fun o ho => by
  obtain ⟨i, hi⟩ := List.getElem?_of_mem ho
  obtain ⟨t, v, h1, h2, h3⟩ := run_stp h hi
  have := num_range (good_run (good_init n) h1) h2
  exact ⟨this.1, by have := this.2; omega⟩
theorem cut_word (o : Op) : cutS (wordO o) (some (1 : Int)) none = nst o.2 := by
  apply tl_eq
  unfold cutS
  have e : (wordO o).cps.toList = (kch o.1).cps.toList ++ (nst o.2).cps.toList := tl_append _ _
  have ek : (kch o.1).cps.toList.length = 1 := by cases o.1 <;> decide +kernel
  have hl : (wordO o).length = 1 + (nst o.2).length := by
    unfold wordO
    rw [str_len_app]
    have : (kch o.1).length = 1 := by cases o.1 <;> decide +kernel
    omega
  rw [show (1 : Int) = ((1 : Nat) : Int) from rfl, HT.sIx_nat, HT.sIx_none, hl, e]
  rw [Nat.min_eq_left (by omega)]
  simp only [List.drop_append, ek, Nat.sub_self, List.drop_zero]
  rw [List.drop_of_length_le (by omega), List.nil_append, List.take_of_length_le]
  rw [Array.length_toList]
  show (nst o.2).cps.size ≤ _
  have : (nst o.2).length = (nst o.2).cps.size := rfl
  omega
section
variable (K : PySem.W.Frag) (D : Addr)
def sp_is_listed : Sp := fun vs H Q _ => ∃ (a : Addr) (xs : List V), vs = [.ref a] ∧ SqE K H a xs ∧ ∀ H', Same H H' → Q (.bl true) H'
def sp_can_perform : Sp := fun vs H Q _ => ∃ (sh dx bl ol v : Addr) (s : Sim) (o : Op), vs = [.ref sh, .ref v] ∧ Shf D H sh dx bl ol s ∧ SqE K H v (opv o) ∧ ∀ H' : Hp, Same H H' → Q (.bl (stp s o).isSome) H'
def sp_run_schedule : Sp := fun vs H Q _ => ∃ (n : Nat) (p : Addr) (as : List Addr) (os : List Op) (u : Sim), vs = [.int n, .ref p] ∧ 1 ≤ n ∧ n ≤ 200 ∧ SqE K H p (as.map V.ref) ∧ OpsE K H as os ∧ LR.run (simInit n) os = some u ∧ os.length ≤ 400 ∧
  ∀ (H' : Hp) (t sh dx bl ol fl : Addr), Same H H' → H t = none → H' t = some (.tup [.ref sh, .ref fl, .int u.most]) → Shf D H' sh dx bl ol u → H' fl = some (.lst (u.filled.map V.int)) → Q (.ref t) H'
def sp_format_schedule : Sp := fun vs H Q _ => ∃ (n : Nat) (p : Addr) (as : List Addr) (os : List Op) (u : Sim), vs = [.int n, .ref p] ∧ 1 ≤ n ∧ n ≤ 200 ∧ SqE K H p (as.map V.ref) ∧ OpsE K H as os ∧ LR.run (simInit n) os = some u ∧ os.length ≤ 400 ∧
  ∀ H' : Hp, Same H H' → Q (.str (txtO os)) H'
def sp_read_operation : Sp := fun vs H Q _ => ∃ o : Op, vs = [.str (wordO o)] ∧ 0 ≤ o.2 ∧ o.2 ≤ G30 ∧ ∀ (H' : Hp) (t : Addr), H t = none → Same H H' → H' t = some (.tup (opv o)) → Q (.ref t) H'
def sp_words_of : Sp := fun vs H Q _ => ∃ (ws : List Str) (m : Int), vs = [.str (txtW ws), .int m] ∧ (∀ w ∈ ws, Wd w) ∧ ws.length ≤ 1000 ∧ ws.length ≤ m ∧ ∀ (H' : Hp) (p : Addr), Same H H' → H p = none → H' p = some (.lst (ws.map V.str)) → Q (.ref p) H'
def sp_parse_schedule : Sp := fun vs H Q _ => ∃ (n : Nat) (os : List Op) (u : Sim), vs = [.int n, .str (txtO os)] ∧ 1 ≤ n ∧ n ≤ 200 ∧ LR.run (simInit n) os = some u ∧ os.length ≤ 400 ∧
  ∀ (H' : Hp) (p : Addr) (as : List Addr), Same H H' → H p = none → H' p = some (.lst (as.map V.ref)) → OpsOk H' as os → Q (.ref p) H'
def sp_is_schedule : Sp := fun vs H Q _ => ∃ (n : Nat) (p : Addr) (as : List Addr) (os : List Op) (u : Sim), vs = [.int n, .ref p] ∧ 1 ≤ n ∧ n ≤ 200 ∧ SqE K H p (as.map V.ref) ∧ OpsE K H as os ∧ LR.run (simInit n) os = some u ∧ os.length ≤ 400 ∧
  ∀ H' : Hp, Same H H' → Q (.bl true) H'
def sp_books_after : Sp := fun vs H Q _ => ∃ (n : Nat) (p : Addr) (as : List Addr) (os : List Op) (u : Sim), vs = [.int n, .ref p] ∧ 1 ≤ n ∧ n ≤ 200 ∧ SqE K H p (as.map V.ref) ∧ OpsE K H as os ∧ LR.run (simInit n) os = some u ∧ os.length ≤ 400 ∧
  ∀ (H' : Hp) (q : Addr), Same H H' → H' q = some (.lst (u.books.map vo)) → Q (.ref q) H'
def sp_books_out : Sp := fun vs H Q _ => ∃ (n : Nat) (p : Addr) (as : List Addr) (os : List Op) (u : Sim), vs = [.int n, .ref p] ∧ 1 ≤ n ∧ n ≤ 200 ∧ SqE K H p (as.map V.ref) ∧ OpsE K H as os ∧ LR.run (simInit n) os = some u ∧ os.length ≤ 400 ∧
  ∀ (H' : Hp) (q : Addr) (zs : List Int), Same H H' → zs.Perm u.out → zs.Pairwise (· ≤ ·) → H' q = some (.lst (zs.map V.int)) → Q (.ref q) H'
def sp_places_filled : Sp := fun vs H Q _ => ∃ (n : Nat) (p : Addr) (as : List Addr) (os : List Op) (u : Sim), vs = [.int n, .ref p] ∧ 1 ≤ n ∧ n ≤ 200 ∧ SqE K H p (as.map V.ref) ∧ OpsE K H as os ∧ LR.run (simInit n) os = some u ∧ os.length ≤ 400 ∧
  ∀ (H' : Hp) (q : Addr), Same H H' → H' q = some (.lst (u.filled.map V.int)) → Q (.ref q) H'
def sp__law_books : Sp := fun vs H Q _ => ∃ (n : Nat) (p : Addr) (as : List Addr) (os : List Op) (u : Sim), vs = [.int n, .ref p] ∧ 1 ≤ n ∧ n ≤ 200 ∧ SqE K H p (as.map V.ref) ∧ OpsE K H as os ∧ LR.run (simInit n) os = some u ∧ os.length ≤ 400 ∧
  ∀ H' : Hp, Same H H' → Q (.str (txtB u.books)) H'
def sp_most_out : Sp := fun vs H Q _ => ∃ (n : Nat) (p : Addr) (as : List Addr) (os : List Op) (u : Sim), vs = [.int n, .ref p] ∧ 1 ≤ n ∧ n ≤ 200 ∧ SqE K H p (as.map V.ref) ∧ OpsE K H as os ∧ LR.run (simInit n) os = some u ∧ os.length ≤ 400 ∧
  ∀ H' : Hp, Same H H' → Q (.int u.most) H'
end
end LP

/-! values dressed as lists or tuples -/
namespace LP
open PySem L2 LT LG LX LR LQ TL
theorem txtW_ok {ws : List Str} (h : ∀ w ∈ ws, Wd w) : PyData.strOk (txtW ws) = true := by
  unfold PyData.strOk
  rw [← Array.all_toList, List.all_eq_true]
  intro c hc
  rw [txtW_tl] at hc
  rcases joinL_mem _ _ hc with rfl | ⟨p, hp, hc⟩
  · exact decide_eq_true (by decide)
  · obtain ⟨q, hq, rfl⟩ := List.mem_map.mp hp
    have := (h q hq).ok
    unfold PyData.strOk at this
    rw [← Array.all_toList, List.all_eq_true] at this
    exact this c hc
theorem wd_ops {os : List Op} (h : SmOps os) : ∀ w ∈ os.map wordO, Wd w := fun w hw => by
  obtain ⟨o, ho, rfl⟩ := List.mem_map.mp hw
  have := h o ho
  exact wd_wordO this.1 (by omega)
theorem opsE_dp {K : PySem.W.Frag} {H : Hp} : ∀ {qs : List Addr} {os : List Op}, OpsE K H qs os → SmOps os → ∃ ds : List PyData, ds.length = qs.length ∧ (∀ d ∈ ds, LG.Sm d 1 22) ∧ ∀ H', Same H H' → DpAll K H' (qs.map V.ref) ds
  | [], os, h, _ => ⟨[], rfl, (fun d hd => by cases hd), fun _ _ => .nil⟩
  | q :: qs, [], h, _ => by have := h.1; simp at this
  | q :: qs, o :: os, h, hs => by
    obtain ⟨ds, hl, h1, h2⟩ := opsE_dp (qs := qs) (os := os) ⟨by have := h.1; simp at this; exact this, fun i a o ha ho => h.2 (i + 1) a o ha ho⟩ (fun o ho => hs o (List.mem_cons_of_mem _ ho))
    have b := hs o (List.mem_cons_self ..)
    have sm : ∀ d ∈ ([.str (kst o.1), .int o.2] : List PyData), LG.Sm d 0 10 := fun d hd => by
      rcases List.mem_cons.mp hd with rfl | hd
      · exact (sm_kst _).mono (Nat.le_refl _) (by decide)
      · rw [List.mem_singleton.mp hd]; exact LS.sm_small (by omega)
    have dp : ∀ H', DpAll K H' (opv o) [.str (kst o.1), .int o.2] := fun H' => .cons (.str _) (.cons (.int _) .nil)
    rcases h.2 0 q o rfl rfl with hq | hq
    · exact ⟨.list [.str (kst o.1), .int o.2] :: ds, by simp [hl], fun d hd => by
        rcases List.mem_cons.mp hd with rfl | hd
        · exact LG.Sm.list (k := 0) (w := 10) sm
        · exact h1 d hd, fun H' s => .cons (.lst (s.seq hq) (dp H')) (h2 H' s)⟩
    · exact ⟨.tuple [.str (kst o.1), .int o.2] :: ds, by simp [hl], fun d hd => by
        rcases List.mem_cons.mp hd with rfl | hd
        · exact LG.Sm.tup (k := 0) (w := 10) sm
        · exact h1 d hd, fun H' s => .cons (.tup (same_tup s hq) (dp H')) (h2 H' s)⟩
theorem opsE_dpE {K : PySem.W.Frag} {H : Hp} {q : Addr} {qs : List Addr} {os : List Op} (hq : SqE K H q (qs.map V.ref)) (h : OpsE K H qs os) (hs : SmOps os) : ∃ d, LG.Sm d 2 (23 * os.length + 1) ∧ ∀ H', Same H H' → Dp K H' (.ref q) d := by
  obtain ⟨ds, hl, h1, h2⟩ := opsE_dp h hs
  have e : ds.length = os.length := hl.trans h.1
  rcases hq with hq | hq
  · refine ⟨.list ds, ?_, fun H' s => .lst (s.seq hq) (h2 H' s)⟩
    have := LG.Sm.list (k := 1) (w := 22) h1
    rw [e] at this
    exact this.mono (Nat.le_refl _) (by omega)
  · refine ⟨.tuple ds, ?_, fun H' s => .tup (same_tup s hq) (h2 H' s)⟩
    have := LG.Sm.tup (k := 1) (w := 22) h1
    rw [e] at this
    exact this.mono (Nat.le_refl _) (by omega)
section
variable (K : PySem.W.Frag)
def sp__law_dressed0 : Sp := fun vs H Q _ => ∃ (b : Addr) (x : V), vs = [.ref b, x] ∧ ((∃ z, x = .int z) ∨ ∃ z, x = .str z) ∧ ∀ H', Same H H' → Q x H'
def sp__law_dressed1 : Sp := fun vs H Q _ => ∃ (b : Addr) (d : Nat) (p : Addr) (o : Op), vs = [.ref b, .ref p] ∧ Reel H b d ∧ d < 900000 ∧ H p = some (.tup (opv o)) ∧
  ∀ (H' : Hp) (q : Addr), LS.RT H H' b (d + 1) → H q = none → (H' q = some (.lst (opv o)) ∨ H' q = some (.tup (opv o))) → Q (.ref q) H'
def sp__law_dressed : Sp := fun vs H Q _ => ∃ (b : Addr) (d : Nat) (p : Addr) (as : List Addr) (os : List Op), vs = [.ref b, .ref p] ∧ Reel H b d ∧ d < 800000 ∧ H p = some (.lst (as.map V.ref)) ∧ OpsOk H as os ∧ os.length ≤ 400 ∧ p ≠ b ∧
  ∀ (H' : Hp) (q : Addr) (qs : List Addr), LS.RT H H' b (d + os.length + 1) → H q = none → SqE K H' q (qs.map V.ref) → OpsE K H' qs os → Q (.ref q) H'
def sp_law' : Sp := sp_law K
end
end LP

/-! a live shelf with its models, beside two consoles -/
namespace LP
open PySem L2 LT LG LX LR LQ TL
theorem con_mv {C D Cc : Addr} {H H' : Hp} {b : Addr} {L : List Addr} {d d' : Nat} {co dc : Addr} {B : Ad} {s : Sim} {ss : List Stp} (c : Con C D Cc H co dc B s ss) (f : MvF H H' b L d) (r : Reel H b d') (h : Lists H L) (al : LS.ApL H b B.L) (dj : ∀ x ∈ B.L, x ∉ L) : Con C D Cc H' co dc B s ss :=
  ⟨kn_m f r h _ _ c.ob (fun xs q => by cases q), c.lv.move (kn_m f r h) fun a ha xs e => f.k a _ e (al a ha).1 (dj a ha)⟩
structure Wc (C D Cc : Addr) (H : Hp) (b : Addr) (d : Nat) (A : Ad) (pa : Addr) (Ms : List Md) (n : Nat) (s : Sim) (ss : List Stp) (co dc : Addr) (B : Ad) (sB : Sim) (ssB : List Stp) (ce de : Addr) (E : Ad) (sE : Sim) (ssE : List Stp) : Prop where
  R : Reel H b d
  par : Par C D H b (B.L ++ E.L) A pa Ms n s ss
  cb : Con C D Cc H co dc B sB ssB
  ce : Con C D Cc H ce de E sE ssE
  apB : LS.ApL H b B.L
  apE : LS.ApL H b E.L
  dBE : ∀ x ∈ B.L, x ∉ E.L
section
variable {C D Cc : Addr} {H H' : Hp} {b : Addr} {d d' : Nat} {A : Ad} {pa : Addr} {Ms Ms' : List Md} {n : Nat} {s s' sB u : Sim} {ss ss' ssB ts : List Stp} {co dc : Addr} {B : Ad} {ce de : Addr} {E : Ad} {sE : Sim} {ssE : List Stp}
theorem Wc.lF (w : Wc C D Cc H b d A pa Ms n s ss co dc B sB ssB ce de E sE ssE) : Lists H (B.L ++ E.L) := fun a ha => (List.mem_append.mp ha).elim (w.cb.lv.lists a) (w.ce.lv.lists a)
theorem Wc.up (w : Wc C D Cc H b d A pa Ms n s ss co dc B sB ssB ce de E sE ssE) (h : d ≤ d') : Wc C D Cc H b d' A pa Ms n s ss co dc B sB ssB ce de E sE ssE := { w with R := w.R.mono h }
theorem Wc.mv0 (w : Wc C D Cc H b d A pa Ms n s ss co dc B sB ssB ce de E sE ssE) (f : MvF H H' b [] d') : Wc C D Cc H' b d' A pa Ms n s ss co dc B sB ssB ce de E sE ssE :=
  ⟨f.r, w.par.mv (f.sub fun _ h => by cases h) w.R w.lF, con_mv w.cb f w.R li_nil w.apB (fun _ _ h => by cases h), con_mv w.ce f w.R li_nil w.apE (fun _ _ h => by cases h), fun a ha => f.a a (w.apB a ha) (w.cb.lv.trk a ha), fun a ha => f.a a (w.apE a ha) (w.ce.lv.trk a ha), w.dBE⟩
theorem Wc.same (w : Wc C D Cc H b d A pa Ms n s ss co dc B sB ssB ce de E sE ssE) (f : Same H H') : Wc C D Cc H' b d A pa Ms n s ss co dc B sB ssB ce de E sE ssE := w.mv0 (mv_s f w.R)
theorem Wc.mvB (w : Wc C D Cc H b d A pa Ms n s ss co dc B sB ssB ce de E sE ssE) (f : LS.FrL H H' B.L) (c : Con C D Cc H' co dc B u ts) : Wc C D Cc H' b d A pa Ms n s ss co dc B u ts ce de E sE ssE :=
  have m : MvF H H' b B.L d := mv_l f (fun _ h => h) w.apB w.R
  ⟨m.r, w.par.mv (m.sub fun _ h => List.mem_append_left _ h) w.R w.lF, c, con_mv w.ce m w.R w.cb.lv.lists w.apE (fun x hx q => w.dBE x q hx), fun a ha => m.a a (w.apB a ha) (w.cb.lv.trk a ha), fun a ha => m.a a (w.apE a ha) (w.ce.lv.trk a ha), w.dBE⟩
theorem Wc.mvE (w : Wc C D Cc H b d A pa Ms n s ss co dc B sB ssB ce de E sE ssE) (m : MvF H H' b E.L d') (c : Con C D Cc H' ce de E u ts) : Wc C D Cc H' b d' A pa Ms n s ss co dc B sB ssB ce de E u ts :=
  ⟨m.r, w.par.mv (m.sub fun _ h => List.mem_append_right _ h) w.R w.lF, con_mv w.cb m w.R w.ce.lv.lists w.apB w.dBE, c, fun a ha => m.a a (w.apB a ha) (w.cb.lv.trk a ha), fun a ha => m.a a (w.apE a ha) (w.ce.lv.trk a ha), w.dBE⟩
theorem Wc.mvA (w : Wc C D Cc H b d A pa Ms n s ss co dc B sB ssB ce de E sE ssE) (m : MvF H H' b (pa :: A.L) d') (p : Par C D H' b (B.L ++ E.L) A pa Ms' n s' ss') : Wc C D Cc H' b d' A pa Ms' n s' ss' co dc B sB ssB ce de E sE ssE :=
  ⟨m.r, p, con_mv w.cb m w.R w.par.lists w.apB (fun x hx q => w.par.df x q (List.mem_append_left _ hx)), con_mv w.ce m w.R w.par.lists w.apE (fun x hx q => w.par.df x q (List.mem_append_right _ hx)), fun a ha => m.a a (w.apB a ha) (w.cb.lv.trk a ha), fun a ha => m.a a (w.apE a ha) (w.ce.lv.trk a ha), w.dBE⟩
theorem Par.setF {F F' : List Addr} (p : Par C D H b F A pa Ms n s ss) (h1 : ∀ x ∈ pa :: A.L, x ∉ F') (h2 : ∀ M ∈ Ms, ∀ x ∈ M.L, x ∉ F') : Par C D H b F' A pa Ms n s ss :=
  { p with apm := fun M hM => ⟨(p.apm M hM).1, (p.apm M hM).2.1, h2 M hM⟩, df := h1 }
end
def cyc : List Op := [(true, 0), (true, 1), (false, 1), (false, 0)]
theorem cyc_step {r : Nat} (hr : r < 4) {t : Sim} (h : LR.run (simInit 2) (cyc.take r) = some t) : ∃ o u, cyc[r]? = some o ∧ stp t o = some u ∧ (["take 0", "take 1", "return 1", "return 0"] : List Str)[r]? = some (cmd o) ∧ (["0", "1", "0", "1"] : List Str)[r]? = some (nst (due t o)) := by
  rcases (show r = 0 ∨ r = 1 ∨ r = 2 ∨ r = 3 by omega) with rfl | rfl | rfl | rfl
  · have e : LR.run (simInit 2) (cyc.take 0) = some ⟨[some 0, some 1], [], [], 0⟩ := rfl
    obtain rfl := Option.some.inj (e.symm.trans h)
    exact ⟨_, _, rfl, rfl, congrArg some (by decide +kernel), congrArg some (by decide +kernel)⟩
  · have e : LR.run (simInit 2) (cyc.take 1) = some ⟨[none, some 1], [0], [], 1⟩ := rfl
    obtain rfl := Option.some.inj (e.symm.trans h)
    exact ⟨_, _, rfl, rfl, congrArg some (by decide +kernel), congrArg some (by decide +kernel)⟩
  · have e : LR.run (simInit 2) (cyc.take 2) = some ⟨[none, none], [0, 1], [], 2⟩ := rfl
    obtain rfl := Option.some.inj (e.symm.trans h)
    exact ⟨_, _, rfl, rfl, congrArg some (by decide +kernel), congrArg some (by decide +kernel)⟩
  · have e : LR.run (simInit 2) (cyc.take 3) = some ⟨[some 1, none], [0], [0], 2⟩ := rfl
    obtain rfl := Option.some.inj (e.symm.trans h)
    exact ⟨_, _, rfl, rfl, congrArg some (by decide +kernel), congrArg some (by decide +kernel)⟩
theorem books2 : txtB (simInit 2).books = ("0 1" : Str) := by decide +kernel
end LP

/-! schedules and consoles -/
namespace LP
open PySem L2 LT LG LX LR LQ TL
theorem filled_len {n : Nat} : ∀ {os : List Op} {s u : Sim}, LR.run s os = some u → u.filled.length = s.filled.length + (os.filter fun o => !o.1).length
  | [], s, u, h => by cases h; rfl
  | o :: os, s, u, h => by
    have h' : (stp s o).bind (fun t => LR.run t os) = some u := h
    cases q : stp s o with
    | none => rw [q] at h'; cases h'
    | some t =>
      rw [q] at h'
      have ih := filled_len (n := n) (os := os) (s := t) h'
      obtain ⟨k, p⟩ := o
      cases k with
      | true =>
        obtain ⟨_, b, _, rfl⟩ := stp_take q
        rw [ih, List.filter_cons_of_neg (by simp)]
      | false =>
        obtain ⟨_, rfl⟩ := stp_ret q
        rw [ih, List.filter_cons_of_pos (by simp)]
        show (s.filled ++ [_]).length + _ = _
        rw [List.length_append, List.length_singleton, List.length_cons]
        omega
theorem sorted_unique : ∀ {xs ys : List Int}, xs.Perm ys → xs.Pairwise (· ≤ ·) → ys.Pairwise (· ≤ ·) → xs = ys
  | [], ys, h, _, _ => (List.nil_perm.mp h).symm ▸ rfl
  | x :: xs, [], h, _, _ => by have := h.length_eq; simp at this
  | x :: xs, y :: ys, h, hx, hy => by
    have h1 : x ∈ y :: ys := h.subset (List.mem_cons_self ..)
    have h2 : y ∈ x :: xs := h.symm.subset (List.mem_cons_self ..)
    have a1 := List.pairwise_cons.mp hx
    have a2 := List.pairwise_cons.mp hy
    have e : x = y := by
      rcases List.mem_cons.mp h1 with e | q
      · exact e
      · rcases List.mem_cons.mp h2 with e | r
        · exact e.symm
        · exact Int.le_antisymm (a1.1 y r) (a2.1 x q)
    subst e
    rw [sorted_unique (List.perm_cons x |>.mp h) a1.2 a2.2]
theorem sh_done {os : List Op} : SeqAt.shaped (dDone os) = true := by
  have h1 : ∀ l : List Op, PyData.canLayAll0 (l.map dOp) = true := fun l => by
    induction l with
    | nil => rfl
    | cons i r ih =>
      have : PyData.strOk (kst i.1) = true := by cases i.1 <;> decide +kernel
      simp [PyData.canLayAll0, PyData.canLay0, dOp, ih, this]
  have h2 : ∀ l : List Op, PyData.depthAll (l.map dOp) ≤ 1 := fun l => by
    induction l with
    | nil => exact Nat.zero_le _
    | cons i r ih =>
      simp [PyData.depthAll, PyData.depth, dOp]
      omega
  have := h2 os
  simp [SeqAt.shaped, dDone, PyData.canLay0, PyData.depth, h1]
  omega
theorem eqv_done (os : List Op) : PyData.eqv (dDone os) (dDone os) = true := by
  have : ∀ l : List Op, PyData.eqvAll (l.map dOp) (l.map dOp) = true := fun l => by
    induction l with
    | nil => rfl
    | cons a r ih => simp [PyData.eqvAll, PyData.eqv, dOp, ih]
  simp only [dDone, PyData.eqv]
  exact this os
theorem eqv_done_nil (os : List Op) : PyData.eqv (dDone os) (LS.dI []) = decide (os = []) := by
  cases os with
  | nil => rfl
  | cons a r => simp [dDone, LS.dI, PyData.eqv, PyData.eqvAll]
theorem txtO_ne {os : List Op} (h : SmOps os) (hn : os ≠ []) : txtO os = orNone (txtO os) := orNone_t (wd_ops h) (by simpa using hn)
theorem none_ne {ns : List Int} (h : ∀ x ∈ ns, 0 ≤ x) (hn : ns ≠ []) : txtN ns ≠ ("none" : Str) := fun e => by
  have hc : 110 ∈ (txtN ns).cps.toList := by rw [e]; decide +kernel
  rw [txtN_tl] at hc
  rcases joinL_mem _ _ hc with h1 | ⟨p, hp, hc⟩
  · cases h1
  · obtain ⟨q, hq, rfl⟩ := List.mem_map.mp hp
    obtain ⟨i, hi, rfl⟩ := List.mem_map.mp hq
    rw [nst_tl (h i hi)] at hc
    have := numL_all _ _ hc
    omega
theorem int_nst {n : Int} (h0 : 0 ≤ n) (h1 : n ≤ 200) : PySem.intText? (nst n) = some n := by
  have := int_num (n := n.toNat) (by
    have := numL_len (n := n.toNat) (k := 4) (by decide) (by omega)
    omega)
  rw [show ((n.toNat : Nat) : Int) = n by omega] at this
  exact this
theorem take_get {α : Type} {l : List α} {k i : Nat} {y : α} (h : (l.take k)[i]? = some y) : l[i]? = some y := by
  rw [List.getElem?_take] at h
  split at h
  · exact h
  · cases h
theorem gaps_init (n : Nat) : gapsL (simInit n).books = [] := by
  have : ∀ i, gapsTo (simInit n).books i = [] := fun i => by
    induction i with
    | zero => rfl
    | succ i ih =>
      show gapsTo (simInit n).books i ++ _ = []
      rw [ih]
      have : (simInit n).books[i]? ≠ some none := by
        show ((rangeI n).map some)[i]? ≠ some none
        rw [List.getElem?_map]
        cases (rangeI n)[i]? <;> simp
      split
      · rename_i h; exact absurd h this
      · rfl
  exact this _
theorem init_ans (n : Nat) : orNone (txtO []) = ("none" : Str) ∧ orNone (txtN (gapsL (simInit n).books)) = ("none" : Str) ∧ orNone (txtN (simInit n).out) = ("none" : Str) := by
  refine ⟨(orNone_f (ws := []) rfl).symm, ?_, ?_⟩
  · rw [gaps_init]; exact (orNone_f (ws := []) rfl).symm
  · exact (orNone_f (ws := []) rfl).symm
/-- a model and a console -/
structure Wm (C D Cc : Addr) (H : Hp) (b : Addr) (d : Nat) (M : Md) (n : Nat) (s : Sim) (ss : List Stp) (co dc : Addr) (B : Ad) : Prop where
  R : Reel H b d
  md : Mdl H M s (ss.map (·.op))
  cb : Con C D Cc H co dc B s ss
  ps : Pst n ss s
  alM : LS.ApL H b M.L
  alB : LS.ApL H b B.L
  dMB : ∀ x ∈ M.L, x ∉ B.L
end LP

namespace LP
open PySem L2 LT LG LQ LH LC LX LR
local macro_rules | `(tactic| array_mem_dec) => `(tactic| first
  | assumption
  | ((with_reducible apply LS.hp_s); assumption; array_mem_dec)
  | ((with_reducible apply LS.hp_f); assumption; array_mem_dec; array_mem_dec)
  | ((with_reducible apply LS.hp_t); assumption; array_mem_dec; array_mem_dec)
  | ((with_reducible apply LS.hp_l); assumption; array_mem_dec; array_mem_dec)
  | ((with_reducible apply LS.sq_o); array_mem_dec)
  | ((with_reducible apply LS.sq_s); assumption; array_mem_dec)
  | ((with_reducible apply LS.sq_f); assumption; array_mem_dec; array_mem_dec)
  | ((with_reducible apply LS.sq_t); assumption; array_mem_dec; array_mem_dec)
  | ((with_reducible apply LS.sq_l); assumption; array_mem_dec; array_mem_dec)
  | ((with_reducible apply LS.tu_o); array_mem_dec)
  | ((with_reducible apply LS.tu_s); assumption; array_mem_dec)
  | ((with_reducible apply LS.tu_f); assumption; array_mem_dec; array_mem_dec)
  | ((with_reducible apply LS.tu_t); assumption; array_mem_dec; array_mem_dec)
  | ((with_reducible apply LS.tu_l); assumption; array_mem_dec; array_mem_dec)
  | ((with_reducible apply LS.se_l); array_mem_dec)
  | ((with_reducible apply LS.se_t); array_mem_dec)
  | ((with_reducible apply LS.se_s); assumption; array_mem_dec)
  | ((with_reducible apply LS.se_f); assumption; array_mem_dec; array_mem_dec)
  | ((with_reducible apply LS.se_tt); assumption; array_mem_dec; array_mem_dec)
  | ((with_reducible exact Same.refl _))
  | ((with_reducible apply LS.sm_s); assumption; array_mem_dec)
  | ((with_reducible apply LS.sm_f); assumption; array_mem_dec; array_mem_dec)
  | ((with_reducible exact Fr.refl _ _))
  | ((with_reducible apply LS.fr_b); assumption; array_mem_dec)
  | ((with_reducible apply LS.fr_s); assumption; array_mem_dec)
  | ((with_reducible apply LS.fr_n); assumption; array_mem_dec; array_mem_dec)
  | ((with_reducible apply LS.fr_t); assumption; array_mem_dec)
  | ((with_reducible apply LS.no_s); assumption; array_mem_dec)
  | ((with_reducible apply LS.no_f); assumption; array_mem_dec; array_mem_dec)
  | ((with_reducible apply LS.no_t); assumption; array_mem_dec)
  | ((with_reducible apply LS.no_l); assumption; assumption)
  | ((with_reducible apply Ne.symm); assumption)
  | ((with_reducible apply LS.ne_a); assumption; array_mem_dec)
  | ((with_reducible apply LS.ne_b); assumption; array_mem_dec)
  | ((with_reducible apply LS.ne_ap); assumption)
  | ((with_reducible apply LS.ne_il); assumption; array_mem_dec)
  | ((with_reducible apply LS.ne_li); assumption; array_mem_dec)
  | ((with_reducible apply LS.ne_lt); assumption; assumption)
  | ((with_reducible apply LS.ne_tl); assumption; assumption)
  | ((with_reducible apply LS.ne_rl); assumption; array_mem_dec)
  | ((with_reducible apply LS.rl_t); assumption)
  | ((with_reducible apply LS.rl_s); assumption; array_mem_dec)
  | ((with_reducible apply LS.rl_f); assumption; array_mem_dec; array_mem_dec)
  | ((with_reducible apply LS.rl_l); assumption; array_mem_dec; array_mem_dec)
  | ((with_reducible apply LS.ap_new); assumption; assumption; array_mem_dec)
  | ((with_reducible apply LS.ap_t); assumption; array_mem_dec; array_mem_dec)
  | ((with_reducible apply LS.ap_s); assumption; array_mem_dec; array_mem_dec)
  | ((with_reducible apply LS.ap_f); assumption; array_mem_dec; array_mem_dec; array_mem_dec)
  | ((with_reducible apply LS.ap_l); assumption; array_mem_dec; array_mem_dec; array_mem_dec)
  | (with_reducible apply LS.ni_nil)
  | ((with_reducible apply LS.ni_cons); array_mem_dec; array_mem_dec)
  | (with_reducible apply LS.trk_nil)
  | ((with_reducible apply LS.trk_cons); array_mem_dec; array_mem_dec)
  | (with_reducible apply LS.al_nil)
  | ((with_reducible apply LS.al_cons); array_mem_dec; array_mem_dec)
  | (with_reducible apply LS.mem_hd)
  | ((with_reducible apply LS.mem_tl); array_mem_dec)
  | ((with_reducible apply LS.fl_refl); array_mem_dec)
  | ((with_reducible apply LS.fl_l); assumption; array_mem_dec)
  | ((with_reducible apply LS.fl_lm); assumption; array_mem_dec; array_mem_dec)
  | (with_reducible apply LS.sub_nil)
  | ((with_reducible apply LS.sub_cons); array_mem_dec; array_mem_dec)
  | ((with_reducible apply LS.fl_s); assumption; array_mem_dec)
  | ((with_reducible apply LS.fl_m); assumption; array_mem_dec; array_mem_dec; array_mem_dec)
  | ((with_reducible apply LS.fl_n); assumption; array_mem_dec; array_mem_dec; array_mem_dec)
  | ((with_reducible apply LS.rt_refl); array_mem_dec)
  | ((with_reducible apply LS.rt_t); assumption; array_mem_dec)
  | ((with_reducible apply LS.rt_s); assumption; array_mem_dec)
  | ((with_reducible apply LS.rt_f); assumption; array_mem_dec; array_mem_dec; array_mem_dec)
  | ((with_reducible apply LS.sz); (first | decide | (simp only [List.length_append, List.length_map, List.length_cons, List.length_nil, List.length_replicate]; omega)))
  | ((with_reducible apply LS.szl); (first | decide | (simp only [List.length_append, List.length_map, List.length_cons, List.length_nil, List.length_replicate]; omega))))
local macro_rules | `(tactic| array_get_dec) => `(tactic| first
  | ((with_reducible apply LS.var); exact rfl)
  | (with_reducible apply LS.con)
  | (with_reducible apply LS.op)
  | (with_reducible apply LS.ri0)
  | (with_reducible apply LS.tseq)
  | (with_reducible apply LS.tasg)
  | (with_reducible apply LS.gname)
  | (with_reducible apply LS.tcons)
  | (with_reducible apply LS.tnil)
  | (with_reducible apply LS.tcb)
  | (with_reducible apply LS.tcall)
  | (with_reducible apply LS.ttest)
  | (with_reducible apply LS.k_b)
  | (with_reducible apply LS.tb)
  | (with_reducible apply LS.tifs)
  | (with_reducible apply LS.ift)
  | (with_reducible apply LS.iff_)
  | (with_reducible apply LS.ifnt)
  | (with_reducible apply LS.ifnf)
  | (with_reducible apply LS.tnext)
  | (with_reducible apply LS.tdrop)
  | (with_reducible apply LS.tret)
  | (with_reducible apply LS.tretn)
  | (with_reducible apply LS.un)
  | (with_reducible apply LS.ru)
  | (with_reducible apply LS.tyes)
  | (with_reducible apply LS.tand)
  | (with_reducible apply LS.tor)
  | (with_reducible apply LS.tnot)
  | (with_reducible apply LS.tif)
  | (with_reducible apply LS.tandv)
  | (with_reducible apply LS.k_av)
  | (with_reducible apply LS.torv)
  | (with_reducible apply LS.k_ov)
  | (with_reducible apply LS.tnotv)
  | (with_reducible apply LS.k_nv)
  | (with_reducible apply LS.tchain)
  | (with_reducible apply LS.k_ch)
  | (with_reducible apply LS.req_i)
  | (with_reducible apply LS.rne_i)
  | (with_reducible apply LS.req_s)
  | (with_reducible apply LS.rne_s)
  | (with_reducible apply LS.req_b)
  | (with_reducible apply LS.rne_b)
  | ((with_reducible apply LS.rin_i); array_mem_dec)
  | ((with_reducible apply LS.rni_i); array_mem_dec)
  | ((with_reducible apply LS.rlen_li); array_mem_dec)
  | ((with_reducible apply LS.rlen_ls); array_mem_dec)
  | ((with_reducible apply LS.rlen_l); array_mem_dec)
  | ((with_reducible apply LS.rlen_Ei); array_mem_dec)
  | ((with_reducible apply LS.rlen_E); array_mem_dec)
  | ((with_reducible apply LS.rlen_t); array_mem_dec)
  | ((with_reducible apply LS.rixl); array_mem_dec; exact rfl)
  | ((with_reducible apply LS.rixt); array_mem_dec; exact rfl)
  | (with_reducible apply LS.isi_int_int)
  | (with_reducible apply LS.isi_int_bool)
  | (with_reducible apply LS.isi_int_str)
  | (with_reducible apply LS.isi_str_int)
  | (with_reducible apply LS.isi_str_bool)
  | (with_reducible apply LS.isi_str_str)
  | (with_reducible apply LS.isi_bool_int)
  | (with_reducible apply LS.isi_bool_bool)
  | (with_reducible apply LS.isi_bool_str)
  | (with_reducible apply LS.isi_non_int)
  | (with_reducible apply LS.isi_non_bool)
  | (with_reducible apply LS.isi_non_str)
  | ((with_reducible apply LS.isi_list_int); array_mem_dec)
  | ((with_reducible apply LS.isi_list_bool); array_mem_dec)
  | ((with_reducible apply LS.isi_list_str); array_mem_dec)
  | ((with_reducible apply LS.isi_list_list); array_mem_dec)
  | ((with_reducible apply LS.isi_list_tuple); array_mem_dec)
  | ((with_reducible apply LS.isi_tuple_int); array_mem_dec)
  | ((with_reducible apply LS.isi_tuple_bool); array_mem_dec)
  | ((with_reducible apply LS.isi_tuple_str); array_mem_dec)
  | ((with_reducible apply LS.isi_tuple_list); array_mem_dec)
  | ((with_reducible apply LS.isi_tuple_tuple); array_mem_dec)
  | ((with_reducible apply LS.isiT_i); array_mem_dec)
  | ((with_reducible apply LS.isiT_s); array_mem_dec)
  | ((with_reducible apply LS.isiT_E); array_mem_dec; array_mem_dec)
  | (with_reducible apply LS.tfld)
  | ((with_reducible apply LS.k_fl); array_mem_dec; assumption; assumption; exact rfl)
  | (with_reducible apply LS.tmeth)
  | ((with_reducible apply LS.k_me); array_mem_dec; exact rfl)
  | (with_reducible apply LS.tmake)
  | (with_reducible apply LS.tsfld)
  | (with_reducible apply LS.tprop)
  | ((with_reducible apply LS.k_pr); array_mem_dec)
  | ((with_reducible apply LS.rlen_own); array_mem_dec)
  | (with_reducible apply LS.rabs)
  | (with_reducible apply LS.rmin2)
  | (with_reducible apply LS.rmax2)
  | (with_reducible apply LS.tsl)
  | (with_reducible apply LS.tthen)
  | (with_reducible apply LS.tstep)
  | (with_reducible apply LS.tnop)
  | (with_reducible apply LS.tpart)
  | (with_reducible apply LS.k_part)
  | (with_reducible apply LS.ttup)
  | (with_reducible apply LS.tlst)
  | (with_reducible apply LS.tbm)
  | (with_reducible apply LS.tbm0)
  | ((with_reducible apply LS.ty_l); array_mem_dec)
  | (with_reducible apply LS.tpar)
  | (with_reducible apply LS.tfor)
  | (with_reducible apply LS.tlc)
  | (with_reducible apply LS.ilist)
  | ((with_reducible apply LS.k_il); array_mem_dec)
  | (with_reducible apply LS.itup)
  | ((with_reducible apply LS.k_it); array_mem_dec)
  | (with_reducible apply LS.istr)
  | (with_reducible apply LS.k_is)
  | (with_reducible apply LS.irng1)
  | ((with_reducible apply LS.k_r1n); omega)
  | ((with_reducible apply LS.k_r1); (first | omega | decide); (first | omega | decide))
  | (with_reducible apply LS.irng2)
  | ((with_reducible apply LS.k_r2); (first | omega | decide); (first | omega | decide); (first | omega | decide); (first | omega | decide))
  | (with_reducible apply LS.ienum)
  | ((with_reducible apply LS.k_en); array_mem_dec)
  | (with_reducible apply LS.izip)
  | ((with_reducible apply LS.k_zip); array_mem_dec; array_mem_dec)
  | (with_reducible apply LS.tlstrg)
  | (with_reducible apply LS.trg1)
  | (with_reducible apply LS.k_g1)
  | (with_reducible apply LS.risn_i)
  | (with_reducible apply LS.risn_s)
  | (with_reducible apply LS.risn_n)
  | (with_reducible apply LS.rnotn_i)
  | (with_reducible apply LS.rnotn_n)
  | (with_reducible apply LS.rint_b)
  | (with_reducible apply LS.rint_i)
  | (with_reducible apply LS.tm0)
  | (with_reducible apply LS.tm1)
  | (with_reducible apply LS.is_str)
  | (with_reducible apply LS.ex_s0)
  | (with_reducible apply LS.ex_int_b)
  | (with_reducible apply LS.k_par)
  | (with_reducible apply LS.tpar3)
  | (with_reducible apply LS.k_par3)
  | ((with_reducible apply LS.taug); exact rfl)
  | (with_reducible apply LS.ipi)
  | ((with_reducible apply LS.gtup); array_mem_dec; exact rfl)
  | ((with_reducible apply LS.gunl); array_mem_dec; exact rfl)
  | (with_reducible apply LS.gnil)
  | (with_reducible apply LS.gcons)
  | (with_reducible apply LS.gsub)
  | ((with_reducible apply LS.ri); first | omega | decide | assumption | exact ⟨by decide, by decide, by decide⟩ | exact .inl ⟨by decide, by decide⟩ | exact .inr ⟨by decide, by decide⟩ | exact .inl ⟨by omega, by omega⟩ | exact .inr ⟨by omega, by omega⟩)
  | (with_reducible apply LS.ex_ss)
  | (with_reducible apply LS.ex_s1)
  | (with_reducible apply LS.ex_i1)
  | (with_reducible apply LS.and_rfl)
  | (with_reducible apply LS.and_tr)
  | (with_reducible apply LS.is_non))
local macro_rules | `(tactic| array_mem_dec) => `(tactic| first
  | ((with_reducible apply LP.lv_s); assumption; array_mem_dec)
  | ((with_reducible apply LP.lv_l); assumption; array_mem_dec; array_mem_dec; array_mem_dec)
  | ((with_reducible apply LP.lv_f); assumption; array_mem_dec; array_mem_dec; array_mem_dec)
  | ((with_reducible apply LP.lv_t); assumption; array_mem_dec; array_mem_dec; array_mem_dec)
  | ((with_reducible apply LP.ops_s); assumption; array_mem_dec)
  | ((with_reducible apply LP.md_s); assumption; array_mem_dec)
  | ((with_reducible apply LP.md_l); assumption; array_mem_dec; array_mem_dec; array_mem_dec)
  | ((with_reducible apply LP.md_f); assumption; array_mem_dec; array_mem_dec; array_mem_dec)
  | ((with_reducible apply LP.md_t); assumption; array_mem_dec; array_mem_dec; array_mem_dec)
  | ((with_reducible apply LP.al_s); assumption; array_mem_dec; array_mem_dec)
  | ((with_reducible apply LP.al_t); assumption; array_mem_dec; array_mem_dec)
  | ((with_reducible apply LP.al_l); assumption; array_mem_dec; array_mem_dec; array_mem_dec)
  | ((with_reducible apply LP.al_f); assumption; array_mem_dec; array_mem_dec; array_mem_dec)
  | ((with_reducible apply LP.Lv.lists); array_mem_dec)
  | ((with_reducible apply LP.Lv.trk); array_mem_dec)
  | ((with_reducible apply LP.Mdl.trk); array_mem_dec)
  | ((with_reducible apply LP.al_no); assumption; array_mem_dec))
local macro_rules | `(tactic| array_get_dec) => `(tactic| first
  | (with_reducible apply LS.tcalle)
  | (with_reducible apply LS.tcalls))
local macro_rules | `(tactic| array_get_dec) => `(tactic| first
  | (with_reducible apply LS.tmethv)
  | (with_reducible apply LS.tmakev)
  | (with_reducible apply LS.rnotn_rr)
  | (with_reducible apply LS.risn_rr)
  | ((with_reducible apply LS.k_mev); array_mem_dec; exact rfl))
local macro_rules | `(tactic| array_get_dec) => `(tactic| first
  | (with_reducible apply LS.trg2)
  | (with_reducible apply LS.k_g2))

section
variable {P : Program} {w : World} {K : PySem.W.Frag} {mg : Str → Option Value} {base : Heap}

/-- a line and what it raises -/
def Er (K : PySem.W.Frag) (H : Hp) (s : Sim) (l : V) (d : Str) : Prop := (BadL K H l ∧ d = "command") ∨ ∃ o : Op, l = .str (cmd o) ∧ 0 ≤ o.2 ∧ o.2 ≤ 10 ^ 40 ∧ stp s o = none ∧ d = (if o.1 = true then "place" else "book")
theorem Er.same {K : PySem.W.Frag} {H H' : Hp} {s : Sim} {l : V} {d : Str} (h : Er K H s l d) (t : Same H H') : Er K H' s l d := h.imp (fun z => ⟨badl_s t z.1, z.2⟩) id
/-- rows of such: told at H, of the values at H0 -/
def RW (K : PySem.W.Frag) (H0 H : Hp) (s : Sim) (xs : List V) : Prop := ∀ x ∈ xs, ∃ t l d, x = .ref t ∧ H t = some (.tup [l, .str d]) ∧ Er K H0 s l d
theorem RW.same {K : PySem.W.Frag} {H0 H H' : Hp} {s : Sim} {xs : List V} (h : RW K H0 H s xs) (t : Same H H') : RW K H0 H' s xs := fun x hx => by
  obtain ⟨u, l, d, e, q, r⟩ := h x hx
  exact ⟨u, l, d, e, t _ _ q, r⟩
theorem RW.fr {K : PySem.W.Frag} {H0 H H' : Hp} {s : Sim} {xs ys : List V} {p : Addr} (h : RW K H0 H s xs) (f : Fr H H' p) (hp : H p = some (.lst ys)) : RW K H0 H' s xs := fun x hx => by
  obtain ⟨u, l, d, e, q, r⟩ := h x hx
  exact ⟨u, l, d, e, f _ _ q (fun z => by subst z; rw [q] at hp; cases hp), r⟩
theorem RW.app {K : PySem.W.Frag} {H0 H : Hp} {s : Sim} {xs ys : List V} (h : RW K H0 H s xs) (g : RW K H0 H s ys) : RW K H0 H s (xs ++ ys) := fun x hx => (List.mem_append.mp hx).elim (h x) (g x)
theorem RW.one {K : PySem.W.Frag} {H0 H : Hp} {s : Sim} {t : Addr} {l : V} {d : Str} (h : H t = some (.tup [l, .str d])) (e : Er K H0 s l d) : RW K H0 H s [.ref t] := fun x hx => by
  rw [List.mem_singleton] at hx
  exact ⟨t, l, d, hx, h, e⟩
theorem stp_out {n : Nat} {s : Sim} {o : Op} (g : Good n s) (h : (n : Int) ≤ o.2) : stp s o = none := by
  cases e : stp s o with
  | none => rfl
  | some u =>
    have := num_range g e
    omega
theorem stp_gap {s : Sim} {p : Nat} (h : s.books[p]? = some none) : stp s (true, (p : Int)) = none := by
  cases e : stp s (true, (p : Int)) with
  | none => rfl
  | some u =>
    obtain ⟨_, b, q, _⟩ := stp_take e
    rw [Int.toNat_natCast, h] at q
    cases q
theorem stp_std {n : Nat} {s : Sim} {p : Nat} {b : Int} (g : Good n s) (h : s.books[p]? = some (some b)) : stp s (false, b) = none := by
  cases e : stp s (false, b) with
  | none => rfl
  | some u =>
    obtain ⟨hb, _⟩ := stp_ret e
    have nd : (s.books.filterMap id ++ s.out).Nodup := g.perm.nodup_iff.mpr (rangeI_nodup n)
    have hm : b ∈ s.books.filterMap id := List.mem_filterMap.mpr ⟨some b, List.mem_of_getElem? h, rfl⟩
    exact absurd rfl ((List.nodup_append.mp nd).2.2 b hm b hb)
theorem cmd_lt (i : Int) : (("take " : Str) ++ LQ.nst i) = cmd (true, i) := by
  unfold cmd
  congr 1
theorem cmd_lr (i : Int) : (("return " : Str) ++ LQ.nst i) = cmd (false, i) := by
  unfold cmd
  congr 1
theorem cmd_gt : (("take 1" : Str) ++ repS 48 39) = cmd (true, 10 ^ 39) := by decide +kernel
theorem cmd_gr : (("return 1" : Str) ++ repS 48 39) = cmd (false, 10 ^ 39) := by decide +kernel
theorem orNone_ok {t : Str} (h : PyData.strOk t = true) : PyData.strOk (orNone t) = true := by
  unfold orNone
  split
  · decide +kernel
  · exact h
theorem ans_ok {n : Nat} {s : Sim} {ss : List Stp} (P : Pst n ss s) (hn : n ≤ 200) : ∀ z ∈ (ansL s (ss.map (·.op))).map (·.2), PyData.strOk z = true := by
  have g := P.good
  intro z hz
  unfold ansL at hz
  simp only [List.map_cons, List.map_nil, List.mem_cons, List.not_mem_nil, or_false] at hz
  rcases hz with rfl | rfl | rfl | rfl | rfl
  · exact txtW_ok (wd_book g hn)
  · exact orNone_ok (txtN_ok fun x hx => by have := gapsTo_lt hx; omega)
  · refine orNone_ok (txtN_ok fun x hx => ?_)
    have h2 := g.perm.subset (List.mem_append_right _ hx)
    unfold rangeI at h2
    obtain ⟨k2, hk2, rfl⟩ := List.mem_map.mp h2
    exact Int.natCast_nonneg _
  · exact orNone_ok (txtW_ok (wd_ops (run_sm hn P.run)))
  · exact (wd_nst (by omega) (by rw [g.len]; omega)).ok
def undoL (m j : Nat) : List Str := List.replicate (min j m) ("none" : Str) ++ List.replicate (j - m) ("undo" : Str)
def sizeL : List Str := List.replicate 9 ("size" : Str) ++ List.replicate 2 ("none" : Str)
theorem ok_law (e : Env w K mg) : FnOk P w K mg base CX0 9 e.a_law e.d_law ["script"] (sp_law K) := by
  refine Fun.ok e.f_law sc_law (fun vs H Q E h => ?_) (fun cdv A outer s H vs Q E hr h => ?_)
  · obtain ⟨a, ns, rfl, _⟩ := h; rfl
  · obtain ⟨a, ns, rfl, hS, hl, k⟩ := h
    refine ⟨_, (pss_cons (ps_set (i := 1) sc_law.nd rfl (by first | exact Or.inl rfl | exact Or.inr rfl) (pe_call ((ok__law_reel e).mono (by decide)) hr rfl e.g__law_reel e.f__law_reel.kp e.b__law_reel .nil pass0 (pa_cons (pv 0) pa_nil)))
      (pss_cons (ps_for PassesOwn.never rfl (pi_range1 (by rfl) e.n_range (pa_cons (pe_op op_add pe_int (pe_callB (LS.call_min2 rfl) (by rfl) e.n_min (by decide +kernel) (pa_cons (pe_callB LS.call_len (by rfl) e.n_len PySem.boot_len (pa_cons (pv 0) pa_nil)) (pa_cons pe_int pa_nil)))) pa_nil)) (pg_name (i := 2) sc_law.nd rfl (by first | exact Or.inl rfl | exact Or.inr rfl))
      (pss_cons (ps_par (i := 3) (j := 4) (by rfl) sc_law.nd rfl rfl (by decide) rfl rfl (pa_cons (pe_op op_add pe_int (pe_call ((ok__law_draw e).mono (by decide)) hr rfl e.g__law_draw e.f__law_draw.kp e.b__law_draw .nil pass0 (pa_cons (pv 1) (pa_cons pe_int pa_nil)))) (pa_cons (pe_call ((ok__law_draw e).mono (by decide)) hr rfl e.g__law_draw e.f__law_draw.kp e.b__law_draw .nil pass0 (pa_cons (pv 1) (pa_cons pe_int pa_nil))) pa_nil)) (by rfl))
      (pss_cons (ps_asg (pe_tup (pa_cons (pe_make e.mk_Console ((ok_Console_init e).mono (by decide)) hr rfl e.g_Console e.b_Console_init .nil pass0 (pa_cons (pv 3) pa_nil)) (pa_cons (pe_lst (pa_cons (pe_listRg rfl (by rfl) e.n_list (prg_1 (by rfl) e.n_range (pv 3))) (pa_cons (pe_lst pa_nil) (pa_cons (pe_lst pa_nil) pa_nil)))) pa_nil))) (pg_tup (by rfl) (pgs_cons (pg_name (i := 5) sc_law.nd rfl (by first | exact Or.inl rfl | exact Or.inr rfl)) (pgs_cons (pg_name (i := 6) sc_law.nd rfl (by first | exact Or.inl rfl | exact Or.inr rfl)) pgs_nil))))
      (pss_cons (ps_if (pt_cmpR op_ne (pe_call ((ok__law_error e).mono (by decide)) hr rfl e.g__law_error e.f__law_error.kp e.b__law_error .nil pass0 (pa_cons (pv 5) (pa_cons pe_str pa_nil))) pe_str (nomark _))
        (pss_one (ps_ret pe_bl))
        pss_nil)
      (pss_cons (ps_for PassesOwn.never rfl (pi_range1 (by rfl) e.n_range (pa_cons (pv 4) pa_nil)) (pg_name (i := 7) sc_law.nd rfl (by first | exact Or.inl rfl | exact Or.inr rfl))
      (pss_cons (ps_asg (pe_call ((ok__law_next e).mono (by decide)) hr rfl e.g__law_next e.f__law_next.kp e.b__law_next .nil pass0 (pa_cons (pv 1) (pa_cons (pv 6) pa_nil))) (pg_tup (by rfl) (pgs_cons (pg_name (i := 8) sc_law.nd rfl (by first | exact Or.inl rfl | exact Or.inr rfl)) (pgs_cons (pg_name (i := 9) sc_law.nd rfl (by first | exact Or.inl rfl | exact Or.inr rfl)) pgs_nil))))
      (pss_cons (ps_set (i := 6) sc_law.nd rfl (by first | exact Or.inl rfl | exact Or.inr rfl) (pe_ix ix_tup (pe_call ((ok__law_moved e).mono (by decide)) hr rfl e.g__law_moved e.f__law_moved.kp e.b__law_moved .nil pass0 (pa_cons (pv 6) (pa_cons (pv 8) (pa_cons (pv 9) pa_nil)))) pe_int (fun _ _ => rfl)))
      (pss_one (ps_expr (pe_meth (pv 5) e.cl_Console e.m_Console_execute ((ok_Console_execute e).mono (by decide)) hr e.b_Console_execute .nil pass0 (pa_cons (pe_op LS.op_addS (pe_op LS.op_addS (pv 8) pe_str) (pe_callTy LS.call_strI (by rfl) e.n_str (by decide +kernel) (pa_cons (pv 9) pa_nil))) pa_nil)))))))
      (pss_cons (ps_set (i := 10) sc_law.nd rfl (by first | exact Or.inl rfl | exact Or.inr rfl) (pe_call ((ok__law_seen e).mono (by decide)) hr rfl e.g__law_seen e.f__law_seen.kp e.b__law_seen .nil pass0 (pa_cons (pv 5) pa_nil)))
      (pss_cons (ps_setLc (i := 11) (own := [("line", 14)]) rfl sc_law.nd rfl rfl (sw_true rfl rfl rfl (by decide +kernel)) (pi_list (pe_call0 ((ok__law_no_lines e).mono (by decide)) hr rfl e.g__law_no_lines e.f__law_no_lines.kp e.b__law_no_lines .nil pass0)) (blkOk_by (N := ["script", "reel", "k", "size", "many", "some", "model", "step", "kind", "number", "seen", "rows", "place", "book", "line", "due", "found", "sizes"]) (sc := defScope s_law) (by decide +kernel)) (fun _ _ _ _ _ => (pg_name (i := 14) sc_law.nd rfl (by first | exact Or.inl rfl | exact Or.inr rfl))) (fun _ _ _ _ _ => pts_nil) (fun _ _ _ _ _ => (pe_tup (pa_cons (pv 14) (pa_cons pe_str pa_nil)))))
      (pss_cons (ps_set (i := 11) sc_law.nd rfl (by first | exact Or.inl rfl | exact Or.inr rfl) (pe_op op_cat (pv 11) (pe_lst (pa_cons (pe_tup (pa_cons (pe_op LS.op_addS pe_str (pe_callTy LS.call_strI (by rfl) e.n_str (by decide +kernel) (pa_cons (pv 3) pa_nil))) (pa_cons pe_str pa_nil))) (pa_cons (pe_tup (pa_cons (pe_op LS.op_addS pe_str (pe_op LX.op_mulS pe_str pe_int)) (pa_cons pe_str pa_nil))) pa_nil)))))
      (pss_cons (ps_expr (pe_bm PySem.F.plainAttrs_list PySem.F.slot_list_append PySem.F.type_list_append mt_append (pv 11) (pa_cons (pe_tup (pa_cons (pe_op LS.op_addS pe_str (pe_callTy LS.call_strI (by rfl) e.n_str (by decide +kernel) (pa_cons (pv 3) pa_nil))) (pa_cons pe_str pa_nil))) pa_nil)))
      (pss_cons (ps_expr (pe_bm PySem.F.plainAttrs_list PySem.F.slot_list_append PySem.F.type_list_append mt_append (pv 11) (pa_cons (pe_tup (pa_cons (pe_op LS.op_addS pe_str (pe_op LX.op_mulS pe_str pe_int)) (pa_cons pe_str pa_nil))) pa_nil)))
      (pss_cons (ps_for PassesOwn.never rfl (pi_enum (by rfl) e.n_enumerate (pa_cons (pe_ix ix_list (pv 6) pe_int (fun _ _ => rfl)) pa_nil)) (pg_tup (by rfl) (pgs_cons (pg_name (i := 12) sc_law.nd rfl (by first | exact Or.inl rfl | exact Or.inr rfl)) (pgs_cons (pg_name (i := 13) sc_law.nd rfl (by first | exact Or.inl rfl | exact Or.inr rfl)) pgs_nil)))
      (pss_cons (ps_set (i := 11) sc_law.nd rfl (by first | exact Or.inl rfl | exact Or.inr rfl) (pe_op op_cat (pv 11) (pe_op op_rep (pe_lst (pa_cons (pe_tup (pa_cons (pe_op LS.op_addS pe_str (pe_callTy LS.call_strI (by rfl) e.n_str (by decide +kernel) (pa_cons (pv 12) pa_nil))) (pa_cons pe_str pa_nil))) pa_nil)) (pe_callTy LS.call_int1 (by rfl) e.n_int (by decide +kernel) (pa_cons (pe_cmpR LS.op_isN (pv 13) pe_non (nomark _)) pa_nil)))))
      (pss_one (ps_set (i := 11) sc_law.nd rfl (by first | exact Or.inl rfl | exact Or.inr rfl) (pe_op op_cat (pv 11) (pe_op op_rep (pe_lst (pa_cons (pe_tup (pa_cons (pe_op LS.op_addS pe_str (pe_callTy LX.call_strO (by rfl) e.n_str (by decide +kernel) (pa_cons (pv 13) pa_nil))) (pa_cons pe_str pa_nil))) pa_nil)) (pe_callTy LS.call_int1 (by rfl) e.n_int (by decide +kernel) (pa_cons (pe_cmpR LS.op_notN (pv 13) pe_non (nomark _)) pa_nil))))))))
      (pss_cons (ps_for PassesOwn.never rfl (pi_list (pv 11)) (pg_tup (by rfl) (pgs_cons (pg_name (i := 14) sc_law.nd rfl (by first | exact Or.inl rfl | exact Or.inr rfl)) (pgs_cons (pg_name (i := 15) sc_law.nd rfl (by first | exact Or.inl rfl | exact Or.inr rfl)) pgs_nil)))
      (pss_one (ps_if (PW.pt (pw_or (pt_cmpR op_ne (pe_call ((ok__law_error e).mono (by decide)) hr rfl e.g__law_error e.f__law_error.kp e.b__law_error .nil pass0 (pa_cons (pv 5) (pa_cons (pv 14) pa_nil))) (pv 15) (nomark _)) (pw_or1 (pt_cmpR (op_neD hr.units) (pe_call ((ok__law_seen e).mono (by decide)) hr rfl e.g__law_seen e.f__law_seen.kp e.b__law_seen .nil pass0 (pa_cons (pv 5) pa_nil)) (pv 10) (nomark _)))))
        (pss_one (ps_ret pe_bl))
        pss_nil)))
      (pss_cons (ps_setLc (i := 16) (own := [("step", 7)]) rfl sc_law.nd rfl rfl (sw_true rfl rfl rfl (by decide +kernel)) (pi_range1 (by rfl) e.n_range (pa_cons (pe_op op_add (pv 4) pe_int) pa_nil)) (blkOk_by (N := ["script", "reel", "k", "size", "many", "some", "model", "step", "kind", "number", "seen", "rows", "place", "book", "line", "due", "found", "sizes"]) (sc := defScope s_law) (by decide +kernel)) (fun _ _ _ _ _ => (pg_name (i := 7) sc_law.nd rfl (by first | exact Or.inl rfl | exact Or.inr rfl))) (fun _ _ _ _ _ => pts_nil) (fun _ _ _ _ _ => (pe_call ((ok__law_error e).mono (by decide)) hr rfl e.g__law_error e.f__law_error.kp e.b__law_error .nil pass0 (pa_cons (pv 5) (pa_cons pe_str pa_nil)))))
      (pss_one (ps_if (pt_cmpR (op_neD hr.units) (pv 16) (pe_op op_cat (pe_op op_rep (pe_lst (pa_cons pe_str pa_nil)) (pv 4)) (pe_lst (pa_cons pe_str pa_nil))) (nomark _))
        (pss_one (ps_ret pe_bl))
        pss_nil)))))))))))))))
      (pss_cons (ps_set (i := 17) sc_law.nd rfl (by first | exact Or.inl rfl | exact Or.inr rfl) (pe_lst (pa_cons pe_int (pa_cons (pe_un un_neg pe_int) (pa_cons pe_int (pa_cons (pe_op op_pow pe_int pe_int) (pa_cons pe_non (pa_cons pe_bl (pa_cons pe_str (pa_cons (pe_lst (pa_cons pe_int pa_nil)) (pa_cons (pe_tup pa_nil) (pa_cons pe_int (pa_cons pe_int pa_nil)))))))))))))
      (pss_one (ps_ret (pe_cmpR (op_eqD hr.units) (pe_lc (own := [("size", 3)]) rfl sc_law.nd (pi_list (pv 17)) (blkOk_by (N := ["script", "reel", "k", "size", "many", "some", "model", "step", "kind", "number", "seen", "rows", "place", "book", "line", "due", "found", "sizes"]) (sc := defScope s_law) (by decide +kernel)) (fun _ _ _ _ _ => (pg_name (i := 3) sc_law.nd rfl (by first | exact Or.inl rfl | exact Or.inr rfl))) (fun _ _ _ _ _ => pts_nil) (fun _ _ _ _ _ => (pe_call ((ok__law_error e).mono (by decide)) hr rfl e.g__law_error e.f__law_error.kp e.b__law_error .nil pass0 (pa_cons pe_non (pa_cons (pv 3) pa_nil))))) (pe_op op_cat (pe_op op_rep (pe_lst (pa_cons pe_str pa_nil)) pe_int) (pe_op op_rep (pe_lst (pa_cons pe_str pa_nil)) pe_int)) (nomark _))))))), ?_⟩
    have c_Shelf := e.cl_Shelf; have a_Shelf_books := e.nA_Shelf_books; have a_Shelf_out := e.nA_Shelf_out; have c_LiveShelf := e.cl_LiveShelf; have a_LiveShelf__shelf := e.nA_LiveShelf__shelf; have a_LiveShelf__steps := e.nA_LiveShelf__steps; have c_Console := e.cl_Console; have a_Console__live := e.nA_Console__live
    repeat array_get_dec
    refine ⟨a, ns, rfl, hS, hl, fun H1 b s1 nb R => ?_⟩
    repeat array_get_dec
    refine LS.for_ walk_range (fun i σ H2 => ∃ v2 v3 v4 v5 v6 v7 v8 v9 v10 v11 v12 v13 v14 v15 v16 : Option V, Reel H2 b (i * 1000) ∧ σ = [some (.ref a), some (.ref b), v2, v3, v4, v5, v6, v7, v8, v9, v10, v11, v12, v13, v14, v15, v16, none]) ⟨_, _, _, _, _, _, _, _, _, _, _, _, _, _, _, (by array_mem_dec), rfl⟩ (fun _ _ _ _ _ => trivial) ?_ ?_
    · rintro i x σ H2 H3 hi ⟨v2, v3, v4, v5, v6, v7, v8, v9, v10, v11, v12, v13, v14, v15, v16, R2, rfl⟩ ⟨rfl, rfl⟩
      have hi9 : i < 6 := by omega
      repeat array_get_dec
      refine ⟨_, _, _, rfl, (by array_mem_dec), (by first | decide | omega), (by first | (decide +kernel) | exact log_small (by omega)), (by omega), fun H_r8 r8 r80 r81 T_r8 => ?_⟩
      repeat array_get_dec
      refine ⟨_, _, _, rfl, (by array_mem_dec), (by first | decide | omega), (by first | (decide +kernel) | exact log_small (by omega)), (by omega), fun H_r9 r9 r90 r91 T_r9 => ?_⟩
      repeat array_get_dec
      obtain ⟨n, hn1, hn, en⟩ : ∃ n : Nat, 1 ≤ n ∧ n ≤ 9 ∧ 1 + r8 = (n : Int) := ⟨(1 + r8).toNat, by omega, by omega, by omega⟩
      obtain ⟨m, hm, em⟩ : ∃ m : Nat, m ≤ 10 ∧ r9 = (m : Int) := ⟨r9.toNat, by omega, by omega⟩
      have R4 := T_r9.r
      clear T_r8 T_r9
      subst em
      rw [en]
      repeat array_get_dec
      refine LS.k_mk fun co dc H5 n1 n2 s5 h5 => ?_
      refine ⟨co, dc, n, rfl, hn1, by omega, h5, fun H6 B f6 cB noB => ⟨rfl, ?_⟩⟩
      have s46 : Same H_r9 H6 := same_fr s5 f6 n1
      have R6 := R4.same s46
      have alB6 : LS.ApL H6 b B.L := al_f f6 (al_no noB (R4.same s5)) (LS.ap_same s5 R4 (R4.new n1)) (R4.same s5)
      clear f6 h5 s5
      repeat array_get_dec
      refine LS.k_lr (by omega) fun bk H10 n10 s10 h10 => ?_
      repeat array_get_dec
      refine LS.k_lst (by array_mem_dec) fun ou H_ou n_ou s_ou h_ou => ?_
      repeat array_get_dec
      refine LS.k_lst (by array_mem_dec) fun dn H_dn n_dn s_dn h_dn => ?_
      repeat array_get_dec
      refine LS.k_lst (by array_mem_dec) fun mm H_mm n_mm s_mm h_mm => ?_
      repeat array_get_dec
      have md : Mdl H_mm ⟨mm, bk, ou, dn⟩ (simInit n) [] := ⟨(by array_mem_dec), by rw [init_books]; exact (by array_mem_dec), (by array_mem_dec), ⟨[], (by array_mem_dec), rfl, fun i a o ha => by simp at ha⟩⟩
      have nbk : H6 bk = none := (by array_mem_dec)
      have nou : H6 ou = none := (by array_mem_dec)
      have ndn : H6 dn = none := (by array_mem_dec)
      have nmm : H6 mm = none := (by array_mem_dec)
      have sM : Same H6 H_mm := (by array_mem_dec)
      have fresh : ∀ x ∈ (⟨mm, bk, ou, dn⟩ : Md).L, H6 x = none := fun x hx => by
        simp [Md.L] at hx
        rcases hx with rfl | rfl | rfl | rfl <;> assumption
      have W0 : Wm e.C_LiveShelf e.C_Shelf e.C_Console H_mm b (i * 1000 + 2) ⟨mm, bk, ou, dn⟩ n (simInit n) [] co dc B := ⟨LS.Reel.up (R6.same sM) (by omega), md, ⟨sM _ _ cB.ob, lv_s sM cB.lv⟩, .nil, al_s sM (al_no fresh R6) R6, al_s sM alB6 R6, fun x hx q => cB.lv.trk x q (fresh x hx)⟩
      clear md nbk nou ndn nmm sM fresh h_mm s_mm n_mm h_dn s_dn n_dn h_ou s_ou n_ou h10 s10 n10 cB alB6 R6 R4
      repeat array_get_dec
      refine LS.k_tup (by array_mem_dec) fun tp H_tp n_tp s_tp h_tp => ?_
      repeat array_get_dec
      have cT := con_s W0.cb s_tp
      have RT := W0.R.same s_tp
      have alMT := al_s s_tp W0.alM W0.R
      have alBT := al_s s_tp W0.alB W0.R
      refine .inr (.inr (.inr (.inl ⟨co, dc, B, _, rfl, cT, fun H11 s11 => ?_⟩)))
      have W8 : Wm e.C_LiveShelf e.C_Shelf e.C_Console H11 b (i * 1000 + 3) ⟨mm, bk, ou, dn⟩ n (simInit n) [] co dc B := ⟨LS.Reel.up (RT.same s11) (by omega), md_s s11 (md_s s_tp W0.md), con_s cT s11, .nil, al_s s11 alMT RT, al_s s11 alBT RT, W0.dMB⟩
      clear W0 cT RT alMT alBT
      repeat array_get_dec
      rw [decide_eq_true (rfl : ("undo" : Str) = "undo")]
      refine LS.ifnt ?_
      repeat array_get_dec
      refine LS.for_ (walk_range (lo := 0) (n := m)) (fun j σ H' => ∃ (M : Md) (s : Sim) (ss : List Stp) (w7 w8 w9 : Option V), Wm e.C_LiveShelf e.C_Shelf e.C_Console H' b (i * 1000 + 3 + j * 2) M n s ss co dc B ∧ ss.length = j ∧ σ = [some (.ref a), some (.ref b), some (.int (0 + (i : Int))), some (.int n), some (.int m), some (.ref co), some (.ref M.m), w7, w8, w9, v10, v11, v12, v13, v14, v15, v16, none])
        ⟨_, _, _, _, _, _, W8, rfl, rfl⟩ (fun _ _ _ _ _ => trivial) ?_ ?_
      · clear W8
        rintro j x σ Hj' Hj hj ⟨M, s, ss, w7, w8, w9, W, hls, rfl⟩ ⟨rfl, rfl⟩
        have hj4 : j < 150 := by omega
        have g := W.ps.good
        repeat array_get_dec
        refine ⟨b, _, M, s, ss.map (·.op), n, rfl, W.R, by omega, W.md, W.alM, g, hn1, by omega, fun H7 t o u T7 nt ht hu => ?_⟩
        have ht' : H7 t = some (.tup [.str (kst o.1), .int o.2]) := ht
        have md7 := md_t T7 W.md W.R W.alM
        have cb7 := con_mv W.cb (mv_t (L := []) T7) W.R li_nil W.alB (fun _ _ h => by cases h)
        have alB7 := al_t T7 W.alB W.cb.lv.trk
        clear ht
        repeat array_get_dec
        refine ⟨M, s, u, ss.map (·.op), n, o, rfl, md7, g, by omega, hu, by rw [List.length_map]; omega, fun H8 t2 M' s8 nt2 nM md' ht2 => ?_⟩
        have cb8 : Con e.C_LiveShelf e.C_Shelf e.C_Console H8 co dc B s ss := ⟨s8 _ _ cb7.ob, lv_s s8 cb7.lv⟩
        have alB8 := al_s s8 alB7 T7.r
        have alM8 := al_s s8 (al_no nM T7.r) T7.r
        have R8 := T7.r.same s8
        have hco := cb8.ob
        have ob := con_cmd g (by omega) hu
        have dr := due_range g hu
        have dMB : ∀ x ∈ M'.L, x ∉ B.L := fun x hx q => cb7.lv.trk x q (nM x hx)
        repeat array_get_dec
        refine ⟨_, _, rfl, rfl, LS.sz (by cases o.1 <;> decide +kernel), ?_⟩
        repeat array_get_dec
        refine LS.rstr_i (log2_lt ob.1 (by omega) (by decide)) ?_
        repeat array_get_dec
        refine ⟨_, _, rfl, rfl, LS.sz (by have := cmd_len ob.1 ob.2; unfold cmd at this; rw [str_len_app] at this; exact Nat.le_trans this (by decide)), ?_⟩
        repeat array_get_dec
        refine .inl ⟨co, dc, B, s, u, ss, o, n, rfl, cb8, W.ps, by omega, hu, by omega, fun H9 f9 c9 => ?_⟩
        repeat array_get_dec
        exact ⟨M', u, ss ++ [stOf s o], _, _, _, ⟨LS.Reel.up (LS.rl_l f9 R8 alB8) (by omega), by rw [List.map_append]; exact md_l f9 md' cb8.lv.lists dMB, c9, W.ps.snoc hu, al_l f9 alM8 alB8 R8, al_l f9 alB8 alB8 R8, dMB⟩, by rw [List.length_append, hls]; rfl, rfl⟩
      · clear W8
        rintro σ H9 ⟨M, s, ss, w7, w8, w9, W, hls, rfl⟩
        have g := W.ps.good
        have hm9 := W.md.m
        have hbk := W.md.bk
        have c9 := W.cb
        have ob9 := c9.ob
        have P9 := W.ps
        repeat array_get_dec
        refine ⟨co, dc, B, s, ss, n, rfl, c9, P9, by omega, by omega, fun H10 se s10 nse hse => ?_⟩
        repeat array_get_dec
        refine ⟨rfl, fun H11 nl xs s11 nnl hnl hxl bad => ?_⟩
        repeat array_get_dec
        refine LS.comp walk_list (fun D2 j acc H' => RW K H11 H' s acc ∧ Same H11 H') (fun D2 H' nD s' hD => ⟨fun x hx => (by cases hx), s'⟩) (fun D2 j acc H' _ nD hD h => SqL.of (h.2 _ _ hnl)) ?_ ?_
        · rintro D2 j acc x H2' H3' nD hj hlen hD ⟨rw2, s2⟩ ⟨rfl, hx⟩
          refine ⟨rfl, ?_⟩
          repeat array_get_dec
          refine LS.k_tup (by array_mem_dec) fun t H4 nt s4 ht => ?_
          have hD4 := s4 _ _ hD
          exact LS.k_lc hD4 hlen (by omega) fun H5 f5 h5 => ⟨((rw2.same s4).app (RW.one ht (.inl ⟨bad x (List.mem_of_getElem? hx), rfl⟩))).fr f5 hD4, LS.Same.fr_new (s2.trans s4) f5 nD⟩
        · rintro D2 acc H12 nD hD hlen ⟨rw12, s12⟩
          repeat array_get_dec
          have nl2 := nst_len40 (n := n) (by omega)
          have e5 : ("take " : Str).length = 5 := by decide +kernel
          have e7 : ("return " : Str).length = 7 := by decide +kernel
          refine LS.rstr_i (log2_lt (by omega) (by omega) (by decide)) ?_
          refine ⟨_, _, rfl, rfl, LS.sz (by show ("take " : Str).length + (LQ.nst (n : Int)).length ≤ _; omega), ?_⟩
          repeat array_get_dec
          refine LS.k_tup (by array_mem_dec) fun t1 H_t1 n_t1 s_t1 h_t1 => ?_
          repeat array_get_dec
          refine ⟨48, 39, congrArg V.str (by decide +kernel), rfl, by decide, by decide, ?_⟩
          refine ⟨_, _, rfl, rfl, LS.sz (by decide +kernel), ?_⟩
          repeat array_get_dec
          refine LS.k_tup (by array_mem_dec) fun t2 H_t2 n_t2 s_t2 h_t2 => ?_
          repeat array_get_dec
          refine LS.k_lst (by array_mem_dec) fun l2 H_l2 n_l2 s_l2 h_l2 => ?_
          repeat array_get_dec
          have er1 : Er K H11 s (.str (("take " : Str) ++ LQ.nst (n : Int))) "place" := .inr ⟨(true, (n : Int)), congrArg V.str (cmd_lt _), by show 0 ≤ (n : Int); omega, by show (n : Int) ≤ 10 ^ 40; omega, stp_out g (Int.le_refl _), rfl⟩
          have er2 : Er K H11 s (.str (("take 1" : Str) ++ repS 48 39)) "place" := .inr ⟨(true, 10 ^ 39), congrArg V.str cmd_gt, by decide, by decide, stp_out g (by show (n : Int) ≤ 10 ^ 39; omega), rfl⟩
          have er3 : Er K H11 s (.str (("return " : Str) ++ LQ.nst (n : Int))) "book" := .inr ⟨(false, (n : Int)), congrArg V.str (cmd_lr _), by show 0 ≤ (n : Int); omega, by show (n : Int) ≤ 10 ^ 40; omega, stp_out g (Int.le_refl _), rfl⟩
          have er4 : Er K H11 s (.str (("return 1" : Str) ++ repS 48 39)) "book" := .inr ⟨(false, 10 ^ 39), congrArg V.str cmd_gr, by decide, by decide, stp_out g (by show (n : Int) ≤ 10 ^ 39; omega), rfl⟩
          refine LS.rcat (s_l2 _ _ (s_t2 _ _ (s_t1 _ _ hD))) h_l2 (LS.sz (by show acc.length + 2 ≤ 100000; omega)) fun c1 H13 nc1 sc1 hc1 => ?_
          have s1213 : Same H12 H13 := ((s_t1.trans s_t2).trans s_l2).trans sc1
          have rw13 : RW K H11 H13 s (acc ++ [.ref t1, .ref t2]) := (rw12.same s1213).app ((RW.one (sc1 _ _ (s_l2 _ _ (s_t2 _ _ h_t1))) er1).app (RW.one (sc1 _ _ (s_l2 _ _ h_t2)) er2))
          have s13 := s12.trans s1213
          have n13 : H11 c1 = none := (s12.trans ((s_t1.trans s_t2).trans s_l2)).free nc1
          clear s_l2 h_l2 s_t2 h_t2 s_t1 h_t1 n_t1 n_t2 n_l2 sc1 nc1
          repeat array_get_dec
          refine LS.rstr_i (log2_lt (by omega) (by omega) (by decide)) ?_
          refine ⟨_, _, rfl, rfl, LS.sz (by show ("return " : Str).length + (LQ.nst (n : Int)).length ≤ _; omega), ?_⟩
          repeat array_get_dec
          refine LS.k_tup (by array_mem_dec) fun t3 H_t3 n_t3 s_t3 h_t3 => ?_
          repeat array_get_dec
          refine LS.rapp (s_t3 _ _ hc1) (LS.szl (by rw [List.length_append]; show acc.length + 2 < 100000; omega)) fun H14 f14 h14 => ?_
          have rw14 : RW K H11 H14 s (acc ++ [.ref t1, .ref t2] ++ [.ref t3]) := ((rw13.same s_t3).app (RW.one h_t3 er3)).fr f14 (s_t3 _ _ hc1)
          have s14 : Same H11 H14 := LS.Same.fr_new (s13.trans s_t3) f14 n13
          clear s_t3 h_t3 f14
          repeat array_get_dec
          refine ⟨48, 39, congrArg V.str (by decide +kernel), rfl, by decide, by decide, ?_⟩
          refine ⟨_, _, rfl, rfl, LS.sz (by decide +kernel), ?_⟩
          repeat array_get_dec
          refine LS.k_tup (by array_mem_dec) fun t4 H_t4 n_t4 s_t4 h_t4 => ?_
          repeat array_get_dec
          refine LS.rapp (s_t4 _ _ h14) (LS.szl (by rw [List.length_append, List.length_append]; show acc.length + 2 + 1 < 100000; omega)) fun H15 f15 h15 => ?_
          have rw15 : RW K H11 H15 s (acc ++ [.ref t1, .ref t2] ++ [.ref t3] ++ [.ref t4]) := ((rw14.same s_t4).app (RW.one h_t4 er4)).fr f15 (s_t4 _ _ h14)
          have s15 : Same H11 H15 := LS.Same.fr_new (s14.trans s_t4) f15 n13
          clear s_t4 h_t4 f15 rw14 rw13 h14 s14 er1 er2 er3 er4
          have s915 := (s10.trans s11).trans s15
          have hm15 := s915 _ _ hm9
          have hbk15 := s915 _ _ hbk
          repeat array_get_dec
          refine LS.for_ (walk_enum (xs := s.books.map vo)) (fun j σ H' => ∃ (rp : Addr) (rs : List V) (w12 w13 : Option V), H' rp = some (.lst rs) ∧ RW K H11 H' s rs ∧ rs.length ≤ 104 + 2 * j ∧ Same H11 H' ∧ Same H9 H' ∧ σ = [some (.ref a), some (.ref b), some (.int (0 + (i : Int))), some (.int n), some (.int m), some (.ref co), some (.ref M.m), w7, w8, w9, some (.ref se), some (.ref rp), w12, w13, v14, v15, v16, none])
            ⟨c1, _, _, _, h15, rw15, by simp only [List.length_append, List.length_cons, List.length_nil]; omega, s15, s915, rfl⟩ (fun j σ H' _ h => (by obtain ⟨_, _, _, _, _, _, _, _, h, _⟩ := h; exact SqL.of (h _ _ hbk))) ?_ ?_
          · clear rw15 s15 s915 h15 hm15 hbk15 rw12 s12 hD
            rintro j x σ Hj' Hj hj ⟨rp, rs, w12, w13, hrp, rw0, hrl, s11j, s9j, rfl⟩ y
            obtain ⟨T, y, z, rfl, nT, sT, hT, hy, hz⟩ := LS.ypair y
            cases hy
            obtain ⟨o, ho2, rfl⟩ := vo_at hz
            rw [List.length_map] at hj
            have gl := g.len
            have np := nst_len40 (n := j) (by omega)
            have szj : ("take " : Str).length + (LQ.nst (j : Int)).length ≤ 100000 := by omega
            cases o with
            | none =>
              have er : Er K H11 s (.str (("take " : Str) ++ LQ.nst (j : Int))) "place" := .inr ⟨(true, (j : Int)), congrArg V.str (cmd_lt _), by show 0 ≤ (j : Int); omega, by show (j : Int) ≤ 10 ^ 40; omega, stp_gap ho2, rfl⟩
              repeat array_get_dec
              refine LS.rstr_i (log2_lt (by omega) (by omega) (by decide)) ?_
              refine ⟨_, _, rfl, rfl, LS.sz szj, ?_⟩
              repeat array_get_dec
              refine LS.k_tup (by array_mem_dec) fun t5 H_t5 n_t5 s_t5 h_t5 => ?_
              repeat array_get_dec
              refine LS.k_lst (by array_mem_dec) fun l5 H_l5 n_l5 s_l5 h_l5 => ?_
              repeat array_get_dec
              refine LS.risn_n ?_
              repeat array_get_dec
              refine LS.rrep1 (n := 1) (by array_mem_dec) (by decide) fun q5 H5 nq5 sq5 hq5 => ?_
              refine LS.rcat (sq5 _ _ (s_l5 _ _ (s_t5 _ _ (sT _ _ hrp)))) hq5 (LS.sz (by show rs.length + 1 ≤ 100000; omega)) fun c5 H6 nc5 sc5 hc5 => ?_
              have rw6 : RW K H11 H6 s (rs ++ List.replicate 1 (.ref t5)) := (((((rw0.same sT).same s_t5).same s_l5).same sq5).same sc5).app (RW.one (sc5 _ _ (sq5 _ _ (s_l5 _ _ h_t5))) er)
              have sj6 := sT.trans (s_t5.trans (s_l5.trans (sq5.trans sc5)))
              repeat array_get_dec
              refine .inl ⟨rfl, ?_⟩
              refine ⟨_, _, rfl, rfl, LS.sz (by decide +kernel), ?_⟩
              repeat array_get_dec
              refine LS.k_tup (by array_mem_dec) fun t6 H_t6 n_t6 s_t6 h_t6 => ?_
              repeat array_get_dec
              refine LS.k_lst (by array_mem_dec) fun l6 H_l6 n_l6 s_l6 h_l6 => ?_
              repeat array_get_dec
              refine LS.rnotn_n ?_
              repeat array_get_dec
              refine LS.rrep1 (n := 0) (by array_mem_dec) (by decide) fun q6 H7 nq6 sq6 hq6 => ?_
              refine LS.rcat (sq6 _ _ (s_l6 _ _ (s_t6 _ _ hc5))) hq6 (LS.sz (by rw [List.length_append, List.length_replicate]; show rs.length + 1 + 0 ≤ 100000; omega)) fun c6 H8 nc6 sc6 hc6 => ?_
              have sj8 := s_t6.trans (s_l6.trans (sq6.trans sc6))
              refine ⟨c6, _, _, _, hc6, (rw6.same sj8).app (fun x hx => by cases hx), ?_, s11j.trans (sj6.trans sj8), s9j.trans (sj6.trans sj8), rfl⟩
              rw [List.length_append, List.length_append, List.length_replicate, List.length_replicate]
              omega
            | some bb =>
              have hbb : 0 ≤ bb ∧ bb < (n : Int) := by
                have hm : bb ∈ s.books.filterMap id := List.mem_filterMap.mpr ⟨some bb, List.mem_of_getElem? ho2, rfl⟩
                have h2 := g.perm.subset (List.mem_append_left _ hm)
                unfold rangeI at h2
                obtain ⟨k2, hk2, rfl⟩ := List.mem_map.mp h2
                have := List.mem_range.mp hk2
                exact ⟨Int.natCast_nonneg _, by omega⟩
              obtain ⟨kb, rfl⟩ : ∃ kb : Nat, bb = kb := ⟨bb.toNat, by omega⟩
              have npb := nst_len40 (n := kb) (by omega)
              have er : Er K H11 s (.str (("return " : Str) ++ LQ.nst (kb : Int))) "book" := .inr ⟨(false, (kb : Int)), congrArg V.str (cmd_lr _), by show 0 ≤ (kb : Int); omega, by show (kb : Int) ≤ 10 ^ 40; omega, stp_std g ho2, rfl⟩
              repeat array_get_dec
              refine LS.rstr_i (log2_lt (by omega) (by omega) (by decide)) ?_
              refine ⟨_, _, rfl, rfl, LS.sz szj, ?_⟩
              repeat array_get_dec
              refine LS.k_tup (by array_mem_dec) fun t5 H_t5 n_t5 s_t5 h_t5 => ?_
              repeat array_get_dec
              refine LS.k_lst (by array_mem_dec) fun l5 H_l5 n_l5 s_l5 h_l5 => ?_
              repeat array_get_dec
              refine LS.risn_i ?_
              repeat array_get_dec
              refine LS.rrep1 (n := 0) (by array_mem_dec) (by decide) fun q5 H5 nq5 sq5 hq5 => ?_
              refine LS.rcat (sq5 _ _ (s_l5 _ _ (s_t5 _ _ (sT _ _ hrp)))) hq5 (LS.sz (by show rs.length + 0 ≤ 100000; omega)) fun c5 H6 nc5 sc5 hc5 => ?_
              have sj6 := sT.trans (s_t5.trans (s_l5.trans (sq5.trans sc5)))
              have rw6 : RW K H11 H6 s (rs ++ List.replicate 0 (.ref t5)) := (rw0.same sj6).app (fun x hx => by cases hx)
              repeat array_get_dec
              refine .inr ?_
              refine LS.rstr_i (log2_lt (by omega) (by omega) (by decide)) ?_
              refine ⟨_, _, rfl, rfl, LS.sz (by show ("return " : Str).length + (LQ.nst (kb : Int)).length ≤ _; omega), ?_⟩
              repeat array_get_dec
              refine LS.k_tup (by array_mem_dec) fun t6 H_t6 n_t6 s_t6 h_t6 => ?_
              repeat array_get_dec
              refine LS.k_lst (by array_mem_dec) fun l6 H_l6 n_l6 s_l6 h_l6 => ?_
              repeat array_get_dec
              refine LS.rnotn_i ?_
              repeat array_get_dec
              refine LS.rrep1 (n := 1) (by array_mem_dec) (by decide) fun q6 H7 nq6 sq6 hq6 => ?_
              refine LS.rcat (sq6 _ _ (s_l6 _ _ (s_t6 _ _ hc5))) hq6 (LS.sz (by rw [List.length_append, List.length_replicate]; show rs.length + 0 + 1 ≤ 100000; omega)) fun c6 H8 nc6 sc6 hc6 => ?_
              have sj8 := s_t6.trans (s_l6.trans (sq6.trans sc6))
              refine ⟨c6, _, _, _, hc6, (rw6.same sj8).app (RW.one (sc6 _ _ (sq6 _ _ (s_l6 _ _ h_t6))) er), ?_, s11j.trans (sj6.trans sj8), s9j.trans (sj6.trans sj8), rfl⟩
              rw [List.length_append, List.length_append, List.length_replicate, List.length_replicate]
              omega
          · rintro σ H16 ⟨rp, rs, w12, w13, hrp, rw0, hrl, s1116, s916, rfl⟩
            have c16 := con_s c9 s916
            have hse16 := s1116 _ _ (s11 _ _ hse)
            have hseS : H16 se = some (.lst (((ansL s (ss.map (·.op))).map (·.2)).map V.str)) := by rw [hse16, List.map_map]; rfl
            have okA := ans_ok P9 (show n ≤ 200 by omega)
            repeat array_get_dec
            refine LS.for_ (walk_list (xs := rs)) (fun j σ H' => ∃ w14 w15 : Option V, Same H16 H' ∧ σ = [some (.ref a), some (.ref b), some (.int (0 + (i : Int))), some (.int n), some (.int m), some (.ref co), some (.ref M.m), w7, w8, w9, some (.ref se), some (.ref rp), w12, w13, w14, w15, v16, none]) ⟨_, _, Same.refl _, rfl⟩ (fun j σ H' _ ⟨_, _, s', _⟩ => SqL.of (s' _ _ hrp)) ?_ ?_
            · rintro j x σ Hj' Hj hj ⟨w14, w15, sj, rfl⟩ ⟨rfl, hx⟩
              obtain ⟨t, l, d, rfl, ht, er⟩ := rw0 x (List.mem_of_getElem? hx)
              have htj := sj _ _ ht
              have cj := con_s c16 sj
              have tail : ∀ (H18 : Hp), Same Hj H18 → ∀ (Q2 : VK) (E2 : XK), (∀ (H19 : Hp) (p : Addr), Same H18 H19 → H19 p = some (.lst (((ansL s (ss.map (·.op))).map (·.2)).map V.str)) → Q2 (.ref p) H19) → sp__law_seen e.C_LiveShelf e.C_Shelf e.C_Console ([V.ref co] ++ []) H18 Q2 E2 := fun H18 s18 Q2 E2 kk =>
                ⟨co, dc, B, s, ss, n, rfl, con_s cj s18, P9, by omega, by omega, fun H19 p s19 np hp => kk H19 p s19 (by rw [hp, List.map_map]; rfl)⟩
              repeat array_get_dec
              have fin : ∀ H18, Same Hj H18 → Same H16 H18 := fun H18 s18 => sj.trans s18
              rcases er with ⟨bad2, rfl⟩ | ⟨o, rfl, h0, h1, hno, rfl⟩
              · refine .inr (.inr (.inl ⟨co, dc, B, s, ss, l, rfl, cj, badl_s (s1116.trans sj) bad2, fun H18 s18 => ?_⟩))
                repeat array_get_dec
                rw [decide_eq_true (rfl : ("command" : Str) = "command")]
                refine LS.ifnt ?_
                repeat array_get_dec
                refine tail H18 s18 _ _ fun H19 p s19 hp => ?_
                repeat array_get_dec
                refine LS.rne_sl (x := (ansL s (ss.map (·.op))).map (·.2)) (y := (ansL s (ss.map (·.op))).map (·.2)) okA okA (SqL.of hp) (SqL.of ((fin _ (s18.trans s19)) _ _ hseS)) ?_
                rw [decide_eq_true rfl]
                repeat array_get_dec
                exact ⟨_, _, fin _ (s18.trans s19), rfl⟩
              · refine .inr (.inr (.inr (.inr (.inl ⟨co, dc, B, s, ss, o, rfl, cj, h0, h1, hno, fun H18 s18 => ?_⟩))))
                repeat array_get_dec
                have ed : ((if o.1 = true then "place" else "book" : Str)) = Str.ofString (if o.1 = true then "place" else "book") := by cases o.1 <;> rfl
                rw [decide_eq_true ed]
                refine LS.ifnt ?_
                repeat array_get_dec
                refine tail H18 s18 _ _ fun H19 p s19 hp => ?_
                repeat array_get_dec
                refine LS.rne_sl (x := (ansL s (ss.map (·.op))).map (·.2)) (y := (ansL s (ss.map (·.op))).map (·.2)) okA okA (SqL.of hp) (SqL.of ((fin _ (s18.trans s19)) _ _ hseS)) ?_
                rw [decide_eq_true rfl]
                repeat array_get_dec
                exact ⟨_, _, fin _ (s18.trans s19), rfl⟩
            · rintro σ H17 ⟨w14, w15, s17, rfl⟩
              have c17 := con_s c16 s17
              have em2 : ((m : Int) + 1).toNat = m + 1 := by omega
              repeat array_get_dec
              rw [em2]
              have R17 := (W.R.same s916).same s17
              have al17 : LS.ApL H17 b B.L := al_s s17 (al_s s916 W.alB W.R) (W.R.same s916)
              refine LS.comp (walk_range (lo := 0) (n := m + 1)) (fun D3 j acc H' => ∃ t, Con e.C_LiveShelf e.C_Shelf e.C_Console H' co dc B t (ss.take (m - j)) ∧ Pst n (ss.take (m - j)) t ∧ acc = (undoL m j).map V.str ∧ D3 ∉ B.L ∧ Reel H' b (i * 1000 + 3 + m * 2) ∧ LS.ApL H' b B.L ∧ LS.ApL H' b [D3]) (fun D3 H' nD s' hD => ⟨s, con_s (by rw [Nat.sub_zero, ← hls, List.take_length]; exact c17) s', by rw [Nat.sub_zero, ← hls, List.take_length]; exact P9, by unfold undoL; simp, fun q => c17.lv.trk _ q nD, R17.same s', al_s s' al17 R17, fun a ha => by
                rw [List.mem_singleton] at ha
                subst ha
                exact LS.ap_same s' R17 (R17.new nD)⟩) (fun _ _ _ _ _ _ _ _ => trivial) ?_ ?_
              · rintro D3 j acc x Hq Hj nD3 hj hlen hD3 ⟨t, cj, Pj, rfl, dB, Rj, alj, alD⟩ ⟨rfl, rfl⟩
                have memD : D3 ∈ [D3] := List.mem_singleton.mpr rfl
                refine ⟨rfl, ?_⟩
                have hcj := cj.ob
                by_cases hjm : j < m
                · obtain ⟨st, est⟩ : ∃ st, ss.take (m - j) = ss.take (m - (j + 1)) ++ [st] := by
                    have hi : m - (j + 1) < ss.length := by omega
                    refine ⟨ss[m - (j + 1)]'hi, ?_⟩
                    rw [show m - j = m - (j + 1) + 1 by omega, List.take_add_one, List.getElem?_eq_getElem hi]; rfl
                  have Pj2 := Pj
                  rw [est] at Pj2
                  obtain ⟨s0, o, P0, hu, rfl⟩ := Pst.last Pj2
                  have el : undoL m (j + 1) = undoL m j ++ [("none" : Str)] := by
                    unfold undoL
                    rw [show min (j + 1) m = j + 1 by omega, show min j m = j by omega, show j + 1 - m = 0 by omega, show j - m = 0 by omega, List.replicate_succ']
                    simp
                  repeat array_get_dec
                  refine .inr (.inr (.inr (.inr (.inr ⟨co, dc, B, s0, t, ss.take (m - (j + 1)), o, n, rfl, by rw [← est]; exact cj, P0.good, by omega, hu, fun H19 f19 c19 => ?_⟩))))
                  have hD19 := f19.k _ _ hD3 dB
                  have R19 := LS.rl_l f19 Rj alj
                  have al19 := al_l f19 alj alj Rj
                  have ad19 := al_l f19 alD alj Rj
                  refine LS.k_lc hD19 hlen (by omega) fun H5 f5 h5 => ⟨s0, ⟨f5 _ _ c19.ob (fun q => by have := c19.ob; rw [q, hD19] at this; cases this), lv_f f5 c19.lv hD19 dB⟩, P0, by rw [el, List.map_append]; rfl, dB, LS.rl_f f5 R19 (ad19 D3 memD), al_f f5 al19 (ad19 D3 memD) R19, al_f f5 ad19 (ad19 D3 memD) R19⟩
                · have e0 : m - j = 0 := by omega
                  have e1 : m - (j + 1) = 0 := by omega
                  have el : undoL m (j + 1) = undoL m j ++ [("undo" : Str)] := by
                    unfold undoL
                    rw [show min (j + 1) m = m by omega, show min j m = m by omega, show j + 1 - m = 1 by omega, show j - m = 0 by omega]
                    simp
                  rw [e0, List.take_zero] at cj Pj
                  repeat array_get_dec
                  refine .inr (.inr (.inr (.inl ⟨co, dc, B, t, rfl, cj, fun H19 s19 => ?_⟩)))
                  have hD19 := s19 _ _ hD3
                  have c19 := con_s cj s19
                  have R19 := Rj.same s19
                  have al19 := al_s s19 alj Rj
                  have ad19 := al_s s19 alD Rj
                  refine LS.k_lc hD19 hlen (by omega) fun H5 f5 h5 => ⟨t, by
                    rw [e1, List.take_zero]
                    exact ⟨f5 _ _ c19.ob (fun q => by have := c19.ob; rw [q, hD19] at this; cases this), lv_f f5 c19.lv hD19 dB⟩, by rw [e1, List.take_zero]; exact Pj, by rw [el, List.map_append]; rfl, dB, LS.rl_f f5 R19 (ad19 D3 memD), al_f f5 al19 (ad19 D3 memD) R19, al_f f5 ad19 (ad19 D3 memD) R19⟩
              · rintro D3 acc H18 nD3 hD3 hlen ⟨t, cj, Pj, rfl, dB, Rj, alj, alD⟩
                have el : undoL m (m + 1) = List.replicate m ("none" : Str) ++ [("undo" : Str)] := by
                  unfold undoL
                  rw [show min (m + 1) m = m by omega, show m + 1 - m = 1 by omega]
                  rfl
                rw [el] at hD3
                have okU : ∀ z ∈ List.replicate m ("none" : Str) ++ [("undo" : Str)], PyData.strOk z = true := fun z hz => by
                  rcases List.mem_append.mp hz with q | q
                  · rw [(List.mem_replicate.mp q).2]; decide +kernel
                  · rw [List.mem_singleton.mp q]; decide +kernel
                repeat array_get_dec
                refine LS.k_lst (by array_mem_dec) fun y1 H_y1 n_y1 s_y1 h_y1 => ?_
                repeat array_get_dec
                refine LS.rrep1 (n := m) h_y1 (by omega) fun y2 H5 ny2 sy2 hy2 => ?_
                repeat array_get_dec
                refine LS.k_lst (by array_mem_dec) fun y3 H_y3 n_y3 s_y3 h_y3 => ?_
                repeat array_get_dec
                refine LS.rcat (s_y3 _ _ hy2) h_y3 (LS.sz (by rw [List.length_replicate]; show m + 1 ≤ 100000; omega)) fun y5 H7 ny5 sy5 hy5 => ?_
                have s187 := s_y1.trans (sy2.trans (s_y3.trans sy5))
                refine LS.rne_sl (x := List.replicate m ("none" : Str) ++ [("undo" : Str)]) (y := List.replicate m ("none" : Str) ++ [("undo" : Str)]) okU okU (SqL.of (s187 _ _ hD3)) (SqL.of (by rw [hy5, List.map_append, List.map_replicate]; rfl)) ?_
                rw [decide_eq_true rfl]
                repeat array_get_dec
                exact ⟨_, _, _, _, _, _, _, _, _, _, _, _, _, _, _, LS.Reel.up (Rj.same s187) (by omega), rfl⟩
    · rintro σ H2 ⟨v2, v3, v4, v5, v6, v7, v8, v9, v10, v11, v12, v13, v14, v15, v16, R2, rfl⟩
      repeat array_get_dec
      refine LS.k_lst (by array_mem_dec) fun z1 H_z1 n_z1 s_z1 h_z1 => ?_
      repeat array_get_dec
      refine LS.k_tup (by array_mem_dec) fun z2 H_z2 n_z2 s_z2 h_z2 => ?_
      repeat array_get_dec
      refine LS.k_lst (by array_mem_dec) fun z3 H_z3 n_z3 s_z3 h_z3 => ?_
      repeat array_get_dec
      have hz1 := s_z3 _ _ (s_z2 _ _ h_z1)
      have hz2 := s_z3 _ _ h_z2
      refine LS.comp (walk_list (xs := [V.int 0, .int (-1), .int 201, .int (10 ^ Int.toNat 39), .non, .bl true, .str "3", .ref z1, .ref z2, .int 1, .int 200])) (fun D j acc H' => acc = (sizeL.take j).map V.str ∧ Same H_z3 H') (fun D H' nD s' hD => ⟨rfl, s'⟩) (fun D j acc H' _ nD hD h => SqL.of (h.2 _ _ h_z3)) ?_ ?_
      · rintro D j acc x H2' H3' nD hj hlen hD ⟨rfl, s2⟩ ⟨rfl, hx⟩
        refine ⟨rfl, ?_⟩
        repeat array_get_dec
        have lc : ∀ (lb : Str) (H4 : Hp), sizeL[j]? = some lb → Same H3' H4 → LS.kLc D (LS.lcP D (fun j acc H' => acc = (sizeL.take j).map V.str ∧ Same H_z3 H') (j + 1)) (V.str lb) H4 := fun lb H4 e s4 => by
          have hD4 := s4 _ _ hD
          refine LS.k_lc hD4 hlen (by have h11 : j < 11 := hj; omega) fun H5 f5 h5 => ⟨?_, LS.Same.fr_new (s2.trans s4) f5 nD⟩
          rw [List.take_add_one, e, List.map_append]; rfl
        have z1' := s2 _ _ hz1
        have z2' := s2 _ _ hz2
        have bad : ∀ (y : V), y = x → sizeL[j]? = some ("size" : Str) → NoSz K H3' y → sp__law_error K e.C_LiveShelf e.C_Shelf e.C_Console ([V.non, x] ++ []) H3' (LS.kLc D (LS.lcP D (fun j acc H' => acc = (sizeL.take j).map V.str ∧ Same H_z3 H') (j + 1))) E0 := fun y e1 e2 h => .inl ⟨x, rfl, e1 ▸ h, fun H4 s4 => lc _ H4 e2 s4⟩
        match j, hj, hx with
        | 0, _, hx => cases hx; exact bad _ rfl rfl (.inl ⟨0, rfl, by omega⟩)
        | 1, _, hx => cases hx; exact bad _ rfl rfl (.inl ⟨-1, rfl, by omega⟩)
        | 2, _, hx => cases hx; exact bad _ rfl rfl (.inl ⟨201, rfl, by omega⟩)
        | 3, _, hx => cases hx; exact bad _ rfl rfl (.inl ⟨_, rfl, by decide⟩)
        | 4, _, hx => cases hx; exact bad _ rfl rfl (.inr (.inr ⟨"NoneType", by decide +kernel, .base .non⟩))
        | 5, _, hx => cases hx; exact bad _ rfl rfl (.inr (.inl (.base (.bl true))))
        | 6, _, hx => cases hx; exact bad _ rfl rfl (.inr (.inr ⟨"str", by decide +kernel, .base (.str "3")⟩))
        | 7, _, hx => cases hx; exact bad _ rfl rfl (.inr (.inr ⟨"list", by decide +kernel, .base (.lst z1')⟩))
        | 8, _, hx => cases hx; exact bad _ rfl rfl (.inr (.inr ⟨"tuple", by decide +kernel, .base (.tup z2')⟩))
        | 9, _, hx => cases hx; exact .inr (.inl ⟨1, rfl, by decide, by decide, fun H4 s4 => lc _ H4 rfl s4⟩)
        | 10, _, hx => cases hx; exact .inr (.inl ⟨200, rfl, by decide, by decide, fun H4 s4 => lc _ H4 rfl s4⟩)
        | k + 11, _, hx => simp at hx
      · rintro D acc H3' nD hD hlen ⟨rfl, s2⟩
        have hD2 : H3' D = some (.lst (sizeL.map V.str)) := hD
        repeat array_get_dec
        refine LS.k_lst (by array_mem_dec) fun y1 H_y1 n_y1 s_y1 h_y1 => ?_
        repeat array_get_dec
        refine LS.rrep1 (n := 9) h_y1 (by decide) fun y2 H5 ny2 sy2 hy2 => ?_
        repeat array_get_dec
        refine LS.k_lst (by array_mem_dec) fun y3 H_y3 n_y3 s_y3 h_y3 => ?_
        repeat array_get_dec
        refine LS.rrep1 (n := 2) h_y3 (by decide) fun y4 H6 ny4 sy4 hy4 => ?_
        refine LS.rcat (sy4 _ _ (s_y3 _ _ hy2)) hy4 (LS.sz (by show 9 + 2 ≤ 100000; decide)) fun y5 H7 ny5 sy5 hy5 => ?_
        refine LS.req_sl (x := sizeL) (y := sizeL) (by decide +kernel) (by decide +kernel) (SqL.of (sy5 _ _ (sy4 _ _ (s_y3 _ _ (sy2 _ _ (s_y1 _ _ hD2)))))) (SqL.of hy5) ?_
        rw [decide_eq_true rfl]
        exact k _
end
end LP

namespace LP
open PySem L2 LT LG LQ LH LC LX
set_option maxHeartbeats 4000000 in
theorem all_mk {l : PySem.W.OpenLaw} {w : World} {K : PySem.W.Frag} {h : Heap} {mg : Str → Option Value} {fa : Addr} (X : K.In h) (G : h.Ns mainGlobals mg) (hfa : mg "law" = some (.ref fa))
    {t_MOST_SIZE : Tok}
    {C_InvalidSize : Addr}
    {C_InvalidPlaces : Addr}
    {C_InvalidPair : Addr}
    {C_InvalidPattern : Addr}
    {C_InvalidNumber : Addr}
    {C_InvalidFacts : Addr}
    {C_InvalidOffsets : Addr}
    {C_InvalidPlace : Addr}
    {C_InvalidBook : Addr}
    {C_NothingToUndo : Addr}
    {C_InvalidCommand : Addr}
    {C_InvalidSchedule : Addr}
    {C_Obstructed : Addr}
    {C_Contradiction : Addr}
    {C_TooMany : Addr}
    {C_InvalidText : Addr}
    {C_InvalidOrder : Addr}
    {C_InvalidWishes : Addr}
    {C_ShelfError : Addr}
    {C_Shelf : Addr}
    {C_LiveShelf : Addr}
    {C_Console : Addr}
    {a_is_whole : Addr} {od_is_whole an_is_whole : Option Addr} {sl_is_whole : Array (Option Value)} {oc_is_whole kV_is_whole dc_is_whole pm_is_whole cd_is_whole ct_is_whole : Value}
    {a_check_size : Addr} {od_check_size an_check_size : Option Addr} {sl_check_size : Array (Option Value)} {oc_check_size kV_check_size dc_check_size pm_check_size cd_check_size ct_check_size : Value}
    {a_Shelf_init : Addr} {od_Shelf_init an_Shelf_init : Option Addr} {sl_Shelf_init : Array (Option Value)} {oc_Shelf_init kV_Shelf_init dc_Shelf_init pm_Shelf_init cd_Shelf_init ct_Shelf_init : Value}
    {a_Shelf_can_take : Addr} {od_Shelf_can_take an_Shelf_can_take : Option Addr} {sl_Shelf_can_take : Array (Option Value)} {oc_Shelf_can_take kV_Shelf_can_take dc_Shelf_can_take pm_Shelf_can_take cd_Shelf_can_take ct_Shelf_can_take : Value}
    {a_Shelf_can_return : Addr} {od_Shelf_can_return an_Shelf_can_return : Option Addr} {sl_Shelf_can_return : Array (Option Value)} {oc_Shelf_can_return kV_Shelf_can_return dc_Shelf_can_return pm_Shelf_can_return cd_Shelf_can_return ct_Shelf_can_return : Value}
    {a_Shelf_first_gap : Addr} {od_Shelf_first_gap an_Shelf_first_gap : Option Addr} {sl_Shelf_first_gap : Array (Option Value)} {oc_Shelf_first_gap kV_Shelf_first_gap dc_Shelf_first_gap pm_Shelf_first_gap cd_Shelf_first_gap ct_Shelf_first_gap : Value}
    {a_Shelf_take_from : Addr} {od_Shelf_take_from an_Shelf_take_from : Option Addr} {sl_Shelf_take_from : Array (Option Value)} {oc_Shelf_take_from kV_Shelf_take_from dc_Shelf_take_from pm_Shelf_take_from cd_Shelf_take_from ct_Shelf_take_from : Value}
    {a_Shelf_put_back : Addr} {od_Shelf_put_back an_Shelf_put_back : Option Addr} {sl_Shelf_put_back : Array (Option Value)} {oc_Shelf_put_back kV_Shelf_put_back dc_Shelf_put_back pm_Shelf_put_back cd_Shelf_put_back ct_Shelf_put_back : Value}
    {a_Shelf_revert_take : Addr} {od_Shelf_revert_take an_Shelf_revert_take : Option Addr} {sl_Shelf_revert_take : Array (Option Value)} {oc_Shelf_revert_take kV_Shelf_revert_take dc_Shelf_revert_take pm_Shelf_revert_take cd_Shelf_revert_take ct_Shelf_revert_take : Value}
    {a_Shelf_revert_return : Addr} {od_Shelf_revert_return an_Shelf_revert_return : Option Addr} {sl_Shelf_revert_return : Array (Option Value)} {oc_Shelf_revert_return kV_Shelf_revert_return dc_Shelf_revert_return pm_Shelf_revert_return cd_Shelf_revert_return ct_Shelf_revert_return : Value}
    {a_LiveShelf_init : Addr} {od_LiveShelf_init an_LiveShelf_init : Option Addr} {sl_LiveShelf_init : Array (Option Value)} {oc_LiveShelf_init kV_LiveShelf_init dc_LiveShelf_init pm_LiveShelf_init cd_LiveShelf_init ct_LiveShelf_init : Value}
    {a_LiveShelf_take_book : Addr} {od_LiveShelf_take_book an_LiveShelf_take_book : Option Addr} {sl_LiveShelf_take_book : Array (Option Value)} {oc_LiveShelf_take_book kV_LiveShelf_take_book dc_LiveShelf_take_book pm_LiveShelf_take_book cd_LiveShelf_take_book ct_LiveShelf_take_book : Value}
    {a_LiveShelf_return_book : Addr} {od_LiveShelf_return_book an_LiveShelf_return_book : Option Addr} {sl_LiveShelf_return_book : Array (Option Value)} {oc_LiveShelf_return_book kV_LiveShelf_return_book dc_LiveShelf_return_book pm_LiveShelf_return_book cd_LiveShelf_return_book ct_LiveShelf_return_book : Value}
    {a_LiveShelf_undo : Addr} {od_LiveShelf_undo an_LiveShelf_undo : Option Addr} {sl_LiveShelf_undo : Array (Option Value)} {oc_LiveShelf_undo kV_LiveShelf_undo dc_LiveShelf_undo pm_LiveShelf_undo cd_LiveShelf_undo ct_LiveShelf_undo : Value}
    {a_LiveShelf_current_books : Addr} {od_LiveShelf_current_books an_LiveShelf_current_books : Option Addr} {sl_LiveShelf_current_books : Array (Option Value)} {oc_LiveShelf_current_books kV_LiveShelf_current_books dc_LiveShelf_current_books pm_LiveShelf_current_books cd_LiveShelf_current_books ct_LiveShelf_current_books : Value}
    {a_LiveShelf_current_gaps : Addr} {od_LiveShelf_current_gaps an_LiveShelf_current_gaps : Option Addr} {sl_LiveShelf_current_gaps : Array (Option Value)} {oc_LiveShelf_current_gaps kV_LiveShelf_current_gaps dc_LiveShelf_current_gaps pm_LiveShelf_current_gaps cd_LiveShelf_current_gaps ct_LiveShelf_current_gaps : Value}
    {a_LiveShelf_current_out : Addr} {od_LiveShelf_current_out an_LiveShelf_current_out : Option Addr} {sl_LiveShelf_current_out : Array (Option Value)} {oc_LiveShelf_current_out kV_LiveShelf_current_out dc_LiveShelf_current_out pm_LiveShelf_current_out cd_LiveShelf_current_out ct_LiveShelf_current_out : Value}
    {a_LiveShelf_current_schedule : Addr} {od_LiveShelf_current_schedule an_LiveShelf_current_schedule : Option Addr} {sl_LiveShelf_current_schedule : Array (Option Value)} {oc_LiveShelf_current_schedule kV_LiveShelf_current_schedule dc_LiveShelf_current_schedule pm_LiveShelf_current_schedule cd_LiveShelf_current_schedule ct_LiveShelf_current_schedule : Value}
    {a_numbers_text : Addr} {od_numbers_text an_numbers_text : Option Addr} {sl_numbers_text : Array (Option Value)} {oc_numbers_text kV_numbers_text dc_numbers_text pm_numbers_text cd_numbers_text ct_numbers_text : Value}
    {a_operations_text : Addr} {od_operations_text an_operations_text : Option Addr} {sl_operations_text : Array (Option Value)} {oc_operations_text kV_operations_text dc_operations_text pm_operations_text cd_operations_text ct_operations_text : Value}
    {a_read_number : Addr} {od_read_number an_read_number : Option Addr} {sl_read_number : Array (Option Value)} {oc_read_number kV_read_number dc_read_number pm_read_number cd_read_number ct_read_number : Value}
    {a_text_or_none : Addr} {od_text_or_none an_text_or_none : Option Addr} {sl_text_or_none : Array (Option Value)} {oc_text_or_none kV_text_or_none dc_text_or_none pm_text_or_none cd_text_or_none ct_text_or_none : Value}
    {a_undo_last : Addr} {od_undo_last an_undo_last : Option Addr} {sl_undo_last : Array (Option Value)} {oc_undo_last kV_undo_last dc_undo_last pm_undo_last cd_undo_last ct_undo_last : Value}
    {a_show_books : Addr} {od_show_books an_show_books : Option Addr} {sl_show_books : Array (Option Value)} {oc_show_books kV_show_books dc_show_books pm_show_books cd_show_books ct_show_books : Value}
    {a_show_gaps : Addr} {od_show_gaps an_show_gaps : Option Addr} {sl_show_gaps : Array (Option Value)} {oc_show_gaps kV_show_gaps dc_show_gaps pm_show_gaps cd_show_gaps ct_show_gaps : Value}
    {a_show_out : Addr} {od_show_out an_show_out : Option Addr} {sl_show_out : Array (Option Value)} {oc_show_out kV_show_out dc_show_out pm_show_out cd_show_out ct_show_out : Value}
    {a_show_schedule : Addr} {od_show_schedule an_show_schedule : Option Addr} {sl_show_schedule : Array (Option Value)} {oc_show_schedule kV_show_schedule dc_show_schedule pm_show_schedule cd_show_schedule ct_show_schedule : Value}
    {a_show_size : Addr} {od_show_size an_show_size : Option Addr} {sl_show_size : Array (Option Value)} {oc_show_size kV_show_size dc_show_size pm_show_size cd_show_size ct_show_size : Value}
    {a_read_line : Addr} {od_read_line an_read_line : Option Addr} {sl_read_line : Array (Option Value)} {oc_read_line kV_read_line dc_read_line pm_read_line cd_read_line ct_read_line : Value}
    {a_Console_init : Addr} {od_Console_init an_Console_init : Option Addr} {sl_Console_init : Array (Option Value)} {oc_Console_init kV_Console_init dc_Console_init pm_Console_init cd_Console_init ct_Console_init : Value}
    {a_Console_execute : Addr} {od_Console_execute an_Console_execute : Option Addr} {sl_Console_execute : Array (Option Value)} {oc_Console_execute kV_Console_execute dc_Console_execute pm_Console_execute cd_Console_execute ct_Console_execute : Value}
    {a__law_reel : Addr} {od__law_reel an__law_reel : Option Addr} {sl__law_reel : Array (Option Value)} {oc__law_reel kV__law_reel dc__law_reel pm__law_reel cd__law_reel ct__law_reel : Value}
    {a__law_draw : Addr} {od__law_draw an__law_draw : Option Addr} {sl__law_draw : Array (Option Value)} {oc__law_draw kV__law_draw dc__law_draw pm__law_draw cd__law_draw ct__law_draw : Value}
    {a__law_moved : Addr} {od__law_moved an__law_moved : Option Addr} {sl__law_moved : Array (Option Value)} {oc__law_moved kV__law_moved dc__law_moved pm__law_moved cd__law_moved ct__law_moved : Value}
    {a__law_next : Addr} {od__law_next an__law_next : Option Addr} {sl__law_next : Array (Option Value)} {oc__law_next kV__law_next dc__law_next pm__law_next cd__law_next ct__law_next : Value}
    {a__law_kind_of : Addr} {od__law_kind_of an__law_kind_of : Option Addr} {sl__law_kind_of : Array (Option Value)} {oc__law_kind_of kV__law_kind_of dc__law_kind_of pm__law_kind_of cd__law_kind_of ct__law_kind_of : Value}
    {a__law_error : Addr} {od__law_error an__law_error : Option Addr} {sl__law_error : Array (Option Value)} {oc__law_error kV__law_error dc__law_error pm__law_error cd__law_error ct__law_error : Value}
    {a__law_seen : Addr} {od__law_seen an__law_seen : Option Addr} {sl__law_seen : Array (Option Value)} {oc__law_seen kV__law_seen dc__law_seen pm__law_seen cd__law_seen ct__law_seen : Value}
    {a__law_no_lines : Addr} {od__law_no_lines an__law_no_lines : Option Addr} {sl__law_no_lines : Array (Option Value)} {oc__law_no_lines kV__law_no_lines dc__law_no_lines pm__law_no_lines cd__law_no_lines ct__law_no_lines : Value}
    {a_law : Addr} {od_law an_law : Option Addr} {sl_law : Array (Option Value)} {oc_law kV_law dc_law pm_law cd_law ct_law : Value}
    {x_ANSWERS : Addr}
    (z_len : PySem.W.nsIn K mainGlobals "len" = some none)
    (z_range : PySem.W.nsIn K mainGlobals "range" = some none)
    (z_list : PySem.W.nsIn K mainGlobals "list" = some none)
    (z_int : PySem.W.nsIn K mainGlobals "int" = some none)
    (z_bool : PySem.W.nsIn K mainGlobals "bool" = some none)
    (z_isinstance : PySem.W.nsIn K mainGlobals "isinstance" = some none)
    (z_min : PySem.W.nsIn K mainGlobals "min" = some none)
    (z_enumerate : PySem.W.nsIn K mainGlobals "enumerate" = some none)
    (z_str : PySem.W.nsIn K mainGlobals "str" = some none)
    (z_ValueError : PySem.W.nsIn K mainGlobals "ValueError" = some none)
    (z_MOST_SIZE : PySem.W.nsIn K mainGlobals "MOST_SIZE" = some (some (.int 200 t_MOST_SIZE)))
    (z_InvalidSize : PySem.W.nsIn K mainGlobals "InvalidSize" = some (some (.ref C_InvalidSize)))
    (ex_InvalidSize : PySem.W.excIn K C_InvalidSize [.type "ValueError", .type "Exception", .type "BaseException", .type "object"] "ValueError.__new__" = true)
    (ek_InvalidSize : PySem.W.keepIn K (.ref C_InvalidSize) = true)
    (eb_InvalidSize : PySem.W.subIn K (.ref C_InvalidSize) (.type "BaseException") = some true)
    (et_InvalidSize : PySem.W.typeIn K (.ref C_InvalidSize) = some (.type "type"))
    (z_InvalidPlaces : PySem.W.nsIn K mainGlobals "InvalidPlaces" = some (some (.ref C_InvalidPlaces)))
    (z_InvalidPair : PySem.W.nsIn K mainGlobals "InvalidPair" = some (some (.ref C_InvalidPair)))
    (z_InvalidPattern : PySem.W.nsIn K mainGlobals "InvalidPattern" = some (some (.ref C_InvalidPattern)))
    (z_InvalidNumber : PySem.W.nsIn K mainGlobals "InvalidNumber" = some (some (.ref C_InvalidNumber)))
    (z_InvalidFacts : PySem.W.nsIn K mainGlobals "InvalidFacts" = some (some (.ref C_InvalidFacts)))
    (z_InvalidOffsets : PySem.W.nsIn K mainGlobals "InvalidOffsets" = some (some (.ref C_InvalidOffsets)))
    (z_InvalidPlace : PySem.W.nsIn K mainGlobals "InvalidPlace" = some (some (.ref C_InvalidPlace)))
    (ex_InvalidPlace : PySem.W.excIn K C_InvalidPlace [.type "ValueError", .type "Exception", .type "BaseException", .type "object"] "ValueError.__new__" = true)
    (ek_InvalidPlace : PySem.W.keepIn K (.ref C_InvalidPlace) = true)
    (eb_InvalidPlace : PySem.W.subIn K (.ref C_InvalidPlace) (.type "BaseException") = some true)
    (et_InvalidPlace : PySem.W.typeIn K (.ref C_InvalidPlace) = some (.type "type"))
    (z_InvalidBook : PySem.W.nsIn K mainGlobals "InvalidBook" = some (some (.ref C_InvalidBook)))
    (ex_InvalidBook : PySem.W.excIn K C_InvalidBook [.type "ValueError", .type "Exception", .type "BaseException", .type "object"] "ValueError.__new__" = true)
    (ek_InvalidBook : PySem.W.keepIn K (.ref C_InvalidBook) = true)
    (eb_InvalidBook : PySem.W.subIn K (.ref C_InvalidBook) (.type "BaseException") = some true)
    (et_InvalidBook : PySem.W.typeIn K (.ref C_InvalidBook) = some (.type "type"))
    (z_NothingToUndo : PySem.W.nsIn K mainGlobals "NothingToUndo" = some (some (.ref C_NothingToUndo)))
    (ex_NothingToUndo : PySem.W.excIn K C_NothingToUndo [.type "ValueError", .type "Exception", .type "BaseException", .type "object"] "ValueError.__new__" = true)
    (ek_NothingToUndo : PySem.W.keepIn K (.ref C_NothingToUndo) = true)
    (eb_NothingToUndo : PySem.W.subIn K (.ref C_NothingToUndo) (.type "BaseException") = some true)
    (et_NothingToUndo : PySem.W.typeIn K (.ref C_NothingToUndo) = some (.type "type"))
    (z_InvalidCommand : PySem.W.nsIn K mainGlobals "InvalidCommand" = some (some (.ref C_InvalidCommand)))
    (ex_InvalidCommand : PySem.W.excIn K C_InvalidCommand [.type "ValueError", .type "Exception", .type "BaseException", .type "object"] "ValueError.__new__" = true)
    (ek_InvalidCommand : PySem.W.keepIn K (.ref C_InvalidCommand) = true)
    (eb_InvalidCommand : PySem.W.subIn K (.ref C_InvalidCommand) (.type "BaseException") = some true)
    (et_InvalidCommand : PySem.W.typeIn K (.ref C_InvalidCommand) = some (.type "type"))
    (z_InvalidSchedule : PySem.W.nsIn K mainGlobals "InvalidSchedule" = some (some (.ref C_InvalidSchedule)))
    (z_Obstructed : PySem.W.nsIn K mainGlobals "Obstructed" = some (some (.ref C_Obstructed)))
    (z_Contradiction : PySem.W.nsIn K mainGlobals "Contradiction" = some (some (.ref C_Contradiction)))
    (z_TooMany : PySem.W.nsIn K mainGlobals "TooMany" = some (some (.ref C_TooMany)))
    (z_InvalidText : PySem.W.nsIn K mainGlobals "InvalidText" = some (some (.ref C_InvalidText)))
    (z_InvalidOrder : PySem.W.nsIn K mainGlobals "InvalidOrder" = some (some (.ref C_InvalidOrder)))
    (z_InvalidWishes : PySem.W.nsIn K mainGlobals "InvalidWishes" = some (some (.ref C_InvalidWishes)))
    (z_ShelfError : PySem.W.nsIn K mainGlobals "ShelfError" = some (some (.ref C_ShelfError)))
    (xka_InvalidSize : PySem.W.findIn K (.ref C_InvalidSize) "__getattribute__" = some (some (.builtin "BaseException.__getattribute__")))
    (xkb_InvalidSize : PySem.W.findIn K (.ref C_InvalidSize) "__getattr__" = some none)
    (xkc_InvalidSize : PySem.W.subIn K (.ref C_InvalidSize) (.type "BaseException") = some true)
    (xkd_InvalidSize : PySem.W.hasDictIn K C_InvalidSize = true)
    (xke_InvalidSize : PySem.W.findIn K (.ref C_InvalidSize) "__class__" = some (some (.builtin "object.__class__")))
    (xkf_InvalidSize : PySem.W.specialIn K (.builtin "object.__class__") "__get__" = some (some (.builtin "getset_descriptor.__get__")))
    (xkg_InvalidSize : PySem.W.takesIn K (.builtin "object.__class__") = some true)
    (xkh_InvalidSize : PySem.W.mroIn K C_InvalidSize (.type "object") = some true)
    (ki_InvalidSize_InvalidSize : PySem.W.kitOne K (.ref C_InvalidSize) (.ref C_InvalidSize) = some true)
    (ki_InvalidSize_InvalidPlaces : PySem.W.kitOne K (.ref C_InvalidSize) (.ref C_InvalidPlaces) = some false)
    (ki_InvalidSize_InvalidPair : PySem.W.kitOne K (.ref C_InvalidSize) (.ref C_InvalidPair) = some false)
    (ki_InvalidSize_InvalidPattern : PySem.W.kitOne K (.ref C_InvalidSize) (.ref C_InvalidPattern) = some false)
    (ki_InvalidSize_InvalidNumber : PySem.W.kitOne K (.ref C_InvalidSize) (.ref C_InvalidNumber) = some false)
    (ki_InvalidSize_InvalidFacts : PySem.W.kitOne K (.ref C_InvalidSize) (.ref C_InvalidFacts) = some false)
    (ki_InvalidSize_InvalidOffsets : PySem.W.kitOne K (.ref C_InvalidSize) (.ref C_InvalidOffsets) = some false)
    (ki_InvalidSize_InvalidPlace : PySem.W.kitOne K (.ref C_InvalidSize) (.ref C_InvalidPlace) = some false)
    (ki_InvalidSize_InvalidBook : PySem.W.kitOne K (.ref C_InvalidSize) (.ref C_InvalidBook) = some false)
    (ki_InvalidSize_NothingToUndo : PySem.W.kitOne K (.ref C_InvalidSize) (.ref C_NothingToUndo) = some false)
    (ki_InvalidSize_InvalidCommand : PySem.W.kitOne K (.ref C_InvalidSize) (.ref C_InvalidCommand) = some false)
    (ki_InvalidSize_InvalidSchedule : PySem.W.kitOne K (.ref C_InvalidSize) (.ref C_InvalidSchedule) = some false)
    (ki_InvalidSize_Obstructed : PySem.W.kitOne K (.ref C_InvalidSize) (.ref C_Obstructed) = some false)
    (ki_InvalidSize_Contradiction : PySem.W.kitOne K (.ref C_InvalidSize) (.ref C_Contradiction) = some false)
    (ki_InvalidSize_TooMany : PySem.W.kitOne K (.ref C_InvalidSize) (.ref C_TooMany) = some false)
    (ki_InvalidSize_InvalidText : PySem.W.kitOne K (.ref C_InvalidSize) (.ref C_InvalidText) = some false)
    (ki_InvalidSize_InvalidOrder : PySem.W.kitOne K (.ref C_InvalidSize) (.ref C_InvalidOrder) = some false)
    (ki_InvalidSize_InvalidWishes : PySem.W.kitOne K (.ref C_InvalidSize) (.ref C_InvalidWishes) = some false)
    (ki_InvalidSize_ValueError : PySem.W.kitOne K (.ref C_InvalidSize) (.type "ValueError") = some true)
    (xka_InvalidPlace : PySem.W.findIn K (.ref C_InvalidPlace) "__getattribute__" = some (some (.builtin "BaseException.__getattribute__")))
    (xkb_InvalidPlace : PySem.W.findIn K (.ref C_InvalidPlace) "__getattr__" = some none)
    (xkc_InvalidPlace : PySem.W.subIn K (.ref C_InvalidPlace) (.type "BaseException") = some true)
    (xkd_InvalidPlace : PySem.W.hasDictIn K C_InvalidPlace = true)
    (xke_InvalidPlace : PySem.W.findIn K (.ref C_InvalidPlace) "__class__" = some (some (.builtin "object.__class__")))
    (xkf_InvalidPlace : PySem.W.specialIn K (.builtin "object.__class__") "__get__" = some (some (.builtin "getset_descriptor.__get__")))
    (xkg_InvalidPlace : PySem.W.takesIn K (.builtin "object.__class__") = some true)
    (xkh_InvalidPlace : PySem.W.mroIn K C_InvalidPlace (.type "object") = some true)
    (ki_InvalidPlace_InvalidSize : PySem.W.kitOne K (.ref C_InvalidPlace) (.ref C_InvalidSize) = some false)
    (ki_InvalidPlace_InvalidPlaces : PySem.W.kitOne K (.ref C_InvalidPlace) (.ref C_InvalidPlaces) = some false)
    (ki_InvalidPlace_InvalidPair : PySem.W.kitOne K (.ref C_InvalidPlace) (.ref C_InvalidPair) = some false)
    (ki_InvalidPlace_InvalidPattern : PySem.W.kitOne K (.ref C_InvalidPlace) (.ref C_InvalidPattern) = some false)
    (ki_InvalidPlace_InvalidNumber : PySem.W.kitOne K (.ref C_InvalidPlace) (.ref C_InvalidNumber) = some false)
    (ki_InvalidPlace_InvalidFacts : PySem.W.kitOne K (.ref C_InvalidPlace) (.ref C_InvalidFacts) = some false)
    (ki_InvalidPlace_InvalidOffsets : PySem.W.kitOne K (.ref C_InvalidPlace) (.ref C_InvalidOffsets) = some false)
    (ki_InvalidPlace_InvalidPlace : PySem.W.kitOne K (.ref C_InvalidPlace) (.ref C_InvalidPlace) = some true)
    (ki_InvalidPlace_InvalidBook : PySem.W.kitOne K (.ref C_InvalidPlace) (.ref C_InvalidBook) = some false)
    (ki_InvalidPlace_NothingToUndo : PySem.W.kitOne K (.ref C_InvalidPlace) (.ref C_NothingToUndo) = some false)
    (ki_InvalidPlace_InvalidCommand : PySem.W.kitOne K (.ref C_InvalidPlace) (.ref C_InvalidCommand) = some false)
    (ki_InvalidPlace_InvalidSchedule : PySem.W.kitOne K (.ref C_InvalidPlace) (.ref C_InvalidSchedule) = some false)
    (ki_InvalidPlace_Obstructed : PySem.W.kitOne K (.ref C_InvalidPlace) (.ref C_Obstructed) = some false)
    (ki_InvalidPlace_Contradiction : PySem.W.kitOne K (.ref C_InvalidPlace) (.ref C_Contradiction) = some false)
    (ki_InvalidPlace_TooMany : PySem.W.kitOne K (.ref C_InvalidPlace) (.ref C_TooMany) = some false)
    (ki_InvalidPlace_InvalidText : PySem.W.kitOne K (.ref C_InvalidPlace) (.ref C_InvalidText) = some false)
    (ki_InvalidPlace_InvalidOrder : PySem.W.kitOne K (.ref C_InvalidPlace) (.ref C_InvalidOrder) = some false)
    (ki_InvalidPlace_InvalidWishes : PySem.W.kitOne K (.ref C_InvalidPlace) (.ref C_InvalidWishes) = some false)
    (ki_InvalidPlace_ValueError : PySem.W.kitOne K (.ref C_InvalidPlace) (.type "ValueError") = some true)
    (xka_InvalidBook : PySem.W.findIn K (.ref C_InvalidBook) "__getattribute__" = some (some (.builtin "BaseException.__getattribute__")))
    (xkb_InvalidBook : PySem.W.findIn K (.ref C_InvalidBook) "__getattr__" = some none)
    (xkc_InvalidBook : PySem.W.subIn K (.ref C_InvalidBook) (.type "BaseException") = some true)
    (xkd_InvalidBook : PySem.W.hasDictIn K C_InvalidBook = true)
    (xke_InvalidBook : PySem.W.findIn K (.ref C_InvalidBook) "__class__" = some (some (.builtin "object.__class__")))
    (xkf_InvalidBook : PySem.W.specialIn K (.builtin "object.__class__") "__get__" = some (some (.builtin "getset_descriptor.__get__")))
    (xkg_InvalidBook : PySem.W.takesIn K (.builtin "object.__class__") = some true)
    (xkh_InvalidBook : PySem.W.mroIn K C_InvalidBook (.type "object") = some true)
    (ki_InvalidBook_InvalidSize : PySem.W.kitOne K (.ref C_InvalidBook) (.ref C_InvalidSize) = some false)
    (ki_InvalidBook_InvalidPlaces : PySem.W.kitOne K (.ref C_InvalidBook) (.ref C_InvalidPlaces) = some false)
    (ki_InvalidBook_InvalidPair : PySem.W.kitOne K (.ref C_InvalidBook) (.ref C_InvalidPair) = some false)
    (ki_InvalidBook_InvalidPattern : PySem.W.kitOne K (.ref C_InvalidBook) (.ref C_InvalidPattern) = some false)
    (ki_InvalidBook_InvalidNumber : PySem.W.kitOne K (.ref C_InvalidBook) (.ref C_InvalidNumber) = some false)
    (ki_InvalidBook_InvalidFacts : PySem.W.kitOne K (.ref C_InvalidBook) (.ref C_InvalidFacts) = some false)
    (ki_InvalidBook_InvalidOffsets : PySem.W.kitOne K (.ref C_InvalidBook) (.ref C_InvalidOffsets) = some false)
    (ki_InvalidBook_InvalidPlace : PySem.W.kitOne K (.ref C_InvalidBook) (.ref C_InvalidPlace) = some false)
    (ki_InvalidBook_InvalidBook : PySem.W.kitOne K (.ref C_InvalidBook) (.ref C_InvalidBook) = some true)
    (ki_InvalidBook_NothingToUndo : PySem.W.kitOne K (.ref C_InvalidBook) (.ref C_NothingToUndo) = some false)
    (ki_InvalidBook_InvalidCommand : PySem.W.kitOne K (.ref C_InvalidBook) (.ref C_InvalidCommand) = some false)
    (ki_InvalidBook_InvalidSchedule : PySem.W.kitOne K (.ref C_InvalidBook) (.ref C_InvalidSchedule) = some false)
    (ki_InvalidBook_Obstructed : PySem.W.kitOne K (.ref C_InvalidBook) (.ref C_Obstructed) = some false)
    (ki_InvalidBook_Contradiction : PySem.W.kitOne K (.ref C_InvalidBook) (.ref C_Contradiction) = some false)
    (ki_InvalidBook_TooMany : PySem.W.kitOne K (.ref C_InvalidBook) (.ref C_TooMany) = some false)
    (ki_InvalidBook_InvalidText : PySem.W.kitOne K (.ref C_InvalidBook) (.ref C_InvalidText) = some false)
    (ki_InvalidBook_InvalidOrder : PySem.W.kitOne K (.ref C_InvalidBook) (.ref C_InvalidOrder) = some false)
    (ki_InvalidBook_InvalidWishes : PySem.W.kitOne K (.ref C_InvalidBook) (.ref C_InvalidWishes) = some false)
    (ki_InvalidBook_ValueError : PySem.W.kitOne K (.ref C_InvalidBook) (.type "ValueError") = some true)
    (xka_NothingToUndo : PySem.W.findIn K (.ref C_NothingToUndo) "__getattribute__" = some (some (.builtin "BaseException.__getattribute__")))
    (xkb_NothingToUndo : PySem.W.findIn K (.ref C_NothingToUndo) "__getattr__" = some none)
    (xkc_NothingToUndo : PySem.W.subIn K (.ref C_NothingToUndo) (.type "BaseException") = some true)
    (xkd_NothingToUndo : PySem.W.hasDictIn K C_NothingToUndo = true)
    (xke_NothingToUndo : PySem.W.findIn K (.ref C_NothingToUndo) "__class__" = some (some (.builtin "object.__class__")))
    (xkf_NothingToUndo : PySem.W.specialIn K (.builtin "object.__class__") "__get__" = some (some (.builtin "getset_descriptor.__get__")))
    (xkg_NothingToUndo : PySem.W.takesIn K (.builtin "object.__class__") = some true)
    (xkh_NothingToUndo : PySem.W.mroIn K C_NothingToUndo (.type "object") = some true)
    (ki_NothingToUndo_InvalidSize : PySem.W.kitOne K (.ref C_NothingToUndo) (.ref C_InvalidSize) = some false)
    (ki_NothingToUndo_InvalidPlaces : PySem.W.kitOne K (.ref C_NothingToUndo) (.ref C_InvalidPlaces) = some false)
    (ki_NothingToUndo_InvalidPair : PySem.W.kitOne K (.ref C_NothingToUndo) (.ref C_InvalidPair) = some false)
    (ki_NothingToUndo_InvalidPattern : PySem.W.kitOne K (.ref C_NothingToUndo) (.ref C_InvalidPattern) = some false)
    (ki_NothingToUndo_InvalidNumber : PySem.W.kitOne K (.ref C_NothingToUndo) (.ref C_InvalidNumber) = some false)
    (ki_NothingToUndo_InvalidFacts : PySem.W.kitOne K (.ref C_NothingToUndo) (.ref C_InvalidFacts) = some false)
    (ki_NothingToUndo_InvalidOffsets : PySem.W.kitOne K (.ref C_NothingToUndo) (.ref C_InvalidOffsets) = some false)
    (ki_NothingToUndo_InvalidPlace : PySem.W.kitOne K (.ref C_NothingToUndo) (.ref C_InvalidPlace) = some false)
    (ki_NothingToUndo_InvalidBook : PySem.W.kitOne K (.ref C_NothingToUndo) (.ref C_InvalidBook) = some false)
    (ki_NothingToUndo_NothingToUndo : PySem.W.kitOne K (.ref C_NothingToUndo) (.ref C_NothingToUndo) = some true)
    (ki_NothingToUndo_InvalidCommand : PySem.W.kitOne K (.ref C_NothingToUndo) (.ref C_InvalidCommand) = some false)
    (ki_NothingToUndo_InvalidSchedule : PySem.W.kitOne K (.ref C_NothingToUndo) (.ref C_InvalidSchedule) = some false)
    (ki_NothingToUndo_Obstructed : PySem.W.kitOne K (.ref C_NothingToUndo) (.ref C_Obstructed) = some false)
    (ki_NothingToUndo_Contradiction : PySem.W.kitOne K (.ref C_NothingToUndo) (.ref C_Contradiction) = some false)
    (ki_NothingToUndo_TooMany : PySem.W.kitOne K (.ref C_NothingToUndo) (.ref C_TooMany) = some false)
    (ki_NothingToUndo_InvalidText : PySem.W.kitOne K (.ref C_NothingToUndo) (.ref C_InvalidText) = some false)
    (ki_NothingToUndo_InvalidOrder : PySem.W.kitOne K (.ref C_NothingToUndo) (.ref C_InvalidOrder) = some false)
    (ki_NothingToUndo_InvalidWishes : PySem.W.kitOne K (.ref C_NothingToUndo) (.ref C_InvalidWishes) = some false)
    (ki_NothingToUndo_ValueError : PySem.W.kitOne K (.ref C_NothingToUndo) (.type "ValueError") = some true)
    (xka_InvalidCommand : PySem.W.findIn K (.ref C_InvalidCommand) "__getattribute__" = some (some (.builtin "BaseException.__getattribute__")))
    (xkb_InvalidCommand : PySem.W.findIn K (.ref C_InvalidCommand) "__getattr__" = some none)
    (xkc_InvalidCommand : PySem.W.subIn K (.ref C_InvalidCommand) (.type "BaseException") = some true)
    (xkd_InvalidCommand : PySem.W.hasDictIn K C_InvalidCommand = true)
    (xke_InvalidCommand : PySem.W.findIn K (.ref C_InvalidCommand) "__class__" = some (some (.builtin "object.__class__")))
    (xkf_InvalidCommand : PySem.W.specialIn K (.builtin "object.__class__") "__get__" = some (some (.builtin "getset_descriptor.__get__")))
    (xkg_InvalidCommand : PySem.W.takesIn K (.builtin "object.__class__") = some true)
    (xkh_InvalidCommand : PySem.W.mroIn K C_InvalidCommand (.type "object") = some true)
    (ki_InvalidCommand_InvalidSize : PySem.W.kitOne K (.ref C_InvalidCommand) (.ref C_InvalidSize) = some false)
    (ki_InvalidCommand_InvalidPlaces : PySem.W.kitOne K (.ref C_InvalidCommand) (.ref C_InvalidPlaces) = some false)
    (ki_InvalidCommand_InvalidPair : PySem.W.kitOne K (.ref C_InvalidCommand) (.ref C_InvalidPair) = some false)
    (ki_InvalidCommand_InvalidPattern : PySem.W.kitOne K (.ref C_InvalidCommand) (.ref C_InvalidPattern) = some false)
    (ki_InvalidCommand_InvalidNumber : PySem.W.kitOne K (.ref C_InvalidCommand) (.ref C_InvalidNumber) = some false)
    (ki_InvalidCommand_InvalidFacts : PySem.W.kitOne K (.ref C_InvalidCommand) (.ref C_InvalidFacts) = some false)
    (ki_InvalidCommand_InvalidOffsets : PySem.W.kitOne K (.ref C_InvalidCommand) (.ref C_InvalidOffsets) = some false)
    (ki_InvalidCommand_InvalidPlace : PySem.W.kitOne K (.ref C_InvalidCommand) (.ref C_InvalidPlace) = some false)
    (ki_InvalidCommand_InvalidBook : PySem.W.kitOne K (.ref C_InvalidCommand) (.ref C_InvalidBook) = some false)
    (ki_InvalidCommand_NothingToUndo : PySem.W.kitOne K (.ref C_InvalidCommand) (.ref C_NothingToUndo) = some false)
    (ki_InvalidCommand_InvalidCommand : PySem.W.kitOne K (.ref C_InvalidCommand) (.ref C_InvalidCommand) = some true)
    (ki_InvalidCommand_InvalidSchedule : PySem.W.kitOne K (.ref C_InvalidCommand) (.ref C_InvalidSchedule) = some false)
    (ki_InvalidCommand_Obstructed : PySem.W.kitOne K (.ref C_InvalidCommand) (.ref C_Obstructed) = some false)
    (ki_InvalidCommand_Contradiction : PySem.W.kitOne K (.ref C_InvalidCommand) (.ref C_Contradiction) = some false)
    (ki_InvalidCommand_TooMany : PySem.W.kitOne K (.ref C_InvalidCommand) (.ref C_TooMany) = some false)
    (ki_InvalidCommand_InvalidText : PySem.W.kitOne K (.ref C_InvalidCommand) (.ref C_InvalidText) = some false)
    (ki_InvalidCommand_InvalidOrder : PySem.W.kitOne K (.ref C_InvalidCommand) (.ref C_InvalidOrder) = some false)
    (ki_InvalidCommand_InvalidWishes : PySem.W.kitOne K (.ref C_InvalidCommand) (.ref C_InvalidWishes) = some false)
    (ki_InvalidCommand_ValueError : PySem.W.kitOne K (.ref C_InvalidCommand) (.type "ValueError") = some true)
    (xb_ShelfError : PySem.W.subIn K (.ref C_ShelfError) (.type "BaseException") = some true)
    (xc_ShelfError : PySem.W.isClsIn K C_ShelfError = true)
    (xt_ShelfError : PySem.W.typeIn K (.ref C_ShelfError) = some (.type "type"))
    (xm_InvalidSize_ShelfError : PySem.W.subIn K (.ref C_InvalidSize) (.ref C_ShelfError) = some true)
    (xm_InvalidPlace_ShelfError : PySem.W.subIn K (.ref C_InvalidPlace) (.ref C_ShelfError) = some true)
    (xm_InvalidBook_ShelfError : PySem.W.subIn K (.ref C_InvalidBook) (.ref C_ShelfError) = some true)
    (xm_NothingToUndo_ShelfError : PySem.W.subIn K (.ref C_NothingToUndo) (.ref C_ShelfError) = some true)
    (xm_InvalidCommand_ShelfError : PySem.W.subIn K (.ref C_InvalidCommand) (.ref C_ShelfError) = some true)
    (z_Shelf : PySem.W.nsIn K mainGlobals "Shelf" = some (some (.ref C_Shelf)))
    (pg_Shelf : PySem.W.plainGet K C_Shelf Str.empty = true)
    (hd_Shelf : PySem.W.hasDictIn K C_Shelf = true)
    (po_Shelf : PySem.W.plainOver K C_Shelf = true)
    (sa_Shelf : PySem.W.findIn K (.ref C_Shelf) "__setattr__" = some (some (.builtin "object.__setattr__")))
    (mk_Shelf : PySem.W.makesIn K C_Shelf = true)
    (kc_Shelf : PySem.W.keepIn K (.ref C_Shelf) = true)
    (nA_Shelf_books : PySem.W.findIn K (.ref C_Shelf) "books" = some none)
    (nA_Shelf_out : PySem.W.findIn K (.ref C_Shelf) "out" = some none)
    (z_LiveShelf : PySem.W.nsIn K mainGlobals "LiveShelf" = some (some (.ref C_LiveShelf)))
    (pg_LiveShelf : PySem.W.plainGet K C_LiveShelf Str.empty = true)
    (hd_LiveShelf : PySem.W.hasDictIn K C_LiveShelf = true)
    (po_LiveShelf : PySem.W.plainOver K C_LiveShelf = true)
    (sa_LiveShelf : PySem.W.findIn K (.ref C_LiveShelf) "__setattr__" = some (some (.builtin "object.__setattr__")))
    (mk_LiveShelf : PySem.W.makesIn K C_LiveShelf = true)
    (kc_LiveShelf : PySem.W.keepIn K (.ref C_LiveShelf) = true)
    (nA_LiveShelf__shelf : PySem.W.findIn K (.ref C_LiveShelf) "_shelf" = some none)
    (nA_LiveShelf__steps : PySem.W.findIn K (.ref C_LiveShelf) "_steps" = some none)
    (z_Console : PySem.W.nsIn K mainGlobals "Console" = some (some (.ref C_Console)))
    (pg_Console : PySem.W.plainGet K C_Console Str.empty = true)
    (hd_Console : PySem.W.hasDictIn K C_Console = true)
    (po_Console : PySem.W.plainOver K C_Console = true)
    (sa_Console : PySem.W.findIn K (.ref C_Console) "__setattr__" = some (some (.builtin "object.__setattr__")))
    (mk_Console : PySem.W.makesIn K C_Console = true)
    (kc_Console : PySem.W.keepIn K (.ref C_Console) = true)
    (nA_Console__live : PySem.W.findIn K (.ref C_Console) "_live" = some none)
    (z_is_whole : PySem.W.nsIn K mainGlobals "is_whole" = some (some (.ref a_is_whole)))
    (l_is_whole : K.lookup a_is_whole = some ⟨oc_is_whole, od_is_whole, .func (PySem.W.fnOf "is_whole" "is_whole" (defArgs s_is_whole) (defBody s_is_whole) (defScope s_is_whole) .none kV_is_whole dc_is_whole pm_is_whole an_is_whole cd_is_whole ct_is_whole), sl_is_whole⟩)
    (c_is_whole : PySem.W.codeIn K cd_is_whole "is_whole" = true)
    (k_is_whole : PySem.W.keepIn K (.ref a_is_whole) = true)
    (z_check_size : PySem.W.nsIn K mainGlobals "check_size" = some (some (.ref a_check_size)))
    (l_check_size : K.lookup a_check_size = some ⟨oc_check_size, od_check_size, .func (PySem.W.fnOf "check_size" "check_size" (defArgs s_check_size) (defBody s_check_size) (defScope s_check_size) .none kV_check_size dc_check_size pm_check_size an_check_size cd_check_size ct_check_size), sl_check_size⟩)
    (c_check_size : PySem.W.codeIn K cd_check_size "check_size" = true)
    (k_check_size : PySem.W.keepIn K (.ref a_check_size) = true)
    (z_Shelf_init : PySem.W.findIn K (.ref C_Shelf) "__init__" = some (some (.ref a_Shelf_init)))
    (i_Shelf_init : PySem.W.isFn K (.ref a_Shelf_init) = true)
    (l_Shelf_init : K.lookup a_Shelf_init = some ⟨oc_Shelf_init, od_Shelf_init, .func (PySem.W.fnOf "__init__" "Shelf.__init__" (defArgs s_Shelf_init) (defBody s_Shelf_init) (defScope s_Shelf_init) .none kV_Shelf_init dc_Shelf_init pm_Shelf_init an_Shelf_init cd_Shelf_init ct_Shelf_init), sl_Shelf_init⟩)
    (c_Shelf_init : PySem.W.codeIn K cd_Shelf_init "Shelf.__init__" = true)
    (k_Shelf_init : PySem.W.keepIn K (.ref a_Shelf_init) = true)
    (z_Shelf_can_take : PySem.W.findIn K (.ref C_Shelf) "can_take" = some (some (.ref a_Shelf_can_take)))
    (i_Shelf_can_take : PySem.W.isFn K (.ref a_Shelf_can_take) = true)
    (l_Shelf_can_take : K.lookup a_Shelf_can_take = some ⟨oc_Shelf_can_take, od_Shelf_can_take, .func (PySem.W.fnOf "can_take" "Shelf.can_take" (defArgs s_Shelf_can_take) (defBody s_Shelf_can_take) (defScope s_Shelf_can_take) .none kV_Shelf_can_take dc_Shelf_can_take pm_Shelf_can_take an_Shelf_can_take cd_Shelf_can_take ct_Shelf_can_take), sl_Shelf_can_take⟩)
    (c_Shelf_can_take : PySem.W.codeIn K cd_Shelf_can_take "Shelf.can_take" = true)
    (k_Shelf_can_take : PySem.W.keepIn K (.ref a_Shelf_can_take) = true)
    (z_Shelf_can_return : PySem.W.findIn K (.ref C_Shelf) "can_return" = some (some (.ref a_Shelf_can_return)))
    (i_Shelf_can_return : PySem.W.isFn K (.ref a_Shelf_can_return) = true)
    (l_Shelf_can_return : K.lookup a_Shelf_can_return = some ⟨oc_Shelf_can_return, od_Shelf_can_return, .func (PySem.W.fnOf "can_return" "Shelf.can_return" (defArgs s_Shelf_can_return) (defBody s_Shelf_can_return) (defScope s_Shelf_can_return) .none kV_Shelf_can_return dc_Shelf_can_return pm_Shelf_can_return an_Shelf_can_return cd_Shelf_can_return ct_Shelf_can_return), sl_Shelf_can_return⟩)
    (c_Shelf_can_return : PySem.W.codeIn K cd_Shelf_can_return "Shelf.can_return" = true)
    (k_Shelf_can_return : PySem.W.keepIn K (.ref a_Shelf_can_return) = true)
    (z_Shelf_first_gap : PySem.W.findIn K (.ref C_Shelf) "first_gap" = some (some (.ref a_Shelf_first_gap)))
    (i_Shelf_first_gap : PySem.W.isFn K (.ref a_Shelf_first_gap) = true)
    (l_Shelf_first_gap : K.lookup a_Shelf_first_gap = some ⟨oc_Shelf_first_gap, od_Shelf_first_gap, .func (PySem.W.fnOf "first_gap" "Shelf.first_gap" (defArgs s_Shelf_first_gap) (defBody s_Shelf_first_gap) (defScope s_Shelf_first_gap) .none kV_Shelf_first_gap dc_Shelf_first_gap pm_Shelf_first_gap an_Shelf_first_gap cd_Shelf_first_gap ct_Shelf_first_gap), sl_Shelf_first_gap⟩)
    (c_Shelf_first_gap : PySem.W.codeIn K cd_Shelf_first_gap "Shelf.first_gap" = true)
    (k_Shelf_first_gap : PySem.W.keepIn K (.ref a_Shelf_first_gap) = true)
    (z_Shelf_take_from : PySem.W.findIn K (.ref C_Shelf) "take_from" = some (some (.ref a_Shelf_take_from)))
    (i_Shelf_take_from : PySem.W.isFn K (.ref a_Shelf_take_from) = true)
    (l_Shelf_take_from : K.lookup a_Shelf_take_from = some ⟨oc_Shelf_take_from, od_Shelf_take_from, .func (PySem.W.fnOf "take_from" "Shelf.take_from" (defArgs s_Shelf_take_from) (defBody s_Shelf_take_from) (defScope s_Shelf_take_from) .none kV_Shelf_take_from dc_Shelf_take_from pm_Shelf_take_from an_Shelf_take_from cd_Shelf_take_from ct_Shelf_take_from), sl_Shelf_take_from⟩)
    (c_Shelf_take_from : PySem.W.codeIn K cd_Shelf_take_from "Shelf.take_from" = true)
    (k_Shelf_take_from : PySem.W.keepIn K (.ref a_Shelf_take_from) = true)
    (z_Shelf_put_back : PySem.W.findIn K (.ref C_Shelf) "put_back" = some (some (.ref a_Shelf_put_back)))
    (i_Shelf_put_back : PySem.W.isFn K (.ref a_Shelf_put_back) = true)
    (l_Shelf_put_back : K.lookup a_Shelf_put_back = some ⟨oc_Shelf_put_back, od_Shelf_put_back, .func (PySem.W.fnOf "put_back" "Shelf.put_back" (defArgs s_Shelf_put_back) (defBody s_Shelf_put_back) (defScope s_Shelf_put_back) .none kV_Shelf_put_back dc_Shelf_put_back pm_Shelf_put_back an_Shelf_put_back cd_Shelf_put_back ct_Shelf_put_back), sl_Shelf_put_back⟩)
    (c_Shelf_put_back : PySem.W.codeIn K cd_Shelf_put_back "Shelf.put_back" = true)
    (k_Shelf_put_back : PySem.W.keepIn K (.ref a_Shelf_put_back) = true)
    (z_Shelf_revert_take : PySem.W.findIn K (.ref C_Shelf) "revert_take" = some (some (.ref a_Shelf_revert_take)))
    (i_Shelf_revert_take : PySem.W.isFn K (.ref a_Shelf_revert_take) = true)
    (l_Shelf_revert_take : K.lookup a_Shelf_revert_take = some ⟨oc_Shelf_revert_take, od_Shelf_revert_take, .func (PySem.W.fnOf "revert_take" "Shelf.revert_take" (defArgs s_Shelf_revert_take) (defBody s_Shelf_revert_take) (defScope s_Shelf_revert_take) .none kV_Shelf_revert_take dc_Shelf_revert_take pm_Shelf_revert_take an_Shelf_revert_take cd_Shelf_revert_take ct_Shelf_revert_take), sl_Shelf_revert_take⟩)
    (c_Shelf_revert_take : PySem.W.codeIn K cd_Shelf_revert_take "Shelf.revert_take" = true)
    (k_Shelf_revert_take : PySem.W.keepIn K (.ref a_Shelf_revert_take) = true)
    (z_Shelf_revert_return : PySem.W.findIn K (.ref C_Shelf) "revert_return" = some (some (.ref a_Shelf_revert_return)))
    (i_Shelf_revert_return : PySem.W.isFn K (.ref a_Shelf_revert_return) = true)
    (l_Shelf_revert_return : K.lookup a_Shelf_revert_return = some ⟨oc_Shelf_revert_return, od_Shelf_revert_return, .func (PySem.W.fnOf "revert_return" "Shelf.revert_return" (defArgs s_Shelf_revert_return) (defBody s_Shelf_revert_return) (defScope s_Shelf_revert_return) .none kV_Shelf_revert_return dc_Shelf_revert_return pm_Shelf_revert_return an_Shelf_revert_return cd_Shelf_revert_return ct_Shelf_revert_return), sl_Shelf_revert_return⟩)
    (c_Shelf_revert_return : PySem.W.codeIn K cd_Shelf_revert_return "Shelf.revert_return" = true)
    (k_Shelf_revert_return : PySem.W.keepIn K (.ref a_Shelf_revert_return) = true)
    (z_LiveShelf_init : PySem.W.findIn K (.ref C_LiveShelf) "__init__" = some (some (.ref a_LiveShelf_init)))
    (i_LiveShelf_init : PySem.W.isFn K (.ref a_LiveShelf_init) = true)
    (l_LiveShelf_init : K.lookup a_LiveShelf_init = some ⟨oc_LiveShelf_init, od_LiveShelf_init, .func (PySem.W.fnOf "__init__" "LiveShelf.__init__" (defArgs s_LiveShelf_init) (defBody s_LiveShelf_init) (defScope s_LiveShelf_init) .none kV_LiveShelf_init dc_LiveShelf_init pm_LiveShelf_init an_LiveShelf_init cd_LiveShelf_init ct_LiveShelf_init), sl_LiveShelf_init⟩)
    (c_LiveShelf_init : PySem.W.codeIn K cd_LiveShelf_init "LiveShelf.__init__" = true)
    (k_LiveShelf_init : PySem.W.keepIn K (.ref a_LiveShelf_init) = true)
    (z_LiveShelf_take_book : PySem.W.findIn K (.ref C_LiveShelf) "take_book" = some (some (.ref a_LiveShelf_take_book)))
    (i_LiveShelf_take_book : PySem.W.isFn K (.ref a_LiveShelf_take_book) = true)
    (l_LiveShelf_take_book : K.lookup a_LiveShelf_take_book = some ⟨oc_LiveShelf_take_book, od_LiveShelf_take_book, .func (PySem.W.fnOf "take_book" "LiveShelf.take_book" (defArgs s_LiveShelf_take_book) (defBody s_LiveShelf_take_book) (defScope s_LiveShelf_take_book) .none kV_LiveShelf_take_book dc_LiveShelf_take_book pm_LiveShelf_take_book an_LiveShelf_take_book cd_LiveShelf_take_book ct_LiveShelf_take_book), sl_LiveShelf_take_book⟩)
    (c_LiveShelf_take_book : PySem.W.codeIn K cd_LiveShelf_take_book "LiveShelf.take_book" = true)
    (k_LiveShelf_take_book : PySem.W.keepIn K (.ref a_LiveShelf_take_book) = true)
    (z_LiveShelf_return_book : PySem.W.findIn K (.ref C_LiveShelf) "return_book" = some (some (.ref a_LiveShelf_return_book)))
    (i_LiveShelf_return_book : PySem.W.isFn K (.ref a_LiveShelf_return_book) = true)
    (l_LiveShelf_return_book : K.lookup a_LiveShelf_return_book = some ⟨oc_LiveShelf_return_book, od_LiveShelf_return_book, .func (PySem.W.fnOf "return_book" "LiveShelf.return_book" (defArgs s_LiveShelf_return_book) (defBody s_LiveShelf_return_book) (defScope s_LiveShelf_return_book) .none kV_LiveShelf_return_book dc_LiveShelf_return_book pm_LiveShelf_return_book an_LiveShelf_return_book cd_LiveShelf_return_book ct_LiveShelf_return_book), sl_LiveShelf_return_book⟩)
    (c_LiveShelf_return_book : PySem.W.codeIn K cd_LiveShelf_return_book "LiveShelf.return_book" = true)
    (k_LiveShelf_return_book : PySem.W.keepIn K (.ref a_LiveShelf_return_book) = true)
    (z_LiveShelf_undo : PySem.W.findIn K (.ref C_LiveShelf) "undo" = some (some (.ref a_LiveShelf_undo)))
    (i_LiveShelf_undo : PySem.W.isFn K (.ref a_LiveShelf_undo) = true)
    (l_LiveShelf_undo : K.lookup a_LiveShelf_undo = some ⟨oc_LiveShelf_undo, od_LiveShelf_undo, .func (PySem.W.fnOf "undo" "LiveShelf.undo" (defArgs s_LiveShelf_undo) (defBody s_LiveShelf_undo) (defScope s_LiveShelf_undo) .none kV_LiveShelf_undo dc_LiveShelf_undo pm_LiveShelf_undo an_LiveShelf_undo cd_LiveShelf_undo ct_LiveShelf_undo), sl_LiveShelf_undo⟩)
    (c_LiveShelf_undo : PySem.W.codeIn K cd_LiveShelf_undo "LiveShelf.undo" = true)
    (k_LiveShelf_undo : PySem.W.keepIn K (.ref a_LiveShelf_undo) = true)
    (z_LiveShelf_current_books : PySem.W.findIn K (.ref C_LiveShelf) "current_books" = some (some (.ref a_LiveShelf_current_books)))
    (i_LiveShelf_current_books : PySem.W.isFn K (.ref a_LiveShelf_current_books) = true)
    (l_LiveShelf_current_books : K.lookup a_LiveShelf_current_books = some ⟨oc_LiveShelf_current_books, od_LiveShelf_current_books, .func (PySem.W.fnOf "current_books" "LiveShelf.current_books" (defArgs s_LiveShelf_current_books) (defBody s_LiveShelf_current_books) (defScope s_LiveShelf_current_books) .none kV_LiveShelf_current_books dc_LiveShelf_current_books pm_LiveShelf_current_books an_LiveShelf_current_books cd_LiveShelf_current_books ct_LiveShelf_current_books), sl_LiveShelf_current_books⟩)
    (c_LiveShelf_current_books : PySem.W.codeIn K cd_LiveShelf_current_books "LiveShelf.current_books" = true)
    (k_LiveShelf_current_books : PySem.W.keepIn K (.ref a_LiveShelf_current_books) = true)
    (z_LiveShelf_current_gaps : PySem.W.findIn K (.ref C_LiveShelf) "current_gaps" = some (some (.ref a_LiveShelf_current_gaps)))
    (i_LiveShelf_current_gaps : PySem.W.isFn K (.ref a_LiveShelf_current_gaps) = true)
    (l_LiveShelf_current_gaps : K.lookup a_LiveShelf_current_gaps = some ⟨oc_LiveShelf_current_gaps, od_LiveShelf_current_gaps, .func (PySem.W.fnOf "current_gaps" "LiveShelf.current_gaps" (defArgs s_LiveShelf_current_gaps) (defBody s_LiveShelf_current_gaps) (defScope s_LiveShelf_current_gaps) .none kV_LiveShelf_current_gaps dc_LiveShelf_current_gaps pm_LiveShelf_current_gaps an_LiveShelf_current_gaps cd_LiveShelf_current_gaps ct_LiveShelf_current_gaps), sl_LiveShelf_current_gaps⟩)
    (c_LiveShelf_current_gaps : PySem.W.codeIn K cd_LiveShelf_current_gaps "LiveShelf.current_gaps" = true)
    (k_LiveShelf_current_gaps : PySem.W.keepIn K (.ref a_LiveShelf_current_gaps) = true)
    (z_LiveShelf_current_out : PySem.W.findIn K (.ref C_LiveShelf) "current_out" = some (some (.ref a_LiveShelf_current_out)))
    (i_LiveShelf_current_out : PySem.W.isFn K (.ref a_LiveShelf_current_out) = true)
    (l_LiveShelf_current_out : K.lookup a_LiveShelf_current_out = some ⟨oc_LiveShelf_current_out, od_LiveShelf_current_out, .func (PySem.W.fnOf "current_out" "LiveShelf.current_out" (defArgs s_LiveShelf_current_out) (defBody s_LiveShelf_current_out) (defScope s_LiveShelf_current_out) .none kV_LiveShelf_current_out dc_LiveShelf_current_out pm_LiveShelf_current_out an_LiveShelf_current_out cd_LiveShelf_current_out ct_LiveShelf_current_out), sl_LiveShelf_current_out⟩)
    (c_LiveShelf_current_out : PySem.W.codeIn K cd_LiveShelf_current_out "LiveShelf.current_out" = true)
    (k_LiveShelf_current_out : PySem.W.keepIn K (.ref a_LiveShelf_current_out) = true)
    (z_LiveShelf_current_schedule : PySem.W.findIn K (.ref C_LiveShelf) "current_schedule" = some (some (.ref a_LiveShelf_current_schedule)))
    (i_LiveShelf_current_schedule : PySem.W.isFn K (.ref a_LiveShelf_current_schedule) = true)
    (l_LiveShelf_current_schedule : K.lookup a_LiveShelf_current_schedule = some ⟨oc_LiveShelf_current_schedule, od_LiveShelf_current_schedule, .func (PySem.W.fnOf "current_schedule" "LiveShelf.current_schedule" (defArgs s_LiveShelf_current_schedule) (defBody s_LiveShelf_current_schedule) (defScope s_LiveShelf_current_schedule) .none kV_LiveShelf_current_schedule dc_LiveShelf_current_schedule pm_LiveShelf_current_schedule an_LiveShelf_current_schedule cd_LiveShelf_current_schedule ct_LiveShelf_current_schedule), sl_LiveShelf_current_schedule⟩)
    (c_LiveShelf_current_schedule : PySem.W.codeIn K cd_LiveShelf_current_schedule "LiveShelf.current_schedule" = true)
    (k_LiveShelf_current_schedule : PySem.W.keepIn K (.ref a_LiveShelf_current_schedule) = true)
    (z_numbers_text : PySem.W.nsIn K mainGlobals "numbers_text" = some (some (.ref a_numbers_text)))
    (l_numbers_text : K.lookup a_numbers_text = some ⟨oc_numbers_text, od_numbers_text, .func (PySem.W.fnOf "numbers_text" "numbers_text" (defArgs s_numbers_text) (defBody s_numbers_text) (defScope s_numbers_text) .none kV_numbers_text dc_numbers_text pm_numbers_text an_numbers_text cd_numbers_text ct_numbers_text), sl_numbers_text⟩)
    (c_numbers_text : PySem.W.codeIn K cd_numbers_text "numbers_text" = true)
    (k_numbers_text : PySem.W.keepIn K (.ref a_numbers_text) = true)
    (z_operations_text : PySem.W.nsIn K mainGlobals "operations_text" = some (some (.ref a_operations_text)))
    (l_operations_text : K.lookup a_operations_text = some ⟨oc_operations_text, od_operations_text, .func (PySem.W.fnOf "operations_text" "operations_text" (defArgs s_operations_text) (defBody s_operations_text) (defScope s_operations_text) .none kV_operations_text dc_operations_text pm_operations_text an_operations_text cd_operations_text ct_operations_text), sl_operations_text⟩)
    (c_operations_text : PySem.W.codeIn K cd_operations_text "operations_text" = true)
    (k_operations_text : PySem.W.keepIn K (.ref a_operations_text) = true)
    (z_read_number : PySem.W.nsIn K mainGlobals "read_number" = some (some (.ref a_read_number)))
    (l_read_number : K.lookup a_read_number = some ⟨oc_read_number, od_read_number, .func (PySem.W.fnOf "read_number" "read_number" (defArgs s_read_number) (defBody s_read_number) (defScope s_read_number) .none kV_read_number dc_read_number pm_read_number an_read_number cd_read_number ct_read_number), sl_read_number⟩)
    (c_read_number : PySem.W.codeIn K cd_read_number "read_number" = true)
    (k_read_number : PySem.W.keepIn K (.ref a_read_number) = true)
    (z_text_or_none : PySem.W.nsIn K mainGlobals "text_or_none" = some (some (.ref a_text_or_none)))
    (l_text_or_none : K.lookup a_text_or_none = some ⟨oc_text_or_none, od_text_or_none, .func (PySem.W.fnOf "text_or_none" "text_or_none" (defArgs s_text_or_none) (defBody s_text_or_none) (defScope s_text_or_none) .none kV_text_or_none dc_text_or_none pm_text_or_none an_text_or_none cd_text_or_none ct_text_or_none), sl_text_or_none⟩)
    (c_text_or_none : PySem.W.codeIn K cd_text_or_none "text_or_none" = true)
    (k_text_or_none : PySem.W.keepIn K (.ref a_text_or_none) = true)
    (z_undo_last : PySem.W.nsIn K mainGlobals "undo_last" = some (some (.ref a_undo_last)))
    (l_undo_last : K.lookup a_undo_last = some ⟨oc_undo_last, od_undo_last, .func (PySem.W.fnOf "undo_last" "undo_last" (defArgs s_undo_last) (defBody s_undo_last) (defScope s_undo_last) .none kV_undo_last dc_undo_last pm_undo_last an_undo_last cd_undo_last ct_undo_last), sl_undo_last⟩)
    (c_undo_last : PySem.W.codeIn K cd_undo_last "undo_last" = true)
    (k_undo_last : PySem.W.keepIn K (.ref a_undo_last) = true)
    (z_show_books : PySem.W.nsIn K mainGlobals "show_books" = some (some (.ref a_show_books)))
    (l_show_books : K.lookup a_show_books = some ⟨oc_show_books, od_show_books, .func (PySem.W.fnOf "show_books" "show_books" (defArgs s_show_books) (defBody s_show_books) (defScope s_show_books) .none kV_show_books dc_show_books pm_show_books an_show_books cd_show_books ct_show_books), sl_show_books⟩)
    (c_show_books : PySem.W.codeIn K cd_show_books "show_books" = true)
    (k_show_books : PySem.W.keepIn K (.ref a_show_books) = true)
    (z_show_gaps : PySem.W.nsIn K mainGlobals "show_gaps" = some (some (.ref a_show_gaps)))
    (l_show_gaps : K.lookup a_show_gaps = some ⟨oc_show_gaps, od_show_gaps, .func (PySem.W.fnOf "show_gaps" "show_gaps" (defArgs s_show_gaps) (defBody s_show_gaps) (defScope s_show_gaps) .none kV_show_gaps dc_show_gaps pm_show_gaps an_show_gaps cd_show_gaps ct_show_gaps), sl_show_gaps⟩)
    (c_show_gaps : PySem.W.codeIn K cd_show_gaps "show_gaps" = true)
    (k_show_gaps : PySem.W.keepIn K (.ref a_show_gaps) = true)
    (z_show_out : PySem.W.nsIn K mainGlobals "show_out" = some (some (.ref a_show_out)))
    (l_show_out : K.lookup a_show_out = some ⟨oc_show_out, od_show_out, .func (PySem.W.fnOf "show_out" "show_out" (defArgs s_show_out) (defBody s_show_out) (defScope s_show_out) .none kV_show_out dc_show_out pm_show_out an_show_out cd_show_out ct_show_out), sl_show_out⟩)
    (c_show_out : PySem.W.codeIn K cd_show_out "show_out" = true)
    (k_show_out : PySem.W.keepIn K (.ref a_show_out) = true)
    (z_show_schedule : PySem.W.nsIn K mainGlobals "show_schedule" = some (some (.ref a_show_schedule)))
    (l_show_schedule : K.lookup a_show_schedule = some ⟨oc_show_schedule, od_show_schedule, .func (PySem.W.fnOf "show_schedule" "show_schedule" (defArgs s_show_schedule) (defBody s_show_schedule) (defScope s_show_schedule) .none kV_show_schedule dc_show_schedule pm_show_schedule an_show_schedule cd_show_schedule ct_show_schedule), sl_show_schedule⟩)
    (c_show_schedule : PySem.W.codeIn K cd_show_schedule "show_schedule" = true)
    (k_show_schedule : PySem.W.keepIn K (.ref a_show_schedule) = true)
    (z_show_size : PySem.W.nsIn K mainGlobals "show_size" = some (some (.ref a_show_size)))
    (l_show_size : K.lookup a_show_size = some ⟨oc_show_size, od_show_size, .func (PySem.W.fnOf "show_size" "show_size" (defArgs s_show_size) (defBody s_show_size) (defScope s_show_size) .none kV_show_size dc_show_size pm_show_size an_show_size cd_show_size ct_show_size), sl_show_size⟩)
    (c_show_size : PySem.W.codeIn K cd_show_size "show_size" = true)
    (k_show_size : PySem.W.keepIn K (.ref a_show_size) = true)
    (z_read_line : PySem.W.nsIn K mainGlobals "read_line" = some (some (.ref a_read_line)))
    (l_read_line : K.lookup a_read_line = some ⟨oc_read_line, od_read_line, .func (PySem.W.fnOf "read_line" "read_line" (defArgs s_read_line) (defBody s_read_line) (defScope s_read_line) .none kV_read_line dc_read_line pm_read_line an_read_line cd_read_line ct_read_line), sl_read_line⟩)
    (c_read_line : PySem.W.codeIn K cd_read_line "read_line" = true)
    (k_read_line : PySem.W.keepIn K (.ref a_read_line) = true)
    (z_Console_init : PySem.W.findIn K (.ref C_Console) "__init__" = some (some (.ref a_Console_init)))
    (i_Console_init : PySem.W.isFn K (.ref a_Console_init) = true)
    (l_Console_init : K.lookup a_Console_init = some ⟨oc_Console_init, od_Console_init, .func (PySem.W.fnOf "__init__" "Console.__init__" (defArgs s_Console_init) (defBody s_Console_init) (defScope s_Console_init) .none kV_Console_init dc_Console_init pm_Console_init an_Console_init cd_Console_init ct_Console_init), sl_Console_init⟩)
    (c_Console_init : PySem.W.codeIn K cd_Console_init "Console.__init__" = true)
    (k_Console_init : PySem.W.keepIn K (.ref a_Console_init) = true)
    (z_Console_execute : PySem.W.findIn K (.ref C_Console) "execute" = some (some (.ref a_Console_execute)))
    (i_Console_execute : PySem.W.isFn K (.ref a_Console_execute) = true)
    (l_Console_execute : K.lookup a_Console_execute = some ⟨oc_Console_execute, od_Console_execute, .func (PySem.W.fnOf "execute" "Console.execute" (defArgs s_Console_execute) (defBody s_Console_execute) (defScope s_Console_execute) .none kV_Console_execute dc_Console_execute pm_Console_execute an_Console_execute cd_Console_execute ct_Console_execute), sl_Console_execute⟩)
    (c_Console_execute : PySem.W.codeIn K cd_Console_execute "Console.execute" = true)
    (k_Console_execute : PySem.W.keepIn K (.ref a_Console_execute) = true)
    (z__law_reel : PySem.W.nsIn K mainGlobals "_law_reel" = some (some (.ref a__law_reel)))
    (l__law_reel : K.lookup a__law_reel = some ⟨oc__law_reel, od__law_reel, .func (PySem.W.fnOf "_law_reel" "_law_reel" (defArgs s__law_reel) (defBody s__law_reel) (defScope s__law_reel) .none kV__law_reel dc__law_reel pm__law_reel an__law_reel cd__law_reel ct__law_reel), sl__law_reel⟩)
    (c__law_reel : PySem.W.codeIn K cd__law_reel "_law_reel" = true)
    (k__law_reel : PySem.W.keepIn K (.ref a__law_reel) = true)
    (z__law_draw : PySem.W.nsIn K mainGlobals "_law_draw" = some (some (.ref a__law_draw)))
    (l__law_draw : K.lookup a__law_draw = some ⟨oc__law_draw, od__law_draw, .func (PySem.W.fnOf "_law_draw" "_law_draw" (defArgs s__law_draw) (defBody s__law_draw) (defScope s__law_draw) .none kV__law_draw dc__law_draw pm__law_draw an__law_draw cd__law_draw ct__law_draw), sl__law_draw⟩)
    (c__law_draw : PySem.W.codeIn K cd__law_draw "_law_draw" = true)
    (k__law_draw : PySem.W.keepIn K (.ref a__law_draw) = true)
    (z__law_moved : PySem.W.nsIn K mainGlobals "_law_moved" = some (some (.ref a__law_moved)))
    (l__law_moved : K.lookup a__law_moved = some ⟨oc__law_moved, od__law_moved, .func (PySem.W.fnOf "_law_moved" "_law_moved" (defArgs s__law_moved) (defBody s__law_moved) (defScope s__law_moved) .none kV__law_moved dc__law_moved pm__law_moved an__law_moved cd__law_moved ct__law_moved), sl__law_moved⟩)
    (c__law_moved : PySem.W.codeIn K cd__law_moved "_law_moved" = true)
    (k__law_moved : PySem.W.keepIn K (.ref a__law_moved) = true)
    (z__law_next : PySem.W.nsIn K mainGlobals "_law_next" = some (some (.ref a__law_next)))
    (l__law_next : K.lookup a__law_next = some ⟨oc__law_next, od__law_next, .func (PySem.W.fnOf "_law_next" "_law_next" (defArgs s__law_next) (defBody s__law_next) (defScope s__law_next) .none kV__law_next dc__law_next pm__law_next an__law_next cd__law_next ct__law_next), sl__law_next⟩)
    (c__law_next : PySem.W.codeIn K cd__law_next "_law_next" = true)
    (k__law_next : PySem.W.keepIn K (.ref a__law_next) = true)
    (z__law_kind_of : PySem.W.nsIn K mainGlobals "_law_kind_of" = some (some (.ref a__law_kind_of)))
    (l__law_kind_of : K.lookup a__law_kind_of = some ⟨oc__law_kind_of, od__law_kind_of, .func (PySem.W.fnOf "_law_kind_of" "_law_kind_of" (defArgs s__law_kind_of) (defBody s__law_kind_of) (defScope s__law_kind_of) .none kV__law_kind_of dc__law_kind_of pm__law_kind_of an__law_kind_of cd__law_kind_of ct__law_kind_of), sl__law_kind_of⟩)
    (c__law_kind_of : PySem.W.codeIn K cd__law_kind_of "_law_kind_of" = true)
    (k__law_kind_of : PySem.W.keepIn K (.ref a__law_kind_of) = true)
    (z__law_error : PySem.W.nsIn K mainGlobals "_law_error" = some (some (.ref a__law_error)))
    (l__law_error : K.lookup a__law_error = some ⟨oc__law_error, od__law_error, .func (PySem.W.fnOf "_law_error" "_law_error" (defArgs s__law_error) (defBody s__law_error) (defScope s__law_error) .none kV__law_error dc__law_error pm__law_error an__law_error cd__law_error ct__law_error), sl__law_error⟩)
    (c__law_error : PySem.W.codeIn K cd__law_error "_law_error" = true)
    (k__law_error : PySem.W.keepIn K (.ref a__law_error) = true)
    (z__law_seen : PySem.W.nsIn K mainGlobals "_law_seen" = some (some (.ref a__law_seen)))
    (l__law_seen : K.lookup a__law_seen = some ⟨oc__law_seen, od__law_seen, .func (PySem.W.fnOf "_law_seen" "_law_seen" (defArgs s__law_seen) (defBody s__law_seen) (defScope s__law_seen) .none kV__law_seen dc__law_seen pm__law_seen an__law_seen cd__law_seen ct__law_seen), sl__law_seen⟩)
    (c__law_seen : PySem.W.codeIn K cd__law_seen "_law_seen" = true)
    (k__law_seen : PySem.W.keepIn K (.ref a__law_seen) = true)
    (z__law_no_lines : PySem.W.nsIn K mainGlobals "_law_no_lines" = some (some (.ref a__law_no_lines)))
    (l__law_no_lines : K.lookup a__law_no_lines = some ⟨oc__law_no_lines, od__law_no_lines, .func (PySem.W.fnOf "_law_no_lines" "_law_no_lines" (defArgs s__law_no_lines) (defBody s__law_no_lines) (defScope s__law_no_lines) .none kV__law_no_lines dc__law_no_lines pm__law_no_lines an__law_no_lines cd__law_no_lines ct__law_no_lines), sl__law_no_lines⟩)
    (c__law_no_lines : PySem.W.codeIn K cd__law_no_lines "_law_no_lines" = true)
    (k__law_no_lines : PySem.W.keepIn K (.ref a__law_no_lines) = true)
    (z_law : PySem.W.nsIn K mainGlobals "law" = some (some (.ref a_law)))
    (l_law : K.lookup a_law = some ⟨oc_law, od_law, .func (PySem.W.fnOf "law" "law" (defArgs s_law) (defBody s_law) (defScope s_law) .none kV_law dc_law pm_law an_law cd_law ct_law), sl_law⟩)
    (c_law : PySem.W.codeIn K cd_law "law" = true)
    (k_law : PySem.W.keepIn K (.ref a_law) = true)
    (z_ANSWERS : PySem.W.nsIn K mainGlobals "ANSWERS" = some (some (.ref x_ANSWERS)))
    (wd_ANSWERS : LX.WDict K w x_ANSWERS [("undo", .ref a_undo_last), ("books", .ref a_show_books), ("gaps", .ref a_show_gaps), ("out", .ref a_show_out), ("schedule", .ref a_show_schedule), ("size", .ref a_show_size)]) :
    ∃ fd : FuncData, (∀ (s : Shared) (v : Value), BindsTo s fd ⟨[v], []⟩ [("script", v)]) ∧ ∀ base : Heap, K.In base → base.Ns mainGlobals mg → FnOk l.prog w K mg base CX0 9 fa fd ["script"] (sp_law K) := by
  have e0 := hfa.symm.trans (PySem.W.mg_of X G z_law)
  cases e0
  have F_is_whole := fun_mk (st := s_is_whole) l_is_whole c_is_whole k_is_whole
  have B_is_whole := F_is_whole.binds (ps := ["value"]) fun _ _ _ _ _ _ us hl => match us, hl with | [_], _ => rfl
  have F_check_size := fun_mk (st := s_check_size) l_check_size c_check_size k_check_size
  have B_check_size := F_check_size.binds (ps := ["size"]) fun _ _ _ _ _ _ us hl => match us, hl with | [_], _ => rfl
  have F_Shelf_init := fun_mk (st := s_Shelf_init) l_Shelf_init c_Shelf_init k_Shelf_init
  have B_Shelf_init := F_Shelf_init.binds (ps := ["self", "size"]) fun _ _ _ _ _ _ us hl => match us, hl with | [_, _], _ => rfl
  have F_Shelf_can_take := fun_mk (st := s_Shelf_can_take) l_Shelf_can_take c_Shelf_can_take k_Shelf_can_take
  have B_Shelf_can_take := F_Shelf_can_take.binds (ps := ["self", "place"]) fun _ _ _ _ _ _ us hl => match us, hl with | [_, _], _ => rfl
  have F_Shelf_can_return := fun_mk (st := s_Shelf_can_return) l_Shelf_can_return c_Shelf_can_return k_Shelf_can_return
  have B_Shelf_can_return := F_Shelf_can_return.binds (ps := ["self", "book"]) fun _ _ _ _ _ _ us hl => match us, hl with | [_, _], _ => rfl
  have F_Shelf_first_gap := fun_mk (st := s_Shelf_first_gap) l_Shelf_first_gap c_Shelf_first_gap k_Shelf_first_gap
  have B_Shelf_first_gap := F_Shelf_first_gap.binds (ps := ["self"]) fun _ _ _ _ _ _ us hl => match us, hl with | [_], _ => rfl
  have F_Shelf_take_from := fun_mk (st := s_Shelf_take_from) l_Shelf_take_from c_Shelf_take_from k_Shelf_take_from
  have B_Shelf_take_from := F_Shelf_take_from.binds (ps := ["self", "place"]) fun _ _ _ _ _ _ us hl => match us, hl with | [_, _], _ => rfl
  have F_Shelf_put_back := fun_mk (st := s_Shelf_put_back) l_Shelf_put_back c_Shelf_put_back k_Shelf_put_back
  have B_Shelf_put_back := F_Shelf_put_back.binds (ps := ["self", "book"]) fun _ _ _ _ _ _ us hl => match us, hl with | [_, _], _ => rfl
  have F_Shelf_revert_take := fun_mk (st := s_Shelf_revert_take) l_Shelf_revert_take c_Shelf_revert_take k_Shelf_revert_take
  have B_Shelf_revert_take := F_Shelf_revert_take.binds (ps := ["self", "place"]) fun _ _ _ _ _ _ us hl => match us, hl with | [_, _], _ => rfl
  have F_Shelf_revert_return := fun_mk (st := s_Shelf_revert_return) l_Shelf_revert_return c_Shelf_revert_return k_Shelf_revert_return
  have B_Shelf_revert_return := F_Shelf_revert_return.binds (ps := ["self", "place", "number"]) fun _ _ _ _ _ _ us hl => match us, hl with | [_, _, _], _ => rfl
  have F_LiveShelf_init := fun_mk (st := s_LiveShelf_init) l_LiveShelf_init c_LiveShelf_init k_LiveShelf_init
  have B_LiveShelf_init := F_LiveShelf_init.binds (ps := ["self", "size"]) fun _ _ _ _ _ _ us hl => match us, hl with | [_, _], _ => rfl
  have F_LiveShelf_take_book := fun_mk (st := s_LiveShelf_take_book) l_LiveShelf_take_book c_LiveShelf_take_book k_LiveShelf_take_book
  have B_LiveShelf_take_book := F_LiveShelf_take_book.binds (ps := ["self", "place"]) fun _ _ _ _ _ _ us hl => match us, hl with | [_, _], _ => rfl
  have F_LiveShelf_return_book := fun_mk (st := s_LiveShelf_return_book) l_LiveShelf_return_book c_LiveShelf_return_book k_LiveShelf_return_book
  have B_LiveShelf_return_book := F_LiveShelf_return_book.binds (ps := ["self", "book"]) fun _ _ _ _ _ _ us hl => match us, hl with | [_, _], _ => rfl
  have F_LiveShelf_undo := fun_mk (st := s_LiveShelf_undo) l_LiveShelf_undo c_LiveShelf_undo k_LiveShelf_undo
  have B_LiveShelf_undo := F_LiveShelf_undo.binds (ps := ["self"]) fun _ _ _ _ _ _ us hl => match us, hl with | [_], _ => rfl
  have F_LiveShelf_current_books := fun_mk (st := s_LiveShelf_current_books) l_LiveShelf_current_books c_LiveShelf_current_books k_LiveShelf_current_books
  have B_LiveShelf_current_books := F_LiveShelf_current_books.binds (ps := ["self"]) fun _ _ _ _ _ _ us hl => match us, hl with | [_], _ => rfl
  have F_LiveShelf_current_gaps := fun_mk (st := s_LiveShelf_current_gaps) l_LiveShelf_current_gaps c_LiveShelf_current_gaps k_LiveShelf_current_gaps
  have B_LiveShelf_current_gaps := F_LiveShelf_current_gaps.binds (ps := ["self"]) fun _ _ _ _ _ _ us hl => match us, hl with | [_], _ => rfl
  have F_LiveShelf_current_out := fun_mk (st := s_LiveShelf_current_out) l_LiveShelf_current_out c_LiveShelf_current_out k_LiveShelf_current_out
  have B_LiveShelf_current_out := F_LiveShelf_current_out.binds (ps := ["self"]) fun _ _ _ _ _ _ us hl => match us, hl with | [_], _ => rfl
  have F_LiveShelf_current_schedule := fun_mk (st := s_LiveShelf_current_schedule) l_LiveShelf_current_schedule c_LiveShelf_current_schedule k_LiveShelf_current_schedule
  have B_LiveShelf_current_schedule := F_LiveShelf_current_schedule.binds (ps := ["self"]) fun _ _ _ _ _ _ us hl => match us, hl with | [_], _ => rfl
  have F_numbers_text := fun_mk (st := s_numbers_text) l_numbers_text c_numbers_text k_numbers_text
  have B_numbers_text := F_numbers_text.binds (ps := ["numbers"]) fun _ _ _ _ _ _ us hl => match us, hl with | [_], _ => rfl
  have F_operations_text := fun_mk (st := s_operations_text) l_operations_text c_operations_text k_operations_text
  have B_operations_text := F_operations_text.binds (ps := ["operations"]) fun _ _ _ _ _ _ us hl => match us, hl with | [_], _ => rfl
  have F_read_number := fun_mk (st := s_read_number) l_read_number c_read_number k_read_number
  have B_read_number := F_read_number.binds (ps := ["text"]) fun _ _ _ _ _ _ us hl => match us, hl with | [_], _ => rfl
  have F_text_or_none := fun_mk (st := s_text_or_none) l_text_or_none c_text_or_none k_text_or_none
  have B_text_or_none := F_text_or_none.binds (ps := ["text"]) fun _ _ _ _ _ _ us hl => match us, hl with | [_], _ => rfl
  have F_undo_last := fun_mk (st := s_undo_last) l_undo_last c_undo_last k_undo_last
  have B_undo_last := F_undo_last.binds (ps := ["live"]) fun _ _ _ _ _ _ us hl => match us, hl with | [_], _ => rfl
  have F_show_books := fun_mk (st := s_show_books) l_show_books c_show_books k_show_books
  have B_show_books := F_show_books.binds (ps := ["live"]) fun _ _ _ _ _ _ us hl => match us, hl with | [_], _ => rfl
  have F_show_gaps := fun_mk (st := s_show_gaps) l_show_gaps c_show_gaps k_show_gaps
  have B_show_gaps := F_show_gaps.binds (ps := ["live"]) fun _ _ _ _ _ _ us hl => match us, hl with | [_], _ => rfl
  have F_show_out := fun_mk (st := s_show_out) l_show_out c_show_out k_show_out
  have B_show_out := F_show_out.binds (ps := ["live"]) fun _ _ _ _ _ _ us hl => match us, hl with | [_], _ => rfl
  have F_show_schedule := fun_mk (st := s_show_schedule) l_show_schedule c_show_schedule k_show_schedule
  have B_show_schedule := F_show_schedule.binds (ps := ["live"]) fun _ _ _ _ _ _ us hl => match us, hl with | [_], _ => rfl
  have F_show_size := fun_mk (st := s_show_size) l_show_size c_show_size k_show_size
  have B_show_size := F_show_size.binds (ps := ["live"]) fun _ _ _ _ _ _ us hl => match us, hl with | [_], _ => rfl
  have F_read_line := fun_mk (st := s_read_line) l_read_line c_read_line k_read_line
  have B_read_line := F_read_line.binds (ps := ["line"]) fun _ _ _ _ _ _ us hl => match us, hl with | [_], _ => rfl
  have F_Console_init := fun_mk (st := s_Console_init) l_Console_init c_Console_init k_Console_init
  have B_Console_init := F_Console_init.binds (ps := ["self", "size"]) fun _ _ _ _ _ _ us hl => match us, hl with | [_, _], _ => rfl
  have F_Console_execute := fun_mk (st := s_Console_execute) l_Console_execute c_Console_execute k_Console_execute
  have B_Console_execute := F_Console_execute.binds (ps := ["self", "line"]) fun _ _ _ _ _ _ us hl => match us, hl with | [_, _], _ => rfl
  have F__law_reel := fun_mk (st := s__law_reel) l__law_reel c__law_reel k__law_reel
  have B__law_reel := F__law_reel.binds (ps := ["script"]) fun _ _ _ _ _ _ us hl => match us, hl with | [_], _ => rfl
  have F__law_draw := fun_mk (st := s__law_draw) l__law_draw c__law_draw k__law_draw
  have B__law_draw := F__law_draw.binds (ps := ["reel", "many"]) fun _ _ _ _ _ _ us hl => match us, hl with | [_, _], _ => rfl
  have F__law_moved := fun_mk (st := s__law_moved) l__law_moved c__law_moved k__law_moved
  have B__law_moved := F__law_moved.binds (ps := ["model", "kind", "number"]) fun _ _ _ _ _ _ us hl => match us, hl with | [_, _, _], _ => rfl
  have F__law_next := fun_mk (st := s__law_next) l__law_next c__law_next k__law_next
  have B__law_next := F__law_next.binds (ps := ["reel", "model"]) fun _ _ _ _ _ _ us hl => match us, hl with | [_, _], _ => rfl
  have F__law_kind_of := fun_mk (st := s__law_kind_of) l__law_kind_of c__law_kind_of k__law_kind_of
  have B__law_kind_of := F__law_kind_of.binds (ps := ["e"]) fun _ _ _ _ _ _ us hl => match us, hl with | [_], _ => rfl
  have F__law_error := fun_mk (st := s__law_error) l__law_error c__law_error k__law_error
  have B__law_error := F__law_error.binds (ps := ["some", "line"]) fun _ _ _ _ _ _ us hl => match us, hl with | [_, _], _ => rfl
  have F__law_seen := fun_mk (st := s__law_seen) l__law_seen c__law_seen k__law_seen
  have B__law_seen := F__law_seen.binds (ps := ["some"]) fun _ _ _ _ _ _ us hl => match us, hl with | [_], _ => rfl
  have F__law_no_lines := fun_mk (st := s__law_no_lines) l__law_no_lines c__law_no_lines k__law_no_lines
  have B__law_no_lines := F__law_no_lines.binds (ps := []) fun _ _ _ _ _ _ us hl => match us, hl with | [], _ => rfl
  have F_law := fun_mk (st := s_law) l_law c_law k_law
  have B_law := F_law.binds (ps := ["script"]) fun _ _ _ _ _ _ us hl => match us, hl with | [_], _ => rfl
  refine ⟨PySem.W.fnOf "law" "law" (defArgs s_law) (defBody s_law) (defScope s_law) .none kV_law dc_law pm_law an_law cd_law ct_law, fun s v => .of_eq rfl, fun base _ _ => ?_⟩
  exact ok_law (({
    n_len := PySem.W.mg_none_of X G z_len,
    n_range := PySem.W.mg_none_of X G z_range,
    n_list := PySem.W.mg_none_of X G z_list,
    n_int := PySem.W.mg_none_of X G z_int,
    n_bool := PySem.W.mg_none_of X G z_bool,
    n_isinstance := PySem.W.mg_none_of X G z_isinstance,
    n_min := PySem.W.mg_none_of X G z_min,
    n_enumerate := PySem.W.mg_none_of X G z_enumerate,
    n_str := PySem.W.mg_none_of X G z_str,
    n_ValueError := PySem.W.mg_none_of X G z_ValueError,
    t_MOST_SIZE := t_MOST_SIZE, g_MOST_SIZE := PySem.W.mg_of X G z_MOST_SIZE,
    C_InvalidSize := C_InvalidSize, g_InvalidSize := PySem.W.mg_of X G z_InvalidSize,
    e_InvalidSize := ⟨ex_InvalidSize, ek_InvalidSize, eb_InvalidSize, et_InvalidSize⟩,
    C_InvalidPlaces := C_InvalidPlaces, g_InvalidPlaces := PySem.W.mg_of X G z_InvalidPlaces,
    C_InvalidPair := C_InvalidPair, g_InvalidPair := PySem.W.mg_of X G z_InvalidPair,
    C_InvalidPattern := C_InvalidPattern, g_InvalidPattern := PySem.W.mg_of X G z_InvalidPattern,
    C_InvalidNumber := C_InvalidNumber, g_InvalidNumber := PySem.W.mg_of X G z_InvalidNumber,
    C_InvalidFacts := C_InvalidFacts, g_InvalidFacts := PySem.W.mg_of X G z_InvalidFacts,
    C_InvalidOffsets := C_InvalidOffsets, g_InvalidOffsets := PySem.W.mg_of X G z_InvalidOffsets,
    C_InvalidPlace := C_InvalidPlace, g_InvalidPlace := PySem.W.mg_of X G z_InvalidPlace,
    e_InvalidPlace := ⟨ex_InvalidPlace, ek_InvalidPlace, eb_InvalidPlace, et_InvalidPlace⟩,
    C_InvalidBook := C_InvalidBook, g_InvalidBook := PySem.W.mg_of X G z_InvalidBook,
    e_InvalidBook := ⟨ex_InvalidBook, ek_InvalidBook, eb_InvalidBook, et_InvalidBook⟩,
    C_NothingToUndo := C_NothingToUndo, g_NothingToUndo := PySem.W.mg_of X G z_NothingToUndo,
    e_NothingToUndo := ⟨ex_NothingToUndo, ek_NothingToUndo, eb_NothingToUndo, et_NothingToUndo⟩,
    C_InvalidCommand := C_InvalidCommand, g_InvalidCommand := PySem.W.mg_of X G z_InvalidCommand,
    e_InvalidCommand := ⟨ex_InvalidCommand, ek_InvalidCommand, eb_InvalidCommand, et_InvalidCommand⟩,
    C_InvalidSchedule := C_InvalidSchedule, g_InvalidSchedule := PySem.W.mg_of X G z_InvalidSchedule,
    C_Obstructed := C_Obstructed, g_Obstructed := PySem.W.mg_of X G z_Obstructed,
    C_Contradiction := C_Contradiction, g_Contradiction := PySem.W.mg_of X G z_Contradiction,
    C_TooMany := C_TooMany, g_TooMany := PySem.W.mg_of X G z_TooMany,
    C_InvalidText := C_InvalidText, g_InvalidText := PySem.W.mg_of X G z_InvalidText,
    C_InvalidOrder := C_InvalidOrder, g_InvalidOrder := PySem.W.mg_of X G z_InvalidOrder,
    C_InvalidWishes := C_InvalidWishes, g_InvalidWishes := PySem.W.mg_of X G z_InvalidWishes,
    C_ShelfError := C_ShelfError, g_ShelfError := PySem.W.mg_of X G z_ShelfError,
    xk_InvalidSize := ⟨xka_InvalidSize, xkb_InvalidSize, xkc_InvalidSize, xkd_InvalidSize, xke_InvalidSize, xkf_InvalidSize, xkg_InvalidSize, xkh_InvalidSize⟩,
    ki_InvalidSize_InvalidSize := ki_InvalidSize_InvalidSize,
    ki_InvalidSize_InvalidPlaces := ki_InvalidSize_InvalidPlaces,
    ki_InvalidSize_InvalidPair := ki_InvalidSize_InvalidPair,
    ki_InvalidSize_InvalidPattern := ki_InvalidSize_InvalidPattern,
    ki_InvalidSize_InvalidNumber := ki_InvalidSize_InvalidNumber,
    ki_InvalidSize_InvalidFacts := ki_InvalidSize_InvalidFacts,
    ki_InvalidSize_InvalidOffsets := ki_InvalidSize_InvalidOffsets,
    ki_InvalidSize_InvalidPlace := ki_InvalidSize_InvalidPlace,
    ki_InvalidSize_InvalidBook := ki_InvalidSize_InvalidBook,
    ki_InvalidSize_NothingToUndo := ki_InvalidSize_NothingToUndo,
    ki_InvalidSize_InvalidCommand := ki_InvalidSize_InvalidCommand,
    ki_InvalidSize_InvalidSchedule := ki_InvalidSize_InvalidSchedule,
    ki_InvalidSize_Obstructed := ki_InvalidSize_Obstructed,
    ki_InvalidSize_Contradiction := ki_InvalidSize_Contradiction,
    ki_InvalidSize_TooMany := ki_InvalidSize_TooMany,
    ki_InvalidSize_InvalidText := ki_InvalidSize_InvalidText,
    ki_InvalidSize_InvalidOrder := ki_InvalidSize_InvalidOrder,
    ki_InvalidSize_InvalidWishes := ki_InvalidSize_InvalidWishes,
    ki_InvalidSize_ValueError := ki_InvalidSize_ValueError,
    xk_InvalidPlace := ⟨xka_InvalidPlace, xkb_InvalidPlace, xkc_InvalidPlace, xkd_InvalidPlace, xke_InvalidPlace, xkf_InvalidPlace, xkg_InvalidPlace, xkh_InvalidPlace⟩,
    ki_InvalidPlace_InvalidSize := ki_InvalidPlace_InvalidSize,
    ki_InvalidPlace_InvalidPlaces := ki_InvalidPlace_InvalidPlaces,
    ki_InvalidPlace_InvalidPair := ki_InvalidPlace_InvalidPair,
    ki_InvalidPlace_InvalidPattern := ki_InvalidPlace_InvalidPattern,
    ki_InvalidPlace_InvalidNumber := ki_InvalidPlace_InvalidNumber,
    ki_InvalidPlace_InvalidFacts := ki_InvalidPlace_InvalidFacts,
    ki_InvalidPlace_InvalidOffsets := ki_InvalidPlace_InvalidOffsets,
    ki_InvalidPlace_InvalidPlace := ki_InvalidPlace_InvalidPlace,
    ki_InvalidPlace_InvalidBook := ki_InvalidPlace_InvalidBook,
    ki_InvalidPlace_NothingToUndo := ki_InvalidPlace_NothingToUndo,
    ki_InvalidPlace_InvalidCommand := ki_InvalidPlace_InvalidCommand,
    ki_InvalidPlace_InvalidSchedule := ki_InvalidPlace_InvalidSchedule,
    ki_InvalidPlace_Obstructed := ki_InvalidPlace_Obstructed,
    ki_InvalidPlace_Contradiction := ki_InvalidPlace_Contradiction,
    ki_InvalidPlace_TooMany := ki_InvalidPlace_TooMany,
    ki_InvalidPlace_InvalidText := ki_InvalidPlace_InvalidText,
    ki_InvalidPlace_InvalidOrder := ki_InvalidPlace_InvalidOrder,
    ki_InvalidPlace_InvalidWishes := ki_InvalidPlace_InvalidWishes,
    ki_InvalidPlace_ValueError := ki_InvalidPlace_ValueError,
    xk_InvalidBook := ⟨xka_InvalidBook, xkb_InvalidBook, xkc_InvalidBook, xkd_InvalidBook, xke_InvalidBook, xkf_InvalidBook, xkg_InvalidBook, xkh_InvalidBook⟩,
    ki_InvalidBook_InvalidSize := ki_InvalidBook_InvalidSize,
    ki_InvalidBook_InvalidPlaces := ki_InvalidBook_InvalidPlaces,
    ki_InvalidBook_InvalidPair := ki_InvalidBook_InvalidPair,
    ki_InvalidBook_InvalidPattern := ki_InvalidBook_InvalidPattern,
    ki_InvalidBook_InvalidNumber := ki_InvalidBook_InvalidNumber,
    ki_InvalidBook_InvalidFacts := ki_InvalidBook_InvalidFacts,
    ki_InvalidBook_InvalidOffsets := ki_InvalidBook_InvalidOffsets,
    ki_InvalidBook_InvalidPlace := ki_InvalidBook_InvalidPlace,
    ki_InvalidBook_InvalidBook := ki_InvalidBook_InvalidBook,
    ki_InvalidBook_NothingToUndo := ki_InvalidBook_NothingToUndo,
    ki_InvalidBook_InvalidCommand := ki_InvalidBook_InvalidCommand,
    ki_InvalidBook_InvalidSchedule := ki_InvalidBook_InvalidSchedule,
    ki_InvalidBook_Obstructed := ki_InvalidBook_Obstructed,
    ki_InvalidBook_Contradiction := ki_InvalidBook_Contradiction,
    ki_InvalidBook_TooMany := ki_InvalidBook_TooMany,
    ki_InvalidBook_InvalidText := ki_InvalidBook_InvalidText,
    ki_InvalidBook_InvalidOrder := ki_InvalidBook_InvalidOrder,
    ki_InvalidBook_InvalidWishes := ki_InvalidBook_InvalidWishes,
    ki_InvalidBook_ValueError := ki_InvalidBook_ValueError,
    xk_NothingToUndo := ⟨xka_NothingToUndo, xkb_NothingToUndo, xkc_NothingToUndo, xkd_NothingToUndo, xke_NothingToUndo, xkf_NothingToUndo, xkg_NothingToUndo, xkh_NothingToUndo⟩,
    ki_NothingToUndo_InvalidSize := ki_NothingToUndo_InvalidSize,
    ki_NothingToUndo_InvalidPlaces := ki_NothingToUndo_InvalidPlaces,
    ki_NothingToUndo_InvalidPair := ki_NothingToUndo_InvalidPair,
    ki_NothingToUndo_InvalidPattern := ki_NothingToUndo_InvalidPattern,
    ki_NothingToUndo_InvalidNumber := ki_NothingToUndo_InvalidNumber,
    ki_NothingToUndo_InvalidFacts := ki_NothingToUndo_InvalidFacts,
    ki_NothingToUndo_InvalidOffsets := ki_NothingToUndo_InvalidOffsets,
    ki_NothingToUndo_InvalidPlace := ki_NothingToUndo_InvalidPlace,
    ki_NothingToUndo_InvalidBook := ki_NothingToUndo_InvalidBook,
    ki_NothingToUndo_NothingToUndo := ki_NothingToUndo_NothingToUndo,
    ki_NothingToUndo_InvalidCommand := ki_NothingToUndo_InvalidCommand,
    ki_NothingToUndo_InvalidSchedule := ki_NothingToUndo_InvalidSchedule,
    ki_NothingToUndo_Obstructed := ki_NothingToUndo_Obstructed,
    ki_NothingToUndo_Contradiction := ki_NothingToUndo_Contradiction,
    ki_NothingToUndo_TooMany := ki_NothingToUndo_TooMany,
    ki_NothingToUndo_InvalidText := ki_NothingToUndo_InvalidText,
    ki_NothingToUndo_InvalidOrder := ki_NothingToUndo_InvalidOrder,
    ki_NothingToUndo_InvalidWishes := ki_NothingToUndo_InvalidWishes,
    ki_NothingToUndo_ValueError := ki_NothingToUndo_ValueError,
    xk_InvalidCommand := ⟨xka_InvalidCommand, xkb_InvalidCommand, xkc_InvalidCommand, xkd_InvalidCommand, xke_InvalidCommand, xkf_InvalidCommand, xkg_InvalidCommand, xkh_InvalidCommand⟩,
    ki_InvalidCommand_InvalidSize := ki_InvalidCommand_InvalidSize,
    ki_InvalidCommand_InvalidPlaces := ki_InvalidCommand_InvalidPlaces,
    ki_InvalidCommand_InvalidPair := ki_InvalidCommand_InvalidPair,
    ki_InvalidCommand_InvalidPattern := ki_InvalidCommand_InvalidPattern,
    ki_InvalidCommand_InvalidNumber := ki_InvalidCommand_InvalidNumber,
    ki_InvalidCommand_InvalidFacts := ki_InvalidCommand_InvalidFacts,
    ki_InvalidCommand_InvalidOffsets := ki_InvalidCommand_InvalidOffsets,
    ki_InvalidCommand_InvalidPlace := ki_InvalidCommand_InvalidPlace,
    ki_InvalidCommand_InvalidBook := ki_InvalidCommand_InvalidBook,
    ki_InvalidCommand_NothingToUndo := ki_InvalidCommand_NothingToUndo,
    ki_InvalidCommand_InvalidCommand := ki_InvalidCommand_InvalidCommand,
    ki_InvalidCommand_InvalidSchedule := ki_InvalidCommand_InvalidSchedule,
    ki_InvalidCommand_Obstructed := ki_InvalidCommand_Obstructed,
    ki_InvalidCommand_Contradiction := ki_InvalidCommand_Contradiction,
    ki_InvalidCommand_TooMany := ki_InvalidCommand_TooMany,
    ki_InvalidCommand_InvalidText := ki_InvalidCommand_InvalidText,
    ki_InvalidCommand_InvalidOrder := ki_InvalidCommand_InvalidOrder,
    ki_InvalidCommand_InvalidWishes := ki_InvalidCommand_InvalidWishes,
    ki_InvalidCommand_ValueError := ki_InvalidCommand_ValueError,
    te_InvalidSize_ShelfError := LX.exm_mk xb_ShelfError xc_ShelfError xt_ShelfError xm_InvalidSize_ShelfError,
    te_InvalidPlace_ShelfError := LX.exm_mk xb_ShelfError xc_ShelfError xt_ShelfError xm_InvalidPlace_ShelfError,
    te_InvalidBook_ShelfError := LX.exm_mk xb_ShelfError xc_ShelfError xt_ShelfError xm_InvalidBook_ShelfError,
    te_NothingToUndo_ShelfError := LX.exm_mk xb_ShelfError xc_ShelfError xt_ShelfError xm_NothingToUndo_ShelfError,
    te_InvalidCommand_ShelfError := LX.exm_mk xb_ShelfError xc_ShelfError xt_ShelfError xm_InvalidCommand_ShelfError,
    nA_Shelf_books := nA_Shelf_books,
    nA_Shelf_out := nA_Shelf_out,
    C_Shelf := C_Shelf, g_Shelf := PySem.W.mg_of X G z_Shelf, cl_Shelf := ⟨pg_Shelf, hd_Shelf, po_Shelf, sa_Shelf⟩,
    nA_LiveShelf__shelf := nA_LiveShelf__shelf,
    nA_LiveShelf__steps := nA_LiveShelf__steps,
    C_LiveShelf := C_LiveShelf, g_LiveShelf := PySem.W.mg_of X G z_LiveShelf, cl_LiveShelf := ⟨pg_LiveShelf, hd_LiveShelf, po_LiveShelf, sa_LiveShelf⟩,
    nA_Console__live := nA_Console__live,
    C_Console := C_Console, g_Console := PySem.W.mg_of X G z_Console, cl_Console := ⟨pg_Console, hd_Console, po_Console, sa_Console⟩,
    a_is_whole := a_is_whole, d_is_whole := _, f_is_whole := F_is_whole, b_is_whole := B_is_whole, g_is_whole := PySem.W.mg_of X G z_is_whole,
    a_check_size := a_check_size, d_check_size := _, f_check_size := F_check_size, b_check_size := B_check_size, g_check_size := PySem.W.mg_of X G z_check_size,
    a_Shelf_init := a_Shelf_init, d_Shelf_init := _, f_Shelf_init := F_Shelf_init, b_Shelf_init := B_Shelf_init, mk_Shelf := ⟨mk_Shelf, z_Shelf_init, i_Shelf_init, kc_Shelf⟩,
    a_Shelf_can_take := a_Shelf_can_take, d_Shelf_can_take := _, f_Shelf_can_take := F_Shelf_can_take, b_Shelf_can_take := B_Shelf_can_take, m_Shelf_can_take := ⟨z_Shelf_can_take, i_Shelf_can_take, k_Shelf_can_take⟩,
    a_Shelf_can_return := a_Shelf_can_return, d_Shelf_can_return := _, f_Shelf_can_return := F_Shelf_can_return, b_Shelf_can_return := B_Shelf_can_return, m_Shelf_can_return := ⟨z_Shelf_can_return, i_Shelf_can_return, k_Shelf_can_return⟩,
    a_Shelf_first_gap := a_Shelf_first_gap, d_Shelf_first_gap := _, f_Shelf_first_gap := F_Shelf_first_gap, b_Shelf_first_gap := B_Shelf_first_gap, m_Shelf_first_gap := ⟨z_Shelf_first_gap, i_Shelf_first_gap, k_Shelf_first_gap⟩,
    a_Shelf_take_from := a_Shelf_take_from, d_Shelf_take_from := _, f_Shelf_take_from := F_Shelf_take_from, b_Shelf_take_from := B_Shelf_take_from, m_Shelf_take_from := ⟨z_Shelf_take_from, i_Shelf_take_from, k_Shelf_take_from⟩,
    a_Shelf_put_back := a_Shelf_put_back, d_Shelf_put_back := _, f_Shelf_put_back := F_Shelf_put_back, b_Shelf_put_back := B_Shelf_put_back, m_Shelf_put_back := ⟨z_Shelf_put_back, i_Shelf_put_back, k_Shelf_put_back⟩,
    a_Shelf_revert_take := a_Shelf_revert_take, d_Shelf_revert_take := _, f_Shelf_revert_take := F_Shelf_revert_take, b_Shelf_revert_take := B_Shelf_revert_take, m_Shelf_revert_take := ⟨z_Shelf_revert_take, i_Shelf_revert_take, k_Shelf_revert_take⟩,
    a_Shelf_revert_return := a_Shelf_revert_return, d_Shelf_revert_return := _, f_Shelf_revert_return := F_Shelf_revert_return, b_Shelf_revert_return := B_Shelf_revert_return, m_Shelf_revert_return := ⟨z_Shelf_revert_return, i_Shelf_revert_return, k_Shelf_revert_return⟩,
    a_LiveShelf_init := a_LiveShelf_init, d_LiveShelf_init := _, f_LiveShelf_init := F_LiveShelf_init, b_LiveShelf_init := B_LiveShelf_init, mk_LiveShelf := ⟨mk_LiveShelf, z_LiveShelf_init, i_LiveShelf_init, kc_LiveShelf⟩,
    a_LiveShelf_take_book := a_LiveShelf_take_book, d_LiveShelf_take_book := _, f_LiveShelf_take_book := F_LiveShelf_take_book, b_LiveShelf_take_book := B_LiveShelf_take_book, m_LiveShelf_take_book := ⟨z_LiveShelf_take_book, i_LiveShelf_take_book, k_LiveShelf_take_book⟩,
    a_LiveShelf_return_book := a_LiveShelf_return_book, d_LiveShelf_return_book := _, f_LiveShelf_return_book := F_LiveShelf_return_book, b_LiveShelf_return_book := B_LiveShelf_return_book, m_LiveShelf_return_book := ⟨z_LiveShelf_return_book, i_LiveShelf_return_book, k_LiveShelf_return_book⟩,
    a_LiveShelf_undo := a_LiveShelf_undo, d_LiveShelf_undo := _, f_LiveShelf_undo := F_LiveShelf_undo, b_LiveShelf_undo := B_LiveShelf_undo, m_LiveShelf_undo := ⟨z_LiveShelf_undo, i_LiveShelf_undo, k_LiveShelf_undo⟩,
    a_LiveShelf_current_books := a_LiveShelf_current_books, d_LiveShelf_current_books := _, f_LiveShelf_current_books := F_LiveShelf_current_books, b_LiveShelf_current_books := B_LiveShelf_current_books, m_LiveShelf_current_books := ⟨z_LiveShelf_current_books, i_LiveShelf_current_books, k_LiveShelf_current_books⟩,
    a_LiveShelf_current_gaps := a_LiveShelf_current_gaps, d_LiveShelf_current_gaps := _, f_LiveShelf_current_gaps := F_LiveShelf_current_gaps, b_LiveShelf_current_gaps := B_LiveShelf_current_gaps, m_LiveShelf_current_gaps := ⟨z_LiveShelf_current_gaps, i_LiveShelf_current_gaps, k_LiveShelf_current_gaps⟩,
    a_LiveShelf_current_out := a_LiveShelf_current_out, d_LiveShelf_current_out := _, f_LiveShelf_current_out := F_LiveShelf_current_out, b_LiveShelf_current_out := B_LiveShelf_current_out, m_LiveShelf_current_out := ⟨z_LiveShelf_current_out, i_LiveShelf_current_out, k_LiveShelf_current_out⟩,
    a_LiveShelf_current_schedule := a_LiveShelf_current_schedule, d_LiveShelf_current_schedule := _, f_LiveShelf_current_schedule := F_LiveShelf_current_schedule, b_LiveShelf_current_schedule := B_LiveShelf_current_schedule, m_LiveShelf_current_schedule := ⟨z_LiveShelf_current_schedule, i_LiveShelf_current_schedule, k_LiveShelf_current_schedule⟩,
    a_numbers_text := a_numbers_text, d_numbers_text := _, f_numbers_text := F_numbers_text, b_numbers_text := B_numbers_text, g_numbers_text := PySem.W.mg_of X G z_numbers_text,
    a_operations_text := a_operations_text, d_operations_text := _, f_operations_text := F_operations_text, b_operations_text := B_operations_text, g_operations_text := PySem.W.mg_of X G z_operations_text,
    a_read_number := a_read_number, d_read_number := _, f_read_number := F_read_number, b_read_number := B_read_number, g_read_number := PySem.W.mg_of X G z_read_number,
    a_text_or_none := a_text_or_none, d_text_or_none := _, f_text_or_none := F_text_or_none, b_text_or_none := B_text_or_none, g_text_or_none := PySem.W.mg_of X G z_text_or_none,
    a_undo_last := a_undo_last, d_undo_last := _, f_undo_last := F_undo_last, b_undo_last := B_undo_last, g_undo_last := PySem.W.mg_of X G z_undo_last,
    a_show_books := a_show_books, d_show_books := _, f_show_books := F_show_books, b_show_books := B_show_books, g_show_books := PySem.W.mg_of X G z_show_books,
    a_show_gaps := a_show_gaps, d_show_gaps := _, f_show_gaps := F_show_gaps, b_show_gaps := B_show_gaps, g_show_gaps := PySem.W.mg_of X G z_show_gaps,
    a_show_out := a_show_out, d_show_out := _, f_show_out := F_show_out, b_show_out := B_show_out, g_show_out := PySem.W.mg_of X G z_show_out,
    a_show_schedule := a_show_schedule, d_show_schedule := _, f_show_schedule := F_show_schedule, b_show_schedule := B_show_schedule, g_show_schedule := PySem.W.mg_of X G z_show_schedule,
    a_show_size := a_show_size, d_show_size := _, f_show_size := F_show_size, b_show_size := B_show_size, g_show_size := PySem.W.mg_of X G z_show_size,
    a_read_line := a_read_line, d_read_line := _, f_read_line := F_read_line, b_read_line := B_read_line, g_read_line := PySem.W.mg_of X G z_read_line,
    a_Console_init := a_Console_init, d_Console_init := _, f_Console_init := F_Console_init, b_Console_init := B_Console_init, mk_Console := ⟨mk_Console, z_Console_init, i_Console_init, kc_Console⟩,
    a_Console_execute := a_Console_execute, d_Console_execute := _, f_Console_execute := F_Console_execute, b_Console_execute := B_Console_execute, m_Console_execute := ⟨z_Console_execute, i_Console_execute, k_Console_execute⟩,
    a__law_reel := a__law_reel, d__law_reel := _, f__law_reel := F__law_reel, b__law_reel := B__law_reel, g__law_reel := PySem.W.mg_of X G z__law_reel,
    a__law_draw := a__law_draw, d__law_draw := _, f__law_draw := F__law_draw, b__law_draw := B__law_draw, g__law_draw := PySem.W.mg_of X G z__law_draw,
    a__law_moved := a__law_moved, d__law_moved := _, f__law_moved := F__law_moved, b__law_moved := B__law_moved, g__law_moved := PySem.W.mg_of X G z__law_moved,
    a__law_next := a__law_next, d__law_next := _, f__law_next := F__law_next, b__law_next := B__law_next, g__law_next := PySem.W.mg_of X G z__law_next,
    a__law_kind_of := a__law_kind_of, d__law_kind_of := _, f__law_kind_of := F__law_kind_of, b__law_kind_of := B__law_kind_of, g__law_kind_of := PySem.W.mg_of X G z__law_kind_of,
    a__law_error := a__law_error, d__law_error := _, f__law_error := F__law_error, b__law_error := B__law_error, g__law_error := PySem.W.mg_of X G z__law_error,
    a__law_seen := a__law_seen, d__law_seen := _, f__law_seen := F__law_seen, b__law_seen := B__law_seen, g__law_seen := PySem.W.mg_of X G z__law_seen,
    a__law_no_lines := a__law_no_lines, d__law_no_lines := _, f__law_no_lines := F__law_no_lines, b__law_no_lines := B__law_no_lines, g__law_no_lines := PySem.W.mg_of X G z__law_no_lines,
    a_law := fa, d_law := _, f_law := F_law, b_law := B_law, g_law := PySem.W.mg_of X G z_law,
    x_ANSWERS := x_ANSWERS, g_ANSWERS := PySem.W.mg_of X G z_ANSWERS, wd_ANSWERS := wd_ANSWERS } : Env w K mg))
theorem walk {l : PySem.W.OpenLaw} {q : Program} {loose : List Str} {XP : (Str → Option Value) → Heap → Prop} {YP : World → Heap → Prop} {d : DefRec} {K : Params → PySem.W.Frag} (hn : l.most = some 63) (hdf : d.params.defaults = [])
    (hY : ∀ (w : World) (h : Heap), YP w h → (K w.params).In h)
    (F : ∀ (w : World) (mg : Str → Option Value) (fa : Addr) (h : Heap), (K w.params).In h → h.Ns mainGlobals mg → mg d.name = some (.ref fa) →
      ∃ fd : FuncData, (∀ (s : Shared) (u : Value), BindsTo s fd ⟨[u], []⟩ [("script", u)]) ∧ ∀ base : Heap, (K w.params).In base → base.Ns mainGlobals mg → FnOk l.prog w (K w.params) mg base CX0 9 fa fd ["script"] (sp_law (K w.params))) :
    PySem.W.WalkO q loose XP YP l.row.toRowW d [] (fun f vs => PySem.call f vs) :=
  L2.walk_of (n := 63) (k := 9) (x := "script") (CX := fun _ => CX0) (sp := fun w => sp_law (K w.params)) hn (by decide) hdf ⟨rfl, by decide, by decide⟩ hY F (fun _ _ a ns hl _ hS => ⟨a, ns, rfl, hS, hl, fun _ => rfl⟩) fun _ _ _ _ _ z => z
end LP
open PySem PySem.W PyProof.Rows
set_option maxRecDepth 100000 in
set_option maxHeartbeats 0 in
theorem PySem.Challenge.cw_leftreturn_k55_console_errors_holds : PySem.Challenge.rw_leftreturn_k55_console_errors.Holds := by
  w_on; o_law; k_head; (case hw => w_witness2)
  k_fill
  refine LP.walk (l := PySem.Challenge.rw_leftreturn_k55_console_errors) rfl rfl (fun w h Y => PySem.W.kIn_of Y) ?F
  case F =>
    intro w mg fa h KX G hmg
    refine' LP.all_mk KX G hmg ?z_len ?z_range ?z_list ?z_int ?z_bool ?z_isinstance ?z_min ?z_enumerate ?z_str ?z_ValueError ?z_MOST_SIZE ?z_InvalidSize ?ex_InvalidSize ?ek_InvalidSize ?eb_InvalidSize ?et_InvalidSize ?z_InvalidPlaces ?z_InvalidPair ?z_InvalidPattern ?z_InvalidNumber ?z_InvalidFacts ?z_InvalidOffsets ?z_InvalidPlace ?ex_InvalidPlace ?ek_InvalidPlace ?eb_InvalidPlace ?et_InvalidPlace ?z_InvalidBook ?ex_InvalidBook ?ek_InvalidBook ?eb_InvalidBook ?et_InvalidBook ?z_NothingToUndo ?ex_NothingToUndo ?ek_NothingToUndo ?eb_NothingToUndo ?et_NothingToUndo ?z_InvalidCommand ?ex_InvalidCommand ?ek_InvalidCommand ?eb_InvalidCommand ?et_InvalidCommand ?z_InvalidSchedule ?z_Obstructed ?z_Contradiction ?z_TooMany ?z_InvalidText ?z_InvalidOrder ?z_InvalidWishes ?z_ShelfError ?xka_InvalidSize ?xkb_InvalidSize ?xkc_InvalidSize ?xkd_InvalidSize ?xke_InvalidSize ?xkf_InvalidSize ?xkg_InvalidSize ?xkh_InvalidSize ?ki_InvalidSize_InvalidSize ?ki_InvalidSize_InvalidPlaces ?ki_InvalidSize_InvalidPair ?ki_InvalidSize_InvalidPattern ?ki_InvalidSize_InvalidNumber ?ki_InvalidSize_InvalidFacts ?ki_InvalidSize_InvalidOffsets ?ki_InvalidSize_InvalidPlace ?ki_InvalidSize_InvalidBook ?ki_InvalidSize_NothingToUndo ?ki_InvalidSize_InvalidCommand ?ki_InvalidSize_InvalidSchedule ?ki_InvalidSize_Obstructed ?ki_InvalidSize_Contradiction ?ki_InvalidSize_TooMany ?ki_InvalidSize_InvalidText ?ki_InvalidSize_InvalidOrder ?ki_InvalidSize_InvalidWishes ?ki_InvalidSize_ValueError ?xka_InvalidPlace ?xkb_InvalidPlace ?xkc_InvalidPlace ?xkd_InvalidPlace ?xke_InvalidPlace ?xkf_InvalidPlace ?xkg_InvalidPlace ?xkh_InvalidPlace ?ki_InvalidPlace_InvalidSize ?ki_InvalidPlace_InvalidPlaces ?ki_InvalidPlace_InvalidPair ?ki_InvalidPlace_InvalidPattern ?ki_InvalidPlace_InvalidNumber ?ki_InvalidPlace_InvalidFacts ?ki_InvalidPlace_InvalidOffsets ?ki_InvalidPlace_InvalidPlace ?ki_InvalidPlace_InvalidBook ?ki_InvalidPlace_NothingToUndo ?ki_InvalidPlace_InvalidCommand ?ki_InvalidPlace_InvalidSchedule ?ki_InvalidPlace_Obstructed ?ki_InvalidPlace_Contradiction ?ki_InvalidPlace_TooMany ?ki_InvalidPlace_InvalidText ?ki_InvalidPlace_InvalidOrder ?ki_InvalidPlace_InvalidWishes ?ki_InvalidPlace_ValueError ?xka_InvalidBook ?xkb_InvalidBook ?xkc_InvalidBook ?xkd_InvalidBook ?xke_InvalidBook ?xkf_InvalidBook ?xkg_InvalidBook ?xkh_InvalidBook ?ki_InvalidBook_InvalidSize ?ki_InvalidBook_InvalidPlaces ?ki_InvalidBook_InvalidPair ?ki_InvalidBook_InvalidPattern ?ki_InvalidBook_InvalidNumber ?ki_InvalidBook_InvalidFacts ?ki_InvalidBook_InvalidOffsets ?ki_InvalidBook_InvalidPlace ?ki_InvalidBook_InvalidBook ?ki_InvalidBook_NothingToUndo ?ki_InvalidBook_InvalidCommand ?ki_InvalidBook_InvalidSchedule ?ki_InvalidBook_Obstructed ?ki_InvalidBook_Contradiction ?ki_InvalidBook_TooMany ?ki_InvalidBook_InvalidText ?ki_InvalidBook_InvalidOrder ?ki_InvalidBook_InvalidWishes ?ki_InvalidBook_ValueError ?xka_NothingToUndo ?xkb_NothingToUndo ?xkc_NothingToUndo ?xkd_NothingToUndo ?xke_NothingToUndo ?xkf_NothingToUndo ?xkg_NothingToUndo ?xkh_NothingToUndo ?ki_NothingToUndo_InvalidSize ?ki_NothingToUndo_InvalidPlaces ?ki_NothingToUndo_InvalidPair ?ki_NothingToUndo_InvalidPattern ?ki_NothingToUndo_InvalidNumber ?ki_NothingToUndo_InvalidFacts ?ki_NothingToUndo_InvalidOffsets ?ki_NothingToUndo_InvalidPlace ?ki_NothingToUndo_InvalidBook ?ki_NothingToUndo_NothingToUndo ?ki_NothingToUndo_InvalidCommand ?ki_NothingToUndo_InvalidSchedule ?ki_NothingToUndo_Obstructed ?ki_NothingToUndo_Contradiction ?ki_NothingToUndo_TooMany ?ki_NothingToUndo_InvalidText ?ki_NothingToUndo_InvalidOrder ?ki_NothingToUndo_InvalidWishes ?ki_NothingToUndo_ValueError ?xka_InvalidCommand ?xkb_InvalidCommand ?xkc_InvalidCommand ?xkd_InvalidCommand ?xke_InvalidCommand ?xkf_InvalidCommand ?xkg_InvalidCommand ?xkh_InvalidCommand ?ki_InvalidCommand_InvalidSize ?ki_InvalidCommand_InvalidPlaces ?ki_InvalidCommand_InvalidPair ?ki_InvalidCommand_InvalidPattern ?ki_InvalidCommand_InvalidNumber ?ki_InvalidCommand_InvalidFacts ?ki_InvalidCommand_InvalidOffsets ?ki_InvalidCommand_InvalidPlace ?ki_InvalidCommand_InvalidBook ?ki_InvalidCommand_NothingToUndo ?ki_InvalidCommand_InvalidCommand ?ki_InvalidCommand_InvalidSchedule ?ki_InvalidCommand_Obstructed ?ki_InvalidCommand_Contradiction ?ki_InvalidCommand_TooMany ?ki_InvalidCommand_InvalidText ?ki_InvalidCommand_InvalidOrder ?ki_InvalidCommand_InvalidWishes ?ki_InvalidCommand_ValueError ?xb_ShelfError ?xc_ShelfError ?xt_ShelfError ?xm_InvalidSize_ShelfError ?xm_InvalidPlace_ShelfError ?xm_InvalidBook_ShelfError ?xm_NothingToUndo_ShelfError ?xm_InvalidCommand_ShelfError ?z_Shelf ?pg_Shelf ?hd_Shelf ?po_Shelf ?sa_Shelf ?mk_Shelf ?kc_Shelf ?nA_Shelf_books ?nA_Shelf_out ?z_LiveShelf ?pg_LiveShelf ?hd_LiveShelf ?po_LiveShelf ?sa_LiveShelf ?mk_LiveShelf ?kc_LiveShelf ?nA_LiveShelf__shelf ?nA_LiveShelf__steps ?z_Console ?pg_Console ?hd_Console ?po_Console ?sa_Console ?mk_Console ?kc_Console ?nA_Console__live ?z_is_whole ?l_is_whole ?c_is_whole ?k_is_whole ?z_check_size ?l_check_size ?c_check_size ?k_check_size ?z_Shelf_init ?i_Shelf_init ?l_Shelf_init ?c_Shelf_init ?k_Shelf_init ?z_Shelf_can_take ?i_Shelf_can_take ?l_Shelf_can_take ?c_Shelf_can_take ?k_Shelf_can_take ?z_Shelf_can_return ?i_Shelf_can_return ?l_Shelf_can_return ?c_Shelf_can_return ?k_Shelf_can_return ?z_Shelf_first_gap ?i_Shelf_first_gap ?l_Shelf_first_gap ?c_Shelf_first_gap ?k_Shelf_first_gap ?z_Shelf_take_from ?i_Shelf_take_from ?l_Shelf_take_from ?c_Shelf_take_from ?k_Shelf_take_from ?z_Shelf_put_back ?i_Shelf_put_back ?l_Shelf_put_back ?c_Shelf_put_back ?k_Shelf_put_back ?z_Shelf_revert_take ?i_Shelf_revert_take ?l_Shelf_revert_take ?c_Shelf_revert_take ?k_Shelf_revert_take ?z_Shelf_revert_return ?i_Shelf_revert_return ?l_Shelf_revert_return ?c_Shelf_revert_return ?k_Shelf_revert_return ?z_LiveShelf_init ?i_LiveShelf_init ?l_LiveShelf_init ?c_LiveShelf_init ?k_LiveShelf_init ?z_LiveShelf_take_book ?i_LiveShelf_take_book ?l_LiveShelf_take_book ?c_LiveShelf_take_book ?k_LiveShelf_take_book ?z_LiveShelf_return_book ?i_LiveShelf_return_book ?l_LiveShelf_return_book ?c_LiveShelf_return_book ?k_LiveShelf_return_book ?z_LiveShelf_undo ?i_LiveShelf_undo ?l_LiveShelf_undo ?c_LiveShelf_undo ?k_LiveShelf_undo ?z_LiveShelf_current_books ?i_LiveShelf_current_books ?l_LiveShelf_current_books ?c_LiveShelf_current_books ?k_LiveShelf_current_books ?z_LiveShelf_current_gaps ?i_LiveShelf_current_gaps ?l_LiveShelf_current_gaps ?c_LiveShelf_current_gaps ?k_LiveShelf_current_gaps ?z_LiveShelf_current_out ?i_LiveShelf_current_out ?l_LiveShelf_current_out ?c_LiveShelf_current_out ?k_LiveShelf_current_out ?z_LiveShelf_current_schedule ?i_LiveShelf_current_schedule ?l_LiveShelf_current_schedule ?c_LiveShelf_current_schedule ?k_LiveShelf_current_schedule ?z_numbers_text ?l_numbers_text ?c_numbers_text ?k_numbers_text ?z_operations_text ?l_operations_text ?c_operations_text ?k_operations_text ?z_read_number ?l_read_number ?c_read_number ?k_read_number ?z_text_or_none ?l_text_or_none ?c_text_or_none ?k_text_or_none ?z_undo_last ?l_undo_last ?c_undo_last ?k_undo_last ?z_show_books ?l_show_books ?c_show_books ?k_show_books ?z_show_gaps ?l_show_gaps ?c_show_gaps ?k_show_gaps ?z_show_out ?l_show_out ?c_show_out ?k_show_out ?z_show_schedule ?l_show_schedule ?c_show_schedule ?k_show_schedule ?z_show_size ?l_show_size ?c_show_size ?k_show_size ?z_read_line ?l_read_line ?c_read_line ?k_read_line ?z_Console_init ?i_Console_init ?l_Console_init ?c_Console_init ?k_Console_init ?z_Console_execute ?i_Console_execute ?l_Console_execute ?c_Console_execute ?k_Console_execute ?z__law_reel ?l__law_reel ?c__law_reel ?k__law_reel ?z__law_draw ?l__law_draw ?c__law_draw ?k__law_draw ?z__law_moved ?l__law_moved ?c__law_moved ?k__law_moved ?z__law_next ?l__law_next ?c__law_next ?k__law_next ?z__law_kind_of ?l__law_kind_of ?c__law_kind_of ?k__law_kind_of ?z__law_error ?l__law_error ?c__law_error ?k__law_error ?z__law_seen ?l__law_seen ?c__law_seen ?k__law_seen ?z__law_no_lines ?l__law_no_lines ?c__law_no_lines ?k__law_no_lines ?z_law ?l_law ?c_law ?k_law ?z_ANSWERS ?wd_ANSWERS
    (case z_len => k_is)
    (case z_range => k_is)
    (case z_list => k_is)
    (case z_int => k_is)
    (case z_bool => k_is)
    (case z_isinstance => k_is)
    (case z_min => k_is)
    (case z_enumerate => k_is)
    (case z_str => k_is)
    (case z_ValueError => k_is)
    (case z_MOST_SIZE => k_is)
    (case z_InvalidSize => k_is)
    (case ex_InvalidSize => k_exc)
    (case ek_InvalidSize => k_is)
    (case eb_InvalidSize => k_is)
    (case et_InvalidSize => k_is)
    (case z_InvalidPlaces => k_is)
    (case z_InvalidPair => k_is)
    (case z_InvalidPattern => k_is)
    (case z_InvalidNumber => k_is)
    (case z_InvalidFacts => k_is)
    (case z_InvalidOffsets => k_is)
    (case z_InvalidPlace => k_is)
    (case ex_InvalidPlace => k_exc)
    (case ek_InvalidPlace => k_is)
    (case eb_InvalidPlace => k_is)
    (case et_InvalidPlace => k_is)
    (case z_InvalidBook => k_is)
    (case ex_InvalidBook => k_exc)
    (case ek_InvalidBook => k_is)
    (case eb_InvalidBook => k_is)
    (case et_InvalidBook => k_is)
    (case z_NothingToUndo => k_is)
    (case ex_NothingToUndo => k_exc)
    (case ek_NothingToUndo => k_is)
    (case eb_NothingToUndo => k_is)
    (case et_NothingToUndo => k_is)
    (case z_InvalidCommand => k_is)
    (case ex_InvalidCommand => k_exc)
    (case ek_InvalidCommand => k_is)
    (case eb_InvalidCommand => k_is)
    (case et_InvalidCommand => k_is)
    (case z_InvalidSchedule => k_is)
    (case z_Obstructed => k_is)
    (case z_Contradiction => k_is)
    (case z_TooMany => k_is)
    (case z_InvalidText => k_is)
    (case z_InvalidOrder => k_is)
    (case z_InvalidWishes => k_is)
    (case z_ShelfError => k_is)
    (case xka_InvalidSize => k_is)
    (case xkb_InvalidSize => k_is)
    (case xkc_InvalidSize => k_is)
    (case xkd_InvalidSize => k_is)
    (case xke_InvalidSize => k_is)
    (case xkf_InvalidSize => k_is)
    (case xkg_InvalidSize => k_is)
    (case xkh_InvalidSize => k_is)
    (case ki_InvalidSize_InvalidSize => first | k_is | rfl)
    (case ki_InvalidSize_InvalidPlaces => first | k_is | rfl)
    (case ki_InvalidSize_InvalidPair => first | k_is | rfl)
    (case ki_InvalidSize_InvalidPattern => first | k_is | rfl)
    (case ki_InvalidSize_InvalidNumber => first | k_is | rfl)
    (case ki_InvalidSize_InvalidFacts => first | k_is | rfl)
    (case ki_InvalidSize_InvalidOffsets => first | k_is | rfl)
    (case ki_InvalidSize_InvalidPlace => first | k_is | rfl)
    (case ki_InvalidSize_InvalidBook => first | k_is | rfl)
    (case ki_InvalidSize_NothingToUndo => first | k_is | rfl)
    (case ki_InvalidSize_InvalidCommand => first | k_is | rfl)
    (case ki_InvalidSize_InvalidSchedule => first | k_is | rfl)
    (case ki_InvalidSize_Obstructed => first | k_is | rfl)
    (case ki_InvalidSize_Contradiction => first | k_is | rfl)
    (case ki_InvalidSize_TooMany => first | k_is | rfl)
    (case ki_InvalidSize_InvalidText => first | k_is | rfl)
    (case ki_InvalidSize_InvalidOrder => first | k_is | rfl)
    (case ki_InvalidSize_InvalidWishes => first | k_is | rfl)
    (case ki_InvalidSize_ValueError => first | k_is | rfl)
    (case xka_InvalidPlace => k_is)
    (case xkb_InvalidPlace => k_is)
    (case xkc_InvalidPlace => k_is)
    (case xkd_InvalidPlace => k_is)
    (case xke_InvalidPlace => k_is)
    (case xkf_InvalidPlace => k_is)
    (case xkg_InvalidPlace => k_is)
    (case xkh_InvalidPlace => k_is)
    (case ki_InvalidPlace_InvalidSize => first | k_is | rfl)
    (case ki_InvalidPlace_InvalidPlaces => first | k_is | rfl)
    (case ki_InvalidPlace_InvalidPair => first | k_is | rfl)
    (case ki_InvalidPlace_InvalidPattern => first | k_is | rfl)
    (case ki_InvalidPlace_InvalidNumber => first | k_is | rfl)
    (case ki_InvalidPlace_InvalidFacts => first | k_is | rfl)
    (case ki_InvalidPlace_InvalidOffsets => first | k_is | rfl)
    (case ki_InvalidPlace_InvalidPlace => first | k_is | rfl)
    (case ki_InvalidPlace_InvalidBook => first | k_is | rfl)
    (case ki_InvalidPlace_NothingToUndo => first | k_is | rfl)
    (case ki_InvalidPlace_InvalidCommand => first | k_is | rfl)
    (case ki_InvalidPlace_InvalidSchedule => first | k_is | rfl)
    (case ki_InvalidPlace_Obstructed => first | k_is | rfl)
    (case ki_InvalidPlace_Contradiction => first | k_is | rfl)
    (case ki_InvalidPlace_TooMany => first | k_is | rfl)
    (case ki_InvalidPlace_InvalidText => first | k_is | rfl)
    (case ki_InvalidPlace_InvalidOrder => first | k_is | rfl)
    (case ki_InvalidPlace_InvalidWishes => first | k_is | rfl)
    (case ki_InvalidPlace_ValueError => first | k_is | rfl)
    (case xka_InvalidBook => k_is)
    (case xkb_InvalidBook => k_is)
    (case xkc_InvalidBook => k_is)
    (case xkd_InvalidBook => k_is)
    (case xke_InvalidBook => k_is)
    (case xkf_InvalidBook => k_is)
    (case xkg_InvalidBook => k_is)
    (case xkh_InvalidBook => k_is)
    (case ki_InvalidBook_InvalidSize => first | k_is | rfl)
    (case ki_InvalidBook_InvalidPlaces => first | k_is | rfl)
    (case ki_InvalidBook_InvalidPair => first | k_is | rfl)
    (case ki_InvalidBook_InvalidPattern => first | k_is | rfl)
    (case ki_InvalidBook_InvalidNumber => first | k_is | rfl)
    (case ki_InvalidBook_InvalidFacts => first | k_is | rfl)
    (case ki_InvalidBook_InvalidOffsets => first | k_is | rfl)
    (case ki_InvalidBook_InvalidPlace => first | k_is | rfl)
    (case ki_InvalidBook_InvalidBook => first | k_is | rfl)
    (case ki_InvalidBook_NothingToUndo => first | k_is | rfl)
    (case ki_InvalidBook_InvalidCommand => first | k_is | rfl)
    (case ki_InvalidBook_InvalidSchedule => first | k_is | rfl)
    (case ki_InvalidBook_Obstructed => first | k_is | rfl)
    (case ki_InvalidBook_Contradiction => first | k_is | rfl)
    (case ki_InvalidBook_TooMany => first | k_is | rfl)
    (case ki_InvalidBook_InvalidText => first | k_is | rfl)
    (case ki_InvalidBook_InvalidOrder => first | k_is | rfl)
    (case ki_InvalidBook_InvalidWishes => first | k_is | rfl)
    (case ki_InvalidBook_ValueError => first | k_is | rfl)
    (case xka_NothingToUndo => k_is)
    (case xkb_NothingToUndo => k_is)
    (case xkc_NothingToUndo => k_is)
    (case xkd_NothingToUndo => k_is)
    (case xke_NothingToUndo => k_is)
    (case xkf_NothingToUndo => k_is)
    (case xkg_NothingToUndo => k_is)
    (case xkh_NothingToUndo => k_is)
    (case ki_NothingToUndo_InvalidSize => first | k_is | rfl)
    (case ki_NothingToUndo_InvalidPlaces => first | k_is | rfl)
    (case ki_NothingToUndo_InvalidPair => first | k_is | rfl)
    (case ki_NothingToUndo_InvalidPattern => first | k_is | rfl)
    (case ki_NothingToUndo_InvalidNumber => first | k_is | rfl)
    (case ki_NothingToUndo_InvalidFacts => first | k_is | rfl)
    (case ki_NothingToUndo_InvalidOffsets => first | k_is | rfl)
    (case ki_NothingToUndo_InvalidPlace => first | k_is | rfl)
    (case ki_NothingToUndo_InvalidBook => first | k_is | rfl)
    (case ki_NothingToUndo_NothingToUndo => first | k_is | rfl)
    (case ki_NothingToUndo_InvalidCommand => first | k_is | rfl)
    (case ki_NothingToUndo_InvalidSchedule => first | k_is | rfl)
    (case ki_NothingToUndo_Obstructed => first | k_is | rfl)
    (case ki_NothingToUndo_Contradiction => first | k_is | rfl)
    (case ki_NothingToUndo_TooMany => first | k_is | rfl)
    (case ki_NothingToUndo_InvalidText => first | k_is | rfl)
    (case ki_NothingToUndo_InvalidOrder => first | k_is | rfl)
    (case ki_NothingToUndo_InvalidWishes => first | k_is | rfl)
    (case ki_NothingToUndo_ValueError => first | k_is | rfl)
    (case xka_InvalidCommand => k_is)
    (case xkb_InvalidCommand => k_is)
    (case xkc_InvalidCommand => k_is)
    (case xkd_InvalidCommand => k_is)
    (case xke_InvalidCommand => k_is)
    (case xkf_InvalidCommand => k_is)
    (case xkg_InvalidCommand => k_is)
    (case xkh_InvalidCommand => k_is)
    (case ki_InvalidCommand_InvalidSize => first | k_is | rfl)
    (case ki_InvalidCommand_InvalidPlaces => first | k_is | rfl)
    (case ki_InvalidCommand_InvalidPair => first | k_is | rfl)
    (case ki_InvalidCommand_InvalidPattern => first | k_is | rfl)
    (case ki_InvalidCommand_InvalidNumber => first | k_is | rfl)
    (case ki_InvalidCommand_InvalidFacts => first | k_is | rfl)
    (case ki_InvalidCommand_InvalidOffsets => first | k_is | rfl)
    (case ki_InvalidCommand_InvalidPlace => first | k_is | rfl)
    (case ki_InvalidCommand_InvalidBook => first | k_is | rfl)
    (case ki_InvalidCommand_NothingToUndo => first | k_is | rfl)
    (case ki_InvalidCommand_InvalidCommand => first | k_is | rfl)
    (case ki_InvalidCommand_InvalidSchedule => first | k_is | rfl)
    (case ki_InvalidCommand_Obstructed => first | k_is | rfl)
    (case ki_InvalidCommand_Contradiction => first | k_is | rfl)
    (case ki_InvalidCommand_TooMany => first | k_is | rfl)
    (case ki_InvalidCommand_InvalidText => first | k_is | rfl)
    (case ki_InvalidCommand_InvalidOrder => first | k_is | rfl)
    (case ki_InvalidCommand_InvalidWishes => first | k_is | rfl)
    (case ki_InvalidCommand_ValueError => first | k_is | rfl)
    (case xb_ShelfError => k_is)
    (case xc_ShelfError => k_is)
    (case xt_ShelfError => k_is)
    (case xm_InvalidSize_ShelfError => first | rfl | k_is)
    (case xm_InvalidPlace_ShelfError => first | rfl | k_is)
    (case xm_InvalidBook_ShelfError => first | rfl | k_is)
    (case xm_NothingToUndo_ShelfError => first | rfl | k_is)
    (case xm_InvalidCommand_ShelfError => first | rfl | k_is)
    (case z_Shelf => k_is)
    (case pg_Shelf => k_is)
    (case hd_Shelf => k_is)
    (case po_Shelf => k_is)
    (case sa_Shelf => k_is)
    (case mk_Shelf => k_is)
    (case kc_Shelf => k_is)
    (case nA_Shelf_books => k_is)
    (case nA_Shelf_out => k_is)
    (case z_LiveShelf => k_is)
    (case pg_LiveShelf => k_is)
    (case hd_LiveShelf => k_is)
    (case po_LiveShelf => k_is)
    (case sa_LiveShelf => k_is)
    (case mk_LiveShelf => k_is)
    (case kc_LiveShelf => k_is)
    (case nA_LiveShelf__shelf => k_is)
    (case nA_LiveShelf__steps => k_is)
    (case z_Console => k_is)
    (case pg_Console => k_is)
    (case hd_Console => k_is)
    (case po_Console => k_is)
    (case sa_Console => k_is)
    (case mk_Console => k_is)
    (case kc_Console => k_is)
    (case nA_Console__live => k_is)
    (case z_is_whole => k_is)
    (case l_is_whole => k_is)
    (case c_is_whole => k_is)
    (case k_is_whole => k_is)
    (case z_check_size => k_is)
    (case l_check_size => k_is)
    (case c_check_size => k_is)
    (case k_check_size => k_is)
    (case z_Shelf_init => k_is)
    (case i_Shelf_init => k_is)
    (case l_Shelf_init => k_is)
    (case c_Shelf_init => k_is)
    (case k_Shelf_init => k_is)
    (case z_Shelf_can_take => k_is)
    (case i_Shelf_can_take => k_is)
    (case l_Shelf_can_take => k_is)
    (case c_Shelf_can_take => k_is)
    (case k_Shelf_can_take => k_is)
    (case z_Shelf_can_return => k_is)
    (case i_Shelf_can_return => k_is)
    (case l_Shelf_can_return => k_is)
    (case c_Shelf_can_return => k_is)
    (case k_Shelf_can_return => k_is)
    (case z_Shelf_first_gap => k_is)
    (case i_Shelf_first_gap => k_is)
    (case l_Shelf_first_gap => k_is)
    (case c_Shelf_first_gap => k_is)
    (case k_Shelf_first_gap => k_is)
    (case z_Shelf_take_from => k_is)
    (case i_Shelf_take_from => k_is)
    (case l_Shelf_take_from => k_is)
    (case c_Shelf_take_from => k_is)
    (case k_Shelf_take_from => k_is)
    (case z_Shelf_put_back => k_is)
    (case i_Shelf_put_back => k_is)
    (case l_Shelf_put_back => k_is)
    (case c_Shelf_put_back => k_is)
    (case k_Shelf_put_back => k_is)
    (case z_Shelf_revert_take => k_is)
    (case i_Shelf_revert_take => k_is)
    (case l_Shelf_revert_take => k_is)
    (case c_Shelf_revert_take => k_is)
    (case k_Shelf_revert_take => k_is)
    (case z_Shelf_revert_return => k_is)
    (case i_Shelf_revert_return => k_is)
    (case l_Shelf_revert_return => k_is)
    (case c_Shelf_revert_return => k_is)
    (case k_Shelf_revert_return => k_is)
    (case z_LiveShelf_init => k_is)
    (case i_LiveShelf_init => k_is)
    (case l_LiveShelf_init => k_is)
    (case c_LiveShelf_init => k_is)
    (case k_LiveShelf_init => k_is)
    (case z_LiveShelf_take_book => k_is)
    (case i_LiveShelf_take_book => k_is)
    (case l_LiveShelf_take_book => k_is)
    (case c_LiveShelf_take_book => k_is)
    (case k_LiveShelf_take_book => k_is)
    (case z_LiveShelf_return_book => k_is)
    (case i_LiveShelf_return_book => k_is)
    (case l_LiveShelf_return_book => k_is)
    (case c_LiveShelf_return_book => k_is)
    (case k_LiveShelf_return_book => k_is)
    (case z_LiveShelf_undo => k_is)
    (case i_LiveShelf_undo => k_is)
    (case l_LiveShelf_undo => k_is)
    (case c_LiveShelf_undo => k_is)
    (case k_LiveShelf_undo => k_is)
    (case z_LiveShelf_current_books => k_is)
    (case i_LiveShelf_current_books => k_is)
    (case l_LiveShelf_current_books => k_is)
    (case c_LiveShelf_current_books => k_is)
    (case k_LiveShelf_current_books => k_is)
    (case z_LiveShelf_current_gaps => k_is)
    (case i_LiveShelf_current_gaps => k_is)
    (case l_LiveShelf_current_gaps => k_is)
    (case c_LiveShelf_current_gaps => k_is)
    (case k_LiveShelf_current_gaps => k_is)
    (case z_LiveShelf_current_out => k_is)
    (case i_LiveShelf_current_out => k_is)
    (case l_LiveShelf_current_out => k_is)
    (case c_LiveShelf_current_out => k_is)
    (case k_LiveShelf_current_out => k_is)
    (case z_LiveShelf_current_schedule => k_is)
    (case i_LiveShelf_current_schedule => k_is)
    (case l_LiveShelf_current_schedule => k_is)
    (case c_LiveShelf_current_schedule => k_is)
    (case k_LiveShelf_current_schedule => k_is)
    (case z_numbers_text => k_is)
    (case l_numbers_text => k_is)
    (case c_numbers_text => k_is)
    (case k_numbers_text => k_is)
    (case z_operations_text => k_is)
    (case l_operations_text => k_is)
    (case c_operations_text => k_is)
    (case k_operations_text => k_is)
    (case z_read_number => k_is)
    (case l_read_number => k_is)
    (case c_read_number => k_is)
    (case k_read_number => k_is)
    (case z_text_or_none => k_is)
    (case l_text_or_none => k_is)
    (case c_text_or_none => k_is)
    (case k_text_or_none => k_is)
    (case z_undo_last => k_is)
    (case l_undo_last => k_is)
    (case c_undo_last => k_is)
    (case k_undo_last => k_is)
    (case z_show_books => k_is)
    (case l_show_books => k_is)
    (case c_show_books => k_is)
    (case k_show_books => k_is)
    (case z_show_gaps => k_is)
    (case l_show_gaps => k_is)
    (case c_show_gaps => k_is)
    (case k_show_gaps => k_is)
    (case z_show_out => k_is)
    (case l_show_out => k_is)
    (case c_show_out => k_is)
    (case k_show_out => k_is)
    (case z_show_schedule => k_is)
    (case l_show_schedule => k_is)
    (case c_show_schedule => k_is)
    (case k_show_schedule => k_is)
    (case z_show_size => k_is)
    (case l_show_size => k_is)
    (case c_show_size => k_is)
    (case k_show_size => k_is)
    (case z_read_line => k_is)
    (case l_read_line => k_is)
    (case c_read_line => k_is)
    (case k_read_line => k_is)
    (case z_Console_init => k_is)
    (case i_Console_init => k_is)
    (case l_Console_init => k_is)
    (case c_Console_init => k_is)
    (case k_Console_init => k_is)
    (case z_Console_execute => k_is)
    (case i_Console_execute => k_is)
    (case l_Console_execute => k_is)
    (case c_Console_execute => k_is)
    (case k_Console_execute => k_is)
    (case z__law_reel => k_is)
    (case l__law_reel => k_is)
    (case c__law_reel => k_is)
    (case k__law_reel => k_is)
    (case z__law_draw => k_is)
    (case l__law_draw => k_is)
    (case c__law_draw => k_is)
    (case k__law_draw => k_is)
    (case z__law_moved => k_is)
    (case l__law_moved => k_is)
    (case c__law_moved => k_is)
    (case k__law_moved => k_is)
    (case z__law_next => k_is)
    (case l__law_next => k_is)
    (case c__law_next => k_is)
    (case k__law_next => k_is)
    (case z__law_kind_of => k_is)
    (case l__law_kind_of => k_is)
    (case c__law_kind_of => k_is)
    (case k__law_kind_of => k_is)
    (case z__law_error => k_is)
    (case l__law_error => k_is)
    (case c__law_error => k_is)
    (case k__law_error => k_is)
    (case z__law_seen => k_is)
    (case l__law_seen => k_is)
    (case c__law_seen => k_is)
    (case k__law_seen => k_is)
    (case z__law_no_lines => k_is)
    (case l__law_no_lines => k_is)
    (case c__law_no_lines => k_is)
    (case k__law_no_lines => k_is)
    (case z_law => k_is)
    (case l_law => k_is)
    (case c_law => k_is)
    (case k_law => k_is)
    (case z_ANSWERS => k_is)
    (case wd_ANSWERS => (refine' ⟨_, _, ⟨?at_, ?lit, ?low⟩, ?e⟩; (case at_ => k_is); (case lit => repeat (first | exact trivial | refine ⟨⟨_, _, rfl, rfl⟩, ?_⟩)); (case low => (first | rfl | decide +kernel)); (case e => rfl)))
