import PyProof.Rows.All
import Wide.All
import OpenK.AllK
import Wide.FinOn
import HandS.ForMost
import HandS.IsInst
import HandS.Conv
import HandS.Style
import HandS.Wide
import HandS.SortInts
import HandS.ForExc
import HandS.SetFor
import HandS.Walk
import HandS.Gcd
import HandS.SortKw
import HandS.Dict
import HandS.NoneIn
import HandS.List
import HandS.StrMore
import HandS.RaiseMore
import PyProof.ReprRoads
import PyProof.ReprLen
import HandS.Zip
import HandS.DictComp
import PyProof.TupleOfSeq
import KE.GoesMore
import KE.GoesZip
import HandS.Text
import HandS.More
import HandS.SlotsOwn
import HandS.Property
import HandS.ClsMeth
import KE.DataMinMax
import KE.KDictZip
import PyProof.StrOps2
import HandS.Comp
import HandS.CallLocal
import KE.KMathGC
import PySem.Challenge.RW_leftreturn_k42_sorting_schedules_counted
set_option Elab.async false
set_option linter.all false
set_option maxRecDepth 100000
set_option maxHeartbeats 4000000
/-! defs that may be run only where no repr is under way: the promise FnG beside FnOk; repr of data -/
namespace LG
open PySem PySem.Spec PyProof.Rows L2
structure FnG (P : Program) (w : World) (K : PySem.W.Frag) (mg : Str → Option Value) (base : Heap) (CX : CXT) (k : Nat) (f : Addr) (fd : FuncData) (ps : List Str) (sp : Sp) : Prop where
  arity : ∀ vs H Q E, sp vs H Q E → vs.length = ps.length
  does : ∀ (A : Around) (out : List Env) (s : Shared) (H : Hp) (ar : Args) (us : List Value) (vs : List V) (Q : VK) (E : XK), A.guards = some [] →
    Room k A → Env0 P w K mg base A out s H → BindsTo s fd ar (ps.zip us) → Vals vs us → sp vs H Q E → codeAny (model P w) A (.call (.ref f) ar) (CR CX out P w H s Q E) s
section
variable {P : Program} {w : World} {K : PySem.W.Frag} {mg : Str → Option Value} {base : Heap} {CX : CXT}
theorem FnG.up {j k : Nat} {f : Addr} {fd : FuncData} {ps : List Str} {sp : Sp} (F : FnG P w K mg base CX j f fd ps sp) (h : j ≤ k) : FnG P w K mg base CX k f fd ps sp :=
  ⟨F.arity, fun A out s H ar us vs Q E hg hr => F.does A out s H ar us vs Q E hg (hr.mono h)⟩
theorem fnG_of {k : Nat} {f : Addr} {name qual : Str} {params : Arguments} {body : List Stmt} {scope : Scope} {dV kV doc pm cdv ct oc : Value} {an od : Option Addr} {osl : Array (Option Value)} {N ps : List Str} {sp : Sp}
    (lk : K.lookup f = some ⟨oc, od, .func (PySem.W.fnOf name qual params body scope dV kV doc pm an cdv ct), osl⟩) (cd : PySem.W.codeIn K cdv qual = true) (S : FnScope N ps scope) (ar : ∀ vs H Q E, sp vs H Q E → vs.length = ps.length)
    (hb : ∀ (A : Around) (out : List Env) (s : Shared) (H : Hp) (vs : List V) (Q : VK) (E : XK), A.guards = some [] → Room k (A.deeper (envOfC qual scope s.heap.objs.size f cdv)) → sp vs H Q E →
      ∃ t, PSs (cxOf CX P w K mg base N qual scope f cdv A out s H E) body t ∧ t ⟨fun _ H1 => Q .non H1, Q, fun _ _ => False, fun _ _ => False⟩ (start N vs) H) :
    FnG P w K mg base CX (k + 1) f (PySem.W.fnOf name qual params body scope dV kV doc pm an cdv ct) ps sp := by
  constructor
  · exact ar
  intro A out s H args us vs Q E hgd hr e0 bnd rel want
  obtain ⟨t, der, wish⟩ := hb A out s H vs Q E hgd (hr.deeper _) want
  have old := fun b o (e : base.get? b = some o) => (e0.bs b o e).1
  have kin : K.In s.heap := e0.mod.kin.keeps old
  have slots : ∀ y ∈ ps.zip us, scope.names.lookup y.1 = some .local ∨ scope.names.lookup y.1 = some .cell ∧ ((cellsFrom (s.heap.objs.size + 1) scope.names []).lookup y.1).isSome = true := by
    rintro ⟨nm, v⟩ mem
    have z := S.par nm (List.of_mem_zip mem).1
    exact z.imp id fun c => ⟨c, PySem.W.cellsFrom_some _ _ _ (Or.inl c)⟩
  apply codeAny_call_function hr.depth (kin _ _ lk) rfl S.co S.gen rfl (PySem.W.codeRec_of kin cd)
  apply bnd
  apply wpAny_newFunctionEnv_cells S.kind slots
  rintro env rfl s1 inC
  refine ⟨(e0.mod.nolimit.keeps old).keeps inC.toInCall.keep, ?_⟩
  apply codeAny_func
  have J := inv_start (CX := CX) (E := E) S hr.hd e0 (ar _ _ _ _ want) rel inC
  apply wpAny_mono (der.run [] s1 (start N vs) H _ J wish)
  · intro fl s2 got
    cases fl with
    | next => obtain ⟨σ2, H2, J2, q⟩ := got; exact ⟨V.non, H2, J2.os, J2.bare, J2.base, J2.hok, rfl, q⟩
    | ret u => obtain ⟨v, σ2, H2, J2, rv, q⟩ := got; exact ⟨v, H2, J2.os, J2.bare, J2.base, J2.hok, rv, q⟩
    | brk => obtain ⟨_, _, _, q⟩ := got; exact q.elim
    | cont => obtain ⟨_, _, _, q⟩ := got; exact q.elim
  · exact fun _ _ z => z
/-- a def of the text by its body, where nothing is raised -/
theorem okG {x qual : Str} {st : Stmt} {f : Addr} {fd : FuncData} {N ps : List Str} {k : Nat} {sp : Sp} (F : Fun K x qual st f fd) (S : FnScope N ps (defScope st)) (ar : ∀ vs H Q E, sp vs H Q E → vs.length = ps.length)
    (hb : ∀ (cdv : Value) (A : Around) (out : List Env) (s : Shared) (H : Hp) (vs : List V) (Q : VK) (E : XK), A.guards = some [] → Room k (A.deeper (envOfC qual (defScope st) s.heap.objs.size f cdv)) → sp vs H Q E →
      ∃ t, PSs (cxOf CX0 P w K mg base N qual (defScope st) f cdv A out s H E).nox (defBody st) t ∧ t ⟨fun _ H1 => Q .non H1, Q, fun _ _ => False, fun _ _ => False⟩ (start N vs) H) : FnG P w K mg base CX0 (k + 1) f fd ps sp := by
  obtain ⟨oc, od, kV, doc, pm, an, cdv, ct, osl, rfl, lk, cd⟩ := F.ex
  refine fnG_of lk cd S ar fun A out s H vs Q E hgd hr want => ?_
  obtain ⟨t, der, wish⟩ := hb cdv A out s H vs Q E hgd hr want
  exact ⟨t, der.nox, wish⟩
theorem of_ok {k : Nat} {f : Addr} {fd : FuncData} {ps : List Str} {sp : Sp} (F : FnOk P w K mg base CX k f fd ps sp) : FnG P w K mg base CX k f fd ps sp :=
  ⟨F.len, fun A out s H ar us vs Q E _ hr => F.run A out s H ar us vs Q E hr⟩
end
section
variable {X : Cx} {CX : CXT} {k : Nat} {f : Addr} {fd : FuncData} {ps : List Str} {sp : Sp} {dvs : List V} {ds : List Value} {E : XK} {x : Str} {p pos : Pos} {e : Expr} {es : List Expr} {t : TA}
/-- f(e, ..), f such a def -/
theorem pe_callG (F : FnG X.prog X.w X.K X.mg X.base CX k f fd ps sp) (hgd : X.A.guards = some []) (hr : Room k X.A) (hg : Gl X x) (hm : X.mg x = some (.ref f)) (hk : PySem.W.keepIn X.K (.ref f) = true) (hb : Binds X.K fd ps ds) (hd : Vals dvs ds) (hx : Passes CX X E)
    (ha : PA X (e :: es) t) (hdb : (x == ("__debug__" : Str)) = false := by decide) (he : starEach (e :: es) X.env = (false, eval e X.env) :: starEach es X.env := by rfl) (hpl : (backTo pos (starEach es X.env)).any (·.1) = false := by rfl) :
    PE X (.Call (.Name x p) (e :: es) [] pos) (tCall sp dvs E t) := by
  constructor
  intro pins s σ H Q I want
  apply wpAny_Call_Name_kw (ld_glob I hg hm _ hdb)
  apply PySem.W.callWith_K (h₀ := X.base) I.ok.mod.kin hk (thn (ha.run pos pins s σ H _ I want) _) he hpl
  rintro us s1 ⟨vs, H1, J, rel, q⟩
  have rel2 : Vals (vs ++ dvs) (us ++ ds) := rel.append hd
  have len : (us ++ ds).length = ps.length := rel2.length.symm.trans (F.arity _ _ _ _ q)
  refine ⟨J.kIn, wpAny_call (codeAny_mono (F.does X.A X.stack s1 H1 ⟨us, []⟩ _ _ Q E hgd hr J.env0 (hb s1 us J.kIn len) rel2 q) ?_)⟩
  intro r s2 got
  match r, got with
  | .error err, got => exact hx pins σ H1 s1 err s2 J got
  | .ok (.ret u), got => exact J.after got
  | .ok .next, got => exact got.elim
  | .ok .brk, got => exact got.elim
  | .ok .cont, got => exact got.elim
/-- repr of a list or a tuple of data -/
def rRepr (K : PySem.W.Frag) : List V → Hp → VK → Prop := fun xs H Q => ∃ (a : Addr) (d : PyData), xs = [.ref a] ∧ Dp K H (.ref a) d ∧ d.showable = true ∧ SeqAt.shaped d = true ∧ d.shown.length ≤ sizeLine ∧ Q (.str d.shown) H
theorem call_repr (hgd : X.A.guards = some []) (hu : X.A.units + 66 < cLine) : CallR X (.builtin "repr") (rRepr X.K) := by
  rintro pins s σ H xs us Q I rel ⟨a, d, rfl, hd, sh, sp, len, q⟩
  obtain ⟨u, rfl, ru⟩ := vals1 rel
  obtain ⟨as, rd⟩ := Dp.reads I d (.ref a) u hd ru
  cases ru
  have dep := SeqAt.depth_of_shaped sp
  refine repr_of_reads' rd sh (PyData.noDict_hsm (PyData.hasDict_of_canLay d (SeqAt.canLay_of_shaped sp))) hgd (by omega) (fun _ _ z => z) (fun h1 u1 tk keep => ?_) len
  exact ⟨.str d.shown, H, I.kept keep, ⟨_, rfl⟩, q⟩
end
/-! the end of a law's row -/
theorem law_callG {P : Program} {w : World} {K : PySem.W.Frag} {mg mb : Str → Option Value} {k : Nat} {fa a : Addr} {fd : FuncData} {x : Str} {sp : Sp} {s : Shared} {vs : List Value} {ns : List Int}
    (kin : K.In s.heap) (gns : s.heap.Ns mainGlobals mg) (bns : s.heap.Ns builtinsNs mb) (hbb : ∀ x : Str, x ≠ "__name__" → mb x = bootBuiltins x) (lim : s.heap.NoLimit) (gens : s.gens = #[])
    (obj : s.heap.get? a = some { cls := .type "list", data := .seq vs.toArray }) (hin : IntsAre vs ns) (len : ns.length ≤ sizeLine) (hr : Room k callerA)
    (F : ∀ base : Heap, K.In base → base.Ns mainGlobals mg → FnG P w K mg base CX0 k fa fd [x] sp) (bnd : ∀ (s : Shared) (u : Value), BindsTo s fd ⟨[u], []⟩ [(x, u)])
    (want : ∀ H : Hp, Only H → SqL K H a (ns.map V.int) → sp [.ref a] H (fun v _ => v = .bl true) fun _ _ _ => False) :
    codeAny (model P w) callerA (.call (.ref fa) ⟨[.ref a], []⟩) (fun r s1 => r = .ok (.ret (.bool true)) ∧ OldK s.heap s1.heap ∧ s1.os = s.os ∧ AllBare s1.gens) s := by
  have rel := vals_ints hin
  have nlen := hin.length
  obtain ⟨H, hH⟩ : ∃ H : Hp, ∀ b, H b = if b = a ∧ K.lookup a = none then some (.frz { cls := .type "list", data := .seq vs.toArray } (.lst (ns.map V.int))) else none := ⟨_, fun b => rfl⟩
  have off : ∀ {b o}, s.heap.get? b = some o → (b = a → K.lookup a ≠ none) → H b = none := fun {b o} _ hne => by
    rw [hH, if_neg fun z => hne z.1 z.2]
  have at_ : ∀ b u, H b = some u → b = a ∧ K.lookup a = none ∧ u = .frz { cls := .type "list", data := .seq vs.toArray } (.lst (ns.map V.int)) := fun b u z => by
    rw [hH] at z
    by_cases c : b = a ∧ K.lookup a = none
    · rw [if_pos c] at z; exact ⟨c.1, c.2, (Option.some.inj z).symm⟩
    · rw [if_neg c] at z; cases z
  have only : Only H := fun b => by
    cases z : H b with
    | none => exact Or.inl rfl
    | some u => obtain ⟨_, _, rfl⟩ := at_ b u z; exact Or.inr ⟨_, _, rfl⟩
  have seq : SqL K H a (ns.map V.int) := by
    cases z : K.lookup a with
    | none => exact Or.inl (Or.inr ⟨_, by rw [hH, if_pos ⟨rfl, z⟩]⟩)
    | some o =>
      have e := kin a o z
      rw [obj] at e
      cases e
      exact Or.inr ⟨_, vs.toArray, _, z, rfl, rfl, rfl, by rw [List.size_toArray, nlen]; exact len, by simpa using rel⟩
  have hok : HOk P w H s.heap := fun b u z => by
    obtain ⟨rfl, _, rfl⟩ := at_ b u z
    exact ⟨obj, by rw [List.length_map]; exact len, vs, _, rel, obj⟩
  have kept : ∀ {b o}, s.heap.get? b = some o → H b = none → (hidT s.heap H).get? b = some o := fun e z => hidT_get e z
  have dicts : ∀ {b o es n}, s.heap.get? b = some o → o.data = .dict es n → H b = none := fun {b o es n} e d => off e fun q => by
    rw [q, obj] at e
    cases e
    have d2 : Data.seq vs.toArray _ = Data.dict es n := d
    cases d2
  have names : ∀ {b m}, s.heap.Ns b m → (hidT s.heap H).Ns b m := fun ⟨o, es, n, e, d, r⟩ => ⟨o, es, n, kept e (dicts e d), d, r⟩
  have kin2 : K.In (hidT s.heap H) := fun b o e => kept (kin b o e) (off (kin b o e) fun q => by rw [← q, e]; exact fun z => nomatch z)
  have lim2 : (hidT s.heap H).NoLimit := let ⟨mc, l1, l2⟩ := lim; ⟨mc, names l1, l2⟩
  have e0 : Env0 P w K mg (hidT s.heap H) callerA [] s H := ⟨rfl, ⟨kin2, names gns, ⟨mb, names bns, hbb⟩, lim2⟩, fun b o e => of_hidT e, Nat.le_of_eq (hidT_size _ _), trivial, fun b m => (by cases (show b ∈ ([] : List Addr) from m)), hok, .of_eq gens⟩
  refine codeAny_mono ((F _ kin2 (names gns)).does callerA [] s H ⟨[.ref a], []⟩ [.ref a] [.ref a] _ _ rfl hr e0 (bnd s (.ref a)) (.cons rfl .nil) (want H only seq)) ?_
  intro r s1 got
  match r, got with
  | .error _, got => exact got.elim
  | .ok .next, got => exact got.elim
  | .ok .brk, got => exact got.elim
  | .ok .cont, got => exact got.elim
  | .ok (.ret u), got =>
    obtain ⟨v, H1, os, bare, un, hok1, ru, q⟩ := got
    cases (show v = .bl true from q)
    cases (show u = Value.bool true from ru)
    refine ⟨rfl, OldK.of_keep fun b o e => ?_, os, bare⟩
    cases z : H b with
    | none => exact un.keep b o e z (by intro y; cases (show b ∈ ([] : List Addr) from y)) (by simp)
    | some u =>
      obtain ⟨rfl, _, rfl⟩ := at_ b u z
      have y := un.frzs b _ _ z
      rw [obj] at e
      cases e
      exact (hok1 b _ y).1
theorem walk_ofG {l : PySem.W.OpenLaw} {n k : Nat} {q : Program} {loose : List Str} {XP : (Str → Option Value) → Heap → Prop} {YP : World → Heap → Prop} {d : DefRec} {K : Params → PySem.W.Frag} {sp : PySem.W.Frag → Sp} {x : Str}
    (hn : l.most = some n) (hn2 : n ≤ sizeLine) (hdf : d.params.defaults = []) (hr : Room k callerA) (hY : ∀ (w : World) (h : Heap), YP w h → (K w.params).In h)
    (F : ∀ (w : World) (mg : Str → Option Value) (fa : Addr) (h : Heap), (K w.params).In h → h.Ns mainGlobals mg → mg d.name = some (.ref fa) →
      ∃ fd : FuncData, (∀ (s : Shared) (u : Value), BindsTo s fd ⟨[u], []⟩ [(x, u)]) ∧ ∀ base : Heap, (K w.params).In base → base.Ns mainGlobals mg → FnG l.prog w (K w.params) mg base CX0 k fa fd [x] (sp (K w.params)))
    (want : ∀ (K : PySem.W.Frag) (H : Hp) (a : Addr) (ns : List Int), ns.length ≤ n → Only H → SqL K H a (ns.map V.int) → sp K [.ref a] H (fun v _ => v = .bl true) fun _ _ _ => False) :
    PySem.W.WalkO q loose XP YP l.row.toRowW d [] (fun f vs => PySem.call f vs) := by
  apply Att.attach_call hn hdf
  intro w s0 s1 mg mb fa o pm cd doc a vs ns G Y ho hd hcd hmg obj hin len gens
  have kin := hY w _ Y
  obtain ⟨fd, bnd, does⟩ := F w mg fa _ kin G.T.g hmg
  exact law_callG kin G.T.g G.T.b G.T.builtins G.T.nolimit gens obj hin (Nat.le_trans len hn2) hr does bnd fun H o q => want _ H a ns len o q
end LG

namespace LT
open PySem PySem.Spec PyProof.Rows L2
section
variable {prog : Program} {w : World} {A : Around} {E : Value → Shared → Prop} {s : Shared}
/-- what is to be iterated is gathered into a new list; the heap does not get shorter -/
theorem gather {Q : List Value → Shared → Prop} (l : Addr) {T : String} {o : Obj} {its : Array Value} {n : Nat} (hT : T = "list" ∨ T = "tuple") (ho : s.heap.get? l = some o) (hc : o.cls = .type T) (hd : o.data = .seq its n) (hz : its.size ≤ sizeLine)
    (fin : ∀ h1 : Heap, s.heap.objs.size ≤ h1.objs.size → (∀ b u, s.heap.get? b = some u → h1.get? b = some u) → Q its.toList { s with heap := h1 }) : wpAny (model prog w) A (collect (.ref l)) Q E s := by
  unfold collect
  refine wpAny_bind (wpAny_runValue (codeAny_builtin PySem.F.entry_proto_collect ?_))
  rw [Around.under_plainId PySem.F.plain_proto_collect _]
  refine wpAny_bind (m := newList []) (wpAny_newObj_type ?_)
  refine wpAny_pure ⟨plainId_quiet PySem.F.plain_list_iadd _, codeAny_builtin PySem.F.entry_list_iadd ?_⟩
  rw [Around.under_plainId PySem.F.plain_list_iadd _]
  generalize hp : s.heap.push { cls := .type "list", data := .seq ([] : List Value).toArray } = h0
  have e0 : h0.get? s.heap.objs.size = some { cls := .type "list", data := .seq #[] 0 } := by rw [← hp]; exact Heap.get?_push_size _ rfl
  have k0 : ∀ b u, s.heap.get? b = some u → h0.get? b = some u := fun b u q => by rw [← hp]; exact Heap.get?_push_of_some _ q
  have z0 : s.heap.objs.size ≤ h0.objs.size := by rw [← hp, Heap.size_push]; exact Nat.le_succ _
  have e1 := Heap.get?_update_self (Obj.mapSeq (· ++ its)) e0 rfl
  have last : Q its.toList { s with heap := h0.update s.heap.objs.size (Obj.mapSeq (· ++ its)) } :=
    fin _ (by rw [Heap.size_update]; exact z0) fun b u q => (Heap.get?_update_other _ _ (Nat.ne_of_gt (Heap.lt_size q))).trans (k0 b u q)
  have tail : wpAny (model prog w) A (do match (← load s.heap.objs.size).data with
      | Data.seq xs _ => pure xs.toList
      | _ => unsupported "internal:collect") Q E { s with heap := h0.update s.heap.objs.size (Obj.mapSeq (· ++ its)) } := by
    refine wpAny_bind (wpAny_load e1 (wpAny_pure ?_))
    show Q ((#[] : Array Value) ++ its).toList _
    rw [show ((#[] : Array Value) ++ its).toList = its.toList by simp]
    exact last
  refine wpAny_mono (wpAny_extend_seq (hsz := hz) (A := A) (R := fun r t => r = .ok (.ret (.ref s.heap.objs.size)) ∧ t = { s with heap := h0.update s.heap.objs.size (Obj.mapSeq (· ++ its)) })
    (s := { s with heap := h0 }) _ l _ 0 hT e0 (k0 _ _ ho) hc hd ⟨rfl, rfl⟩) (fun r t q => ?_) fun _ t q => absurd q.1 (by simp)
  cases r with
  | done f =>
    obtain ⟨e, rfl⟩ := q
    cases e
    exact tail
  | again c => exact ⟨q.1, codeAny_mono q.2 fun r u hr => by obtain ⟨rfl, rfl⟩ := hr; exact tail⟩
open Srt SrtO in
/-- sorted(x), x a list or a tuple: a new list -/
theorem sorted_seq {l : Addr} {T : String} {o : Obj} {vs : List Value} {n : Nat} {ltv : Value → Value → Bool} {Q : Value → Shared → Prop} (O : Swo ltv) (hT : T = "list" ∨ T = "tuple") (ho : s.heap.get? l = some o) (hc : o.cls = .type T) (hd : o.data = .seq vs.toArray n) (hz : vs.length ≤ sizeLine)
    (hS : 2 ≤ vs.length → ∀ (h₁ : Heap) (a : Addr), h₁.get? a = some (seqObj "list" vs.toArray 0) → (∀ b o, s.heap.get? b = some o → b ≠ a ∧ h₁.get? b = some o) → SortableO prog w A.in1.in1 { s with heap := h₁ } a vs ltv)
    (h : ∀ (out : List Value) (p : Addr) (h' : Heap), Srtd ltv out → Stb ltv out vs → s.heap.objs.size ≤ p → (∃ e, h'.get? p = some (seqObj "list" out.toArray e)) → (∀ b o, s.heap.get? b = some o → h'.get? b = some o) → Q (.ref p) { s with heap := h' }) :
    wpAny (model prog w) A (call (.builtin "sorted") [.ref l]) Q E s := by
  refine Calls.call_function_entry kind_sorted plain_sorted entry_sorted (args_sorted1 _) ?_
  unfold Builtin.«sorted»
  refine wpAny_bind (m := checkCount "sorted" 1 1 _) (wpAny_pure ?_)
  refine wpAny_bind (gather l hT ho hc hd (by rw [List.size_toArray]; exact hz) fun h1 hz2 k1 => ?_)
  refine wpAny_bind (wpAny_newList ?_ (by simpa using hz))
  have hoL : (h1.push (seqObj "list" vs.toArray 0)).get? h1.objs.size = some (seqObj "list" vs.toArray 0) := Heap.get?_push_size _ rfl
  have keep : ∀ b o, s.heap.get? b = some o → b ≠ h1.objs.size ∧ (h1.push (seqObj "list" vs.toArray 0)).get? b = some o := fun b o q =>
    ⟨Nat.ne_of_lt (Heap.lt_size (k1 b o q)), Heap.get?_push_of_some _ (k1 b o q)⟩
  show wpAny _ _ _ _ _ { s with heap := h1.push (seqObj "list" vs.toArray 0) }
  refine wpAny_bind (wpAny_holding (wpAny_call_entry slot_list_sort ⟨_, hoL, rfl⟩ entry_list_sort (list_sort_ord O hoL hz (fun h2 => hS h2 _ _ hoL keep) fun out hs hb => ⟨_, rfl, ?_⟩) (args_list_sort _)))
  refine wpAny_pure ⟨_, rfl, h out _ _ hs hb hz2 (sortedHeap_at hoL) fun b o q => ?_⟩
  obtain ⟨ne, q1⟩ := keep b o q
  rw [sortedHeap_old ne (Heap.lt_size q1)]
  exact q1
end
/-- sorted(xs), xs a list or a tuple of ints -/
def rSortedE (K : PySem.W.Frag) : List V → Hp → VK → Prop := fun vs H Q => ∃ (a : Addr) (ns : List Int), vs = [V.ref a] ∧ (SqL K H a (ns.map V.int) ∨ SqT K H a (ns.map V.int)) ∧
  ∀ (ns' : List Int) (p : Addr), ns'.Perm ns → ns'.Pairwise (· ≤ ·) → H p = none → Q (.ref p) (upd H p (.lst (ns'.map V.int)))
theorem cr_sortedE {X : Cx} : CallR X (.builtin "sorted") (rSortedE X.K) := by
  intro pins s σ H vs us Q I r h
  obtain ⟨a, ns, rfl, hs, q⟩ := h
  rcases hs with hs | hs
  · exact cr_sortedI pins s σ H _ us Q I r ⟨a, ns, rfl, hs, q⟩
  obtain ⟨its, rv, ⟨o, ho, hc, n, hd⟩, hz⟩ := I.tuple hs
  rw [Vals.ref1 r]
  have hi := rv.ints
  refine sorted_seq SrtO.swo_int (.inr rfl) ho hc hd (by rw [← rv.length]; exact hz) (fun h2 h₁ a' _ _ => SrtO.ints_sortable hi h2) fun out p h' h1 h2 le at_ keep => ?_
  obtain ⟨k1, k2, k3⟩ := SrtO.ints_out hi h1 h2
  obtain ⟨ep, he'⟩ := at_
  have hlen : ((out.map SrtO.iv).map V.int).length ≤ sizeLine := by
    rw [List.length_map, k2.length_eq]
    rw [List.length_map] at hz
    exact hz
  exact ⟨.ref p, upd H p (.lst ((out.map SrtO.iv).map V.int)), I.laid (t' := s.toks) keep le ⟨hlen, out, ep, vals_of_ints k1, he'⟩, rfl, q _ _ k2 k3 (I.hok.fresh le)⟩
/-- len(set(xs)), xs a list or a tuple of ints, each once -/
def tLenSetS (K : PySem.W.Frag) (ta : TE) : TE := fun σ H Q => ta σ H fun x H1 => ∃ (l : Addr) (ns : List Int), x = .ref l ∧ (SqL K H1 l (ns.map V.int) ∨ SqT K H1 l (ns.map V.int)) ∧ ns.Nodup ∧ ns.length ≤ 4000 ∧ Q (.int (ns.length : Nat)) H1
theorem pe_lenSetS {X : Cx} {a : Expr} {ta : TE} {p p2 q pos : Pos} (hg : Gl X "len") (hm : X.mg "len" = none) (hg2 : Gl X "set") (hm2 : X.mg "set" = none) (ha : PE X a ta) (hc : X.calm = true := by rfl)
    (na : starEach [a] X.env = (false, eval a X.env) :: starEach [] X.env := by rfl) : PE X (.Call (.Name "len" p) [.Call (.Name "set" p2) [a] [] q] [] pos) (tLenSetS X.K ta) := by
  refine ⟨fun pins s σ H Q I h => ?_⟩
  refine Call_ (ld_blt I hg hm boot_len ?_)
  refine PyProof.Rows.callWith_builtin1 (PyProof.Rows.args_cons ?_ rfl) rfl rfl
  refine Call_ (ld_blt I hg2 hm2 boot_set ?_)
  refine PyProof.Rows.callWith_type1 (PyProof.Rows.args_cons (thn (ha.run pins s σ H _ I h) fun v s1 ⟨x, H1, I1, r1, q1⟩ => PyProof.Rows.args_nil ?_) na) na rfl
  obtain ⟨l, ns, rfl, hq, hnd, hl, q1⟩ := q1
  cases r1
  rcases hq with hq | hq
  · obtain ⟨its, r, pl, hz⟩ := I1.list hq
    have hlen : its.toArray.size = ns.length := by rw [List.size_toArray, ← r.length, List.length_map]
    refine call_set_list (I1.ok.hd hc) pl.isList (by simpa using RZ.intsAre_vals r) (by rw [hlen]; unfold scanBound; omega) fun h' tk hS hk => ?_
    refine PyProof.Rows.args_nil ?_
    rw [hlen, RZ.firstMet_nodup hnd ns.length (Nat.le_refl _), List.take_length] at hS
    obtain ⟨o, es, ep, t, ho, hex, hd, _, _, _, hf, hn⟩ := hS
    have I2 : Inv X pins σ H1 { s1 with heap := h', toks := tk } := I1.kept fun b o e => hk b o (Heap.lt_size e) e
    exact call_len_set ho hex hd hf (by rw [hn] <;> omega) ⟨.int ns.length, H1, I2.tok _, ⟨_, by rw [hn]⟩, q1⟩
  · obtain ⟨its, r, pl, hz⟩ := I1.tuple hq
    refine call_set_tupI ns (I1.ok.hd hc) (show s1.heap.IsTuple l its.toArray from pl) (by simpa using r.ints) (by unfold scanBound; omega) fun h' tk c R hcn hk => ?_
    refine PyProof.Rows.args_nil ?_
    obtain ⟨o, es, ep, t, ho, hex, hd, g, nd, mem, _, hf, hn, _⟩ := R
    have I2 : Inv X pins σ H1 { s1 with heap := h', toks := tk } := I1.kept fun b o e => hk b o e
    have hperm : (es.toList.map keyOf).Perm ns := (List.perm_ext_iff_of_nodup nd hnd).mpr fun k => by rw [← mem k, decide_eq_true_iff]
    have hes : es.size = ns.length := by have := hperm.length_eq; simpa using this
    exact call_len_set ho hex hd hf (by omega) ⟨.int ns.length, H1, I2.tok _, ⟨_, by rw [hes]⟩, q1⟩
/-- a dict comprehension over it: Pv by the turn and the heap (the new dict at D within) -/
theorem dc_it {J : It} {n : Nat} {G : Hp → Prop} {Y : Nat → Hp → V → Hp → Prop} (w : Walk J n G Y) {g : TG} {tt : TT} {tk tv : TE} {vs : List Nat} {σ : L2.St} {H1 : Hp} {D : Addr} {Qd : Hp → Prop} (Pv : Nat → Hp → Prop) (h0 : Pv 0 (upd H1 D (.dK []))) (hG : ∀ i H, i ≤ n → Pv i H → G H)
    (hs : ∀ i x H H', i < n → Pv i H → Y i H x H' → g x (wipe σ vs) H' fun σ2 H2 => wipe σ2 vs = wipe σ vs ∧ tt σ2 H2 fun b H3 =>
      if b = true then tk σ2 H3 fun y H4 => tv σ2 H4 fun z H5 => ∃ kvs k, y = kV k ∧ H5 D = some (.dK kvs) ∧ kvs.length < sizeLine ∧ Pv (i + 1) (upd H5 D (.dK (putK kvs k z))) else Pv (i + 1) H3) (hd : ∀ H, Pv n H → Qd H) :
    ∃ W : Nat → Nat → Hp → Prop, (∃ m, W 0 m (upd H1 D (.dK []))) ∧ ∀ i m H, W i m H →
      (J.stop i H ∧ Qd H) ∨ (J.go i H ∧ ∃ Nx : Hp → Prop, (∀ H', Nx H' → ∃ m', m' < m ∧ W (i + 1) m' H') ∧ ∀ x H', J.yld i H x H' → g x (wipe σ vs) H' fun σ2 H2 => wipe σ2 vs = wipe σ vs ∧ tt σ2 H2 fun b H3 =>
        if b = true then tk σ2 H3 fun y H4 => tv σ2 H4 fun z H5 => ∃ kvs k, y = kV k ∧ H5 D = some (.dK kvs) ∧ kvs.length < sizeLine ∧ Nx (upd H5 D (.dK (putK kvs k z))) else Nx H3) := by
  refine ⟨fun i m H => m = n - i ∧ i ≤ n ∧ Pv i H, ⟨n, by simp, Nat.zero_le _, h0⟩, ?_⟩
  rintro i m H ⟨rfl, hi, p⟩
  have q := hG i H hi p
  by_cases hlt : i < n
  · refine .inr ⟨w.goes i H hlt q, Pv (i + 1), fun H' p' => ⟨n - (i + 1), by omega, rfl, hlt, p'⟩, fun x H' y => hs i x H H' hlt p (w.yields i H x H' hlt q y)⟩
  · obtain rfl : i = n := by omega
    exact .inl ⟨w.stops H q, hd H p⟩
end LT

namespace LT
open PySem PySem.Spec PyProof.Rows L2
open Sem (wp)
open AutoSeq1 (wpAny_loadPart')
theorem meets_enum_tup (l : Addr) (items : Array Value) (n : Nat) (dct : Option Addr) (sl : Array (Option Value)) :
    Meets (Builtin.«enumerate.__new__» ⟨[.type "enumerate", .ref l], []⟩) (fun _ R s => s.heap.get? l = some { cls := .type "tuple", dict := dct, data := .seq items n, slots := sl } ∧
      R (.ok (.ret (.ref (s.heap.objs.size + 1))))
        { s with heap := (s.heap.push { cls := .type "tuple_iterator", data := .fields #[.ref l, .int 0 0] }).push { cls := .type "enumerate", data := .fields #[.none, .bool false, .ref s.heap.objs.size, rawInt 0, .none, .none] } }) :=
  .of_wp fun prog w A R s h => by
    obtain ⟨hp, g, d, tk, os⟩ := s
    obtain ⟨hl, h⟩ := h
    have sub := sub_enumerate
    have tup : Heap.IsTuple (Shared.heap ⟨hp, g, d, tk, os⟩) l items := ⟨_, hl, rfl, n, rfl⟩
    wp_walk using wpAny_loadPart' hl
    refine wpAny_stack_any fun st => wpAny_pure ?_
    have z : (hp.push { cls := .type "tuple_iterator", data := .fields #[.ref l, .int 0 0] }).objs.size = hp.objs.size + 1 := Heap.size_push ..
    split
    · rename_i c _ _ _ _ _
      cases (c == Value.type "enumerate")
      · wp_walk using wpAny_loadPart' hl, wpAny_pyIter_tuple tup
        exact ⟨_, rfl, by rw [z]; exact h⟩
      · wp_walk using wpAny_loadPart' hl, wpAny_pyIter_tuple tup
        exact ⟨_, rfl, by rw [z]; exact h⟩
    · wp_walk using wpAny_loadPart' hl, wpAny_pyIter_tuple tup
      exact ⟨_, rfl, by rw [z]; exact h⟩
section
variable {prog : Program} {w : World} {A : Around} {E : Value → Shared → Prop} {s : Shared}
theorem call_enum_tup {l : Addr} {items : Array Value} {Q : Value → Shared → Prop} (hl : s.heap.IsTuple l items)
    (h : ∀ h', IsEnum h' (s.heap.objs.size + 1) s.heap.objs.size 0 .none → h'.IsTupleIter s.heap.objs.size l 0 →
      (∀ b o, s.heap.get? b = some o → h'.get? b = some o) → Q (.ref (s.heap.objs.size + 1)) { s with heap := h' }) :
    wpAny (model prog w) A (call (.type "enumerate") [.ref l]) Q E s := by
  obtain ⟨⟨c, dct, dt, sl⟩, get, hc, n, hd⟩ := hl
  cases (show c = .type "tuple" from hc)
  cases (show dt = .seq items n from hd)
  refine callType_new F.called_enumerate (by decide) (F.typeCall_enumerate_1 _) (F.newCall_enumerate_1 _) (fun obj => F.args_object_init_2 obj _) F.entry_enumerate_new (meets_enum_tup l items n dct sl) ⟨get, ?_⟩
  have z : (s.heap.push { cls := .type "tuple_iterator", data := .fields #[.ref l, .int 0 0] }).objs.size = s.heap.objs.size + 1 := Heap.size_push ..
  have he := Heap.get?_push_size (s.heap.push { cls := .type "tuple_iterator", data := .fields #[.ref l, .int 0 0] }) (o := { cls := .type "enumerate", data := .fields #[.none, .bool false, .ref s.heap.objs.size, rawInt 0, .none, .none] }) rfl
  rw [z] at he
  exact ⟨⟨_, he, rfl⟩, h _ he ⟨_, Heap.get?_push_of_some _ (Heap.get?_push_size _ rfl), rfl, rfl⟩ fun b o x => Heap.get?_push_of_some _ (Heap.get?_push_of_some _ x)⟩
end
/-- the tuple at a, each item in a new pair with its place -/
def IteT (K : PySem.W.Frag) (a : Addr) : It :=
  ⟨fun i H => ∃ (xs : List V) (x : V), SqT K H a xs ∧ xs[i]? = some x, fun i H v H' => ∃ T x, v = .ref T ∧ H T = none ∧ H' = upd H T (.tup [.int (i : Nat), x]) ∧ ∀ xs, SqT K H a xs → xs[i]? = some x, fun i H => ∃ xs : List V, SqT K H a xs ∧ xs.length = i⟩
theorem apart_it {h : Heap} {it a : Addr} {i : Nat} {items : Array Value} (x : h.IsTupleIter it a i) (p : h.IsTuple a items) : a ≠ it := by
  rintro rfl
  obtain ⟨o, g, c, _⟩ := x
  obtain ⟨o2, g2, c2, _⟩ := p
  rw [g] at g2
  cases g2
  rw [c] at c2
  exact absurd c2 (by decide)
theorem turn_enumT {P : Program} {w : World} {K : PySem.W.Frag} {elts : List Expr} {kk : Nat} {tpos : Pos} (a e it : Addr) :
    Turn P w K (.Tuple elts kk tpos) (IteT K a) [e, it] e (fun i h => (∃ old, IsEnum h e it ((i : Nat) : Int) old) ∧ h.IsTupleIter it a i ∧ e ≠ it) where
  mem := List.mem_cons_self
  obj := fun i h ⟨⟨old, he⟩, ⟨o, ho, _, hd⟩, _⟩ b hb => by
    rcases List.mem_cons.mp hb with rfl | hb
    · exact ⟨_, he, fun v q => by cases q⟩
    · rw [List.mem_singleton.mp hb]; exact ⟨o, ho, fun v q => by rw [hd] at q; cases q⟩
  keep := fun i h h' ⟨⟨old, he⟩, hi, ne⟩ k => ⟨⟨old, k e List.mem_cons_self _ he⟩, hi.at fun o q => k it (List.mem_cons_of_mem _ List.mem_cons_self) o q, ne⟩
  item := by
    intro X hP hw hK hc i pins s σ H E I hf ⟨⟨old, he⟩, hit, ne⟩ ⟨xs, x, hq, hx⟩
    subst hP hw hK
    obtain ⟨its, rv, p, hz⟩ := I.tuple hq
    have tup : s.heap.IsTuple a its.toArray := p
    obtain ⟨u, hu, ru⟩ := rv.get hx
    have hi : i < its.toArray.size := by
      have := (List.getElem?_eq_some_iff.mp hu).1
      simpa using this
    have nai := apart_it hit tup
    have nea : e ≠ a := by
      rintro rfl
      obtain ⟨o2, g2, c2, _⟩ := tup
      rw [show s.heap.get? e = _ from he] at g2
      cases g2
      have c3 : Value.type "enumerate" = Value.type "tuple" := c2
      exact absurd c3 (by decide)
    have lte : e < s.heap.objs.size := Heap.lt_size he
    have lti : it < s.heap.objs.size := let ⟨_, q, _⟩ := hit; Heap.lt_size q
    refine wpAny_pyNext_enum_itemD (Draws.tuple (A := X.A.in1) (show X.A.in1.handled = none from I.ok.hd hc) it a nai its.toArray) he ⟨hit, tup⟩ hi ne (by simp [ne, nea]) fun y h1 tk hy out st new sz kept => ?_
    have ey : y = u := by
      have q : its.toArray[i]? = some u := by simpa using hu
      rw [q] at hy; exact (Option.some.inj hy).symm
    subst ey
    refine ⟨_, rfl, wpAny_letOwnedTupleGo_enum (s := { s with heap := h1, toks := tk + 1 }) out fun h2 he2 sb => ?_⟩
    have new2 := (sb.2 _ (Nat.ne_of_gt lte)).trans new
    have ob : ObjOk X.prog X.w (upd H s.heap.objs.size (.tup [.int (i : Nat), x])) h2 s.heap.objs.size (.tup [.int (i : Nat), x]) :=
      ⟨by show 2 ≤ sizeLine; decide, [.int i tk, y], .cons ⟨_, rfl⟩ (.cons ru .nil), ⟨_, new2, rfl, _, rfl⟩⟩
    have J : Inv X pins σ (upd H s.heap.objs.size (.tup [.int (i : Nat), x])) { s with heap := h2, toks := tk + 1 } :=
      I.turnedNew (ch := [e, it]) (fun b o nb q => (sb.2 b fun z => nb (by simp [z])).trans (kept b o (fun z => nb (by simp [z])) (fun z => nb (by simp [z])) q)) hf (Nat.le_refl _) ob
    refine ⟨.ref s.heap.objs.size, _, J, rfl, ⟨_, x, rfl, I.hok.fresh (Nat.le_refl _), rfl, fun ys hy => by rw [I.tuple_inj hy hq]; exact hx⟩, ⟨⟨y, ?_⟩, st.1.at fun o q => (sb.2 it ne.symm).trans q, ne⟩, fun b hb => ?_⟩
    · rw [show ((i + 1 : Nat) : Int) = (i : Int) + 1 by omega]; exact he2
    · have lt : b < s.heap.objs.size := by
        rcases List.mem_cons.mp hb with rfl | hb
        · exact lte
        · rw [List.mem_singleton.mp hb]; exact lti
      rw [upd_ne (Nat.ne_of_lt lt)]
      exact (hf b hb).1
  done := by
    intro X hP hw hK hc i pins s σ H E I hf ⟨⟨old, he⟩, hit, ne⟩ ⟨xs, hq, hx⟩
    subst hP hw hK
    obtain ⟨its, rv, p, hz⟩ := I.tuple hq
    have tup : s.heap.IsTuple a its.toArray := p
    have nai := apart_it hit tup
    have hl := rv.length
    have ei : i = its.toArray.size := by rw [List.size_toArray, ← hl]; exact hx.symm
    subst ei
    obtain ⟨f0, f1, f2, f3, f4, f5⟩ := hf it (by simp)
    exact wpAny_pyNext_enum_endD (Draws.tuple (A := X.A.in1) (show X.A.in1.handled = none from I.ok.hd hc) it a nai its.toArray) he ⟨hit, tup⟩ fun h1 eb => ⟨rfl, I.turned (t' := s.toks) (fun b o nb q => eb b o nb q) f0 f1 f3 f4 f5⟩
  self := fun A i s Q E ⟨⟨_, he⟩, _⟩ h => wpAny_pyIter_enum he h
def iEnumT (K : PySem.W.Frag) (ta : TA) : TI := fun σ H R => ta σ H fun vs H1 => ∃ a xs, vs = [.ref a] ∧ SqT K H1 a xs ∧ R (IteT K a) H1
/-- enumerate(t), t a tuple -/
theorem pi_enumT {X : Cx} {e : Expr} {ta : TA} {p pos tpos : Pos} {elts : List Expr} {kk : Nat} (hg : Gl X "enumerate") (hm : X.mg "enumerate" = none) (ha : PA X [e] ta) (hs : starEach [e] X.env = [(false, eval e X.env)] := by rfl) :
    PI X (.Tuple elts kk tpos) (.Call (.Name "enumerate" p) [e] [] pos) (iEnumT X.K ta) := by
  constructor
  intro pins s σ H R I want
  refine Call_ (ld_blt I hg hm boot_enumerate (PyProof.Rows.callWith_type1 (thn (ha.run pos pins s σ H _ I want) ?_) hs rfl))
  rintro us s1 ⟨vs, H1, J, rel, a, xs, rfl, hq, q⟩
  obtain ⟨u, rfl, ru⟩ := vals1 rel
  cases ru
  obtain ⟨its, rv, p2, hz⟩ := J.tuple hq
  refine call_enum_tup p2 fun h1 he hit keep => wpAny_pyIter_enum he ?_
  have J2 : Inv X pins σ H1 { s1 with heap := h1 } := J.kept (t' := s1.toks) keep
  refine ⟨s1.heap.objs.size + 1, [s1.heap.objs.size + 1, s1.heap.objs.size], _, _, H1, rfl, J2, turn_enumT a _ _, ⟨⟨.none, he⟩, hit, Nat.succ_ne_self _⟩, fun b hb => ?_, q⟩
  have le : s1.heap.objs.size ≤ b := by
    rcases List.mem_cons.mp hb with rfl | hb
    · exact Nat.le_add_right _ _
    · rw [List.mem_singleton.mp hb]; exact Nat.le_refl _
  exact J.fpOk le (J.hok.fresh le)
theorem walk_enumT {K : PySem.W.Frag} {a : Addr} {xs : List V} : Walk (IteT K a) xs.length (fun H => SqT K H a xs) (YPair (fun i => some (.int (i : Nat))) (fun i => xs[i]?)) := by
  refine ⟨fun i _ hi q => ⟨xs, xs[i], q, by simp [hi]⟩, fun _ q => ⟨xs, q, rfl⟩, fun i H v H' _ q y => ?_⟩
  obtain ⟨T, x, h1, h2, h3, h4⟩ := y
  exact ⟨T, .int (i : Nat), x, h1, h2, h3, rfl, h4 xs q⟩
/-- two derivations of one expression: either reading serves -/
theorem PE.or {X : Cx} {e : Expr} {t u : TE} (h1 : PE X e t) (h2 : PE X e u) : PE X e (fun σ H Q => t σ H Q ∨ u σ H Q) :=
  ⟨fun pins s σ H Q I w => w.elim (h1.run pins s σ H Q I) (h2.run pins s σ H Q I)⟩
theorem PI.or {X : Cx} {tg e : Expr} {t u : TI} (h1 : PI X tg e t) (h2 : PI X tg e u) : PI X tg e (fun σ H R => t σ H R ∨ u σ H R) :=
  ⟨fun pins s σ H R I w => w.elim (h1.run pins s σ H R I) (h2.run pins s σ H R I)⟩
end LT

namespace LT
open PySem PySem.Spec PyProof.Rows L2
/-- zip of the tuple at a and the list at b, as many turns as both have -/
def ItzTL (K : PySem.W.Frag) (a b : Addr) : It :=
  ⟨fun i H => ∃ (xs ys : List V) (x y : V), SqT K H a xs ∧ SqL K H b ys ∧ xs[i]? = some x ∧ ys[i]? = some y,
    fun i H v H' => ∃ T x y, v = .ref T ∧ H T = none ∧ H' = upd H T (.tup [x, y]) ∧ (∀ xs, SqT K H a xs → xs[i]? = some x) ∧ ∀ ys, SqL K H b ys → ys[i]? = some y,
    fun i H => ∃ xs ys : List V, SqT K H a xs ∧ SqL K H b ys ∧ xs.length = i ∧ ys.length = i⟩
theorem sep_tl {z TI TO i1 i2 a b : Addr} (D : ZipApart z TI TO i1 i2 a b) : ZipSep2 z TI TO i1 i2 [i1, a] [i2, b] where
  TIz := D.TIz
  TOz := D.TOz
  TITO := D.TITO
  TIi1 := D.TIi1
  mem1 := List.mem_cons_self
  zf1 := by simp [D.i1z.symm, D.l1z.symm]
  Tf1 := by simp [D.TOi1, D.l1TO.symm]
  TIi2 := D.TIi2
  mem2 := List.mem_cons_self
  zf2 := by simp [D.i2z.symm, D.l2z.symm]
  Tf2 := by simp [D.TOi2, D.l2TO.symm]
  sep1_2 := by simp [D.i12, D.l2i1.symm]
  sep2_1 := by simp [D.i12.symm, D.l1i2.symm]
theorem turn_zipTL {P : Program} {w : World} {K : PySem.W.Frag} {elts : List Expr} {kk : Nat} {tpos : Pos} {a b z TI TO i1 i2 : Addr} (D : ZipApart z TI TO i1 i2 a b) :
    Turn P w K (.Tuple elts kk tpos) (ItzTL K a b) [z, TI, TO, i1, i2] z (fun i h => IsZip h z TI TO .none ∧ IsTupOf2 h TI (.ref i1) (.ref i2) ∧ (∃ x y, IsTupOf2 h TO x y) ∧ h.IsTupleIter i1 a i ∧ h.IsListIter i2 b i) where
  mem := List.mem_cons_self
  obj := fun i h ⟨hz, hTI, ⟨x, y, hTO⟩, ⟨o1, e1, _, d1⟩, ⟨o2, e2, _, d2⟩⟩ c hc => by
    simp only [List.mem_cons, List.not_mem_nil, or_false] at hc
    rcases hc with rfl | rfl | rfl | rfl | rfl
    · exact ⟨_, hz, fun v q => by cases q⟩
    · exact ⟨_, hTI, fun v q => by cases q⟩
    · exact ⟨_, hTO, fun v q => by cases q⟩
    · exact ⟨o1, e1, fun v q => by rw [d1] at q; cases q⟩
    · exact ⟨o2, e2, fun v q => by rw [d2] at q; cases q⟩
  keep := fun i h h' ⟨hz, hTI, ⟨x, y, hTO⟩, h1, h2⟩ k =>
    ⟨k z (by simp) _ hz, k TI (by simp) _ hTI, ⟨x, y, k TO (by simp) _ hTO⟩, h1.at fun o q => k i1 (by simp) o q, h2.at fun o q => k i2 (by simp) o q⟩
  item := by
    intro X hP hw hK hc i pins s σ H E I hf ⟨hz, hTI, ⟨x0, y0, hTO⟩, h1, h2⟩ ⟨xs, ys, x, y, qx, qy, hx, hy⟩
    subst hP hw hK
    obtain ⟨its, rv, p, _⟩ := I.tuple qx
    obtain ⟨its2, rv2, p2, _⟩ := I.list qy
    have tup : s.heap.IsTuple a its.toArray := p
    obtain ⟨u, hu, ru⟩ := rv.get hx
    obtain ⟨u2, hu2, ru2⟩ := rv2.get hy
    have li : i < its.toArray.size := by have := (List.getElem?_eq_some_iff.mp hu).1; simpa using this
    have li2 : i < its2.toArray.size := by have := (List.getElem?_eq_some_iff.mp hu2).1; simpa using this
    have hh : X.A.in1.handled = none := I.ok.hd hc
    have ltz : z < s.heap.objs.size := Heap.lt_size hz
    refine wpAny_pyNext_zipD2_item (sep_tl D) (Draws.tuple hh i1 a D.l1i1 its.toArray) (Draws.list hh i2 b D.l2i2 its2.toArray) hz hTI hTO ⟨h1, tup⟩ ⟨h2, p2.isList⟩ li li2 fun v1 v2 h3 tk y1 y2 z3 TO3 st1 st2 new sz kept => ?_
    have ev1 : v1 = u := by
      have q : its.toArray[i]? = some u := by simpa using hu
      rw [q] at y1; exact (Option.some.inj y1).symm
    have ev2 : v2 = u2 := by
      have q : its2.toArray[i]? = some u2 := by simpa using hu2
      rw [q] at y2; exact (Option.some.inj y2).symm
    subst ev1 ev2
    refine ⟨_, rfl, wpAny_letOwnedTupleGo_zip (s := { s with heap := h3, toks := tk }) z3 fun h4 z4 sb => ?_⟩
    have new4 := (sb.2 _ (Nat.ne_of_gt ltz)).trans new
    have ob : ObjOk X.prog X.w (upd H s.heap.objs.size (.tup [x, y])) h4 s.heap.objs.size (.tup [x, y]) :=
      ⟨by show 2 ≤ sizeLine; decide, [v1, v2], .cons ru (.cons ru2 .nil), ⟨_, new4, rfl, _, rfl⟩⟩
    have J : Inv X pins σ (upd H s.heap.objs.size (.tup [x, y])) { s with heap := h4, toks := tk } :=
      I.turnedNew (ch := [z, TI, TO, i1, i2]) (fun c o nb q => (sb.2 c fun e => nb (by simp [e])).trans (kept c o (fun e => nb (by simp [e])) (fun e => nb (by simp [e])) (fun e => nb (by simp [e])) (fun e => nb (by simp [e])) q)) hf (Nat.le_refl _) ob
    refine ⟨.ref s.heap.objs.size, _, J, rfl, ⟨_, x, y, rfl, I.hok.fresh (Nat.le_refl _), rfl, fun l hl => by rw [I.tuple_inj hl qx]; exact hx, fun l hl => by rw [I.list_inj hl qy]; exact hy⟩, ⟨z4, ?_, ⟨v1, v2, ?_⟩, ?_, ?_⟩, fun c hm => ?_⟩
    · exact (sb.2 _ D.TIz).trans (kept _ _ D.TIz D.TITO D.TIi1 D.TIi2 hTI)
    · exact (sb.2 _ D.TOz).trans TO3
    · exact st1.1.at fun o q => (sb.2 _ D.i1z).trans q
    · exact st2.1.at fun o q => (sb.2 _ D.i2z).trans q
    · have lt : c < s.heap.objs.size := by
        have hm2 := hm
        simp only [List.mem_cons, List.not_mem_nil, or_false] at hm2
        rcases hm2 with rfl | rfl | rfl | rfl | rfl
        · exact ltz
        · exact Heap.lt_size hTI
        · exact Heap.lt_size hTO
        · obtain ⟨_, e1, _⟩ := h1; exact Heap.lt_size e1
        · obtain ⟨_, e2, _⟩ := h2; exact Heap.lt_size e2
      rw [upd_ne (Nat.ne_of_lt lt)]
      exact (hf c hm).1
  done := by
    intro X hP hw hK hc i pins s σ H E I hf ⟨hz, hTI, ⟨x0, y0, hTO⟩, h1, h2⟩ ⟨xs, ys, qx, qy, e1, e2⟩
    subst hP hw hK
    obtain ⟨its, rv, p, _⟩ := I.tuple qx
    obtain ⟨its2, rv2, p2, _⟩ := I.list qy
    have tup : s.heap.IsTuple a its.toArray := p
    have n1 : i = its.toArray.size := by rw [List.size_toArray, ← rv.length]; exact e1.symm
    have n2 : i = its2.toArray.size := by rw [List.size_toArray, ← rv2.length]; exact e2.symm
    have hh : X.A.in1.handled = none := I.ok.hd hc
    exact wpAny_pyNext_zipD2_end (sep_tl D) (Draws.tuple hh i1 a D.l1i1 its.toArray) (Draws.list hh i2 b D.l2i2 its2.toArray) hz hTI hTO ⟨h1, tup⟩ ⟨h2, p2.isList⟩ (Nat.le_of_eq n1) (Nat.le_of_eq n2) (.inl n1) fun h3 tk kept =>
      ⟨rfl, I.turnedL (ch := [z, TI, TO, i1, i2]) (fun c o nb q => kept c o (fun e => nb (by simp [e])) (fun e => nb (by simp [e])) (fun e => nb (by simp [e])) (fun e => nb (by simp [e])) q) hf⟩
  self := fun A i s Q E st h => wpAny_pyIter_zip st.1 h
def iZipTL (K : PySem.W.Frag) (ta : TA) : TI := fun σ H R => ta σ H fun vs H1 => ∃ a b xs ys, vs = [.ref a, .ref b] ∧ SqT K H1 a xs ∧ SqL K H1 b ys ∧ R (ItzTL K a b) H1
theorem pi_zipTL {X : Cx} {e e2 : Expr} {ta : TA} {p pos tpos : Pos} {elts : List Expr} {kk : Nat} (hg : Gl X "zip") (hm : X.mg "zip" = none) (ha : PA X [e, e2] ta)
    (hs : starEach [e, e2] X.env = (false, eval e X.env) :: starEach [e2] X.env := by rfl) (hpl : (backTo pos (starEach [e2] X.env)).any (·.1) = false := by rfl) :
    PI X (.Tuple elts kk tpos) (.Call (.Name "zip" p) [e, e2] [] pos) (iZipTL X.K ta) := by
  constructor
  intro pins s σ H R I want
  refine Call_ (ld_blt I hg hm PyProof.Rows.boot_zip (PyProof.Rows.callWith_type1 (thn (ha.run pos pins s σ H _ I want) ?_) hs hpl))
  rintro us s1 ⟨vs, H1, J, rel, a, b, xs, ys, rfl, qx, qy, q⟩
  obtain ⟨u1, u2, rfl, r1, r2⟩ := vals2 rel
  cases r1
  cases r2
  obtain ⟨its, rv, p1, _⟩ := J.tuple qx
  obtain ⟨its2, rv2, p2, _⟩ := J.list qy
  have la : a < s1.heap.objs.size := let ⟨_, g, _⟩ := p1; Heap.lt_size g
  refine zip_begins2 (begins_tuple a its.toArray) (begins_list b its2.toArray) p1 p2.isList fun h' hz hTI hTO g1 g2 sz keep => wpAny_pyIter_zip hz ?_
  have J2 : Inv X pins σ H1 { s1 with heap := h' } := J.kept (t' := s1.toks) keep
  refine ⟨s1.heap.objs.size + 4, [s1.heap.objs.size + 4, s1.heap.objs.size + 2, s1.heap.objs.size + 3, s1.heap.objs.size, s1.heap.objs.size + 1], _, _, H1, rfl, J2, turn_zipTL (PySem.W.ktu_apart s1.heap.objs.size a b la p2.lt),
    ⟨hz, hTI, ⟨_, _, hTO⟩, ⟨_, g1, rfl, rfl⟩, ⟨_, g2, rfl, rfl⟩⟩, fun c hc => ?_, q⟩
  have le : s1.heap.objs.size ≤ c := by
    simp only [List.mem_cons, List.not_mem_nil, or_false] at hc
    rcases hc with rfl | rfl | rfl | rfl | rfl <;> first | exact Nat.le_add_right _ _ | exact Nat.le_refl _
  exact J.fpOk le (J.hok.fresh le)
theorem walk_zipTL {K : PySem.W.Frag} {a b : Addr} {xs ys : List V} (hl : xs.length = ys.length) : Walk (ItzTL K a b) xs.length (fun H => SqT K H a xs ∧ SqL K H b ys) (YPair (fun i => xs[i]?) (fun i => ys[i]?)) := by
  refine ⟨fun i _ hi q => ⟨xs, ys, xs[i], ys[i]'(by omega), q.1, q.2, by simp [hi], by simp [show i < ys.length by omega]⟩, fun _ q => ⟨xs, ys, q.1, q.2, rfl, hl.symm⟩, fun i H v H' _ q y => ?_⟩
  obtain ⟨T, x, y2, h1, h2, h3, h4, h5⟩ := y
  exact ⟨T, x, y2, h1, h2, h3, h4 xs q.1, h5 ys q.2⟩
end LT

namespace LG
open PySem PySem.Spec PyProof.Rows L2
section
variable {X : Cx}
/-- repr of a bool -/
theorem call_repr_bl : CallR X (.builtin "repr") (fun xs H Q => ∃ b : Bool, xs = [.bl b] ∧ Q (.str (if b then "True" else "False")) H) := by
  intro pins s σ H xs us Q I r h
  obtain ⟨b, rfl, q⟩ := h
  obtain ⟨u, rfl, ru⟩ := vals1 r
  cases ru
  exact PySem.P.repr_of_bool ⟨.str _, H, I.tok _, ⟨_, rfl⟩, q⟩
/-- repr of data: lists, tuples, ints, bools -/
def rReprA (K : PySem.W.Frag) : List V → Hp → VK → Prop := fun xs H Q => (∃ b : Bool, xs = [.bl b] ∧ Q (.str (if b then "True" else "False")) H) ∨ (∃ i : Int, xs = [.int i] ∧ i.natAbs.log2 < 1920 ∧ Q (.str (toString i)) H) ∨ rRepr K xs H Q
theorem call_reprA (hgd : X.A.guards = some []) (hu : X.A.units + 66 < cLine) : CallR X (.builtin "repr") (rReprA X.K) := by
  intro pins s σ H xs us Q I r h
  rcases h with h | h | h
  · exact call_repr_bl pins s σ H xs us Q I r h
  · exact SkE.call_repr_int pins s σ H xs us Q I r h
  · exact call_repr hgd hu pins s σ H xs us Q I r h
end
end LG

/-! what the laws share: tests, values, the bag, lists or tuples -/
namespace LP
open PySem L2 LT LG
theorem iteD {c A B : Prop} [Decidable c] (hc : c) (h : A) : if decide c = true then A else B := by
  rw [if_pos (decide_eq_true hc)]; exact h
theorem iteX {c A B : Prop} [Decidable c] (hc : ¬ c) (h : B) : if decide c = true then A else B := by
  rw [if_neg (by rw [decide_eq_false hc]; exact Bool.false_ne_true)]; exact h
theorem iteNX {c A B : Prop} [Decidable c] (hc : ¬ c) (h : A) : if (!decide c) = true then A else B := by
  rw [decide_eq_false hc]; exact iteT h
theorem ite2d {c A B : Prop} [Decidable c] (h1 : c → A) (h2 : ¬ c → B) : if decide c = true then A else B := by
  by_cases h : c
  · exact iteD h (h1 h)
  · exact iteX h (h2 h)
theorem iteNB {b : Bool} {A B : Prop} (hb : b = true) (h : B) : if (!b) = true then A else B := by
  subst hb; exact iteF h
theorem iteNF {b : Bool} {A B : Prop} (hb : b = false) (h : A) : if (!b) = true then A else B := by
  subst hb; exact iteT h
theorem iteB {b : Bool} {A B : Prop} (hb : b = true) (h : A) : if b = true then A else B := by
  subst hb; exact iteT h
theorem iteBF {b : Bool} {A B : Prop} (hb : b = false) (h : B) : if b = true then A else B := by
  subst hb; exact iteF h
theorem idx_before {α : Type} [BEq α] [LawfulBEq α] {a : α} : ∀ {l : List α} {m : Nat}, m < l.idxOf a → l[m]? ≠ some a
  | [], m, h => by simp at h
  | b :: r, 0, h => by
    intro e
    have e1 : b = a := Option.some.inj e
    subst e1
    rw [List.idxOf_cons] at h
    simp at h
  | b :: r, m + 1, h => by
    rw [List.idxOf_cons] at h
    by_cases q : (b == a) = true
    · simp [q] at h
    · rw [Bool.not_eq_true] at q
      rw [q] at h
      have h' : m + 1 < r.idxOf a + 1 := h
      exact idx_before (l := r) (m := m) (by omega)
theorem idx_get {α : Type} [BEq α] [LawfulBEq α] {a : α} {l : List α} (h : a ∈ l) : l[l.idxOf a]? = some a := by
  have h1 := List.idxOf_lt_length_iff.mpr h
  rw [List.getElem?_eq_getElem h1]
  have h2 := List.findIdx_getElem (p := (· == a)) (xs := l) (w := h1)
  exact congrArg some (eq_of_beq h2)

theorem same_upd {H : Hp} {p : Addr} {o : HO} (h : H p = Option.none) : Same H (upd H p o) := fun b x e => by rw [upd_ne (ne_of_none e h)]; exact e
/-- all but the bag at b is as it was -/
def Fr (H H' : Hp) (b : Addr) : Prop := ∀ a o, H a = some o → a ≠ b → H' a = some o
theorem Fr.refl (H : Hp) (b : Addr) : Fr H H b := fun _ _ h _ => h
theorem Fr.trans {H H1 H2 : Hp} {b : Addr} (a : Fr H H1 b) (c : Fr H1 H2 b) : Fr H H2 b := fun x o h n => c x o (a x o h n) n
theorem Fr.of {H H' : Hp} {b : Addr} (s : Same H H') : Fr H H' b := fun a o h _ => s a o h
theorem Fr.free {H H' : Hp} {b l : Addr} (e : Fr H H' b) (hb : ∃ o, H b = some o) (h : H' l = Option.none) (h' : ∃ o, H' b = some o) : H l = Option.none := by
  cases q : H l with
  | none => rfl
  | some o =>
    by_cases hl : l = b
    · subst hl; obtain ⟨o', h'⟩ := h'; rw [h'] at h; cases h
    · rw [e l o q hl] at h; cases h
abbrev M61 : Int := 2305843009213693951
/-- the bag: the script's copy at l, the place in it, the rest of a large cell, the number of draws (at most d), the script's sum -/
structure Bag (H : Hp) (b l : Addr) (ns : List Int) (d : Nat) : Prop where
  ex : ∃ i c k t : Int, H b = some (.lst [.ref l, .int i, .int c, .int k, .int t]) ∧ 0 ≤ i ∧ i ≤ ns.length ∧ 0 ≤ k ∧ k ≤ d ∧ 0 ≤ t ∧ t < M61
  ls : H l = some (.lst (ns.map V.int))
  ne : l ≠ b
theorem Bag.mono {H : Hp} {b l : Addr} {ns : List Int} {d d' : Nat} (g : Bag H b l ns d) (h : d ≤ d') : Bag H b l ns d' := by
  obtain ⟨⟨i, c, k, t, h1, h2, h3, h4, h5, h6⟩, ls, ne⟩ := g
  exact ⟨⟨i, c, k, t, h1, h2, h3, h4, by omega, h6⟩, ls, ne⟩
theorem Bag.same {H H' : Hp} {b l : Addr} {ns : List Int} {d : Nat} (g : Bag H b l ns d) (s : Same H H') : Bag H' b l ns d := by
  obtain ⟨⟨i, c, k, t, h1, h2⟩, ls, ne⟩ := g
  exact ⟨⟨i, c, k, t, s _ _ h1, h2⟩, s _ _ ls, ne⟩

theorem flat_ints (l : List Int) : (l.map V.int).all flatV = true := by
  rw [List.all_eq_true]; intro v hv; obtain ⟨i, _, rfl⟩ := List.mem_map.mp hv; rfl
theorem in_ints {p : Int} {l : List Int} : inV (.int p) (l.map V.int) = decide (p ∈ l) := by
  induction l with
  | nil => rfl
  | cons a r ih =>
    show (eqV (.int a) (.int p) || inV (.int p) (r.map V.int)) = _
    rw [ih]
    show ((a == p) || decide (p ∈ r)) = _
    by_cases h : a = p
    · subst h; simp
    · have h2 : ¬ p = a := fun q => h q.symm
      simp [h, h2]

theorem Bag.nb {H : Hp} {b l : Addr} {ns : List Int} {d : Nat} (g : Bag H b l ns d) : ∃ o, H b = some o := let ⟨⟨_, _, _, _, h, _⟩, _, _⟩ := g; ⟨_, h⟩
theorem Bag.ne_new {H : Hp} {b l p : Addr} {ns : List Int} {d : Nat} (g : Bag H b l ns d) (hp : H p = none) : p ≠ b := by
  obtain ⟨o, h⟩ := g.nb
  exact (ne_of_none h hp).symm
theorem Bag.l_ne {H : Hp} {b l p : Addr} {ns : List Int} {d : Nat} (g : Bag H b l ns d) (hp : H p = none) : l ≠ p := ne_of_none g.ls hp

section
variable (K : PySem.W.Frag)
def sp__law_bag : Sp := fun vs H Q _ => ∃ (a : Addr) (ns : List Int), vs = [.ref a] ∧ SqL K H a (ns.map V.int) ∧ ns.length ≤ 63 ∧ ∀ (H' : Hp) (b l : Addr), Same H H' → H b = none → H l = none → Bag H' b l ns 0 → Q (.ref b) H'
def sp__law_stir : Sp := fun vs H Q _ => ∃ x y : Int, vs = [.int x, .int y] ∧ 0 ≤ x ∧ x < M61 ∧ 0 ≤ y ∧ y < 2 ^ 40 ∧ ∀ r : Int, Q (.int r) H
def sp__law_draw : Sp := fun vs H Q _ => ∃ (b l : Addr) (ns : List Int) (d : Nat) (n : Int), vs = [.ref b, .int n] ∧ Bag H b l ns d ∧ 0 < n ∧ n.natAbs.log2 < 9000 ∧ d < 1000000 ∧ ns.length ≤ 63 ∧
  ∀ (H' : Hp) (r : Int), 0 ≤ r → r < n → Bag H' b l ns (d + 1) → Fr H H' b → Q (.int r) H'


end
/-- what len asks of a list or a tuple -/
def rLenS (K : PySem.W.Frag) : List V → Hp → VK → Prop := fun vs H Q => ∃ a xs, vs = [.ref a] ∧ (SqL K H a xs ∨ SqT K H a xs) ∧ Q (.int xs.length) H
theorem u1 {k : Nat} {A : Around} (r : Room k A) : A.units + 1 < cLine := by have := r.un; omega
theorem u66 {k : Nat} {A : Around} (r : Room k A) : A.units + 66 < cLine := by have := r.un; omega
theorem ixN_at {n j : Nat} (h : j < n) : ixN n (j : Int) = some j := by
  unfold ixN; rw [if_pos (by omega), if_pos (by omega)]; congr 1
/-- a list or a tuple -/
def SqE (K : PySem.W.Frag) (H : Hp) (a : Addr) (xs : List V) : Prop := SqL K H a xs ∨ SqT K H a xs
theorem same_tup {K : PySem.W.Frag} {H H' : Hp} {a : Addr} {xs : List V} (e : Same H H') (h : SqT K H a xs) : SqT K H' a xs := by
  rcases h with (h | ⟨o, h⟩) | h
  · exact .inl (.inl (e _ _ h))
  · exact .inl (.inr ⟨o, e _ _ h⟩)
  · exact .inr h
theorem SqE.same {K : PySem.W.Frag} {H H' : Hp} {a : Addr} {xs : List V} (h : SqE K H a xs) (e : Same H H') : SqE K H' a xs := h.imp e.seq (same_tup e)
theorem SqE.l {K : PySem.W.Frag} {H : Hp} {a : Addr} {xs : List V} (h : H a = some (.lst xs)) : SqE K H a xs := .inl (SqL.of h)
theorem SqE.t {K : PySem.W.Frag} {H : Hp} {a : Addr} {xs : List V} (h : H a = some (.tup xs)) : SqE K H a xs := .inr (SqT.of h)
theorem rd_ix {K : PySem.W.Frag} {H : Hp} {a : Addr} {Q : VK} {xs : List V} {j : Nat} {v : V} {z : Int} (h : SqL K H a xs) (e : xs[j]? = some v) (hz : z = (j : Int)) (q : Q v H) : rIxL K (.ref a) (.int z) H Q :=
  ⟨a, xs, z, v, rfl, rfl, h, at_of hz e, q⟩
theorem int_at {ns : List Int} {j : Nat} {x : Int} (h : ns[j]? = some x) : (ns.map V.int)[j]? = some (V.int x) := by rw [List.getElem?_map, h]; rfl
theorem at_int {ns : List Int} {j : Nat} {v : V} (h : (ns.map V.int)[j]? = some v) : ∃ x, ns[j]? = some x ∧ v = .int x := by
  rw [List.getElem?_map] at h
  cases q : ns[j]? with
  | none => rw [q] at h; cases h
  | some x => rw [q] at h; cases h; exact ⟨x, rfl, rfl⟩
/-! a walk over a list or a tuple: one turn for both -/
theorem or_E {K : PySem.W.Frag} {H : Hp} {a : Addr} {xs : List V} {σ : St} {i : Nat} {R : It → Hp → Prop} (hE : SqE K H a xs) (hv : σ[i]? = some (some (.ref a))) (k : ∀ (J : It) (G : Hp → Prop), Walk J xs.length G (YAt xs) → (∀ H', Same H H' → G H') → R J H) :
    iList K (tVar i) σ H R ∨ iTup K (tVar i) σ H R := by
  rcases hE with h | h
  · exact .inl ⟨_, hv, a, rfl, ⟨_, h⟩, k _ _ walk_list fun H' s => s.seq h⟩
  · exact .inr ⟨_, hv, a, rfl, ⟨_, h⟩, k _ _ walk_tup fun H' s => same_tup s h⟩
theorem or_enumE {K : PySem.W.Frag} {H : Hp} {a : Addr} {xs : List V} {σ : St} {R : It → Hp → Prop} {ta : TA} (hE : SqE K H a xs) (hv : ∀ Q : List V → Hp → Prop, Q [.ref a] H → ta σ H Q)
    (k : ∀ (J : It) (G : Hp → Prop), Walk J xs.length G (YPair (fun i => some (.int (i : Nat))) (fun i => xs[i]?)) → (∀ H', Same H H' → G H') → R J H) :
    iEnum K ta σ H R ∨ iEnumT K ta σ H R := by
  rcases hE with h | h
  · exact .inl (hv _ ⟨a, xs, rfl, h, k _ _ walk_enum fun H' s => s.seq h⟩)
  · exact .inr (hv _ ⟨a, xs, rfl, h, k _ _ walk_enumT fun H' s => same_tup s h⟩)
theorem or_zipE {K : PySem.W.Frag} {H : Hp} {a : Addr} {xs ys : List V} {σ : St} {R : It → Hp → Prop} {ta : TA} (hE : SqE K H a xs) (hl : xs.length = ys.length)
    (hv : ∀ Q : List V → Hp → Prop, (∀ H1 p, Same H H1 → H p = none → H1 p = some (.lst ys) → Q [.ref a, .ref p] H1) → ta σ H Q)
    (k : ∀ (H1 : Hp) (p : Addr) (J : It) (G : Hp → Prop), Same H H1 → H p = none → H1 p = some (.lst ys) → Walk J xs.length G (YPair (fun i => xs[i]?) (fun i => ys[i]?)) → (∀ H', Same H1 H' → G H') → R J H1) :
    iZip K ta σ H R ∨ iZipTL K ta σ H R := by
  rcases hE with h | h
  · exact .inl (hv _ fun H1 p s np hp => ⟨a, p, xs, ys, rfl, s.seq h, SqL.of hp, k _ p _ _ s np hp (walk_zip (by omega)) fun H' t => ⟨t.seq (s.seq h), SqL.of (t _ _ hp)⟩⟩)
  · exact .inr (hv _ fun H1 p s np hp => ⟨a, p, xs, ys, rfl, same_tup s h, SqL.of hp, k _ p _ _ s np hp (walk_zipTL hl) fun H' t => ⟨same_tup t (same_tup s h), SqL.of (t _ _ hp)⟩⟩)
theorem ty_E {K : PySem.W.Frag} {H : Hp} {a : Addr} {xs : List V} (h : SqE K H a xs) : TyX K H (.ref a) (.type "list") ∨ TyX K H (.ref a) (.type "tuple") := by
  rcases h with ((h | ⟨o, h⟩) | ⟨dd, its, n, h1, h2⟩) | ((h | ⟨o, h⟩) | ⟨dd, its, n, h1, h2⟩)
  · exact .inl (.base (.lst h))
  · exact .inl (.base (.frz h))
  · exact .inl (.kList h1 h2.1)
  · exact .inr (.base (.tup h))
  · exact .inr (.fTuple h)
  · exact .inr (.kTuple h1 h2.1)
theorem kit_lt {K : PySem.W.Frag} : PySem.W.kitAny K (.type "list") [.type "list", .type "tuple"] = some true := kitAny_cons (b := true) (kit_ty (by decide +kernel)) (fun z => nomatch z) fun _ => rfl
theorem kit_tt {K : PySem.W.Frag} : PySem.W.kitAny K (.type "tuple") [.type "list", .type "tuple"] = some true := kitAny_cons (b := false) (kit_ty (by decide +kernel)) (fun _ => kitAny_cons (b := true) (kit_ty (by decide +kernel)) (fun z => nomatch z) fun _ => rfl) fun z => nomatch z
/-! patterns as texts -/
def sgn (b : Bool) : Nat := if b = true then 84 else 82
def pstr (l : List Bool) : Str := ⟨(l.map sgn).toArray⟩
theorem pstr_nil : pstr [] = ("" : Str) := by decide +kernel
theorem pstr_T (l : List Bool) : pstr l ++ ("T" : Str) = pstr (l ++ [true]) := by
  show (⟨(l.map sgn).toArray ++ ("T" : Str).cps⟩ : Str) = _
  rw [show ("T" : Str).cps = #[84] by decide +kernel]
  simp [pstr, sgn]
theorem pstr_R (l : List Bool) : pstr l ++ ("R" : Str) = pstr (l ++ [false]) := by
  show (⟨(l.map sgn).toArray ++ ("R" : Str).cps⟩ : Str) = _
  rw [show ("R" : Str).cps = #[82] by decide +kernel]
  simp [pstr, sgn]
theorem pstr_size (l : List Bool) : (pstr l).cps.size = l.length := by simp [pstr]
theorem pstr_at {l : List Bool} {i c : Nat} (h : (pstr l).cps[i]? = some c) : ∃ b, l[i]? = some b ∧ c = sgn b := by
  simp only [pstr, List.getElem?_toArray, List.getElem?_map] at h
  cases q : l[i]? with
  | none => rw [q] at h; cases h
  | some b => rw [q] at h; cases h; exact ⟨b, rfl, rfl⟩
theorem sgnT : (⟨#[sgn true]⟩ : Str) = ("T" : Str) := by decide +kernel
theorem sgnR : (⟨#[sgn false]⟩ : Str) = ("R" : Str) := by decide +kernel
theorem R_ne_T : ¬ ((⟨#[sgn false]⟩ : Str) = ("T" : Str)) := by decide +kernel
theorem vsT : V.str ⟨#[sgn true]⟩ = V.str "T" := congrArg V.str sgnT
theorem vsR : ¬ (V.str ⟨#[sgn false]⟩ = V.str "T") := fun h => R_ne_T (V.str.inj h)
theorem vsRR : V.str ⟨#[sgn false]⟩ = V.str "R" := congrArg V.str sgnR
theorem count_T (l : List Bool) : Txt.count (pstr l) ("T" : Str) = ((l.count true : Nat) : Int) := by
  rw [show ("T" : Str) = ⟨#[84]⟩ by decide +kernel, PyProof.Rows.count_cnt]
  show PyProof.Rows.cnt 84 (l.map sgn).toArray.toList = _
  rw [List.toList_toArray]
  induction l with
  | nil => rfl
  | cons b r ih =>
    rw [List.map_cons, PyProof.Rows.cnt_cons, ih]
    cases b with
    | true => rw [if_pos (by decide)]; simp; omega
    | false => rw [if_neg (by decide)]; simp
/-! dicts by place -/
def numK (ns : List Int) : List (Key × V) := ns.zipIdx.map fun p => (.inl p.1, .int (p.2 : Nat))
theorem numK_len (ns : List Int) : (numK ns).length = ns.length := by simp [numK]
theorem putK_new {kvs : List (Key × V)} {k : Key} {v : V} (h : ∀ q ∈ kvs, q.1 ≠ k) : putK kvs k v = kvs ++ [(k, v)] := by
  unfold putK
  rw [if_neg]
  intro q
  obtain ⟨x, hx, e⟩ := List.any_eq_true.mp q
  exact h x hx (of_decide_eq_true e)
theorem numK_snoc (ns : List Int) (x : Int) : numK (ns ++ [x]) = numK ns ++ [(.inl x, .int (ns.length : Nat))] := by
  unfold numK
  rw [List.zipIdx_append]
  simp
theorem numK_put {ns : List Int} {x : Int} (h : x ∉ ns) : putK (numK ns) (.inl x) (.int (ns.length : Nat)) = numK (ns ++ [x]) := by
  rw [numK_snoc, putK_new]
  intro q hq e
  obtain ⟨⟨a, i⟩, hp, rfl⟩ := List.mem_map.mp hq
  cases e
  exact h (List.mem_of_getElem? (List.mem_zipIdx_iff_getElem?.mp hp))
theorem numK_val {ns : List Int} (nd : ns.Nodup) {j : Nat} {x : Int} (h : ns[j]? = some x) : valV (numK ns) (.inl x) = some (.int (j : Nat)) := by
  unfold valV
  have key : (numK ns).find? (fun kv => decide (kv.1 = Sum.inl x)) = some (.inl x, .int (j : Nat)) := by
    obtain ⟨hj, e⟩ := List.getElem?_eq_some_iff.mp h
    rw [List.find?_eq_some_iff_getElem]
    refine ⟨decide_eq_true rfl, j, by rw [numK_len]; exact hj, ?_, fun m hm => ?_⟩
    · simp [numK, e]
    · have hm2 : m < ns.length := by omega
      have e2 : ((numK ns)[m]'(by rw [numK_len]; omega)).1 = Sum.inl ns[m] := by simp [numK]
      rw [e2, decide_eq_false]
      · rfl
      · intro z
        cases z
        exact Nat.ne_of_lt hm ((List.getElem_inj nd).mp e.symm)
  rw [key]; rfl

theorem seq_int {n : Nat} {z : Int} (h0 : 0 ≤ z) (h : z.toNat < n) : seqIndex? z n = some z.toNat := by
  unfold seqIndex?
  have e : (if z < 0 then z + (n : Int) else z) = z := if_neg (by omega)
  simp only [e]
  rw [if_pos (by rw [Bool.and_eq_true, decide_eq_true_iff, decide_eq_true_iff]; omega)]
theorem ixN_int {n : Nat} {z : Int} (h0 : 0 ≤ z) (h : z.toNat < n) : ixN n z = some z.toNat := by
  unfold ixN
  rw [if_pos h0, if_pos (by omega)]
theorem log_small {n : Nat} (h : n < 1024) : ((n : Int)).natAbs.log2 < 9000 := by
  rw [Int.natAbs_natCast]
  by_cases h0 : n = 0
  · subst h0; decide
  · exact Nat.lt_trans ((Nat.log2_lt h0).mpr (show n < 2 ^ 10 from h)) (by decide)
theorem erase_map {α β : Type} (f : α → β) : ∀ (l : List α) (k : Nat), (l.map f).eraseIdx k = (l.eraseIdx k).map f
  | [], _ => rfl
  | _ :: _, 0 => rfl
  | a :: r, k + 1 => by
    show f a :: (r.map f).eraseIdx k = f a :: (r.eraseIdx k).map f
    rw [erase_map f r k]
end LP

/-! the draws of the laws with a reel -/
namespace LP
open PySem L2
abbrev M127 : Int := 2 ^ 140
theorem log_m {t : Int} (h0 : 0 ≤ t) (h1 : t < 2 ^ 140) : t.natAbs.log2 < 200 := by
  by_cases z : t.natAbs = 0
  · rw [z]; decide
  · exact Nat.lt_trans ((Nat.log2_lt z).mpr (show t.natAbs < 2 ^ 140 by omega)) (by decide)
structure Reel (H : Hp) (b : Addr) (d : Nat) : Prop where
  ex : ∃ (g c : Addr) (gs cs : List Int) (k t : Int), H b = some (.lst [.ref g, .ref c, .int k, .int t]) ∧ H g = some (.lst (gs.map V.int)) ∧ H c = some (.lst (cs.map V.int)) ∧ g ≠ b ∧ c ≠ b ∧ 0 < cs.length ∧ cs.length ≤ 64 ∧ gs.length ≤ 63 ∧ (∀ x ∈ cs, 0 ≤ x ∧ x < 1000003) ∧ 0 ≤ k ∧ k ≤ d ∧ 0 ≤ t ∧ t < M127
theorem Reel.mono {H : Hp} {b : Addr} {d d' : Nat} (r : Reel H b d) (h : d ≤ d') : Reel H b d' := by
  obtain ⟨g, c, gs, cs, k, t, a1, a2, a3, a4, a5, a6, a7, a8, a9, a10, a11, a12⟩ := r.ex
  exact ⟨⟨g, c, gs, cs, k, t, a1, a2, a3, a4, a5, a6, a7, a8, a9, a10, by omega, a12⟩⟩
theorem Reel.same {H H' : Hp} {b : Addr} {d : Nat} (r : Reel H b d) (s : Same H H') : Reel H' b d := by
  obtain ⟨g, c, gs, cs, k, t, a1, a2, a3, a4⟩ := r.ex
  exact ⟨⟨g, c, gs, cs, k, t, s _ _ a1, s _ _ a2, s _ _ a3, a4⟩⟩
theorem Reel.nb {H : Hp} {b : Addr} {d : Nat} (r : Reel H b d) : ∃ o, H b = some o := let ⟨_, _, _, _, _, _, h, _⟩ := r.ex; ⟨_, h⟩
theorem Reel.ne_new {H : Hp} {b p : Addr} {d : Nat} (r : Reel H b d) (hp : H p = none) : p ≠ b := by
  obtain ⟨o, h⟩ := r.nb
  exact (ne_of_none h hp).symm
/-- an address that is no part of the reel at b -/
def Apart (H : Hp) (b a : Addr) : Prop := a ≠ b ∧ ∀ xs, H b = some (.lst xs) → V.ref a ∉ xs
theorem Reel.new {H : Hp} {b p : Addr} {d : Nat} (r : Reel H b d) (hp : H p = none) : Apart H b p := by
  refine ⟨r.ne_new hp, fun xs hx hm => ?_⟩
  obtain ⟨g, c, gs, cs, k, t, a1, a2, a3, _⟩ := r.ex
  rw [a1] at hx; cases hx
  simp at hm
  rcases hm with rfl | rfl
  · rw [hp] at a2; cases a2
  · rw [hp] at a3; cases a3
theorem Reel.upd {H : Hp} {b a : Addr} {d : Nat} {o : HO} (r : Reel H b d) (h : Apart H b a) : Reel (L2.upd H a o) b d := by
  obtain ⟨g, c, gs, cs, k, t, a1, a2, a3, a4⟩ := r.ex
  have n := h.2 _ a1
  have n1 : g ≠ a := fun e => n (by rw [e]; simp)
  have n2 : c ≠ a := fun e => n (by rw [e]; simp)
  exact ⟨⟨g, c, gs, cs, k, t, by rw [upd_ne (Ne.symm h.1)]; exact a1, by rw [upd_ne n1]; exact a2, by rw [upd_ne n2]; exact a3, a4⟩⟩
theorem Apart.upd {H : Hp} {b a c : Addr} {o : HO} (h : Apart H b a) (hc : c ≠ b) : Apart (L2.upd H c o) b a := ⟨h.1, fun xs hx => h.2 xs (by rw [upd_ne (Ne.symm hc)] at hx; exact hx)⟩
section
variable (K : PySem.W.Frag)
def sp__law_reel : Sp := fun vs H Q _ => ∃ (a : Addr) (ns : List Int), vs = [.ref a] ∧ SqL K H a (ns.map V.int) ∧ ns.length ≤ 63 ∧ ∀ (H' : Hp) (b : Addr), Same H H' → H b = none → Reel H' b 0 → Q (.ref b) H'
def sp__law_draw_r : Sp := fun vs H Q _ => ∃ (b : Addr) (d : Nat) (n : Int), vs = [.ref b, .int n] ∧ Reel H b d ∧ 0 < n ∧ n.natAbs.log2 < 9000 ∧ d < 1000000 ∧
  ∀ (H' : Hp) (r : Int), 0 ≤ r → r < n → Reel H' b (d + 1) → Fr H H' b → (∀ a, Apart H b a → H a ≠ none → Apart H' b a) → Q (.int r) H'
def sp__law_shuffled_r : Sp := fun vs H Q _ => ∃ (b : Addr) (d : Nat) (p : Addr) (xs : List Int), vs = [.ref b, .ref p] ∧ Reel H b d ∧ d < 900000 ∧ H p = some (.lst (xs.map V.int)) ∧ xs.length ≤ 400 ∧ p ≠ b ∧
  ∀ (H' : Hp) (q : Addr) (ys : List Int), Reel H' b (d + xs.length) → Fr H H' b → (∀ a, Apart H b a → H a ≠ none → Apart H' b a) → H q = none → ys.Perm xs → H' q = some (.lst (ys.map V.int)) → Apart H' b q → Q (.ref q) H'
end
end LP

namespace LX
open PySem PySem.Spec PyProof.Rows L2 LG
/-- repr, of None too -/
def rReprN (K : PySem.W.Frag) : List V → Hp → VK → Prop := fun xs H Q => (xs = [.non] ∧ Q (.str "None") H) ∨ rReprA K xs H Q
theorem call_reprN {X : Cx} (hgd : X.A.guards = some []) (hu : X.A.units + 66 < cLine) : CallR X (.builtin "repr") (rReprN X.K) := by
  intro pins s σ H xs us Q I r h
  rcases h with h | h
  · obtain ⟨rfl, q⟩ := h
    obtain ⟨u, rfl, ru⟩ := vals1 r
    cases ru
    exact PySem.P.repr_of_none ⟨.str _, H, I.tok _, ⟨_, rfl⟩, q⟩
  · exact call_reprA hgd hu pins s σ H xs us Q I r h
end LX

/-! xs[::e], e of 1 or -1 -/
namespace LX
open PySem PySem.Spec PyProof.Rows L2
section
variable {X : Cx}
def kStep (K : PySem.W.Frag) (x : V) (Q : VK) : Option Int → Hp → Prop := fun o H2 => ∃ a xs, x = .ref a ∧ (o = some 1 ∨ o = some (-1)) ∧ SqL K H2 a xs ∧ ∀ p, H2 p = none → Q (.ref p) (upd H2 p (.lst (if o = some 1 then xs else xs.reverse)))
def tStepL (K : PySem.W.Frag) (te tk : TE) : TE := fun σ H Q => te σ H fun x H1 => tPart tk σ H1 (kStep K x Q)
theorem pick_one (its : List Value) : slicePick its.toArray none none (some 1) = its.toArray := by
  have e : slicePick its.toArray none none (some 1) = slicePick its.toArray none none none := rfl
  rw [e, slicePick_cut, HT.sIx_none, HT.sIx_none]
  simp
theorem pe_stepL {e st : Expr} {te tk : TE} {p3 pos : Pos} (he : PE X e te) (hk : PE X st tk) : PE X (.Subscript e (.Slice none none (some st) p3) pos) (tStepL X.K te tk) := by
  refine ⟨fun pins s σ H Q I h => ?_⟩
  refine Subscript_ (thn (he.run pins s σ H _ I h) fun v s1 ⟨x, H1, I1, r1, q1⟩ => ?_)
  have hst : PO X (some st) (tPart tk) := po_some hk
  refine wpAny_Slice (thn (po_none.run pins s1 σ H1 (fun o H2 => o = none ∧ H2 = H1) I1 ⟨rfl, rfl⟩) fun vl s2 ⟨l, H2, I2, pl, el, e2⟩ => ?_)
  subst el e2
  refine thn (po_none.run pins s2 σ H2 (fun o H3 => o = none ∧ H3 = H2) I2 ⟨rfl, rfl⟩) fun vu s3 ⟨u, H3, I3, pu, eu, e3⟩ => ?_
  subst eu e3
  refine thn (hst.run pins s3 σ H3 _ I3 q1) fun vs s4 ⟨o, H4, I4, ps, a, xs, ex, eo, hx, q⟩ => ?_
  subst ex
  cases r1
  have I5 : Inv X pins σ H4 { s4 with heap := s4.heap.push { cls := .type "slice", data := .fields #[vl, vu, vs] } } := I4.kept (t' := s4.toks) fun b ob q => Heap.get?_push_of_some _ q
  obtain ⟨its, r, ht, hz⟩ := I5.list hx
  have hlen := r.length
  show wpAny (model X.prog X.w) X.A (subscriptTail e (.Slice none none (some st) p3) (.ref a) (.ref s4.heap.objs.size)) (EP X pins σ Q) X.xe { s4 with heap := s4.heap.push { cls := .type "slice", data := .fields #[vl, vu, vs] } }
  refine tail_any (ops := [.ref a, .ref s4.heap.objs.size]) ht.isList.typeIs (PySem.slot_list_getitem.lookup) ?_ (by with_unfolding_all rfl)
  rcases eo with rfl | rfl
  · refine wpAny_getItem_list_slice ht.isList (Heap.IsSliceOf.new _ vl vu vs) pl pu ps (by decide) ?_ (by rw [List.size_toArray]; omega)
    rw [pick_one]
    refine ⟨.ref _, _, I5.laid (t' := s4.toks) (o := .lst (if (some 1 : Option Int) = some 1 then xs else xs.reverse)) (fun b ob q => Heap.get?_push_of_some _ q) (Nat.le_refl _) ?_, rfl, q _ (I5.hok.fresh (Nat.le_refl _))⟩
    rw [if_pos rfl]
    exact ⟨hz, _, 0, r, Heap.get?_push_size _ rfl⟩
  · refine wpAny_getItem_list_slice ht.isList (Heap.IsSliceOf.new _ vl vu vs) pl pu ps (by decide) ?_ (by rw [List.size_toArray]; omega)
    rw [PySem.W.krv_pick]
    refine ⟨.ref _, _, I5.laid (t' := s4.toks) (o := .lst (if (some (-1) : Option Int) = some 1 then xs else xs.reverse)) (fun b ob q => Heap.get?_push_of_some _ q) (Nat.le_refl _) ?_, rfl, q _ (I5.hok.fresh (Nat.le_refl _))⟩
    rw [if_neg (by decide)]
    exact ⟨by rw [List.length_reverse]; exact hz, _, 0, r.reverse, Heap.get?_push_size _ rfl⟩
end
end LX

/-! own __len__ and own == of instances -/
namespace LX
open PySem PySem.Spec PyProof.Rows L2
section
variable {X : Cx} {CX : CXT} {k : Nat} {C g : Addr} {fd : FuncData} {ps : List Str} {sp : Sp} {E : XK}
/-- len(x), x an instance whose class has its own __len__ -/
def rLenOwn (C : Addr) (sp : Sp) (E : XK) : List V → Hp → VK → Prop := fun xs H Q => ∃ a dx fs, xs = [.ref a] ∧ H a = some (.ins C dx fs) ∧ sp [.ref a] H (fun z H' => ∃ i, z = .int i ∧ 0 ≤ i ∧ i < 2 ^ 63 ∧ Q z H') E
theorem call_lenOwn (M : Meth X.K C "__len__" g) (F : FnOk X.prog X.w X.K X.mg X.base CX k g fd ps sp) (hr : Room (k + 1) X.A) (hb : Binds X.K fd ps []) (hx : Passes CX X E) : CallR X (.builtin "len") (rLenOwn C sp E) := by
  intro pins s σ H xs us Q I r h
  obtain ⟨a, dx, fs, rfl, ha, q⟩ := h
  obtain ⟨u, rfl, ru⟩ := r.one
  cases (show u = Value.ref a from ru)
  obtain ⟨mA, J, _⟩ := ins_get I.hok ha
  obtain ⟨od, J, _⟩ := J.look
  obtain ⟨m, hF⟩ := I.fr
  have G := F.raw hb (.nil)
  have run := wpAny_call (SlX.run_at (Q := fun z H' => ∃ i, z = .int i ∧ 0 ≤ i ∧ i < 2 ^ 63 ∧ Q z H') (us := [.ref a]) (ws := [.ref a]) G hr.in1 I.env0.in1 hx I (.cons rfl .nil) q)
  refine PySem.W.len_K hF I.ok.mod.kin J M.at_ M.fn (wpAny_mono run (fun w s' z => ?_) fun _ _ x => x)
  obtain ⟨z', H', I', rz, i, ei, i0, i1, qz⟩ := z
  subst ei
  obtain ⟨t, e⟩ := (show ∃ t, w = Value.int i t from rz)
  cases e
  exact ⟨⟨i0, i1⟩, .int i, H', I'.tok _, ⟨_, rfl⟩, qz⟩
/-- x == y, x an instance whose class has its own ==, y no instance of a class below -/
def rEqOwn (K : PySem.W.Frag) (C : Addr) (sp : Sp) (E : XK) : R2 := fun x y H Q => ∃ a dx fs b dy gs, x = .ref a ∧ y = .ref b ∧ H a = some (.ins C dx fs) ∧ H b = some (.ins C dy gs) ∧ sp [x, y] H Q E
theorem op_eqOwn (M : Meth X.K C "__eq__" g) (F : FnOk X.prog X.w X.K X.mg X.base CX k g fd ps sp) (hr : Room k X.A) (hb : Binds X.K fd ps []) (hx : Passes CX X E) : OpR X (compareOp .Eq) (rEqOwn X.K C sp E) := by
  intro pins s σ H x y v u Q I rx ry h
  obtain ⟨a, dx, fs, b, dy, gs, rfl, rfl, ha, hb', q⟩ := h
  cases (show v = Value.ref a from rx)
  cases (show u = Value.ref b from ry)
  obtain ⟨mA, J, _⟩ := ins_get I.hok ha
  obtain ⟨mB, J', _⟩ := ins_get I.hok hb'
  obtain ⟨od, J, _⟩ := J.look
  obtain ⟨od', J', _⟩ := J'.look
  obtain ⟨m, hF⟩ := I.fr
  have G := F.raw hb (.nil)
  show wpAny (model X.prog X.w) X.A (richCompare .Eq (.ref a) (.ref b)) (EP X pins σ Q) X.xe s
  refine PySem.W.cmp_K (op := .Eq) (tb := .ref C) hr.units0 hF I.ok.mod.kin J J'.type (by simp [PySem.W.notFirst]) M.at_ M.fn ?_
  have run := wpAny_call (run_fnR (Q := Q) (us := [.ref a, .ref b]) (vs := [.ref a, .ref b]) G hr hx I (.cons rfl (.cons rfl .nil)) q)
  refine wpAny_mono run (fun w s' z => ?_) fun _ _ x => x
  obtain ⟨z', H', I', rz, qz⟩ := z
  exact SlX.cmpback rz ⟨z', H', I', rz, qz⟩
end
end LX

namespace LX
open PySem PySem.Spec PyProof.Rows L2
/-! ### a sign, n times -/
def repS (c : Nat) (n : Int) : Str := ⟨Array.replicate n.toNat c⟩
theorem rep_fold (c : Nat) : ∀ (k : Nat) (a : Array Nat), (List.replicate k #[c]).foldl (· ++ ·) a = a ++ Array.replicate k c
  | 0, a => by simp
  | k + 1, a => by
    rw [List.replicate_succ, List.foldl_cons, rep_fold c k]
    apply Array.toList_inj.mp
    simp [List.replicate_succ]
theorem op_mulS {X : Cx} : OpR X (binaryOp .Mult) (fun x y H Q => ∃ (c : Nat) (n : Int), x = .str ⟨#[c]⟩ ∧ y = .int n ∧ -1000 ≤ n ∧ n ≤ 1000 ∧ Q (.str (repS c n)) H) := by
  intro pins s σ H x y v u Q I rx ry h
  obtain ⟨c, n, rfl, rfl, h0, h1, q⟩ := h
  obtain ⟨t, rfl⟩ := rx
  obtain ⟨t', rfl⟩ := ry
  have el : (⟨#[c]⟩ : Str).length = 1 := rfl
  refine P.mul_str (by
      have a1 : ¬ n < -(2 ^ 63 : Int) := by omega
      have a2 : ¬ n ≥ 2 ^ 63 := by omega
      rw [decide_eq_false a1, decide_eq_false a2]; rfl) (fun g1 _ g3 => ?_) (fun g1 _ => ?_) ?_
  · rw [el] at g3
    have : (1 : Int) ≤ (2 ^ 63 - 1) / n := by
      rw [Int.le_ediv_iff_mul_le (by omega)]; omega
    have g4 : ((1 : Nat) : Int) > (2 ^ 63 - 1) / n := g3
    omega
  · rw [el]
    refine decide_eq_false ?_
    have : n.toNat ≤ 1000 := by omega
    intro q2
    have q3 : 1 * n.toNat > 1000 := Nat.lt_of_lt_of_le (by decide +kernel) (Nat.le_of_lt q2)
    omega
  · by_cases g1 : n < 1
    · rw [if_pos g1]
      have e : repS c n = Str.empty := by
        unfold repS
        rw [show n.toNat = 0 by omega]; rfl
      rw [e] at q
      exact ⟨by decide, ⟨.str Str.empty, H, I.tok _, ⟨_, rfl⟩, q⟩⟩
    · rw [if_neg g1]
      by_cases g2 : n = 1
      · subst g2
        rw [if_pos (by rfl)]
        exact ⟨.str ⟨#[c]⟩, H, I, ⟨_, rfl⟩, q⟩
      · rw [if_neg (by
          rw [el]
          have : (n == 1) = false := by rw [beq_eq_false_iff_ne]; exact g2
          rw [this]; decide)]
        have e : (⟨(List.replicate n.toNat (⟨#[c]⟩ : Str).cps).foldl (· ++ ·) #[]⟩ : Str) = repS c n := by
          unfold repS
          rw [show (⟨#[c]⟩ : Str).cps = #[c] from rfl, rep_fold]
          simp
        rw [e]
        refine ⟨?_, ⟨.str _, H, I.tok _, ⟨_, rfl⟩, q⟩⟩
        show (repS c n).length ≤ sizeLine
        show (Array.replicate n.toNat c).size ≤ sizeLine
        rw [Array.size_replicate]
        exact Nat.le_trans (show n.toNat ≤ 1000 by omega) (by decide +kernel)
end LX

namespace LX
open PySem PySem.Spec PyProof.Rows L2
/-! ### t[::-1] of a tuple -/
theorem applied_rev {prog : Program} {w : World} {A : Around} {E : Value → Shared → Prop} {s : Shared} {sl : Addr} {vl vu vs : Value} {n : Nat} {Q : Int × Int × Nat → Shared → Prop} (hs : s.heap.IsSliceOf sl vl vu vs) (pl : IsPart vl none) (pu : IsPart vu none) (ps : IsPart vs (some (-1)))
    (h : Q ((n : Int) - 1, -1, n) s) : wpAny (model prog w) A (Builtin.Slice.sliceApplied (.ref sl) (pure (n : Int))) Q E s := by
  obtain ⟨os, hos, hcs, hds⟩ := id hs
  unfold Builtin.Slice.sliceApplied Builtin.Slice.sliceFields
  refine wpAny_bind (wpAny_bind (wpAny_field hos hds (x := vl) rfl (wpAny_bind (wpAny_field hos hds (x := vu) rfl (wpAny_bind (wpAny_field hos hds (x := vs) rfl (wpAny_pure ?_)))))))
  refine wpAny_bind (HT.slicePart_ ps ?_)
  show wpAny _ _ (if ((-1 : Int) == 0) = true then _ else _) _ _ s
  rw [if_neg (by decide)]
  refine wpAny_bind (HT.slicePart_ pl (wpAny_bind (HT.slicePart_ pu (wpAny_bind (wpAny_pure ?_)))))
  show wpAny _ _ (match Builtin.Slice.sliceAdjust none none (-1) (n : Int) with | (lo, hi) => pure (lo, (-1 : Int), Builtin.Slice.slicePlaces lo hi (-1))) _ _ s
  have e : Builtin.Slice.sliceAdjust none none (-1) (n : Int) = ((n : Int) - 1, -1) := by
    unfold Builtin.Slice.sliceAdjust
    simp
  rw [e]
  have e2 : Builtin.Slice.slicePlaces ((n : Int) - 1) (-1) (-1) = n := by
    unfold Builtin.Slice.slicePlaces
    by_cases z : n = 0
    · subst z; rfl
    · rw [if_neg (by decide), if_pos (by omega), show (n : Int) - 1 - -1 - 1 = (n : Int) - 1 by omega, show (- -1 : Int) = 1 by decide, Int.ediv_one]
      omega
  show wpAny _ _ (pure ((n : Int) - 1, (-1 : Int), Builtin.Slice.slicePlaces ((n : Int) - 1) (-1) (-1))) _ _ s
  rw [e2]
  exact wpAny_pure h
theorem fmc {α β : Type} {f g : α → Option β} : ∀ {l : List α}, (∀ a ∈ l, f a = g a) → l.filterMap f = l.filterMap g
  | [], _ => rfl
  | a :: r, h => by rw [List.filterMap_cons, List.filterMap_cons, h a List.mem_cons_self, fmc fun b hb => h b (List.mem_cons_of_mem _ hb)]
theorem pick_rev (xs : Array Value) : ((List.range xs.size).filterMap fun (m : Nat) => xs[((xs.size : Int) - 1 + (m : Int) * (-1)).toNat]?).toArray = xs.toList.reverse.toArray := by
  have e := PySem.W.krv_pick xs
  unfold slicePick at e
  rw [PySem.W.krv_bounds] at e
  rw [← e]
  show _ = ((sliceRange ((xs.size : Int) - 1) (-1) (-1)).filterMap (xs[·]?)).toArray
  rw [PySem.W.krv_sliceRange, List.filterMap_map]
  congr 1
  refine fmc fun m hm => ?_
  have := List.mem_range.mp hm
  show _ = xs[xs.size - 1 - m]?
  congr 1
  omega
theorem getItem_tuple_rev {prog : Program} {w : World} {A : Around} {E : Value → Shared → Prop} {s : Shared} {t sl : Addr} {items : Array Value} {vl vu vs : Value} {Q : Value → Shared → Prop} (ht : IsTup s.heap t items) (hs : s.heap.IsSliceOf sl vl vu vs) (pl : IsPart vl none) (pu : IsPart vu none) (ps : IsPart vs (some (-1)))
    (h : Q (.ref s.heap.objs.size) { s with heap := s.heap.push { cls := .type "tuple", data := .seq items.toList.reverse.toArray } })
    (hsz : items.size ≤ sizeLine) : wpAny (model prog w) A (getItem (.ref t) (.ref sl)) Q E s := by
  have htake : sizeOk (.seq items.toList.reverse.toArray) := by
    show items.toList.reverse.toArray.size ≤ sizeLine
    rw [List.size_toArray, List.length_reverse, Array.length_toList]
    exact hsz
  obtain ⟨os, hos, hcs, hds⟩ := id hs
  have hTs : s.TypeIs (.ref sl) "slice" := ⟨os, hos, hcs⟩
  unfold getItem
  try with_reducible refine wpAny_holding ?_
  first | refine wpAny_bind (wpAny_pure ?_) | skip
  refine wpAny_bind (wpAny_sequenceKey ht.typeIs (by decide) ?_)
  refine wpAny_bind (wpAny_callSpecial?_slot (name := Str.ofString "__getitem__") ht.typeIs PyProof.Rows.slot_tuple_getitem
    (wpAny_call_entry PyProof.Rows.slot_tuple_getitem ht.typeIs PyProof.Rows.entry_tuple_getitem ?_ (PyProof.Rows.args_tuple_getitem _ _)))
  show wpAny _ _ (Builtin.Tuple.tupleItemsOf (.ref t) >>= _) _ _ s
  refine wpAny_bind (tupleItemsOf_ ht ?_)
  refine wpAny_bind (wpAny_typeOf hTs ?_)
  rw [if_pos (by decide)]
  refine wpAny_bind (applied_rev hs pl pu ps ?_)
  have hno : ¬ ((((items.size : Int) - 1) == 0 && (-1 : Int) == 1 && items.size == items.size) = true) := by
    intro q
    rw [Bool.and_eq_true, Bool.and_eq_true] at q
    exact absurd q.1.2 (by decide)
  show wpAny _ _ (if (((items.size : Int) - 1) == 0 && (-1 : Int) == 1 && items.size == items.size) = true then _ else _) _ _ s
  rw [if_neg hno, pick_rev]
  first
    | exact wpAny_bind (m := Builtin.Tuple.tupleExact _) (wpAny_newObj_type (wpAny_pure ⟨_, rfl, wpAny_pure h⟩) htake)
    | exact wpAny_bind (m := Builtin.Tuple.tupleExact _) (wpAny_newObj_type (wpAny_bind (wpAny_pure (wpAny_pure ⟨_, rfl, wpAny_pure h⟩))) htake)
    | exact wpAny_bind (wpAny_bind (m := Builtin.Tuple.tupleExact _) (wpAny_newObj_type (wpAny_pure (wpAny_pure ⟨_, rfl, wpAny_pure h⟩)) htake))
    | exact wpAny_bind (wpAny_bind (m := Builtin.Tuple.tupleExact _) (wpAny_newObj_type (wpAny_pure ⟨_, rfl, wpAny_pure h⟩) htake))
def tRevT (K : PySem.W.Frag) (te : TE) : TE := fun σ H Q => te σ H fun x H1 => ∃ a xs, x = .ref a ∧ SqT K H1 a xs ∧ ∀ p, H1 p = none → Q (.ref p) (upd H1 p (.tup xs.reverse))
theorem pe_revT {X : Cx} {e : Expr} {te : TE} {k : Nat} {p1 p2 p3 pos : Pos} (he : PE X e te) : PE X (.Subscript e (.Slice none none (some (.UnaryOp .USub (.Constant (.int 1) k p1) p2)) p3) pos) (tRevT X.K te) := by
  refine ⟨fun pins s σ H Q I h => ?_⟩
  refine Subscript_ (thn (he.run pins s σ H _ I h) fun v s1 ⟨x, H1, I1, r1, q1⟩ => ?_)
  obtain ⟨a, xs, ex, hx, q⟩ := q1
  subst ex
  cases r1
  have hst : PO X (some (.UnaryOp .USub (.Constant (.int 1) k p1) p2)) (tPart (tUn (rU fun i => .int (-i)) (tC (.int 1)))) := po_some (pe_un un_neg pe_int)
  refine wpAny_Slice (thn (po_none.run pins s1 σ H1 (fun o H2 => o = none ∧ H2 = H1) I1 ⟨rfl, rfl⟩) fun vl s2 ⟨l, H2, I2, pl, el, e2⟩ => ?_)
  subst el e2
  refine thn (po_none.run pins s2 σ H2 (fun o H3 => o = none ∧ H3 = H2) I2 ⟨rfl, rfl⟩) fun vu s3 ⟨u, H3, I3, pu, eu, e3⟩ => ?_
  subst eu e3
  refine thn (hst.run pins s3 σ H3 (fun o H4 => o = some (-1) ∧ H4 = H3) I3 ⟨1, rfl, -1, rfl, rfl, rfl⟩) fun vs s4 ⟨o, H4, I4, ps, eo, e4⟩ => ?_
  subst eo e4
  have I5 : Inv X pins σ H4 { s4 with heap := s4.heap.push { cls := .type "slice", data := .fields #[vl, vu, vs] } } := I4.kept (t' := s4.toks) fun b ob q => Heap.get?_push_of_some _ q
  obtain ⟨its, r, ht, hz⟩ := I5.tuple hx
  have hlen := r.length
  show wpAny (model X.prog X.w) X.A (subscriptTail e (.Slice none none (some (.UnaryOp .USub (.Constant (.int 1) k p1) p2)) p3) (.ref a) (.ref s4.heap.objs.size)) (EP X pins σ Q) X.xe { s4 with heap := s4.heap.push { cls := .type "slice", data := .fields #[vl, vu, vs] } }
  refine tail_any (ops := [.ref a, .ref s4.heap.objs.size]) ht.typeIs (PyProof.Rows.slot_tuple_getitem.lookup) ?_ (by with_unfolding_all rfl)
  refine getItem_tuple_rev ht (Heap.IsSliceOf.new _ vl vu vs) pl pu ps ?_ (by rw [List.size_toArray]; omega)
  refine ⟨.ref _, _, I5.laid (t' := s4.toks) (o := .tup xs.reverse) (fun b ob q => Heap.get?_push_of_some _ q) (Nat.le_refl _) ?_, rfl, q _ (I5.hok.fresh (Nat.le_refl _))⟩
  exact ⟨by rw [List.length_reverse]; exact hz, _, r.reverse, IsTup.new _ _⟩
/-! ### max(xs, default=d) of a list of ints -/
def rMaxDef (K : PySem.W.Frag) : List V → List V → Hp → VK → Prop := fun vs zs H Q => ∃ (a : Addr) (ns : List Int) (d : V), vs = [.ref a] ∧ zs = [d] ∧ SqL K H a (ns.map V.int) ∧ (ns = [] → Q d H) ∧ (ns ≠ [] → ∀ m, m ∈ ns → (∀ y ∈ ns, y ≤ m) → Q (.int m) H)
theorem cr_maxDef {X : Cx} (hc : X.calm = true) : CallRK X (.builtin "max") [Str.ofString "default"] (rMaxDef X.K) := by
  intro pins s σ H vs zs us ws Q I r rz h
  obtain ⟨a, ns, d, rfl, rfl, hs, q0, q1⟩ := h
  obtain rfl := Vals.ref1 r
  obtain ⟨w1, rfl, e1⟩ := vals1 rz
  obtain ⟨its, rv, hl, _⟩ := I.list hs
  have hi := rv.ints
  have hh : X.A.handled = none := I.ok.hd hc
  obtain ⟨xs, e⟩ := hi.allInts.items
  have hn : numsOf (intItems xs).toList = ns := by rw [← e]; exact hi.numsOf
  rw [nums_intItems] at hn
  have hl2 := hl.isList
  rw [e] at hl2
  refine PySem.call_max_walkD (PySem.W.iter_listW (A := X.A.in1) hh hl2 fun s₂ e2 W st hfp hw hk => ?_)
  refine ⟨_, _, _, _, _, _, _, s.heap, (fun i j => decide (numAt xs i > numAt xs j)), rfl, W, st, hfp, hw, hk, fun hz s' m => ?_, fun hp => ⟨fun i j vi vj s3 Q3 E3 _ hi hj h3 => CmpOf.ints_gt (numAt xs) (fun _ _ => intItems_at) i j vi vj s3 Q3 E3 hi hj h3, fun v s' hP m => ?_⟩⟩
  · obtain ⟨h', tk, rfl, hk'⟩ := PySem.W.moved_old e2 rfl m
    refine ⟨d, H, I.kept hk', e1, q0 ?_⟩
    rw [← hn]
    have : xs.size = 0 := by simpa [intItems] using hz
    rw [Array.eq_empty_of_size_eq_zero this]; rfl
  · obtain ⟨h', tk, rfl, hk'⟩ := PySem.W.moved_old e2 rfl m
    have hp2 : 0 < xs.size := by simpa [intItems] using hp
    have hsz : (intItems xs).size = xs.size := by simp [intItems]
    rw [hsz] at hP
    obtain ⟨t, rfl⟩ := intItems_at hP
    obtain ⟨h1, h2⟩ := argBest_gt (numAt xs) (xs.size - 1)
    refine ⟨.int _, H, I.kept hk', ⟨_, rfl⟩, q1 ?_ _ ?_ fun y hy => ?_⟩
    · intro z
      rw [← hn] at z
      have := congrArg List.length z
      rw [List.length_map, Array.length_toList, List.length_nil] at this
      omega
    · rw [← hn, numAt_eq]; exact PySem.getD_mem (by rw [List.length_map, Array.length_toList]; omega)
    · rw [← hn] at hy
      obtain ⟨j, hj, rfl⟩ := mem_getD hy
      rw [List.length_map, Array.length_toList] at hj
      rw [← numAt_eq]; exact h2 j (by omega)
end LX

namespace LX
open PySem PySem.Spec PyProof.Rows L2
/-! ### list(zip(xs, ys)) of two lists -/
theorem nolen_zip : typeLookup (.type "zip") "__len__" = pure none := by rw [typeLookup_type, builtinLookup_eq_fast]; kernel_rfl
theorem nohint_zip : typeLookup (.type "zip") "__length_hint__" = pure none := by rw [typeLookup_type, builtinLookup_eq_fast]; kernel_rfl
def ZSt (z TI TO i1 i2 l1 l2 S : Addr) (h : Heap) (j : Nat) : Prop := IsPair h TI (.ref i1) (.ref i2) ∧ h.IsListIter i1 l1 j ∧ h.IsListIter i2 l2 j ∧
  ((IsZip h z TI TO .none ∧ ∃ a b, IsPair h TO a b) ∨ ∃ T f oT, IsZipHeld h z TI TO T f ∧ h.get? T = some oT ∧ T ≠ z ∧ T ≠ i1 ∧ T ≠ i2 ∧ T ≠ S)
theorem ZSt.at {z TI TO i1 i2 l1 l2 S : Addr} {h h' : Heap} {j : Nat} (x : ZSt z TI TO i1 i2 l1 l2 S h j) (hS : S ≠ z ∧ S ≠ TI ∧ S ≠ TO ∧ S ≠ i1 ∧ S ≠ i2) (k : ∀ b o, b ≠ S → h.get? b = some o → h'.get? b = some o) : ZSt z TI TO i1 i2 l1 l2 S h' j := by
  obtain ⟨a, b, c, d⟩ := x
  refine ⟨k _ _ hS.2.1.symm a, b.at fun o e => k _ o hS.2.2.2.1.symm e, c.at fun o e => k _ o hS.2.2.2.2.symm e, ?_⟩
  rcases d with ⟨d, u, v, e⟩ | ⟨T, f, oT, d, e, n1, n2, n3, n4⟩
  · exact .inl ⟨k _ _ hS.1.symm d, u, v, k _ _ hS.2.2.1.symm e⟩
  · exact .inr ⟨T, f, oT, k _ _ hS.1.symm d, k _ _ n4 e, n1, n2, n3, n4⟩
/-- the tuples made so far -/
def Zd (H1 H : Hp) (xs ys : List V) (Ts : List Addr) : Prop := ∀ (i : Nat) T x y, Ts[i]? = some T → xs[i]? = some x → ys[i]? = some y → H1 T = none ∧ H T = some (.tup [x, y])
section
variable {X : Cx} {pins : List (Addr × Obj)} {σ : L2.St} {z TI TO i1 i2 l1 l2 S : Addr} {H1 : Hp} {xs ys : List V} {A : Around} {R : Result → Shared → Prop} {res : Value}
theorem zip_loop (hh : A.handled = none) (D : ZipApart z TI TO i1 i2 l1 l2) (hS : S ≠ z ∧ S ≠ TI ∧ S ≠ TO ∧ S ≠ i1 ∧ S ≠ i2) (hl : xs.length = ys.length) (hz : xs.length ≤ 1000) (q1 : SqL X.K H1 l1 xs) (q2 : SqL X.K H1 l2 ys) (hS0 : H1 S = none) :
    ∀ (k j : Nat) (s : Shared) (H : Hp) (Ts : List Addr), xs.length - j = k → j ≤ xs.length → Inv X pins σ H s → (∀ b ∈ [z, TI, TO, i1, i2], FpOk X pins H b) → ZSt z TI TO i1 i2 l1 l2 S s.heap j → (∀ b ∈ [z, TI, TO, i1, i2], b < s.heap.objs.size) →
    Same H1 H → H S = some (.lst (Ts.map V.ref)) → Ts.length = j → Zd H1 H xs ys Ts →
    (∀ (s' : Shared) (H' : Hp) (Us : List Addr), Inv X pins σ H' s' → Same H1 H' → H' S = some (.lst (Us.map V.ref)) → Us.length = xs.length → Zd H1 H' xs ys Us → R (.ok (.ret res)) s') →
    codeAny (model X.prog X.w) A (.builtin "list.extend.loop" ⟨[.ref S, .ref z, res], []⟩) R s := by
  intro k
  induction k with
  | zero =>
    intro j s H Ts hk hj I hf st lt sm hHS hT zd fin
    have hj2 : j = xs.length := by omega
    obtain ⟨its, rv, p1, _⟩ := I.list (sm.seq q1)
    obtain ⟨its2, rv2, p2, _⟩ := I.list (sm.seq q2)
    have e1 := rv.length
    have hend : its.toArray[j]? = none ∨ its2.toArray[j]? = none := .inl (Array.getElem?_eq_none (by rw [List.size_toArray]; omega))
    refine codeAny_builtin F.entry_extend_loop ?_
    rw [Around.under_plainId F.plain_extend_loop _]
    show wpAny _ A.in1 (pyNext (.ref z) >>= _) _ _ s
    obtain ⟨s1, s2, s3, s4⟩ := st
    rcases s4 with ⟨g1, a, b, g2⟩ | ⟨T, f, oT, g1, g2, n1, n2, n3, n4⟩
    · refine wpAny_bind (wpAny_pyNext_zip_end (A := A.in1) hh D g1 s1 g2 s2 s3 p1.isList p2.isList hend fun h' hk' => ?_)
      refine wpAny_pure (fin _ H Ts (I.turnedL (ch := [z, TI, TO, i1, i2]) (t' := s.toks) (fun c o nb q => hk' c o (fun e => nb (by simp [e])) (fun e => nb (by simp [e])) (fun e => nb (by simp [e])) (fun e => nb (by simp [e])) q) hf) sm hHS (by omega) zd)
    · refine wpAny_bind (wpAny_pyNext_zip_end_held (A := A.in1) hh D g1 g2 s1 s2 s3 p1.isList p2.isList hend fun h' hk' => ?_)
      refine wpAny_pure (fin _ H Ts (I.turnedL (ch := [z, TI, TO, i1, i2]) (t' := s.toks) (fun c o nb q => hk' c o (fun e => nb (by simp [e])) (fun e => nb (by simp [e])) (fun e => nb (by simp [e])) q) hf) sm hHS (by omega) zd)
  | succ k ih =>
    intro j s H Ts hk hj I hf st lt sm hHS hT zd fin
    have hlt : j < xs.length := by omega
    obtain ⟨its, rv, p1, _⟩ := I.list (sm.seq q1)
    obtain ⟨its2, rv2, p2, _⟩ := I.list (sm.seq q2)
    have ex := List.getElem?_eq_getElem hlt
    have ey := List.getElem?_eq_getElem (l := ys) (i := j) (by omega)
    generalize xs[j] = x at ex
    generalize ys[j]'(by omega) = y at ey
    obtain ⟨u, hu, ru⟩ := rv.get ex
    obtain ⟨u2, hu2, ru2⟩ := rv2.get ey
    have hu' : its.toArray[j]? = some u := by simpa using hu
    have hu2' : its2.toArray[j]? = some u2 := by simpa using hu2
    refine codeAny_builtin F.entry_extend_loop ?_
    rw [Around.under_plainId F.plain_extend_loop _]
    show wpAny _ A.in1 (pyNext (.ref z) >>= _) _ _ s
    have hTn : H s.heap.objs.size = none := I.hok.fresh (Nat.le_refl _)
    have tail : ∀ (h' : Heap), IsPair h' s.heap.objs.size u u2 → h'.objs.size = s.heap.objs.size + 1 → ZSt z TI TO i1 i2 l1 l2 S h' (j + 1) → (∀ c o, c ∉ [z, TI, TO, i1, i2] → s.heap.get? c = some o → h'.get? c = some o) →
        wpAny (model X.prog X.w) A.in1 (do let x ← pure (some (Value.ref s.heap.objs.size)); match x with
          | none => ret res
          | some x => do Builtin.List.listUpdate (.ref S) (·.push x); again (.builtin "list.extend.loop" ⟨[.ref S, .ref z, res], []⟩)) (fun fin s' => match fin with | .done f => R (.ok f) s' | .again c' => c'.quiet = true ∧ codeAny (model X.prog X.w) A c' R s') (fun e s' => R (.error e) s') { s with heap := h' } := by
      intro h' pr sz st' kp
      have ob : ObjOk X.prog X.w (upd H s.heap.objs.size (.tup [x, y])) h' s.heap.objs.size (.tup [x, y]) :=
        ⟨by show 2 ≤ sizeLine; decide, [u, u2], .cons ru (.cons ru2 .nil), ⟨_, pr, rfl, _, rfl⟩⟩
      have J : Inv X pins σ (upd H s.heap.objs.size (.tup [x, y])) { s with heap := h', toks := s.toks } := I.turnedNew (ch := [z, TI, TO, i1, i2]) kp hf (Nat.le_refl _) ob
      have hST : S ≠ s.heap.objs.size := ne_of_none hHS hTn
      have hH2 : (upd H s.heap.objs.size (.tup [x, y])) S = some (.lst (Ts.map V.ref)) := by rw [upd_ne hST]; exact hHS
      obtain ⟨z0, itS, n, rS, lS, eS⟩ := J.lstM hH2
      rw [List.length_map] at lS
      have J2 := J.lset (its' := itS ++ [.ref s.heap.objs.size]) (ys := Ts.map V.ref ++ [V.ref s.heap.objs.size]) (f := fun a => a.push (.ref s.heap.objs.size)) (t' := s.toks) hH2 eS (by simp) (rS.append (.cons (show L2.RelV (V.ref s.heap.objs.size) (.ref s.heap.objs.size) from rfl) .nil)) (by
        rw [List.length_append, List.length_map]
        exact Nat.le_of_lt (small1000 (by show Ts.length + 1 ≤ 1000; omega)))
      refine wpAny_bind (wpAny_pure ?_)
      show wpAny _ A.in1 (updateSeq S (·.push (.ref s.heap.objs.size)) >>= _) _ _ _
      refine wpAny_bind (wpAny_updateSeq eS rfl (wpAny_pure ⟨plainId_quiet F.plain_extend_loop _, ?_⟩) (by rw [List.size_toArray]; exact Nat.le_of_lt (small1000 (by omega))) (by
        rw [Array.size_push, List.size_toArray]
        exact Nat.le_succ_of_le (Nat.le_of_lt (small1000 (by omega)))))
      refine ih (j + 1) _ _ (Ts ++ [s.heap.objs.size]) (by omega) hlt J2 (fun b hb => ?_) (st'.at hS fun b o hb e => (Heap.get?_update_other _ _ (Ne.symm hb)).trans e) (fun b hb => ?_) ?_ (by rw [upd_same, List.map_append]; rfl) (by rw [List.length_append, hT]; rfl) ?_ fin
      · have q := hf b hb
        refine ⟨?_, q.2⟩
        have nb : b ≠ S := fun e => by
          have q0 := q.1
          rw [e, hHS] at q0; cases q0
        rw [upd_ne nb, upd_ne (Nat.ne_of_lt (lt b hb))]
        exact q.1
      · have l0 := lt b hb
        show b < (h'.update S _).objs.size
        rw [Heap.size_update, sz]
        exact Nat.lt_succ_of_lt l0
      · intro b o hb
        rw [upd_ne (ne_of_none hb hS0), upd_ne (ne_of_none (sm _ _ hb) hTn)]
        exact sm _ _ hb
      · intro i T a b e1 e2 e3
        by_cases c : i < Ts.length
        · rw [List.getElem?_append_left c] at e1
          obtain ⟨w1, w2⟩ := zd i T a b e1 e2 e3
          have nT : T ≠ S := fun e => by rw [e, hHS] at w2; cases w2
          exact ⟨w1, by rw [upd_ne nT, upd_ne (ne_of_none w2 hTn)]; exact w2⟩
        · rw [List.getElem?_append_right (by omega)] at e1
          cases w : i - Ts.length with
          | zero =>
            rw [w] at e1
            cases e1
            have ij : i = j := by
              have c2 : Ts.length ≤ i := Nat.le_of_not_lt c
              have w2 : i - Ts.length = 0 := w
              omega
            subst ij
            rw [ex] at e2
            rw [ey] at e3
            cases e2; cases e3
            exact ⟨sm.free hTn, by rw [upd_ne hST.symm, upd_same]⟩
          | succ m => rw [w] at e1; simp at e1
    obtain ⟨s1, s2, s3, s4⟩ := st
    rcases s4 with ⟨g1, a, b, g2⟩ | ⟨T, f, oT, g1, g2, n1, n2, n3, n4⟩
    · refine wpAny_bind (wpAny_pyNext_zip_item (A := A.in1) D g1 s1 g2 s2 s3 p1.isList p2.isList hu' hu2' fun h' a1 a2 a3 a4 a5 a6 hk' => ?_)
      have n0 : s.heap.objs.size ≠ S := (ne_of_none hHS hTn).symm
      refine tail h' a5 a6 ⟨hk' _ _ D.TIz D.TITO D.TIi1 D.TIi2 s1, a3, a4, .inr ⟨_, false, _, a1, a5, Nat.ne_of_gt (lt z (by simp)), Nat.ne_of_gt (lt i1 (by simp)), Nat.ne_of_gt (lt i2 (by simp)), n0⟩⟩ fun c o nb q => hk' c o (fun e => nb (by simp [e])) (fun e => nb (by simp [e])) (fun e => nb (by simp [e])) (fun e => nb (by simp [e])) q
    · refine wpAny_bind (wpAny_pyNext_zip_item_held (A := A.in1) D g1 g2 s1 s2 s3 p1.isList p2.isList hu' hu2' fun h' a1 a3 a4 a5 a6 hk' => ?_)
      refine tail h' a5 a6 ⟨hk' _ _ D.TIz D.TIi1 D.TIi2 s1, a3, a4, .inr ⟨T, true, oT, a1, hk' _ _ n1 n2 n3 g2, n1, n2, n3, n4⟩⟩ fun c o nb q => hk' c o (fun e => nb (by simp [e])) (fun e => nb (by simp [e])) (fun e => nb (by simp [e])) q
theorem list_zip_call (hh : A.handled = none) {s : Shared} {H : Hp} {Q : Value → Shared → Prop} {E : Value → Shared → Prop} (I : Inv X pins σ H s) (D : ZipApart z TI TO i1 i2 l1 l2) (hl : xs.length = ys.length) (hz : xs.length ≤ 1000) (q1 : SqL X.K H l1 xs) (q2 : SqL X.K H l2 ys)
    (hf : ∀ b ∈ [z, TI, TO, i1, i2], FpOk X pins H b) (hZ : IsZip s.heap z TI TO .none) (hTI : IsPair s.heap TI (.ref i1) (.ref i2)) (hTO : ∃ a b, IsPair s.heap TO a b) (h1 : s.heap.IsListIter i1 l1 0) (h2 : s.heap.IsListIter i2 l2 0)
    (fin : ∀ (s' : Shared) (H' : Hp) (S : Addr) (Us : List Addr), Inv X pins σ H' s' → Same H H' → H S = none → H' S = some (.lst (Us.map V.ref)) → Us.length = xs.length → Zd H H' xs ys Us → Q (.ref S) s') :
    wpAny (model X.prog X.w) A (call (.type "list") [.ref z]) Q E s := by
  refine callType_codes (Q₁ := fun obj s₁ => obj = .ref s.heap.objs.size ∧ s₁ = { s with heap := s.heap.push { cls := .type "list", data := .seq #[] } }) PySem.F.called_list (PySem.F.typeCall_list_1 _) PySem.F.entry_list_init
    (code_list_new _ ⟨rfl, rfl⟩) fun obj s₁ h₁ => ?_
  obtain ⟨rfl, rfl⟩ := h₁
  have hS : (s.heap.push { cls := .type "list", data := .seq #[] }).get? s.heap.objs.size = some { cls := .type "list", data := .seq #[] } := Heap.get?_push_size _ rfl
  refine ⟨⟨_, hS, rfl⟩, PySem.F.args_list_init_2 _ _, ?_⟩
  have sz0 : (s.heap.push { cls := .type "list", data := .seq #[] }).objs.size = s.heap.objs.size + 1 := Heap.size_push ..
  have hSn : H s.heap.objs.size = none := I.hok.fresh (Nat.le_refl _)
  have ltz : z < s.heap.objs.size := Heap.lt_size hZ
  have lTI : TI < s.heap.objs.size := Heap.lt_size hTI
  have lTO : TO < s.heap.objs.size := let ⟨_, _, q⟩ := hTO; Heap.lt_size q
  have li1 : i1 < s.heap.objs.size := let ⟨_, q, _⟩ := h1; Heap.lt_size q
  have li2 : i2 < s.heap.objs.size := let ⟨_, q, _⟩ := h2; Heap.lt_size q
  have I1 : Inv X pins σ (upd H s.heap.objs.size (.lst [])) { s with heap := s.heap.push { cls := .type "list", data := .seq #[] }, toks := s.toks } := I.lnew (its := []) .nil (by decide)
  have hHS : (upd H s.heap.objs.size (.lst [])) s.heap.objs.size = some (.lst []) := upd_same
  show wpAny _ _ (do let old ← Builtin.List.listItems (.ref s.heap.objs.size); Builtin.List.listUpdate (.ref s.heap.objs.size) (fun _ => #[]); letGo old.toList.reverse; Builtin.List.listExtendWith (.ref s.heap.objs.size) (.ref z) .none) _ _ _
  refine wpAny_bind ?_
  unfold Builtin.List.listItems
  refine wpAny_bind (wpAny_seqItems hS rfl (wpAny_pure ?_))
  show wpAny _ _ (updateSeq s.heap.objs.size (fun _ => #[]) >>= fun _ => letGo (#[] : Array Value).toList.reverse >>= fun _ => Builtin.List.listExtendWith (.ref s.heap.objs.size) (.ref z) .none) _ _ _
  refine wpAny_bind (wpAny_updateSeq hS rfl ?_)
  have hS₂ := Heap.get?_update_self (Obj.mapSeq (fun _ => (#[] : Array Value))) hS rfl
  have I2 := I1.lset (its' := []) (ys := []) (f := fun _ => #[]) (t' := s.toks) hHS hS rfl .nil (by decide)
  rw [upd_upd] at I2
  have k2 : ∀ b o, b ≠ s.heap.objs.size → s.heap.get? b = some o → ((s.heap.push { cls := .type "list", data := .seq #[] }).update s.heap.objs.size (Obj.mapSeq (fun _ => (#[] : Array Value)))).get? b = some o := fun b o hb e => (Heap.get?_update_other _ _ (Ne.symm hb)).trans (Heap.get?_push_of_some _ e)
  have sz2 : ((s.heap.push { cls := .type "list", data := .seq #[] }).update s.heap.objs.size (Obj.mapSeq (fun _ => (#[] : Array Value)))).objs.size = s.heap.objs.size + 1 := by rw [Heap.size_update, sz0]
  generalize ((s.heap.push { cls := .type "list", data := .seq #[] }).update s.heap.objs.size (Obj.mapSeq (fun _ => (#[] : Array Value)))) = h2' at hS₂ I2 k2 sz2
  refine wpAny_bind (wpAny_letGo ?_)
  unfold Builtin.List.listExtendWith
  have hT2 : Shared.TypeIs { s with heap := h2' } (.ref z) "zip" := ⟨_, k2 _ _ (Nat.ne_of_lt ltz) hZ, rfl⟩
  refine wpAny_bind (wpAny_typeOf hT2 ?_)
  have e1 : Builtin.List.listSameRef (.ref s.heap.objs.size) (.ref z) = false := by simp [Builtin.List.listSameRef, Nat.ne_of_gt ltz]
  simp only [e1, show (Value.type "zip" == Value.type "list") = false by decide, show (Value.type "zip" == Value.type "tuple") = false by decide, Bool.or_false, Bool.false_eq_true, if_false]
  refine wpAny_bind (wpAny_pyIter_zip (k2 _ _ (Nat.ne_of_lt ltz) hZ) ?_)
  refine wpAny_bind (wpAny_holding ?_)
  unfold Builtin.List.listLengthHint
  refine wpAny_bind (wpAny_specialOf hT2 nolen_zip ?_)
  show wpAny _ _ (specialOf (Value.ref z) (Str.ofString "__length_hint__") >>= _) _ _ _
  refine wpAny_bind (wpAny_specialOf hT2 nohint_zip ?_)
  refine wpAny_pure ?_
  show wpAny _ _ (rule "list.extend.makes-room" >>= fun _ => Builtin.List.listTouch (.ref s.heap.objs.size) >>= fun _ =>
    again (.builtin "list.extend.loop" ⟨[.ref s.heap.objs.size, .ref z, .none], []⟩)) _ _ _
  refine wpAny_bind (wpAny_rule ?_)
  refine wpAny_bind ?_
  show wpAny _ _ (updateSeq s.heap.objs.size (·.push .none) >>= fun _ => updateSeq s.heap.objs.size (·.pop)) _ _ _
  refine wpAny_bind (wpAny_updateSeq hS₂ rfl ?_)
  have hS₃ := Heap.get?_update_self (Obj.mapSeq (·.push Value.none)) hS₂ rfl
  refine wpAny_updateSeq hS₃ rfl ?_
  have I4 := I2.lset (its' := []) (ys := []) (f := fun a => (a.push Value.none).pop) (t' := s.toks) upd_same hS₂ rfl .nil (by decide)
  have eqU : (h2'.update s.heap.objs.size (Obj.mapSeq (·.push Value.none))).update s.heap.objs.size (Obj.mapSeq (·.pop)) = (h2'.update s.heap.objs.size (Obj.mapSeq (·.push Value.none))).update s.heap.objs.size (Obj.mapSeq (·.pop)) := rfl
  have J4 : Inv X pins σ (upd H s.heap.objs.size (.lst [])) { s with heap := (h2'.update s.heap.objs.size (Obj.mapSeq (·.push Value.none))).update s.heap.objs.size (Obj.mapSeq (·.pop)), toks := s.toks } := by
    have z := I2.write (x := s.heap.objs.size) (e := s.heap.objs.size) (o := .lst []) (h' := (h2'.update s.heap.objs.size (Obj.mapSeq (·.push Value.none))).update s.heap.objs.size (Obj.mapSeq (·.pop))) (t' := s.toks) (by rw [upd_same]; exact trivial) (.inl rfl)
      (fun b u hb hu => (Heap.get?_update_other _ _ (Ne.symm hb)).trans ((Heap.get?_update_other _ _ (Ne.symm hb)).trans hu)) ⟨_, Heap.get?_update_self _ hS₃ rfl⟩ ⟨by decide, [], _, .nil, Heap.get?_update_self _ hS₃ rfl⟩
    rw [upd_upd] at z
    exact z
  have sm : Same H (upd H s.heap.objs.size (.lst [])) := fun b x e => by rw [upd_ne (ne_of_none e hSn)]; exact e
  have k4 : ∀ b o, b ≠ s.heap.objs.size → s.heap.get? b = some o → ((h2'.update s.heap.objs.size (Obj.mapSeq (·.push Value.none))).update s.heap.objs.size (Obj.mapSeq (·.pop))).get? b = some o := fun b o hb e => (Heap.get?_update_other _ _ (Ne.symm hb)).trans ((Heap.get?_update_other _ _ (Ne.symm hb)).trans (k2 b o hb e))
  refine wpAny_pure ⟨plainId_quiet F.plain_extend_loop _, zip_loop (A := A.in1) (S := s.heap.objs.size) hh D ⟨Nat.ne_of_gt ltz, Nat.ne_of_gt lTI, Nat.ne_of_gt lTO, Nat.ne_of_gt li1, Nat.ne_of_gt li2⟩ hl hz q1 q2 hSn _ 0 _ _ [] rfl (Nat.zero_le _) J4 (fun b hb => ?_) ?_ (fun b hb => ?_) sm upd_same rfl (fun i T x y e => by simp at e) fun s' H' Us J sm2 hU lU zd => ?_⟩
  · have q := hf b hb
    refine ⟨?_, q.2⟩
    have nb : b ≠ s.heap.objs.size := by
      simp only [List.mem_cons, List.not_mem_nil, or_false] at hb
      rcases hb with rfl | rfl | rfl | rfl | rfl
      · exact Nat.ne_of_lt ltz
      · exact Nat.ne_of_lt lTI
      · exact Nat.ne_of_lt lTO
      · exact Nat.ne_of_lt li1
      · exact Nat.ne_of_lt li2
    rw [upd_ne nb]
    exact q.1
  · obtain ⟨a, b, hTO⟩ := hTO
    exact ⟨k4 _ _ (Nat.ne_of_lt lTI) hTI, h1.at fun o e => k4 _ o (Nat.ne_of_lt li1) e, h2.at fun o e => k4 _ o (Nat.ne_of_lt li2) e, .inl ⟨k4 _ _ (Nat.ne_of_lt ltz) hZ, a, b, k4 _ _ (Nat.ne_of_lt lTO) hTO⟩⟩
  · have lt2 : b < s.heap.objs.size := by
      simp only [List.mem_cons, List.not_mem_nil, or_false] at hb
      rcases hb with rfl | rfl | rfl | rfl | rfl <;> assumption
    show b < ((h2'.update s.heap.objs.size (Obj.mapSeq (·.push Value.none))).update s.heap.objs.size (Obj.mapSeq (·.pop))).objs.size
    rw [Heap.size_update, Heap.size_update, sz2]
    exact Nat.lt_succ_of_lt lt2
  · exact ⟨rfl, fin s' H' _ Us J sm2 hSn hU lU zd⟩
end
/-- what list(zip(e, f)) asks: two lists of one length; behind it a new list of new pairs -/
def tListZip (K : PySem.W.Frag) (ta : TA) : TE := fun σ H Q => ta σ H fun vs H1 => ∃ (a b : Addr) (xs ys : List V), vs = [.ref a, .ref b] ∧ SqL K H1 a xs ∧ SqL K H1 b ys ∧ xs.length = ys.length ∧ xs.length ≤ 1000 ∧
  ∀ (H2 : Hp) (p : Addr) (Us : List Addr), Same H1 H2 → H1 p = none → H2 p = some (.lst (Us.map V.ref)) → Us.length = xs.length → Zd H1 H2 xs ys Us → Q (.ref p) H2
theorem pe_listZip {X : Cx} {e e2 : Expr} {ta : TA} {p p2 pos pos2 : Pos} (hc : X.calm = true) (hg : Gl X "list") (hm : X.mg "list" = none) (hg2 : Gl X "zip") (hm2 : X.mg "zip" = none) (ha : PA X [e, e2] ta)
    (hs : starEach [e, e2] X.env = (false, eval e X.env) :: starEach [e2] X.env := by rfl) (hpl : (backTo pos2 (starEach [e2] X.env)).any (·.1) = false := by rfl)
    (na : starEach [.Call (.Name "zip" p2) [e, e2] [] pos2] X.env = (false, eval (.Call (.Name "zip" p2) [e, e2] [] pos2) X.env) :: starEach [] X.env := by rfl) :
    PE X (.Call (.Name "list" p) [.Call (.Name "zip" p2) [e, e2] [] pos2] [] pos) (tListZip X.K ta) := by
  refine ⟨fun pins s σ H Q I want => ?_⟩
  refine Call_ (ld_blt I hg hm boot_list (PyProof.Rows.callWith_type1 (args_cons (Q := fun us s1 => wpAny (model X.prog X.w) X.A (call (.type "list") us) (EP X pins σ Q) X.xe s1) ?_ na) na))
  refine Call_ (ld_blt I hg2 hm2 PyProof.Rows.boot_zip (PyProof.Rows.callWith_type1 (thn (ha.run pos2 pins s σ H _ I want) ?_) hs hpl))
  rintro us s1 ⟨vs, H1, J, rel, a, b, xs, ys, rfl, qx, qy, hl, hz, q⟩
  obtain ⟨u1, u2, rfl, r1, r2⟩ := vals2 rel
  cases r1
  cases r2
  obtain ⟨its, rv, p1, _⟩ := J.list qx
  obtain ⟨its2, rv2, p3, _⟩ := J.list qy
  have la : a < s1.heap.objs.size := p1.lt
  refine zip_begins2 (begins_list a its.toArray) (begins_list b its2.toArray) p1.isList p3.isList fun h' hz2 hTI hTO g1 g2 sz keep => args_nil ?_
  have J2 : Inv X pins σ H1 { s1 with heap := h' } := J.kept (t' := s1.toks) keep
  refine list_zip_call (J.ok.hd hc) J2 (PySem.W.ktu_apart s1.heap.objs.size a b la p3.lt) hl hz qx qy (fun c hc2 => ?_) hz2 hTI ⟨_, _, hTO⟩ ⟨_, g1, rfl, rfl⟩ ⟨_, g2, rfl, rfl⟩ fun s' H' S Us I' sm n0 hU lU zd => ⟨.ref S, H', I', rfl, q H' S Us sm n0 hU lU zd⟩
  have le : s1.heap.objs.size ≤ c := by
    simp only [List.mem_cons, List.not_mem_nil, or_false] at hc2
    rcases hc2 with rfl | rfl | rfl | rfl | rfl <;> omega
  exact J.fpOk le (J.hok.fresh le)
end LX

namespace LX
open PySem PySem.Spec PyProof.Rows L2
variable {X : Cx}
/-- name = {k: v for ..} on one line, the name a local -/
theorem ps_setDc {i : Nat} {y : Str} {py : Pos} {kx vx tg iter : Expr} {ifs : List Expr} {scope : Scope} {own : List (Str × Nat)} {pos spos : Pos} {wi : TI} {g : TG} {tt : TT} {tk tv : TE} (hc : X.calm = true) (hN : X.N.Nodup) (hy : X.N[i]? = some y) (hyl : X.env.scope.names.lookup y = some .local)
    (hsw : swapsWith (.DictComp kx vx [⟨tg, iter, ifs, 0⟩] scope pos) (some (.Name y py)) spos.line X.env = pure true) (hi : PI X tg iter wi) (ok : BlkOk X.N X.env.scope scope own)
    (hg : ∀ (s : Shared) (H : Hp) (C : Addr) (cl : List (Str × Addr)) (fp : List Addr), PG (X.blk s H scope (compEnvC scope cl C X.env) fp) tg g) (ht : ∀ (s : Shared) (H : Hp) (C : Addr) (cl : List (Str × Addr)) (fp : List Addr), PTs (X.blk s H scope (compEnvC scope cl C X.env) fp) ifs tt)
    (hk : ∀ (s : Shared) (H : Hp) (C : Addr) (cl : List (Str × Addr)) (fp : List Addr), PE (X.blk s H scope (compEnvC scope cl C X.env) fp) kx tk)
    (he : ∀ (s : Shared) (H : Hp) (C : Addr) (cl : List (Str × Addr)) (fp : List Addr), PE (X.blk s H scope (compEnvC scope cl C X.env) fp) vx tv) (hs : ∀ x, foldedSetIterable iter X.env x = pure x := by intro _; rfl) :
    PS X (.Assign [.Name y py] (.DictComp kx vx [⟨tg, iter, ifs, 0⟩] scope pos) spos) (tAsg (tDc wi g tt tk tv (own.map (·.2))) (gName i)) := by
  refine ⟨fun pins s σ H D I h => ?_⟩
  rw [exec_Assign_Name_used _ _ _ _ hsw]
  refine wpAny_bind (wpAny_standAt (wpAny_bind ?_))
  show wpAny _ X.A (do let _ ← comprehension (.DictComp kx vx [⟨tg, iter, ifs, 0⟩] scope pos) scope X.env (firstIterPos [⟨tg, iter, ifs, 0⟩] pos) newDict false (eval iter X.env) (some (assign (.Name y py) X.env))) _ _ s
  have h : tDc wi g tt tk tv (own.map (·.2)) σ H (fun x H1 => gName i x σ H1 D.nx) := h
  refine wpAny_bind (thn (dc_core (Qf := fun _ s' => SP X pins D .next s') hc hN I hi ok hg ht hk he hs h fun L C s' m H' I' q hn f => ?_) fun _ s' hq => wpAny_pure (wpAny_pure hq))
  show wpAny _ _ (assign (.Name y py) X.env (.ref L)) _ _ _
  refine wpAny_assign_Name (store_ok2 (v := V.ref L) I' hN hy (.inl hyl) rfl (fun s2 I2 ⟨a, sb, ha⟩ => ?_) (.inr hyl))
  obtain ⟨f0, f1, f2, f3, f4, f5⟩ := f
  have haC : C ≠ a := by
    rcases ha with z | z
    · rw [z]; exact f1
    · exact fun e => f4 y a z e.symm
  refine ⟨m, hn.sameBut sb haC, fun h3 sb3 => ?_⟩
  exact ⟨_, H', I2.turned (t' := s2.toks) (fun b o hb e => (sb3.2 b hb).trans e) f0 f1 f3 f4 f5, q⟩
theorem sw_trueD {kx vx : Expr} {gs : List Comprehension} {scope : Scope} {pos py : Pos} {y : Str} {l : Nat} {env : Env} (hk : env.scope.kind = .function) (hy : env.scope.names.lookup y = some .local) (hl : (py.line == pos.line) = true)
    (ha : (scope.names.any fun (n, k) => n == y && (k == .local || k == .cell)) = false) : swapsWith (.DictComp kx vx gs scope pos) (some (.Name y py)) l env = pure true := by
  have ky : env.kindOf y = some .local := hy
  have hb : env.blockKind = .function := by unfold Env.blockKind; rw [hk]; rfl
  unfold swapsWith
  simp only [hb, ky, ha, Expr.pos, hl]
  rfl
end LX

/-! max of a list or a tuple of ints -/
namespace LX
open PySem PySem.Spec PyProof.Rows L2 LP
def rMaxE (K : PySem.W.Frag) : List V → Hp → VK → Prop := fun vs H Q => ∃ (a : Addr) (ns : List Int), vs = [.ref a] ∧ SqE K H a (ns.map V.int) ∧ ns ≠ [] ∧ ∀ m, m ∈ ns → (∀ y ∈ ns, y ≤ m) → Q (.int m) H
theorem cr_maxE {X : Cx} (hc : X.calm = true) : CallR X (.builtin "max") (rMaxE X.K) := by
  intro pins s σ H vs us Q I r h
  obtain ⟨a, ns, rfl, hs, hne, q1⟩ := h
  rcases hs with hs | hs
  · exact cr_max hc pins s σ H [.ref a] us Q I r ⟨a, ns, rfl, hs, List.length_pos_iff.mpr hne, fun m hm hy => q1 m hm hy⟩
  obtain rfl := Vals.ref1 r
  obtain ⟨its, rv, hl, _⟩ := I.tuple hs
  have hi := rv.ints
  have hh : X.A.handled = none := I.ok.hd hc
  obtain ⟨xs, e⟩ := hi.allInts.items
  have hn : numsOf (intItems xs).toList = ns := by rw [← e]; exact hi.numsOf
  rw [nums_intItems] at hn
  have hl2 : s.heap.IsTuple a its.toArray := by
    obtain ⟨o, h1, h2, n, h3⟩ := hl
    first | exact ⟨o, h1, h2, n, h3⟩ | exact ⟨o, h1, h2, ⟨n, h3⟩⟩ | exact ⟨o, n, h1, h2, h3⟩
  rw [e] at hl2
  have hp2 : 0 < xs.size := by
    rcases Nat.eq_zero_or_pos xs.size with z | z
    · exfalso; apply hne; rw [← hn, Array.eq_empty_of_size_eq_zero z]; rfl
    · exact z
  refine PySem.call_max_walkH (PySem.W.iter_tupleW (A := X.A.in1) hh hl2 fun s₂ e2 W st hfp hw hk => ?_)
  refine ⟨_, _, _, _, _, _, _, s.heap, (fun i j => decide (numAt xs i > numAt xs j)), rfl, W, st, hfp, by simpa [intItems] using hp2, hw, hk, fun i j vi vj s3 Q3 E3 _ hi hj h3 => CmpOf.ints_gt (numAt xs) (fun _ _ => intItems_at) i j vi vj s3 Q3 E3 hi hj h3, fun v s' hP m => ?_⟩
  obtain ⟨h', tk, rfl, hk'⟩ := PySem.W.moved_old e2 rfl m
  have hsz : (intItems xs).size = xs.size := by simp [intItems]
  rw [hsz] at hP
  obtain ⟨t, rfl⟩ := intItems_at hP
  obtain ⟨h1, h2⟩ := argBest_gt (numAt xs) (xs.size - 1)
  refine ⟨.int _, H, I.kept hk', ⟨_, rfl⟩, q1 _ ?_ fun y hy => ?_⟩
  · rw [← hn, numAt_eq]; exact PySem.getD_mem (by rw [List.length_map, Array.length_toList]; omega)
  · rw [← hn] at hy
    obtain ⟨j, hj, rfl⟩ := mem_getD hy
    rw [List.length_map, Array.length_toList] at hj
    rw [← numAt_eq]; exact h2 j (by omega)
end LX

/-! steps: one lemma a reading, by its head; heaps are told apart by names, not by what they are made of -/
namespace LS
open PySem L2 LT LG LP LX
/-! ## frames -/
theorem Same.fr_new {H0 H H' : Hp} {p : Addr} (s : Same H0 H) (f : Fr H H' p) (n : H0 p = none) : Same H0 H' := fun a o h => f a o (s a o h) (ne_of_none h n)
theorem Fr.same {H0 H H' : Hp} {b : Addr} (f : Fr H0 H b) (s : Same H H') : Fr H0 H' b := fun a o h n => s a o (f a o h n)
theorem Fr.fr_new {H0 H H' : Hp} {b p : Addr} (s : Fr H0 H b) (f : Fr H H' p) (n : H0 p = none) : Fr H0 H' b := fun a o h nb => f a o (s a o h nb) (ne_of_none h n)
theorem Fr.upd {H : Hp} {p : Addr} {o : HO} : Fr H (upd H p o) p := fun a u h n => by rw [upd_ne n]; exact h
theorem fr_seq {K : PySem.W.Frag} {H H' : Hp} {a p : Addr} {xs : List V} (f : Fr H H' p) (h : SqL K H a xs) (n : a ≠ p) : SqL K H' a xs := by
  rcases h with (h | ⟨o, h⟩) | h
  · exact .inl (.inl (f _ _ h n))
  · exact .inl (.inr ⟨o, f _ _ h n⟩)
  · exact .inr h
theorem fr_tup {K : PySem.W.Frag} {H H' : Hp} {a p : Addr} {xs : List V} (f : Fr H H' p) (h : SqT K H a xs) (n : a ≠ p) : SqT K H' a xs := by
  rcases h with (h | ⟨o, h⟩) | h
  · exact .inl (.inl (f _ _ h n))
  · exact .inl (.inr ⟨o, f _ _ h n⟩)
  · exact .inr h
theorem free_same {H H' : Hp} {p : Addr} (s : Same H H') (h : H' p = none) : H p = none := s.free h
theorem free_fr {H H' : Hp} {b p : Addr} {o : HO} (f : Fr H H' b) (hb : H' b = some o) (h : H' p = none) : H p = none := by
  cases q : H p with
  | none => rfl
  | some u =>
    by_cases e : p = b
    · subst e; rw [hb] at h; cases h
    · rw [f p u q e] at h; cases h
theorem ne_il {H : Hp} {a b C dx : Addr} {fs : List (Str × V)} {ys : List V} (h : H a = some (.ins C dx fs)) (h' : H b = some (.lst ys)) : a ≠ b := ne_of h h' (by intro z; cases z)
theorem ne_li {H : Hp} {a b C dx : Addr} {fs : List (Str × V)} {ys : List V} (h' : H b = some (.ins C dx fs)) (h : H a = some (.lst ys)) : a ≠ b := ne_of h h' (by intro z; cases z)
theorem ne_lt {H : Hp} {a b : Addr} {xs ys : List V} (h : H a = some (.lst xs)) (h' : H b = some (.tup ys)) : a ≠ b := ne_of h h' (by intro z; cases z)
theorem ne_tl {H : Hp} {a b : Addr} {xs ys : List V} (h : H a = some (.tup xs)) (h' : H b = some (.lst ys)) : a ≠ b := ne_of h h' (by intro z; cases z)
/-! ## what the search for facts about heaps goes by -/
theorem hp_s {H H' : Hp} {p : Addr} {o : HO} (s : Same H H') (h : H p = some o) : H' p = some o := s p o h
theorem hp_f {H H' : Hp} {b p : Addr} {o : HO} (f : Fr H H' b) (h : H p = some o) (n : p ≠ b) : H' p = some o := f p o h n
theorem sq_o {K : PySem.W.Frag} {H : Hp} {p : Addr} {xs : List V} (h : H p = some (.lst xs)) : SqL K H p xs := SqL.of h
theorem sq_s {K : PySem.W.Frag} {H H' : Hp} {p : Addr} {xs : List V} (s : Same H H') (h : SqL K H p xs) : SqL K H' p xs := s.seq h
theorem sq_f {K : PySem.W.Frag} {H H' : Hp} {b p : Addr} {xs : List V} (f : Fr H H' b) (h : SqL K H p xs) (n : p ≠ b) : SqL K H' p xs := fr_seq f h n
theorem tu_o {K : PySem.W.Frag} {H : Hp} {p : Addr} {xs : List V} (h : H p = some (.tup xs)) : SqT K H p xs := SqT.of h
theorem tu_s {K : PySem.W.Frag} {H H' : Hp} {p : Addr} {xs : List V} (s : Same H H') (h : SqT K H p xs) : SqT K H' p xs := same_tup s h
theorem tu_f {K : PySem.W.Frag} {H H' : Hp} {b p : Addr} {xs : List V} (f : Fr H H' b) (h : SqT K H p xs) (n : p ≠ b) : SqT K H' p xs := fr_tup f h n
theorem se_l {K : PySem.W.Frag} {H : Hp} {p : Addr} {xs : List V} (h : H p = some (.lst xs)) : SqE K H p xs := .inl (SqL.of h)
theorem se_t {K : PySem.W.Frag} {H : Hp} {p : Addr} {xs : List V} (h : H p = some (.tup xs)) : SqE K H p xs := .inr (SqT.of h)
theorem se_q {K : PySem.W.Frag} {H : Hp} {p : Addr} {xs : List V} (h : SqL K H p xs) : SqE K H p xs := .inl h
theorem se_u {K : PySem.W.Frag} {H : Hp} {p : Addr} {xs : List V} (h : SqT K H p xs) : SqE K H p xs := .inr h
theorem se_s {K : PySem.W.Frag} {H H' : Hp} {p : Addr} {xs : List V} (s : Same H H') (h : SqE K H p xs) : SqE K H' p xs := h.same s
theorem se_f {K : PySem.W.Frag} {H H' : Hp} {b p : Addr} {xs : List V} (f : Fr H H' b) (h : SqE K H p xs) (n : p ≠ b) : SqE K H' p xs := h.imp (fun h => fr_seq f h n) fun h => fr_tup f h n
theorem sm_s {H0 H H' : Hp} (s : Same H H') (h : Same H0 H) : Same H0 H' := h.trans s
theorem sm_f {H0 H H' : Hp} {p : Addr} (f : Fr H H' p) (h : Same H0 H) (n : H0 p = none) : Same H0 H' := Same.fr_new h f n
theorem fr_s {H0 H H' : Hp} {b : Addr} (s : Same H H') (h : Fr H0 H b) : Fr H0 H' b := Fr.same h s
theorem fr_b {H0 H H' : Hp} {b : Addr} (f : Fr H H' b) (h : Fr H0 H b) : Fr H0 H' b := h.trans f
theorem fr_n {H0 H H' : Hp} {b p : Addr} (f : Fr H H' p) (h : Fr H0 H b) (n : H0 p = none) : Fr H0 H' b := Fr.fr_new h f n
theorem ne_a {H : Hp} {a b : Addr} {o : HO} (h' : H b = none) (h : H a = some o) : a ≠ b := ne_of_none h h'
theorem ne_b {H : Hp} {a b : Addr} {o : HO} (h' : H a = none) (h : H b = some o) : a ≠ b := (ne_of_none h h').symm
theorem no_s {H H' : Hp} {p : Addr} (h : H' p = none) (s : Same H H') : H p = none := s.free h
theorem no_f {H H' : Hp} {b p : Addr} {o : HO} (h : H' p = none) (f : Fr H H' b) (hb : H' b = some o) : H p = none := free_fr f hb h
theorem sz {n : Nat} (h : n ≤ 100000) : n ≤ sizeLine := Nat.le_trans h (by decide)
theorem szl {n : Nat} (h : n < 100000) : n < sizeLine := Nat.lt_of_lt_of_le h (by decide)
theorem at_g {α : Type} {xs : List α} {j : Nat} {v : α} {z : Int} (hz : z = (j : Int)) (e : xs[j]? = some v) : atI xs z = some v := by
  subst hz
  unfold atI
  rw [ixN_at (List.getElem?_eq_some_iff.mp e).1]
  exact e
theorem cut_to (xs : List V) (i : Nat) : cutV xs none (some (i : Int)) = xs.take i := by
  unfold cutV
  rw [HT.sIx_none, HT.sIx_nat, List.drop_zero, Nat.sub_zero]
  rcases Nat.lt_or_ge i xs.length with h | h
  · rw [Nat.min_eq_left (by omega)]
  · rw [Nat.min_eq_right (by omega), List.take_of_length_le (Nat.le_refl _), List.take_of_length_le h]
theorem cut_from (xs : List V) (i : Nat) : cutV xs (some (i : Int)) none = xs.drop i := by
  unfold cutV
  rw [HT.sIx_none, HT.sIx_nat]
  rcases Nat.lt_or_ge i xs.length with h | h
  · rw [Nat.min_eq_left (by omega), List.take_of_length_le (by rw [List.length_drop]; omega)]
  · rw [Nat.min_eq_right (by omega), List.drop_of_length_le (Nat.le_refl _), List.drop_of_length_le h, List.take_nil]
theorem flat_rep {α : Type} (n : Nat) (x : α) : (List.replicate n [x]).flatten = List.replicate n x := by
  induction n with
  | zero => rfl
  | succ m ih => rw [List.replicate_succ, List.flatten_cons, List.replicate_succ, ih]; rfl
/-! ## rules by name -/
def rListOf (K : PySem.W.Frag) : List V → Hp → VK → Prop := fun xs H Q => ∃ p ys, xs = [.ref p] ∧ (SqL K H p ys ∨ SqT K H p ys) ∧ ∀ l, H l = none → Q (.ref l) (upd H l (.lst ys))
def rIsN : R2 := fun x y H Q => y = .non ∧ Q (.bl (decide (x = .non))) H
def rNotN : R2 := fun x y H Q => y = .non ∧ Q (.bl (!decide (x = .non))) H
def rInt1 : List V → Hp → VK → Prop := fun xs H Q => (∃ i, xs = [.int i] ∧ Q (.int i) H) ∨ ∃ k, xs = [.bl k] ∧ Q (.int (if k then 1 else 0)) H
def rStrI : List V → Hp → VK → Prop := fun xs H Q => ∃ i, xs = [.int i] ∧ i.natAbs.log2 < 1920 ∧ Q (.str (toString i)) H
def rIntS : List V → Hp → VK → Prop := fun xs H Q => ∃ a n, xs = [.str a] ∧ PySem.intText? a = some n ∧ a.length ≤ 640 ∧ Q (.int n) H
def rAddS : R2 := fun x y H Q => ∃ i j, x = .str i ∧ y = .str j ∧ i.length + j.length ≤ sizeLine ∧ Q (.str (i ++ j)) H
def rSplit : V → List V → Hp → VK → Prop := fun x xs H Q => ∃ a b, x = .str a ∧ xs = [.str b] ∧ (b.length == 0) = false ∧ a.length + 2 ≤ sizeLine ∧ rNewStrs (Txt.split a b) H Q
def rJoin (K : PySem.W.Frag) : V → List V → Hp → VK → Prop := fun x xs H Q => ∃ a p, ∃ ys : List Str, x = .str a ∧ xs = [.ref p] ∧ (SqL K H p (ys.map V.str) ∨ SqT K H p (ys.map V.str)) ∧
    (ys.map (·.length)).sum + ys.length * a.length ≤ 16777216 ∧ Q (.str (Txt.join a ys)) H
def rLenT : List V → Hp → VK → Prop := fun xs H Q => ∃ z, xs = [.str z] ∧ z.length ≤ sizeLine ∧ Q (.int z.length) H
def rAbs : List V → Hp → VK → Prop := fun xs H Q => ∃ i, xs = [.int i] ∧ Q (.int (if i < 0 then -i else i)) H
def rMin2 : List V → Hp → VK → Prop := fun xs H Q => ∃ i j, xs = [.int i, .int j] ∧ Q (.int (if j < i then j else i)) H
def rMax2 : List V → Hp → VK → Prop := fun xs H Q => ∃ i j, xs = [.int i, .int j] ∧ Q (.int (if j > i then j else i)) H
section
variable {X : Cx}
theorem call_abs : CallR X (.builtin "abs") rAbs := L2.call_abs
theorem call_min2 (hc : X.calm = true) : CallR X (.builtin "min") rMin2 := L2.call_min2 hc
theorem call_max2 (hc : X.calm = true) : CallR X (.builtin "max") rMax2 := L2.call_max2 hc
theorem call_len : CallR X (.builtin "len") (rLenS X.K) := call_len_seq
theorem call_lenT : CallR X (.builtin "len") rLenT := call_len_str
theorem call_list : CallR X (.type "list") (rListOf X.K) := call_list_of
theorem op_isN : OpR X (compareOp .Is) rIsN := L2.op_isN
theorem op_notN : OpR X (compareOp .IsNot) rNotN := L2.op_notN
theorem call_int1 : CallR X (.type "int") rInt1 := L2.call_int1
theorem call_strI : CallR X (.type "str") rStrI := L2.call_str_int
theorem call_intS : CallR X (.type "int") rIntS := L2.call_int_str
theorem op_addS : OpR X (binaryOp .Add) rAddS := L2.op_add_str
theorem mt_split : MtR X "str.split" rSplit := L2.mt_split
theorem mt_join : MtR X "str.join" (rJoin X.K) := L2.mt_join
end
/-! ## the reel -/
/-- from H to H' by draws, new objects and stores to what was new -/
structure RT (H H' : Hp) (b : Addr) (d : Nat) : Prop where
  r : Reel H' b d
  f : Fr H H' b
  a : ∀ a, Apart H b a → H a ≠ none → Apart H' b a
theorem Reel.up {H : Hp} {b : Addr} {d d' : Nat} (r : Reel H b d) (h : d ≤ d') : Reel H b d' := r.mono h
theorem reel_fr {H H' : Hp} {b p : Addr} {d : Nat} (r : Reel H b d) (f : Fr H H' p) (ap : Apart H b p) : Reel H' b d := by
  obtain ⟨g, c, gs, cs, k, t, a1, a2, a3, a4⟩ := r.ex
  have n := ap.2 _ a1
  exact ⟨⟨g, c, gs, cs, k, t, f _ _ a1 (Ne.symm ap.1), f _ _ a2 fun e => n (by rw [e]; simp), f _ _ a3 fun e => n (by rw [e]; simp), a4⟩⟩
theorem ap_same {H H' : Hp} {b a : Addr} {d : Nat} (s : Same H H') (r : Reel H b d) (h : Apart H b a) : Apart H' b a := by
  obtain ⟨g, c, gs, cs, k, t, a1, _⟩ := r.ex
  exact ⟨h.1, fun xs hx => by rw [s _ _ a1] at hx; cases hx; exact h.2 _ a1⟩
theorem ap_fr {H H' : Hp} {b a p : Addr} {d : Nat} (f : Fr H H' p) (ap : Apart H b p) (r : Reel H b d) (h : Apart H b a) : Apart H' b a := by
  obtain ⟨g, c, gs, cs, k, t, a1, _⟩ := r.ex
  exact ⟨h.1, fun xs hx => by rw [f _ _ a1 (Ne.symm ap.1)] at hx; cases hx; exact h.2 _ a1⟩
theorem rt_refl {H : Hp} {b : Addr} {d : Nat} (r : Reel H b d) : RT H H b d := ⟨r, Fr.refl _ _, fun _ h _ => h⟩
theorem rt_s {H H1 H' : Hp} {b : Addr} {d : Nat} (s : Same H1 H') (t : RT H H1 b d) : RT H H' b d := ⟨t.r.same s, Fr.same t.f s, fun a h n => ap_same s t.r (t.a a h n)⟩
theorem rt_t {H H1 H' : Hp} {b : Addr} {d d' : Nat} (u : RT H1 H' b d') (t : RT H H1 b d) : RT H H' b d' := ⟨u.r, t.f.trans u.f, fun a h n => u.a a (t.a a h n) (by
  obtain ⟨o, ho⟩ := Option.ne_none_iff_exists'.mp n
  rw [t.f _ _ ho h.1]; simp)⟩
theorem rt_f {H H1 H' : Hp} {b p : Addr} {d : Nat} (f : Fr H1 H' p) (t : RT H H1 b d) (n : H p = none) (ap : Apart H1 b p) : RT H H' b d := ⟨reel_fr t.r f ap, Fr.fr_new t.f f n, fun a h n => ap_fr f ap t.r (t.a a h n)⟩
theorem rt_mono {H H' : Hp} {b : Addr} {d d' : Nat} (t : RT H H' b d) (h : d ≤ d') : RT H H' b d' := ⟨t.r.mono h, t.f, t.a⟩
theorem rl_t {H H' : Hp} {b : Addr} {d : Nat} (t : RT H H' b d) : Reel H' b d := t.r
theorem rl_s {H H' : Hp} {b : Addr} {d : Nat} (s : Same H H') (r : Reel H b d) : Reel H' b d := r.same s
theorem rl_f {H H' : Hp} {b p : Addr} {d : Nat} (f : Fr H H' p) (r : Reel H b d) (ap : Apart H b p) : Reel H' b d := reel_fr r f ap
theorem ap_new {H H' : Hp} {b p : Addr} {d : Nat} (n : H p = none) (s : Same H H') (r : Reel H b d) : Apart H' b p := ap_same s r (r.new n)
theorem ap_s {H H' : Hp} {b a : Addr} {d : Nat} (s : Same H H') (h : Apart H b a) (r : Reel H b d) : Apart H' b a := ap_same s r h
theorem ap_t {H H' : Hp} {b a : Addr} {d : Nat} {o : HO} (t : RT H H' b d) (h : Apart H b a) (e : H a = some o) : Apart H' b a := t.a a h (by rw [e]; simp)
theorem ap_f {H H' : Hp} {b a p : Addr} {d : Nat} (f : Fr H H' p) (h : Apart H b a) (ap : Apart H b p) (r : Reel H b d) : Apart H' b a := ap_fr f ap r h
theorem ne_ap {H : Hp} {b a : Addr} (h : Apart H b a) : a ≠ b := h.1
theorem ne_rl {H : Hp} {b p : Addr} {d : Nat} (n : H p = none) (r : Reel H b d) : p ≠ b := r.ne_new n
theorem hp_t {H H' : Hp} {b p : Addr} {d : Nat} {o : HO} (t : RT H H' b d) (h : H p = some o) (n : p ≠ b) : H' p = some o := t.f p o h n
theorem sq_t {K : PySem.W.Frag} {H H' : Hp} {b p : Addr} {d : Nat} {xs : List V} (t : RT H H' b d) (h : SqL K H p xs) (n : p ≠ b) : SqL K H' p xs := fr_seq t.f h n
theorem tu_t {K : PySem.W.Frag} {H H' : Hp} {b p : Addr} {d : Nat} {xs : List V} (t : RT H H' b d) (h : SqT K H p xs) (n : p ≠ b) : SqT K H' p xs := fr_tup t.f h n
theorem se_tt {K : PySem.W.Frag} {H H' : Hp} {b p : Addr} {d : Nat} {xs : List V} (t : RT H H' b d) (h : SqE K H p xs) (n : p ≠ b) : SqE K H' p xs := se_f t.f h n
theorem no_t {H H' : Hp} {b p : Addr} {d : Nat} (h : H' p = none) (t : RT H H' b d) : H p = none := by
  obtain ⟨o, ho⟩ := t.r.nb
  exact free_fr t.f ho h
theorem fr_t {H0 H H' : Hp} {b : Addr} {d : Nat} (t : RT H H' b d) (h : Fr H0 H b) : Fr H0 H' b := h.trans t.f
/-! ## frames about some objects -/
structure FrL (H H' : Hp) (L : List Addr) : Prop where
  k : ∀ a o, H a = some o → a ∉ L → H' a = some o
  l : ∀ a ∈ L, H' a ≠ none
def Trk (H : Hp) (L : List Addr) : Prop := ∀ a ∈ L, H a ≠ none
theorem trk_nil {H : Hp} : Trk H [] := fun a h => by cases h
theorem trk_cons {H : Hp} {a : Addr} {o : HO} {L : List Addr} (h : H a = some o) (t : Trk H L) : Trk H (a :: L) := fun b hb => by
  rcases List.mem_cons.mp hb with rfl | hb
  · rw [h]; simp
  · exact t b hb
theorem ni_nil {a : Addr} : a ∉ ([] : List Addr) := by simp
theorem ni_cons {a b : Addr} {L : List Addr} (h : a ≠ b) (t : a ∉ L) : a ∉ b :: L := fun q => by
  rcases List.mem_cons.mp q with e | e
  · exact h e
  · exact t e
theorem mem_hd {a : Addr} {L : List Addr} : a ∈ a :: L := List.mem_cons_self ..
theorem mem_tl {a b : Addr} {L : List Addr} (h : a ∈ L) : a ∈ b :: L := List.mem_cons_of_mem _ h
theorem fl_refl {H : Hp} {L : List Addr} (t : Trk H L) : FrL H H L := ⟨fun _ _ h _ => h, t⟩
theorem fl_s {H H1 H' : Hp} {L : List Addr} (s : Same H1 H') (f : FrL H H1 L) : FrL H H' L := ⟨fun a o h n => s a o (f.k a o h n), fun a ha => by
  obtain ⟨o, ho⟩ := Option.ne_none_iff_exists'.mp (f.l a ha)
  rw [s _ _ ho]; simp⟩
theorem fl_m {H H1 H' : Hp} {L : List Addr} {p : Addr} {o : HO} (g : Fr H1 H' p) (f : FrL H H1 L) (hp : p ∈ L) (e : H' p = some o) : FrL H H' L := ⟨fun a u h n => g a u (f.k a u h n) fun z => n (z ▸ hp), fun a ha => by
  by_cases z : a = p
  · rw [z, e]; simp
  · obtain ⟨u, hu⟩ := Option.ne_none_iff_exists'.mp (f.l a ha)
    rw [g _ _ hu z]; simp⟩
theorem fl_n {H H1 H' : Hp} {L : List Addr} {p : Addr} {o : HO} (g : Fr H1 H' p) (f : FrL H H1 L) (n : H p = none) (e : H' p = some o) : FrL H H' L := ⟨fun a u h m => g a u (f.k a u h m) (ne_of_none h n), fun a ha => by
  by_cases z : a = p
  · rw [z, e]; simp
  · obtain ⟨u, hu⟩ := Option.ne_none_iff_exists'.mp (f.l a ha)
    rw [g _ _ hu z]; simp⟩
theorem fl_l {H H1 H' : Hp} {L : List Addr} (g : FrL H1 H' L) (f : FrL H H1 L) : FrL H H' L := ⟨fun a u h n => g.k a u (f.k a u h n) n, g.l⟩
theorem fl_lm {H H1 H' : Hp} {L M : List Addr} (g : FrL H1 H' M) (f : FrL H H1 L) (hs : ∀ a ∈ M, a ∈ L) : FrL H H' L := ⟨fun a u h n => g.k a u (f.k a u h n) fun q => n (hs a q), fun a ha => by
  by_cases q : a ∈ M
  · exact g.l a q
  · obtain ⟨u, hu⟩ := Option.ne_none_iff_exists'.mp (f.l a ha)
    rw [g.k _ _ hu q]; simp⟩
theorem sub_nil {L : List Addr} : ∀ a ∈ ([] : List Addr), a ∈ L := fun a h => by cases h
theorem sub_cons {a : Addr} {L M : List Addr} (h : a ∈ L) (t : ∀ b ∈ M, b ∈ L) : ∀ b ∈ a :: M, b ∈ L := fun b hb => by
  rcases List.mem_cons.mp hb with rfl | hb
  · exact h
  · exact t b hb
theorem sm_l {H0 H H' : Hp} {L : List Addr} (f : FrL H H' L) (s : Same H0 H) (n : ∀ a ∈ L, H0 a = none) : Same H0 H' := fun a o h => f.k a o (s a o h) fun q => by rw [n a q] at h; cases h
theorem hp_l {H H' : Hp} {L : List Addr} {p : Addr} {o : HO} (f : FrL H H' L) (h : H p = some o) (n : p ∉ L) : H' p = some o := f.k p o h n
theorem sq_l {K : PySem.W.Frag} {H H' : Hp} {L : List Addr} {p : Addr} {xs : List V} (f : FrL H H' L) (h : SqL K H p xs) (n : p ∉ L) : SqL K H' p xs := by
  rcases h with (h | ⟨o, h⟩) | h
  · exact .inl (.inl (f.k _ _ h n))
  · exact .inl (.inr ⟨o, f.k _ _ h n⟩)
  · exact .inr h
theorem tu_l {K : PySem.W.Frag} {H H' : Hp} {L : List Addr} {p : Addr} {xs : List V} (f : FrL H H' L) (h : SqT K H p xs) (n : p ∉ L) : SqT K H' p xs := by
  rcases h with (h | ⟨o, h⟩) | h
  · exact .inl (.inl (f.k _ _ h n))
  · exact .inl (.inr ⟨o, f.k _ _ h n⟩)
  · exact .inr h
theorem no_l {H H' : Hp} {L : List Addr} {p : Addr} (h : H' p = none) (f : FrL H H' L) : H p = none := by
  cases q : H p with
  | none => rfl
  | some u =>
    by_cases e : p ∈ L
    · exact absurd h (f.l p e)
    · rw [f.k p u q e] at h; cases h
def ApL (H : Hp) (b : Addr) (L : List Addr) : Prop := ∀ a ∈ L, Apart H b a
theorem al_nil {H : Hp} {b : Addr} : ApL H b [] := fun a h => by cases h
theorem al_cons {H : Hp} {b a : Addr} {L : List Addr} (h : Apart H b a) (t : ApL H b L) : ApL H b (a :: L) := fun c hc => by
  rcases List.mem_cons.mp hc with rfl | hc
  · exact h
  · exact t c hc
theorem rl_l {H H' : Hp} {b : Addr} {d : Nat} {L : List Addr} (f : FrL H H' L) (r : Reel H b d) (al : ApL H b L) : Reel H' b d := by
  obtain ⟨g, c, gs, cs, k, t, a1, a2, a3, a4⟩ := r.ex
  have n : ∀ x, V.ref x ∈ [V.ref g, .ref c, .int k, .int t] → x ∉ L := fun x hx hl => (al x hl).2 _ a1 hx
  exact ⟨⟨g, c, gs, cs, k, t, f.k _ _ a1 fun q => (al b q).1 rfl, f.k _ _ a2 (n g (by simp)), f.k _ _ a3 (n c (by simp)), a4⟩⟩
theorem ap_l {H H' : Hp} {b a : Addr} {d : Nat} {L : List Addr} (f : FrL H H' L) (h : Apart H b a) (al : ApL H b L) (r : Reel H b d) : Apart H' b a := by
  obtain ⟨g, c, gs, cs, k, t, a1, _⟩ := r.ex
  exact ⟨h.1, fun xs hx => by rw [f.k _ _ a1 fun q => (al b q).1 rfl] at hx; cases hx; exact h.2 _ a1⟩
section
variable {K : PySem.W.Frag} {σ : L2.St} {H : Hp} {Q : VK} {D : Ends} {QA : List V → Hp → Prop} {QB : Bool → Hp → Prop}
/-! ## expressions -/
theorem var {i : Nat} {v : V} (h : σ[i]? = some (some v)) (q : Q v H) : tVar i σ H Q := ⟨v, h, q⟩
theorem con {v : V} (q : Q v H) : tC v σ H Q := q
theorem op {r : R2} {ta tb : TE} (h : ta σ H fun x H1 => tb σ H1 fun y H2 => r x y H2 Q) : tOp r ta tb σ H Q := h
theorem un {r : V → Hp → VK → Prop} {ta : TE} (h : ta σ H fun x H1 => r x H1 Q) : tUn r ta σ H Q := h
theorem tcons {ta : TE} {tr : TA} (h : ta σ H fun x H1 => tr σ H1 fun xs H2 => QA (x :: xs) H2) : tCons ta tr σ H QA := h
theorem tnil (h : QA [] H) : tNil σ H QA := h
theorem tcb {r : List V → Hp → VK → Prop} {t : TA} (h : t σ H fun vs H1 => r vs H1 Q) : tCB r t σ H Q := h
theorem tcall {sp : Sp} {dvs : List V} {E : XK} {t : TA} (h : t σ H fun vs H1 => sp (vs ++ dvs) H1 Q E) : tCall sp dvs E t σ H Q := h
theorem tsl {r : V → Option Int → Option Int → Hp → VK → Prop} {te : TE} {tl th : TO} (h : te σ H fun x H1 => tl σ H1 fun l H2 => th σ H2 fun u H3 => r x l u H3 Q) : tSl r te tl th σ H Q := h
theorem tnop {QO : Option Int → Hp → Prop} (h : QO none H) : tNoPart σ H QO := h
def kPart (QO : Option Int → Hp → Prop) : VK := fun x H1 => ∃ i, x = .int i ∧ QO (some i) H1
theorem tpart {te : TE} {QO : Option Int → Hp → Prop} (h : te σ H (kPart QO)) : tPart te σ H QO := h
theorem k_part {i : Int} {QO : Option Int → Hp → Prop} (q : QO (some i) H) : kPart QO (.int i) H := ⟨i, rfl, q⟩
def kB (QB : Bool → Hp → Prop) : VK := fun x H1 => ∃ k, x = .bl k ∧ QB k H1
theorem k_b {b : Bool} (q : QB b H) : kB QB (.bl b) H := ⟨b, rfl, q⟩
theorem ttest {te : TE} (h : te σ H (kB QB)) : tTest te σ H QB := h
theorem tb {te : TE} (h : te σ H (kB QB)) : tB te σ H QB := h
theorem tyes (h : QB true H) : tYes σ H QB := h
theorem tand {t u : TT} (h : t σ H fun c H1 => if c = true then u σ H1 QB else QB false H1) : tAnd t u σ H QB := h
theorem tor {t u : TT} (h : t σ H fun c H1 => if c = true then QB true H1 else u σ H1 QB) : tOr t u σ H QB := h
theorem tnot {t : TT} (h : t σ H fun c H1 => QB (!c) H1) : tNot t σ H QB := h
theorem tif {t : TT} {ta tb : TE} (h : t σ H fun c H1 => if c = true then ta σ H1 Q else tb σ H1 Q) : tIf t ta tb σ H Q := h
def kAV (tb : TE) (σ : L2.St) (Q : VK) : VK := fun x H1 => ∃ c, x = .bl c ∧ if c = true then tb σ H1 Q else Q (.bl false) H1
theorem tandv {ta tb : TE} (h : ta σ H (kAV tb σ Q)) : tAndV ta tb σ H Q := h
theorem k_av {tb : TE} {c : Bool} (h : if c = true then tb σ H Q else Q (.bl false) H) : kAV tb σ Q (.bl c) H := ⟨c, rfl, h⟩
def kOV (tb : TE) (σ : L2.St) (Q : VK) : VK := fun x H1 => ∃ c, x = .bl c ∧ if c = true then Q (.bl true) H1 else tb σ H1 Q
theorem torv {ta tb : TE} (h : ta σ H (kOV tb σ Q)) : tOrV ta tb σ H Q := h
theorem k_ov {tb : TE} {c : Bool} (h : if c = true then Q (.bl true) H else tb σ H Q) : kOV tb σ Q (.bl c) H := ⟨c, rfl, h⟩
def kNV (Q : VK) : VK := fun x H1 => ∃ c, x = .bl c ∧ Q (.bl (!c)) H1
theorem tnotv {ta : TE} (h : ta σ H (kNV Q)) : tNotV ta σ H Q := h
theorem k_nv {c : Bool} (h : Q (.bl (!c)) H) : kNV Q (.bl c) H := ⟨c, rfl, h⟩
def kCh (r r' : R2) (tc : TE) (σ : L2.St) (y : V) (Q : VK) : VK := fun z H3 => ∃ k, z = .bl k ∧ if k = true then tc σ H3 fun x H4 => r' y x H4 Q else Q (.bl false) H3
theorem tchain {r r' : R2} {ta tb tc : TE} (h : ta σ H fun x H1 => tb σ H1 fun y H2 => r x y H2 (kCh r r' tc σ y Q)) : tChain r r' ta tb tc σ H Q := h
theorem k_ch {r r' : R2} {tc : TE} {y : V} {k : Bool} (h : if k = true then tc σ H fun x H4 => r' y x H4 Q else Q (.bl false) H) : kCh r r' tc σ y Q (.bl k) H := ⟨k, rfl, h⟩
theorem ift {A B : Prop} (h : A) : if true = true then A else B := by rw [if_pos rfl]; exact h
theorem iff_ {A B : Prop} (h : B) : if false = true then A else B := by rw [if_neg Bool.false_ne_true]; exact h
theorem ifnt {A B : Prop} (h : B) : if (!true) = true then A else B := by rw [if_neg (by decide)]; exact h
theorem ifnf {A B : Prop} (h : A) : if (!false) = true then A else B := by rw [if_pos (by decide)]; exact h
theorem if2 {c A B : Prop} [Decidable c] (h1 : c → A) (h2 : ¬ c → B) : if decide c = true then A else B := ite2d h1 h2
theorem ifn2 {c A B : Prop} [Decidable c] (h1 : ¬ c → A) (h2 : c → B) : if (!decide c) = true then A else B := by
  by_cases h : c
  · rw [decide_eq_true h]; exact ifnt (h2 h)
  · rw [decide_eq_false h]; exact ifnf (h1 h)
theorem of_iff {A B : Prop} (h : if false = true then A else B) : B := by rw [if_neg Bool.false_ne_true] at h; exact h
/-- two ways that go on alike -/
theorem tail_t {c A X : Prop} [Decidable c] (h : c → X → A) (x : X) : if decide c = true then A else X := ite2d (fun hc => h hc x) fun _ => x
theorem tail_e {c A X : Prop} [Decidable c] (h : ¬ c → X → A) (x : X) : if decide c = true then X else A := ite2d (fun _ => x) fun hc => h hc x
/-! ## values -/
theorem ri0 {g : Int → Int → V} {i j : Int} (q : Q (g i j) H) : rI0 g (.int i) (.int j) H Q := ⟨i, j, rfl, rfl, q⟩
theorem ri {C : Int → Int → Prop} {g : Int → Int → V} {i j : Int} (c : C i j) (q : Q (g i j) H) : rI C g (.int i) (.int j) H Q := ⟨i, j, rfl, rfl, c, q⟩
theorem ru {g : Int → V} {i : Int} (q : Q (g i) H) : rU g (.int i) H Q := ⟨i, rfl, q⟩
theorem req_i {x y : Int} (q : Q (.bl (decide (x = y))) H) : rEq (.int x) (.int y) H Q := ⟨rfl, by rw [show decide (V.int x = V.int y) = decide (x = y) from decide_eq_decide.mpr ⟨V.int.inj, congrArg _⟩]; exact q⟩
theorem rne_i {x y : Int} (q : Q (.bl (!decide (x = y))) H) : rNe (.int x) (.int y) H Q := ⟨rfl, by rw [show decide (V.int x = V.int y) = decide (x = y) from decide_eq_decide.mpr ⟨V.int.inj, congrArg _⟩]; exact q⟩
theorem req_s {x y : Str} (q : Q (.bl (decide (x = y))) H) : rEq (.str x) (.str y) H Q := ⟨rfl, by rw [show decide (V.str x = V.str y) = decide (x = y) from decide_eq_decide.mpr ⟨V.str.inj, congrArg _⟩]; exact q⟩
theorem rne_s {x y : Str} (q : Q (.bl (!decide (x = y))) H) : rNe (.str x) (.str y) H Q := ⟨rfl, by rw [show decide (V.str x = V.str y) = decide (x = y) from decide_eq_decide.mpr ⟨V.str.inj, congrArg _⟩]; exact q⟩
theorem req_b {x y : Bool} (q : Q (.bl (decide (x = y))) H) : rEq (.bl x) (.bl y) H Q := ⟨rfl, by rw [show decide (V.bl x = V.bl y) = decide (x = y) from decide_eq_decide.mpr ⟨V.bl.inj, congrArg _⟩]; exact q⟩
theorem rne_b {x y : Bool} (q : Q (.bl (!decide (x = y))) H) : rNe (.bl x) (.bl y) H Q := ⟨rfl, by rw [show decide (V.bl x = V.bl y) = decide (x = y) from decide_eq_decide.mpr ⟨V.bl.inj, congrArg _⟩]; exact q⟩
theorem rne_same {x : V} (h : scal x x = true) (q : Q (.bl false) H) : rNe x x H Q := ⟨h, by rw [decide_eq_true rfl]; exact q⟩
theorem req_same {x : V} (h : scal x x = true) (q : Q (.bl true) H) : rEq x x H Q := ⟨h, by rw [decide_eq_true rfl]; exact q⟩
theorem req {x y : V} (h : scal x y = true) (q : Q (.bl (decide (x = y))) H) : rEq x y H Q := ⟨h, q⟩
theorem rne {x y : V} (h : scal x y = true) (q : Q (.bl (!decide (x = y))) H) : rNe x y H Q := ⟨h, q⟩
theorem rixl {p : Addr} {xs : List V} {i : Int} {v : V} (h : SqL K H p xs) (e : atI xs i = some v) (q : Q v H) : rIxL K (.ref p) (.int i) H Q := ⟨p, xs, i, v, rfl, rfl, h, e, q⟩
theorem rixt {p : Addr} {xs : List V} {i : Int} {v : V} (h : SqT K H p xs) (e : atI xs i = some v) (q : Q v H) : rIxT K (.ref p) (.int i) H Q := ⟨p, xs, i, v, rfl, rfl, h, e, q⟩
theorem rixl_n {p : Addr} {xs : List V} {j : Nat} {i : Int} {v : V} (h : SqL K H p xs) (e : xs[j]? = some v) (hz : i = (j : Int)) (q : Q v H) : rIxL K (.ref p) (.int i) H Q := ⟨p, xs, i, v, rfl, rfl, h, at_of hz e, q⟩
theorem rixt_n {p : Addr} {xs : List V} {j : Nat} {i : Int} {v : V} (h : SqT K H p xs) (e : xs[j]? = some v) (hz : i = (j : Int)) (q : Q v H) : rIxT K (.ref p) (.int i) H Q := ⟨p, xs, i, v, rfl, rfl, h, at_of hz e, q⟩
theorem rixs {z : Str} {i : Int} {j c : Nat} (hz : z.length ≤ 100000) (e : z.cps.toList[j]? = some c) (hi : i = (j : Int)) (q : Q (.str ⟨#[c]⟩) H) : rIxS (.str z) (.int i) H Q := ⟨z, i, c, rfl, rfl, sz hz, at_g hi e, q⟩
theorem rin_l {neg : Bool} {x : V} {p : Addr} {xs : List V} (h : SqL K H p xs) (hx : flatV x = true) (ha : xs.all flatV = true) (q : Q (.bl (if neg then !inV x xs else inV x xs)) H) : rIn K neg x (.ref p) H Q := ⟨p, xs, rfl, .inl h, hx, ha, q⟩
theorem rin_i {n : Int} {p : Addr} {xs : List Int} (h : SqL K H p (xs.map V.int)) (q : Q (.bl (decide (n ∈ xs))) H) : rIn K false (.int n) (.ref p) H Q := rin_l h rfl (flat_ints _) (by rw [in_ints]; exact q)
theorem rni_i {n : Int} {p : Addr} {xs : List Int} (h : SqL K H p (xs.map V.int)) (q : Q (.bl (!decide (n ∈ xs))) H) : rIn K true (.int n) (.ref p) H Q := rin_l h rfl (flat_ints _) (by rw [in_ints]; exact q)
theorem rlen_l {p : Addr} {xs : List V} (h : SqL K H p xs) (q : Q (.int (xs.length : Nat)) H) : rLenS K [.ref p] H Q := ⟨p, xs, rfl, .inl h, q⟩
theorem rlen_t {p : Addr} {xs : List V} (h : SqT K H p xs) (q : Q (.int (xs.length : Nat)) H) : rLenS K [.ref p] H Q := ⟨p, xs, rfl, .inr h, q⟩
theorem rlen_li {p : Addr} {xs : List Int} (h : SqL K H p (xs.map V.int)) (q : Q (.int (xs.length : Nat)) H) : rLenS K [.ref p] H Q := ⟨p, _, rfl, .inl h, by rw [List.length_map]; exact q⟩
theorem rlen_ls {p : Addr} {xs : List Str} (h : SqL K H p (xs.map V.str)) (q : Q (.int (xs.length : Nat)) H) : rLenS K [.ref p] H Q := ⟨p, _, rfl, .inl h, by rw [List.length_map]; exact q⟩
theorem rlen_E {p : Addr} {xs : List V} (h : SqE K H p xs) (q : Q (.int (xs.length : Nat)) H) : rLenS K [.ref p] H Q := ⟨p, xs, rfl, h, q⟩
theorem rlen_Ei {p : Addr} {xs : List Int} (h : SqE K H p (xs.map V.int)) (q : Q (.int (xs.length : Nat)) H) : rLenS K [.ref p] H Q := ⟨p, _, rfl, h, by rw [List.length_map]; exact q⟩
/-! ## new objects -/
def kTup (Q : VK) : List V → Hp → Prop := fun xs H1 => xs.length ≤ sizeLine ∧ ∀ p, H1 p = none → Q (.ref p) (upd H1 p (.tup xs))
theorem ttup {t : TA} (h : t σ H (kTup Q)) : tTup t σ H Q := h
theorem k_tup {xs : List V} (hz : xs.length ≤ sizeLine) (k : ∀ (p : Addr) (H' : Hp), H p = none → Same H H' → H' p = some (.tup xs) → Q (.ref p) H') : kTup Q xs H := ⟨hz, fun p np => k p _ np (same_upd np) upd_same⟩
def kLst (Q : VK) : List V → Hp → Prop := fun xs H1 => xs.length ≤ sizeLine ∧ ∀ p, H1 p = none → Q (.ref p) (upd H1 p (.lst xs))
theorem tlst {t : TA} (h : t σ H (kLst Q)) : tLst t σ H Q := h
theorem k_lst {xs : List V} (hz : xs.length ≤ sizeLine) (k : ∀ (p : Addr) (H' : Hp), H p = none → Same H H' → H' p = some (.lst xs) → Q (.ref p) H') : kLst Q xs H := ⟨hz, fun p np => k p _ np (same_upd np) upd_same⟩
theorem rsll {a : Addr} {xs : List V} {lo hi : Option Int} (h : SqL K H a xs) (k : ∀ (p : Addr) (H' : Hp), H p = none → Same H H' → H' p = some (.lst (cutV xs lo hi)) → Q (.ref p) H') : rSlL K (.ref a) lo hi H Q := ⟨a, xs, rfl, h, fun p np => k p _ np (same_upd np) upd_same⟩
theorem rcat {l b : Addr} {xs zs : List V} (h1 : H l = some (.lst xs)) (h2 : H b = some (.lst zs)) (hz : xs.length + zs.length ≤ sizeLine) (k : ∀ (p : Addr) (H' : Hp), H p = none → Same H H' → H' p = some (.lst (xs ++ zs)) → Q (.ref p) H') : rCat (.ref l) (.ref b) H Q := ⟨l, b, xs, zs, rfl, rfl, h1, h2, hz, fun p np => k p _ np (same_upd np) upd_same⟩
theorem list_l {r : List V → Hp → VK → Prop} (hr : r = fun xs H Q => ∃ p ys, xs = [.ref p] ∧ (SqL K H p ys ∨ SqT K H p ys) ∧ ∀ l, H l = none → Q (.ref l) (upd H l (.lst ys))) {a : Addr} {xs : List V} (h : SqL K H a xs)
    (k : ∀ (p : Addr) (H' : Hp), H p = none → Same H H' → H' p = some (.lst xs) → Q (.ref p) H') : r [.ref a] H Q := by
  subst hr; exact ⟨a, xs, rfl, .inl h, fun p np => k p _ np (same_upd np) upd_same⟩
theorem new_strs {ys : List Str} (k : ∀ (p : Addr) (H' : Hp), H p = none → Same H H' → H' p = some (.lst (ys.map V.str)) → Q (.ref p) H') : rNewStrs ys H Q := fun p np => k p _ np (same_upd np) upd_same
theorem rlist_l {a : Addr} {xs : List V} (h : SqL K H a xs) (k : ∀ (p : Addr) (H' : Hp), H p = none → Same H H' → H' p = some (.lst xs) → Q (.ref p) H') : rListOf K [.ref a] H Q := ⟨a, xs, rfl, .inl h, fun p np => k p _ np (same_upd np) upd_same⟩
theorem risn_i {i : Int} (q : Q (.bl false) H) : rIsN (.int i) .non H Q := ⟨rfl, q⟩
theorem risn_b {i : Bool} (q : Q (.bl false) H) : rIsN (.bl i) .non H Q := ⟨rfl, q⟩
theorem risn_s {i : Str} (q : Q (.bl false) H) : rIsN (.str i) .non H Q := ⟨rfl, q⟩
theorem risn_n (q : Q (.bl true) H) : rIsN .non .non H Q := ⟨rfl, q⟩
theorem rnotn_i {i : Int} (q : Q (.bl true) H) : rNotN (.int i) .non H Q := ⟨rfl, q⟩
theorem rnotn_n (q : Q (.bl false) H) : rNotN .non .non H Q := ⟨rfl, q⟩
theorem rint_b {b : Bool} (q : Q (.int (if b then 1 else 0)) H) : rInt1 [.bl b] H Q := .inr ⟨b, rfl, q⟩
theorem rint_i {i : Int} (q : Q (.int i) H) : rInt1 [.int i] H Q := .inl ⟨i, rfl, q⟩
theorem rstr_i {i : Int} (h : i.natAbs.log2 < 1920) (q : Q (.str (toString i)) H) : rStrI [.int i] H Q := ⟨i, rfl, h, q⟩
theorem rint_s {a : Str} {n : Int} (h : PySem.intText? a = some n) (hl : a.length ≤ 640) (q : Q (.int n) H) : rIntS [.str a] H Q := ⟨a, n, rfl, h, hl, q⟩
theorem radds {a b : Str} (h : a.length + b.length ≤ 100000) (q : Q (.str (a ++ b)) H) : rAddS (.str a) (.str b) H Q := ⟨a, b, rfl, rfl, sz h, q⟩
theorem rsplit {a b : Str} (hb : (b.length == 0) = false) (hl : a.length ≤ 99998) (k : ∀ (p : Addr) (H' : Hp), H p = none → Same H H' → H' p = some (.lst ((Txt.split a b).map V.str)) → Q (.ref p) H') : rSplit (.str a) [.str b] H Q := ⟨a, b, rfl, rfl, hb, sz (by omega), new_strs k⟩
theorem rjoin {a : Str} {p : Addr} {ys : List Str} (h : SqL K H p (ys.map V.str)) (hz : (ys.map (·.length)).sum + ys.length * a.length ≤ 16777216) (q : Q (.str (Txt.join a ys)) H) : rJoin K (.str a) [.ref p] H Q := ⟨a, p, ys, rfl, rfl, .inl h, hz, q⟩
theorem tstep {te tk : TE} (h : te σ H fun x H1 => tPart tk σ H1 (kStep K x Q)) : tStepL K te tk σ H Q := h
theorem k_step {a : Addr} {xs : List V} {z : Int} (hz : z = 1 ∨ z = -1) (h : SqL K H a xs) (k : ∀ (p : Addr) (H' : Hp), H p = none → Same H H' → H' p = some (.lst (if z = 1 then xs else xs.reverse)) → Q (.ref p) H') : kStep K (.ref a) Q (some z) H :=
  ⟨a, xs, rfl, hz.imp (congrArg _) (congrArg _), h, fun p np => by
    have e : (if (some z : Option Int) = some 1 then xs else xs.reverse) = (if z = 1 then xs else xs.reverse) := by
      by_cases q : z = 1
      · rw [if_pos q, if_pos (by rw [q])]
      · rw [if_neg q, if_neg (fun w => q (Option.some.inj w))]
    rw [e]
    exact k p _ np (same_upd np) upd_same⟩
/-! ## isinstance -/
theorem isi {x : V} {c : String} {a : String} {b : Bool} (ty : TyX K H x (.type a)) (h : kitB a c = some b) (q : Q (.bl b) H) : rIsi K [x, .ty c] H Q := ⟨x, .ty c, .type a, .type c, b, rfl, .ty c, ty, kit_ty h, q⟩
theorem isi_i {n : Int} {c : String} {b : Bool} (h : kitB "int" c = some b) (q : Q (.bl b) H) : rIsi K [.int n, .ty c] H Q := isi (.base (.int n)) h q
theorem isi_s {n : Str} {c : String} {b : Bool} (h : kitB "str" c = some b) (q : Q (.bl b) H) : rIsi K [.str n, .ty c] H Q := isi (.base (.str n)) h q
theorem isi_l {a : Addr} {xs : List V} {c : String} {b : Bool} (s : SqL K H a xs) (h : kitB "list" c = some b) (q : Q (.bl b) H) : rIsi K [.ref a, .ty c] H Q := by
  refine isi (a := "list") ?_ h q
  rcases s with (s | ⟨o, s⟩) | ⟨dd, its, n, h1, h2⟩
  · exact .base (.lst s)
  · exact .base (.frz s)
  · exact .kList h1 h2.1
theorem isi_t {a : Addr} {xs : List V} {c : String} {b : Bool} (s : SqT K H a xs) (h : kitB "tuple" c = some b) (q : Q (.bl b) H) : rIsi K [.ref a, .ty c] H Q := by
  refine isi (a := "tuple") ?_ h q
  rcases s with (s | ⟨o, s⟩) | ⟨dd, its, n, h1, h2⟩
  · exact .base (.tup s)
  · exact .fTuple s
  · exact .kTuple h1 h2.1
theorem kit_no (a : String) (h1 : kitB a "list" = some false) (h2 : kitB a "tuple" = some false) : PySem.W.kitAny K (.type a) [.type "list", .type "tuple"] = some false :=
  kitAny_cons (b := false) (kit_ty h1) (fun _ => kitAny_cons (b := false) (kit_ty h2) (fun _ => kitAny_nil) fun z => nomatch z) fun z => nomatch z
theorem isi_int_int {n : Int} (q : Q (.bl true) H) : rIsi K [.int n, .ty "int"] H Q := isi (a := "int") (b := true) (.base (.int n)) (by decide +kernel) q
theorem isi_int_bool {n : Int} (q : Q (.bl false) H) : rIsi K [.int n, .ty "bool"] H Q := isi (a := "int") (b := false) (.base (.int n)) (by decide +kernel) q
theorem isi_int_str {n : Int} (q : Q (.bl false) H) : rIsi K [.int n, .ty "str"] H Q := isi (a := "int") (b := false) (.base (.int n)) (by decide +kernel) q
theorem isi_str_int {n : Str} (q : Q (.bl false) H) : rIsi K [.str n, .ty "int"] H Q := isi (a := "str") (b := false) (.base (.str n)) (by decide +kernel) q
theorem isi_str_bool {n : Str} (q : Q (.bl false) H) : rIsi K [.str n, .ty "bool"] H Q := isi (a := "str") (b := false) (.base (.str n)) (by decide +kernel) q
theorem isi_str_str {n : Str} (q : Q (.bl true) H) : rIsi K [.str n, .ty "str"] H Q := isi (a := "str") (b := true) (.base (.str n)) (by decide +kernel) q
theorem isi_bool_int {n : Bool} (q : Q (.bl true) H) : rIsi K [.bl n, .ty "int"] H Q := isi (a := "bool") (b := true) (.base (.bl n)) (by decide +kernel) q
theorem isi_bool_bool {n : Bool} (q : Q (.bl true) H) : rIsi K [.bl n, .ty "bool"] H Q := isi (a := "bool") (b := true) (.base (.bl n)) (by decide +kernel) q
theorem isi_bool_str {n : Bool} (q : Q (.bl false) H) : rIsi K [.bl n, .ty "str"] H Q := isi (a := "bool") (b := false) (.base (.bl n)) (by decide +kernel) q
theorem isi_non_int (q : Q (.bl false) H) : rIsi K [.non, .ty "int"] H Q := isi (a := "NoneType") (b := false) (.base .non) (by decide +kernel) q
theorem isi_non_bool (q : Q (.bl false) H) : rIsi K [.non, .ty "bool"] H Q := isi (a := "NoneType") (b := false) (.base .non) (by decide +kernel) q
theorem isi_non_str (q : Q (.bl false) H) : rIsi K [.non, .ty "str"] H Q := isi (a := "NoneType") (b := false) (.base .non) (by decide +kernel) q
theorem isi_list_int {a : Addr} {xs : List V} (s : SqL K H a xs) (q : Q (.bl false) H) : rIsi K [.ref a, .ty "int"] H Q := isi_l (b := false) s (by decide +kernel) q
theorem isi_list_bool {a : Addr} {xs : List V} (s : SqL K H a xs) (q : Q (.bl false) H) : rIsi K [.ref a, .ty "bool"] H Q := isi_l (b := false) s (by decide +kernel) q
theorem isi_list_str {a : Addr} {xs : List V} (s : SqL K H a xs) (q : Q (.bl false) H) : rIsi K [.ref a, .ty "str"] H Q := isi_l (b := false) s (by decide +kernel) q
theorem isi_list_list {a : Addr} {xs : List V} (s : SqL K H a xs) (q : Q (.bl true) H) : rIsi K [.ref a, .ty "list"] H Q := isi_l (b := true) s (by decide +kernel) q
theorem isi_list_tuple {a : Addr} {xs : List V} (s : SqL K H a xs) (q : Q (.bl false) H) : rIsi K [.ref a, .ty "tuple"] H Q := isi_l (b := false) s (by decide +kernel) q
theorem isi_tuple_int {a : Addr} {xs : List V} (s : SqT K H a xs) (q : Q (.bl false) H) : rIsi K [.ref a, .ty "int"] H Q := isi_t (b := false) s (by decide +kernel) q
theorem isi_tuple_bool {a : Addr} {xs : List V} (s : SqT K H a xs) (q : Q (.bl false) H) : rIsi K [.ref a, .ty "bool"] H Q := isi_t (b := false) s (by decide +kernel) q
theorem isi_tuple_str {a : Addr} {xs : List V} (s : SqT K H a xs) (q : Q (.bl false) H) : rIsi K [.ref a, .ty "str"] H Q := isi_t (b := false) s (by decide +kernel) q
theorem isi_tuple_list {a : Addr} {xs : List V} (s : SqT K H a xs) (q : Q (.bl false) H) : rIsi K [.ref a, .ty "list"] H Q := isi_t (b := false) s (by decide +kernel) q
theorem isi_tuple_tuple {a : Addr} {xs : List V} (s : SqT K H a xs) (q : Q (.bl true) H) : rIsi K [.ref a, .ty "tuple"] H Q := isi_t (b := true) s (by decide +kernel) q
/-- (list, tuple) made on the way -/
theorem isiT_i {n : Int} {p : Addr} (h : H p = some (.tup [.ty "list", .ty "tuple"])) (q : Q (.bl false) H) : rIsiT K [.int n, .ref p] H Q :=
  ⟨_, p, _, .type "int", [.type "list", .type "tuple"], false, rfl, h, .cons (.ty _) (.cons (.ty _) .nil), .base (.int n), kit_no "int" (by decide +kernel) (by decide +kernel), q⟩
theorem isiT_s {n : Str} {p : Addr} (h : H p = some (.tup [.ty "list", .ty "tuple"])) (q : Q (.bl false) H) : rIsiT K [.str n, .ref p] H Q :=
  ⟨_, p, _, .type "str", [.type "list", .type "tuple"], false, rfl, h, .cons (.ty _) (.cons (.ty _) .nil), .base (.str n), kit_no "str" (by decide +kernel) (by decide +kernel), q⟩
theorem isiT_b {n : Bool} {p : Addr} (h : H p = some (.tup [.ty "list", .ty "tuple"])) (q : Q (.bl false) H) : rIsiT K [.bl n, .ref p] H Q :=
  ⟨_, p, _, .type "bool", [.type "list", .type "tuple"], false, rfl, h, .cons (.ty _) (.cons (.ty _) .nil), .base (.bl n), kit_no "bool" (by decide +kernel) (by decide +kernel), q⟩
theorem isiT_n {p : Addr} (h : H p = some (.tup [.ty "list", .ty "tuple"])) (q : Q (.bl false) H) : rIsiT K [.non, .ref p] H Q :=
  ⟨_, p, _, .type "NoneType", [.type "list", .type "tuple"], false, rfl, h, .cons (.ty _) (.cons (.ty _) .nil), .base .non, kit_no "NoneType" (by decide +kernel) (by decide +kernel), q⟩
theorem isiT_E {a : Addr} {xs : List V} {p : Addr} (s : SqE K H a xs) (h : H p = some (.tup [.ty "list", .ty "tuple"])) (q : Q (.bl true) H) : rIsiT K [.ref a, .ref p] H Q := by
  rcases ty_E s with hx | hx
  · exact ⟨_, p, _, .type "list", [.type "list", .type "tuple"], true, rfl, h, .cons (.ty _) (.cons (.ty _) .nil), hx, kit_lt, q⟩
  · exact ⟨_, p, _, .type "tuple", [.type "list", .type "tuple"], true, rfl, h, .cons (.ty _) (.cons (.ty _) .nil), hx, kit_tt, q⟩
theorem tthen {te : TE} {k : V → Hp → VK → Prop} (h : te σ H fun x H1 => k x H1 Q) : tThen te k σ H Q := h
theorem tup_l {p : Addr} {xs : List V} (h : SqL K H p xs) (k : ∀ (q : Addr) (H' : Hp), H q = none → Same H H' → H' q = some (.tup xs) → Q (.ref q) H') : L2.kTup K (.ref p) H Q := .inl ⟨p, xs, rfl, h, fun q nq => k q _ nq (same_upd nq) upd_same⟩
theorem tup_t {p : Addr} {xs : List V} (h : SqT K H p xs) (q : Q (.ref p) H) : L2.kTup K (.ref p) H Q := .inr ⟨p, xs, rfl, h, q⟩
theorem rabs {i : Int} (q : Q (.int (i.natAbs : Nat)) H) : rAbs [.int i] H Q := ⟨i, rfl, by
  rw [show (if i < 0 then -i else i) = ((i.natAbs : Nat) : Int) by split <;> omega]; exact q⟩
theorem ixe {i j : Nat} {p : Addr} {z : Int} {m : Nat} {xs : List V} {v : V} (h1 : σ[i]? = some (some (.ref p))) (h2 : σ[j]? = some (some (.int z))) (h : SqE K H p xs) (e : xs[m]? = some v) (hz : z = (m : Int)) (q : Q v H) : tOp (rIxL K) (tVar i) (tVar j) σ H Q ∨ tOp (rIxT K) (tVar i) (tVar j) σ H Q := by
  rcases h with h | h
  · exact .inl ⟨_, h1, _, h2, p, xs, z, v, rfl, rfl, h, at_of hz e, q⟩
  · exact .inr ⟨_, h1, _, h2, p, xs, z, v, rfl, rfl, h, at_of hz e, q⟩
theorem rrep1 {p : Addr} {x : V} {n : Nat} (h : H p = some (.lst [x])) (hn : n ≤ 100000) (k : ∀ (q : Addr) (H' : Hp), H q = none → Same H H' → H' q = some (.lst (List.replicate n x)) → Q (.ref q) H') : rRep (.ref p) (.int n) H Q := ⟨p, n, [x], rfl, rfl, h, by omega, by omega, sz (by simp; exact hn), fun q nq => by
  have e : (List.replicate ((n : Nat) : Int).toNat [x]).flatten = List.replicate n x := by
    rw [show ((n : Nat) : Int).toNat = n by omega]
    exact flat_rep n x
  show Q (.ref q) (upd H q (.lst (List.replicate ((n : Nat) : Int).toNat [x]).flatten))
  rw [e]
  exact k q _ nq (same_upd nq) upd_same⟩
/-- while -/
def kWc (W : Nat → L2.St → Hp → Prop) (m : Nat) (tb : TS) (D : Ends) (σ : L2.St) : Bool → Hp → Prop := fun b H1 => if b = true then ∃ N : L2.St → Hp → Prop, (∀ σ' H', N σ' H' → ∃ m', m' < m ∧ W m' σ' H') ∧ tb { D with nx := N, ct := N, bk := D.nx } σ H1 else D.nx σ H1
theorem while_ {c : TT} {tb : TS} (W : Nat → L2.St → Hp → Prop) (m : Nat) (h0 : W m σ H) (hs : ∀ m σ H, W m σ H → c σ H (kWc W m tb D σ)) : tWhile c tb D σ H := ⟨W, ⟨m, h0⟩, hs⟩
theorem k_wt {W : Nat → L2.St → Hp → Prop} {m : Nat} {tb : TS} (h : tb { D with nx := fun σ' H' => ∃ m', m' < m ∧ W m' σ' H', ct := fun σ' H' => ∃ m', m' < m ∧ W m' σ' H', bk := D.nx } σ H) : kWc W m tb D σ true H := ⟨_, fun _ _ z => z, h⟩
theorem k_wf {W : Nat → L2.St → Hp → Prop} {m : Nat} {tb : TS} (h : D.nx σ H) : kWc W m tb D σ false H := h
theorem rmin2 {i j : Int} (q : Q (.int (min i j)) H) : rMin2 [.int i, .int j] H Q := ⟨i, j, rfl, by
  rw [show (if j < i then j else i) = min i j by rw [Int.min_def]; split <;> split <;> omega]; exact q⟩
theorem rmax2 {i j : Int} (q : Q (.int (max i j)) H) : rMax2 [.int i, .int j] H Q := ⟨i, j, rfl, by
  rw [show (if j > i then j else i) = max i j by rw [Int.max_def]; split <;> split <;> omega]; exact q⟩
/-! ## instances -/
def kFl (K : PySem.W.Frag) (f : Str) (Q : VK) : VK := fun x H1 => ∃ a C dx fs v, x = .ref a ∧ H1 a = some (.ins C dx fs) ∧ Cls K C ∧ NoAttr K C f ∧ fs.lookup f = some v ∧ Q v H1
theorem tfld {ta : TE} {f : Str} (h : ta σ H (kFl K f Q)) : tFld K ta f σ H Q := h
theorem k_fl {a C dx : Addr} {fs : List (Str × V)} {f : Str} {v : V} (h : H a = some (.ins C dx fs)) (c : Cls K C) (n : NoAttr K C f) (e : fs.lookup f = some v) (q : Q v H) : kFl K f Q (.ref a) H := ⟨a, C, dx, fs, v, rfl, h, c, n, e, q⟩
def kMe (C : Addr) (m : Str) (t : TA) (σ : L2.St) (R : List V → Hp → Prop) : VK := fun x H1 => ∃ a dx fs, x = .ref a ∧ H1 a = some (.ins C dx fs) ∧ fs.lookup m = none ∧ t σ H1 fun vs H2 => R (x :: vs) H2
theorem tmeth {C : Addr} {m : Str} {sp : Sp} {dvs : List V} {E : XK} {ta : TE} {t : TA} (h : ta σ H (kMe C m t σ fun vs H2 => sp (vs ++ dvs) H2 Q E)) : tMeth C m sp dvs E ta t σ H Q := h
theorem k_me {a C dx : Addr} {m : Str} {fs : List (Str × V)} {t : TA} {R : List V → Hp → Prop} (h : H a = some (.ins C dx fs)) (e : fs.lookup m = none) (q : t σ H fun vs H2 => R (.ref a :: vs) H2) : kMe C m t σ R (.ref a) H := ⟨a, dx, fs, rfl, h, e, q⟩
def kMk (C : Addr) (sp : Sp) (dvs : List V) (E : XK) (Q : VK) : List V → Hp → Prop := fun vs H1 => ∀ x dx, H1 x = none → H1 dx = none → dx ≠ x → sp (.ref x :: (vs ++ dvs)) (upd (upd H1 dx (.own x)) x (.ins C dx [])) (fun v H2 => v = .non ∧ Q (.ref x) H2) E
theorem tmake {C : Addr} {sp : Sp} {dvs : List V} {E : XK} {t : TA} (h : t σ H (kMk C sp dvs E Q)) : tMake C sp dvs E t σ H Q := h
theorem k_mk {C : Addr} {sp : Sp} {dvs : List V} {E : XK} {vs : List V} (k : ∀ (x dx : Addr) (H' : Hp), H x = none → H dx = none → Same H H' → H' x = some (.ins C dx []) → sp (.ref x :: (vs ++ dvs)) H' (fun v H2 => v = .non ∧ Q (.ref x) H2) E) : kMk C sp dvs E Q vs H :=
  fun x dx nx nd ne => k x dx _ nx nd (fun a o h => by rw [upd_ne (ne_of_none h nx), upd_ne (ne_of_none h nd)]; exact h) upd_same
def kSf (K : PySem.W.Frag) (f : Str) (y : V) (D : Ends) (σ : L2.St) : VK := fun x H2 => ∃ a C dx fs, x = .ref a ∧ H2 a = some (.ins C dx fs) ∧ Cls K C ∧ NoAttr K C f ∧ fs.length < 1000 ∧ D.nx σ (upd H2 a (.ins C dx (putF f y fs)))
theorem tsfld {ta tv : TE} {f : Str} (h : tv σ H fun y H1 => ta σ H1 (kSf K f y D σ)) : sFld K ta tv f D σ H := h
theorem k_sf {a C dx : Addr} {f : Str} {y : V} {fs gs : List (Str × V)} (h : H a = some (.ins C dx fs)) (c : Cls K C) (n : NoAttr K C f) (hl : fs.length < 1000) (e : putF f y fs = gs) (q : ∀ H' : Hp, Fr H H' a → H' a = some (.ins C dx gs) → D.nx σ H') : kSf K f y D σ (.ref a) H := ⟨a, C, dx, fs, rfl, h, c, n, hl, by
  subst e
  exact q _ Fr.upd upd_same⟩
def kPr (C : Addr) (sp : Sp) (dvs : List V) (E : XK) (Q : VK) : VK := fun x H1 => ∃ a dx fs, x = .ref a ∧ H1 a = some (.ins C dx fs) ∧ sp (.ref a :: dvs) H1 Q E
theorem tprop {C : Addr} {sp : Sp} {dvs : List V} {E : XK} {ta : TE} (h : ta σ H (kPr C sp dvs E Q)) : tProp C sp dvs E ta σ H Q := h
theorem k_pr {a C dx : Addr} {sp : Sp} {dvs : List V} {E : XK} {fs : List (Str × V)} (h : H a = some (.ins C dx fs)) (q : sp (.ref a :: dvs) H Q E) : kPr C sp dvs E Q (.ref a) H := ⟨a, dx, fs, rfl, h, q⟩
theorem rlen_own {a C dx : Addr} {fs : List (Str × V)} {sp : Sp} {E : XK} (h : H a = some (.ins C dx fs)) (q : sp [.ref a] H (fun z H' => ∃ i, z = .int i ∧ 0 ≤ i ∧ i < 2 ^ 63 ∧ Q z H') E) : LX.rLenOwn C sp E [.ref a] H Q := ⟨a, dx, fs, rfl, h, q⟩
theorem rmaxe {a : Addr} {ns : List Int} (h : SqE K H a (ns.map V.int)) (hne : ns ≠ []) (k : ∀ m, m ∈ ns → (∀ y ∈ ns, y ≤ m) → Q (.int m) H) : LX.rMaxE K [.ref a] H Q := ⟨a, ns, rfl, h, hne, k⟩
theorem rall {a : Addr} {bs : List Bool} (h : SqL K H a (bs.map V.bl)) (q : Q (.bl (bs.all id)) H) : rAll K [.ref a] H Q := ⟨a, bs, rfl, h, q⟩
def kRv (K : PySem.W.Frag) (Q : VK) : VK := fun x H1 => ∃ a xs, x = .ref a ∧ SqL K H1 a xs ∧ ∀ p, H1 p = none → Q (.ref p) (upd H1 p (.lst xs.reverse))
theorem trevl {te : TE} (h : te σ H (kRv K Q)) : tRevL K te σ H Q := h
theorem k_rv {a : Addr} {xs : List V} (h : SqL K H a xs) (k : ∀ (p : Addr) (H' : Hp), H p = none → Same H H' → H' p = some (.lst xs.reverse) → Q (.ref p) H') : kRv K Q (.ref a) H := ⟨a, xs, rfl, h, fun p np => k p _ np (same_upd np) upd_same⟩
def kR3 (R : It → Hp → Prop) : List V → Hp → Prop := fun vs H1 => ∃ (i j c : Int) (n : Nat), vs = [.int i, .int j, .int c] ∧ RgC i j c n ∧ R (Itc i c n) H1
theorem irng3 {ta : TA} {R : It → Hp → Prop} (h : ta σ H (kR3 R)) : iRng3 ta σ H R := h
theorem k_r3 {i j c : Int} {n : Nat} {R : It → Hp → Prop} (h : RgC i j c n) (q : R (Itc i c n) H) : kR3 R [.int i, .int j, .int c] H := ⟨i, j, c, n, rfl, h, q⟩
/-! ## stores -/
theorem rset {p : Addr} {xs : List V} {k : Int} {j : Nat} {v : V} {QH : Hp → Prop} (h : H p = some (.lst xs)) (e : ixN xs.length k = some j) (q : ∀ H' : Hp, Fr H H' p → H' p = some (.lst (xs.set j v)) → QH H') : rSetL (.ref p) (.int k) v H QH := ⟨p, xs, k, j, rfl, rfl, h, e, q _ Fr.upd upd_same⟩
theorem rapp {p : Addr} {xs : List V} {y : V} (h : H p = some (.lst xs)) (hz : xs.length < sizeLine) (q : ∀ H' : Hp, Fr H H' p → H' p = some (.lst (xs ++ [y])) → Q .non H') : rAppend (.ref p) [y] H Q := ⟨p, xs, y, rfl, rfl, h, hz, q _ Fr.upd upd_same⟩
theorem rpopi {p : Addr} {xs : List V} {i : Int} {k : Nat} {y : V} (h : H p = some (.lst xs)) (h1 : -(2 ^ 63) ≤ i) (h2 : i < 2 ^ 63) (e : seqIndex? i xs.length = some k) (hx : xs[k]? = some y) (q : ∀ H' : Hp, Fr H H' p → H' p = some (.lst (xs.eraseIdx k)) → Q y H') : rPopAt (.ref p) [.int i] H Q := ⟨p, xs, i, k, y, rfl, rfl, h, h1, h2, e, hx, q _ Fr.upd upd_same⟩
theorem rrem {p : Addr} {ns : List Int} {n : Int} {k : Nat} (h : H p = some (.lst (ns.map V.int))) (e : ns[k]? = some n) (hm : ∀ m : Nat, m < k → ns[m]? ≠ some n) (q : ∀ H' : Hp, Fr H H' p → H' p = some (.lst ((ns.eraseIdx k).map V.int)) → Q .non H') : rRemI (.ref p) [.int n] H Q := ⟨p, ns, n, k, rfl, rfl, h, e, hm, q _ Fr.upd upd_same⟩
theorem rindex {p : Addr} {ys : List V} {y z : V} {j : Nat} (h : SqL K H p ys) (fy : flatV y = true) (fl : ys.all flatV = true) (e : ys[j]? = some z) (ez : eqV z y = true) (hm : ∀ (m : Nat) (z' : V), m < j → ys[m]? = some z' → eqV z' y = false) (q : Q (.int (j : Nat)) H) : rIndex K (.ref p) [y] H Q := ⟨p, ys, y, j, z, rfl, rfl, h, fy, fl, e, ez, hm, q⟩
theorem rpop {p : Addr} {xs : List V} {y : V} (h : H p = some (.lst (xs ++ [y]))) (q : ∀ H' : Hp, Fr H H' p → H' p = some (.lst xs) → Q y H') : rPop (.ref p) [] H Q := ⟨p, xs ++ [y], y, rfl, rfl, h, by simp, by rw [List.dropLast_concat]; exact q _ Fr.upd upd_same⟩
theorem rrev {p : Addr} {xs : List V} (h : H p = some (.lst xs)) (q : ∀ H' : Hp, Fr H H' p → H' p = some (.lst xs.reverse) → Q .non H') : rReverse (.ref p) [] H Q := ⟨p, xs, rfl, rfl, h, q _ Fr.upd upd_same⟩
theorem tbm {T : String} {r : V → List V → Hp → VK → Prop} {to : TE} {t : TA} (h : to σ H fun x H1 => tyV K T x H1 ∧ t σ H1 fun xs H2 => r x xs H2 Q) : tBM K T r to t σ H Q := h
theorem tbm0 {T : String} {r : V → List V → Hp → VK → Prop} {to : TE} (h : to σ H fun x H1 => tyV K T x H1 ∧ r x [] H1 Q) : tBM0 K T r to σ H Q := h
theorem ty_l {p : Addr} {xs : List V} {P : Prop} (h : SqL K H p xs) (q : P) : tyV K "list" (.ref p) H ∧ P := ⟨.inl ⟨rfl, xs, h⟩, q⟩
theorem tm0 {r : V → List V → Hp → VK → Prop} {to : TE} (h : to σ H fun x H1 => (∃ a, x = .str a) ∧ r x [] H1 Q) : tM0 r to σ H Q := h
theorem tm1 {r : V → List V → Hp → VK → Prop} {to te : TE} (h : to σ H fun x H1 => (∃ a, x = .str a) ∧ te σ H1 fun y H2 => r x [y] H2 Q) : tM1 r to te σ H Q := h
theorem is_str {a : Str} {P : Prop} (h : P) : (∃ z, V.str a = V.str z) ∧ P := ⟨⟨a, rfl⟩, h⟩
theorem ex_s0 {P : Str → Prop} {a : Str} (h : P a) : ∃ z, V.str a = V.str z ∧ ([] : List V) = [] ∧ True ∧ P z := ⟨a, rfl, rfl, trivial, h⟩
/-! ## ways that meet -/
theorem if_join {c : Prop} [Decidable c] {t u : TS} (A : L2.St → Hp → Prop)
    (h1 : c → ∀ D' : Ends, D'.rt = D.rt → (∀ σ' H', A σ' H' → D'.nx σ' H') → t D' σ H) (h2 : ¬ c → ∀ D' : Ends, D'.rt = D.rt → (∀ σ' H', A σ' H' → D'.nx σ' H') → u D' σ H)
    (k : ∀ σ' H', A σ' H' → D.nx σ' H') : if decide c = true then t D σ H else u D σ H := ite2d (fun hc => h1 hc D rfl k) fun hc => h2 hc D rfl k
theorem ifn_join {c : Prop} [Decidable c] {t u : TS} (A : L2.St → Hp → Prop)
    (h1 : ¬ c → ∀ D' : Ends, D'.rt = D.rt → (∀ σ' H', A σ' H' → D'.nx σ' H') → t D' σ H) (h2 : c → ∀ D' : Ends, D'.rt = D.rt → (∀ σ' H', A σ' H' → D'.nx σ' H') → u D' σ H)
    (k : ∀ σ' H', A σ' H' → D.nx σ' H') : if (!decide c) = true then t D σ H else u D σ H := ifn2 (fun hc => h1 hc D rfl k) fun hc => h2 hc D rfl k
theorem ifb_join {b : Bool} {t u : TS} (A : L2.St → Hp → Prop)
    (h1 : b = true → ∀ D' : Ends, D'.rt = D.rt → (∀ σ' H', A σ' H' → D'.nx σ' H') → t D' σ H) (h2 : b = false → ∀ D' : Ends, D'.rt = D.rt → (∀ σ' H', A σ' H' → D'.nx σ' H') → u D' σ H)
    (k : ∀ σ' H', A σ' H' → D.nx σ' H') : if b = true then t D σ H else u D σ H := by
  cases b with
  | true => exact ift (h1 rfl D rfl k)
  | false => exact iff_ (h2 rfl D rfl k)
theorem exp_join {c : Prop} [Decidable c] {ta tb : TE} (A : V → Hp → Prop) (h1 : c → ∀ Q' : VK, (∀ v H', A v H' → Q' v H') → ta σ H Q') (h2 : ¬ c → ∀ Q' : VK, (∀ v H', A v H' → Q' v H') → tb σ H Q')
    (k : ∀ v H', A v H' → Q v H') : if decide c = true then ta σ H Q else tb σ H Q := ite2d (fun hc => h1 hc Q k) fun hc => h2 hc Q k
theorem seq_cut {t u : TS} (A : L2.St → Hp → Prop) (h1 : ∀ D' : Ends, D'.rt = D.rt → (∀ σ' H', A σ' H' → D'.nx σ' H') → t D' σ H) (h2 : ∀ σ' H', A σ' H' → u D σ' H') : tSeq t u D σ H := h1 { D with nx := u D } rfl h2
/-! ## statements -/
theorem tseq {t u : TS} (h : t { D with nx := u D } σ H) : tSeq t u D σ H := h
theorem tnext (h : D.nx σ H) : tNext D σ H := h
theorem tdrop {te : TE} (h : te σ H fun _ H1 => D.nx σ H1) : tDrop te D σ H := h
theorem tret {te : TE} (h : te σ H D.rt) : tRet te D σ H := h
theorem tretn (h : D.rt .non H) : tRetN D σ H := h
theorem tifs {c : TT} {t u : TS} (h : c σ H fun b H1 => if b = true then t D σ H1 else u D σ H1) : tIfS c t u D σ H := h
theorem tasg {te : TE} {g : TG} (h : te σ H fun x H1 => g x σ H1 D.nx) : tAsg te g D σ H := h
theorem gname {i : Nat} {v : V} {QG : L2.St → Hp → Prop} (h : QG (σ.set i (some v)) H) : gName i v σ H QG := h
theorem gtup {n : Nat} {t : TGs} {a : Addr} {xs : List V} {QG : L2.St → Hp → Prop} (h : SqT K H a xs) (hn : xs.length = n) (q : t xs σ H QG) : gTup K n t (.ref a) σ H QG := ⟨a, xs, rfl, h, hn, q⟩
theorem gunl {n : Nat} {t : TGs} {a : Addr} {xs : List V} {QG : L2.St → Hp → Prop} (h : SqL K H a xs) (hn : xs.length = n) (q : t xs σ H QG) : gUnl K n t (.ref a) σ H QG := ⟨a, xs, rfl, h, hn, q⟩
theorem gnil {QG : L2.St → Hp → Prop} (h : QG σ H) : gNil [] σ H QG := ⟨rfl, h⟩
theorem gcons {t : TG} {u : TGs} {v : V} {r : List V} {QG : L2.St → Hp → Prop} (h : t v σ H fun σ' H' => u r σ' H' QG) : gCons t u (v :: r) σ H QG := ⟨v, r, rfl, h⟩
theorem gsub {to ti : TE} {t : TSet} {v : V} {QG : L2.St → Hp → Prop} (h : to σ H fun o H1 => ti σ H1 fun i H2 => t o i v H2 fun H3 => QG σ H3) : gSub to ti t v σ H QG := h
def kPar (i j : Nat) (D : Ends) (σ : L2.St) : List V → Hp → Prop := fun vs H1 => ∃ v w, vs = [v, w] ∧ D.nx ((σ.set i (some v)).set j (some w)) H1
theorem tpar {i j : Nat} {ta : TA} (h : ta σ H (kPar i j D σ)) : tPar i j ta D σ H := h
theorem k_par {i j : Nat} {v w : V} (h : D.nx ((σ.set i (some v)).set j (some w)) H) : kPar i j D σ [v, w] H := ⟨v, w, rfl, h⟩
def kPar3 (i j l : Nat) (D : Ends) (σ : L2.St) : List V → Hp → Prop := fun vs H1 => ∃ u v w, vs = [u, v, w] ∧ D.nx (((σ.set i (some u)).set j (some v)).set l (some w)) H1
theorem tpar3 {i j l : Nat} {ta : TA} (h : ta σ H (kPar3 i j l D σ)) : tPar3 i j l ta D σ H := h
theorem k_par3 {i j l : Nat} {u v w : V} (h : D.nx (((σ.set i (some u)).set j (some v)).set l (some w)) H) : kPar3 i j l D σ [u, v, w] H := ⟨u, v, w, rfl, h⟩
theorem taug {i : Nat} {x : V} {te : TE} {ti : TIp} (e : σ[i]? = some (some x)) (h : te σ H fun y H1 => ti x y H1 fun z H2 => D.nx (σ.set i (some z)) H2) : tAug i te ti D σ H := ⟨x, e, h⟩
theorem ipi {f : Int → Int → Int} {i j : Int} (q : Q (.int (f i j)) H) : ipI f (.int i) (.int j) H Q := ⟨i, j, rfl, rfl, q⟩
/-! ## shapes of rules without a name -/
theorem ex_ss {P : Str → Str → Prop} {a b : Str} (h : P a b) : ∃ i j, V.str a = V.str i ∧ V.str b = V.str j ∧ P i j := ⟨a, b, rfl, rfl, h⟩
theorem ex_s1 {P : Str → Prop} {a : Str} (h : P a) : ∃ z, [V.str a] = [V.str z] ∧ P z := ⟨a, rfl, h⟩
theorem ex_i1 {P : Int → Prop} {a : Int} (h : P a) : ∃ z, [V.int a] = [V.int z] ∧ P z := ⟨a, rfl, h⟩
theorem ex_int_b {P R : Int → Prop} {b : Bool} (h : R (if b then 1 else 0)) : (∃ i, [V.bl b] = [V.int i] ∧ P i) ∨ ∃ k, [V.bl b] = [V.bl k] ∧ R (if k then 1 else 0) := .inr ⟨b, rfl, h⟩
theorem and_rfl {α : Type} {a : α} {P : Prop} (h : P) : a = a ∧ P := ⟨rfl, h⟩
theorem and_tr {P : Prop} (h : P) : True ∧ P := ⟨trivial, h⟩
theorem is_non {Q : Bool → Prop} (h : Q true) : Q (decide (V.non = V.non)) := by rw [decide_eq_true rfl]; exact h
end
/-! ## loops -/
section
variable {J : It} {n : Nat} {G : Hp → Prop} {Y : Nat → Hp → V → Hp → Prop} {K : PySem.W.Frag}
/-- what a comprehension has made so far stands at D -/
def lcP (D : Addr) (Pv : Nat → List V → Hp → Prop) (i : Nat) (H : Hp) : Prop := ∃ acc, H D = some (.lst acc) ∧ acc.length ≤ i ∧ Pv i acc H
def kLc (D : Addr) (Nx : Hp → Prop) : VK := fun y H4 => ∃ acc, H4 D = some (.lst acc) ∧ acc.length < sizeLine ∧ Nx (upd H4 D (.lst (acc ++ [y])))
theorem k_lc {D : Addr} {Pv : Nat → List V → Hp → Prop} {i : Nat} {y : V} {H : Hp} {acc : List V} (h : H D = some (.lst acc)) (hl : acc.length ≤ i) (hz : i ≤ 99999) (q : ∀ H5 : Hp, Fr H H5 D → H5 D = some (.lst (acc ++ [y])) → Pv (i + 1) (acc ++ [y]) H5) : kLc D (lcP D Pv (i + 1)) y H :=
  ⟨acc, h, Nat.lt_of_lt_of_le (Nat.lt_of_le_of_lt (Nat.le_trans hl hz) (by decide : 99999 < 100000)) (by decide), acc ++ [y], upd_same, by rw [List.length_append]; exact Nat.succ_le_succ hl, q _ Fr.upd upd_same⟩
theorem k_lc0 {D : Addr} {Pv : Nat → List V → Hp → Prop} {i : Nat} {H : Hp} {acc : List V} (h : H D = some (.lst acc)) (hl : acc.length ≤ i) (q : Pv (i + 1) acc H) : lcP D Pv (i + 1) H := ⟨acc, h, Nat.le_succ_of_le hl, q⟩
/-- a comprehension: Pv by the turn, what is made so far and the heap; the new list D is told apart -/
theorem lc_gen (w : Walk J n G Y) {g : TG} {tt : TT} {te : TE} {vs : List Nat} {σ : L2.St} {H1 : Hp} {D : Addr} {Qd : Hp → Prop} (hD : H1 D = none) (Pv : Nat → List V → Hp → Prop)
    (h0 : ∀ H', Same H1 H' → H' D = some (.lst []) → Pv 0 [] H') (hG : ∀ i acc H, i ≤ n → H D = some (.lst acc) → Pv i acc H → G H)
    (hs : ∀ i acc x H H', i < n → acc.length ≤ i → H D = some (.lst acc) → Pv i acc H → Y i H x H' → g x (wipe σ vs) H' fun σ2 H2 => wipe σ2 vs = wipe σ vs ∧ tt σ2 H2 fun b H3 =>
      if b = true then te σ2 H3 (kLc D (lcP D Pv (i + 1))) else lcP D Pv (i + 1) H3)
    (hd : ∀ acc H, H D = some (.lst acc) → acc.length ≤ n → Pv n acc H → Qd H) :
    ∃ W : Nat → Nat → Hp → Prop, (∃ m, W 0 m (upd H1 D (.lst []))) ∧ ∀ i m H, W i m H →
      (J.stop i H ∧ Qd H) ∨ (J.go i H ∧ ∃ Nx : Hp → Prop, (∀ H', Nx H' → ∃ m', m' < m ∧ W (i + 1) m' H') ∧ ∀ x H', J.yld i H x H' → g x (wipe σ vs) H' fun σ2 H2 => wipe σ2 vs = wipe σ vs ∧ tt σ2 H2 fun b H3 =>
        if b = true then te σ2 H3 fun y H4 => ∃ acc, H4 D = some (.lst acc) ∧ acc.length < sizeLine ∧ Nx (upd H4 D (.lst (acc ++ [y]))) else Nx H3) :=
  lc_it w (lcP D Pv) ⟨[], upd_same, Nat.le_refl _, h0 _ (same_upd hD) upd_same⟩ (fun i H hi ⟨acc, h1, _, h2⟩ => hG i acc H hi h1 h2) (fun i x H H' hi ⟨acc, h1, hl, h2⟩ y => hs i acc x H H' hi hl h1 h2 y) fun H ⟨acc, h1, hl, h2⟩ => hd acc H h1 hl h2
/-- a comprehension that makes one value of each item and changes nothing -/
theorem lc_map {xs : List V} (w : Walk J xs.length G (YAt xs)) (hz : xs.length ≤ 99999) {g : TG} {tt : TT} {te : TE} {vs : List Nat} {σ : L2.St} {H1 : Hp} {D : Addr} {Qd : Hp → Prop} (hD : H1 D = none) (F : V → V)
    (hG : ∀ H', Same H1 H' → G H')
    (hs : ∀ x Hq, x ∈ xs → Same H1 Hq → ∀ (KK : VK) (KN : Hp → Prop), (∀ H5, Same Hq H5 → KK (F x) H5) → g x (wipe σ vs) Hq fun σ2 H2 => wipe σ2 vs = wipe σ vs ∧ tt σ2 H2 fun b H3 => if b = true then te σ2 H3 KK else KN H3)
    (hd : ∀ H, Same H1 H → H D = some (.lst (xs.map F)) → Qd H) :
    ∃ W : Nat → Nat → Hp → Prop, (∃ m, W 0 m (upd H1 D (.lst []))) ∧ ∀ i m H, W i m H →
      (J.stop i H ∧ Qd H) ∨ (J.go i H ∧ ∃ Nx : Hp → Prop, (∀ H', Nx H' → ∃ m', m' < m ∧ W (i + 1) m' H') ∧ ∀ x H', J.yld i H x H' → g x (wipe σ vs) H' fun σ2 H2 => wipe σ2 vs = wipe σ vs ∧ tt σ2 H2 fun b H3 =>
        if b = true then te σ2 H3 fun y H4 => ∃ acc, H4 D = some (.lst acc) ∧ acc.length < sizeLine ∧ Nx (upd H4 D (.lst (acc ++ [y]))) else Nx H3) :=
  lc_gen w hD (fun i acc H => Same H1 H ∧ acc = (xs.take i).map F) (fun H' s _ => ⟨s, by rw [List.take_zero]; rfl⟩) (fun i acc H _ _ h => hG H h.1)
    (fun i acc x H H' hi hl hH ⟨s, ha⟩ ⟨e, hx⟩ => by
      subst e
      refine hs x H' (List.mem_of_getElem? hx) s _ _ fun H5 s5 => k_lc (s5 _ _ hH) hl (by omega) fun H6 f h6 => ⟨Same.fr_new (s.trans s5) f hD, ?_⟩
      rw [ha, List.take_add_one, hx, List.map_append]; rfl)
    fun acc H hH _ ⟨s, ha⟩ => hd H s (by rw [hH, ha, List.take_length])
end
theorem ypair {xs ys : Nat → Option V} {i : Nat} {H H' : Hp} {v : V} (h : YPair xs ys i H v H') : ∃ T x y, v = .ref T ∧ H T = none ∧ Same H H' ∧ H' T = some (.tup [x, y]) ∧ xs i = some x ∧ ys i = some y := by
  obtain ⟨T, x, y, e, nT, rfl, h1, h2⟩ := h
  exact ⟨T, x, y, e, nT, same_upd nT, upd_same, h1, h2⟩
/-! ## loops by name -/
section
variable {K : PySem.W.Frag} {σ : L2.St} {H : Hp} {Q : VK} {D : Ends} {R : It → Hp → Prop}
def kFor (g : TG) (tb : TS) (D : Ends) (σ : L2.St) : It → Hp → Prop := fun J H1 => ∃ W : Nat → Nat → L2.St → Hp → Prop, (∃ m, W 0 m σ H1) ∧ ∀ i m σ H, W i m σ H →
  (J.stop i H ∧ D.nx σ H) ∨ (J.go i H ∧ ∃ N : L2.St → Hp → Prop, (∀ σ' H', N σ' H' → ∃ m', m' < m ∧ W (i + 1) m' σ' H') ∧ ∀ x H', J.yld i H x H' → g x σ H' fun σ2 H2 => tb { D with nx := N, ct := N, bk := D.nx } σ2 H2)
theorem tfor {wi : TI} {g : TG} {tb : TS} (h : wi σ H (kFor g tb D σ)) : tFor wi g tb D σ H := h
def kLcS (g : TG) (tt : TT) (te : TE) (vs : List Nat) (σ : L2.St) (Q : VK) : It → Hp → Prop := fun J H1 => ∀ D, H1 D = none → ∃ W : Nat → Nat → Hp → Prop, (∃ m, W 0 m (upd H1 D (.lst []))) ∧ ∀ i m H, W i m H →
  (J.stop i H ∧ Q (.ref D) H) ∨ (J.go i H ∧ ∃ Nx : Hp → Prop, (∀ H', Nx H' → ∃ m', m' < m ∧ W (i + 1) m' H') ∧ ∀ x H', J.yld i H x H' → g x (wipe σ vs) H' fun σ2 H2 => wipe σ2 vs = wipe σ vs ∧ tt σ2 H2 fun b H3 =>
    if b = true then te σ2 H3 fun y H4 => ∃ acc, H4 D = some (.lst acc) ∧ acc.length < sizeLine ∧ Nx (upd H4 D (.lst (acc ++ [y]))) else Nx H3)
theorem tlc {wi : TI} {g : TG} {tt : TT} {te : TE} {vs : List Nat} (h : wi σ H (kLcS g tt te vs σ Q)) : tLc wi g tt te vs σ H Q := h
def kIL (K : PySem.W.Frag) (R : It → Hp → Prop) : VK := fun x H1 => ∃ a, x = .ref a ∧ (∃ xs, SqL K H1 a xs) ∧ R (Itl K a) H1
theorem ilist {tl : TE} (h : tl σ H (kIL K R)) : iList K tl σ H R := h
theorem k_il {a : Addr} {xs : List V} (h : SqL K H a xs) (q : R (Itl K a) H) : kIL K R (.ref a) H := ⟨a, rfl, ⟨xs, h⟩, q⟩
def kIT (K : PySem.W.Frag) (R : It → Hp → Prop) : VK := fun x H1 => ∃ a, x = .ref a ∧ (∃ xs, SqT K H1 a xs) ∧ R (Itt K a) H1
theorem itup {tl : TE} (h : tl σ H (kIT K R)) : iTup K tl σ H R := h
theorem k_it {a : Addr} {xs : List V} (h : SqT K H a xs) (q : R (Itt K a) H) : kIT K R (.ref a) H := ⟨a, rfl, ⟨xs, h⟩, q⟩
def kIS (R : It → Hp → Prop) : VK := fun v H1 => ∃ x, v = .str x ∧ R (Its x) H1
theorem istr {te : TE} (h : te σ H (kIS R)) : iStr te σ H R := h
theorem k_is {x : Str} (q : R (Its x) H) : kIS R (.str x) H := ⟨x, rfl, q⟩
def kR1 (R : It → Hp → Prop) : List V → Hp → Prop := fun vs H1 => ∃ j : Int, vs = [.int j] ∧ -(2 ^ 62) ≤ j ∧ j < 2 ^ 62 ∧ R (Itr 0 j.toNat) H1
theorem irng1 {ta : TA} (h : ta σ H (kR1 R)) : iRng1 ta σ H R := h
theorem k_r1 {j : Int} (h1 : -(2 ^ 62) ≤ j) (h2 : j < 2 ^ 62) (q : R (Itr 0 j.toNat) H) : kR1 R [.int j] H := ⟨j, rfl, h1, h2, q⟩
theorem k_r1n {n : Nat} (h2 : n < 2 ^ 62) (q : R (Itr 0 n) H) : kR1 R [.int n] H := ⟨n, rfl, by omega, by omega, q⟩
def kR2 (R : It → Hp → Prop) : List V → Hp → Prop := fun vs H1 => ∃ i j : Int, vs = [.int i, .int j] ∧ (-(2 ^ 62) ≤ i ∧ i < 2 ^ 62 ∧ -(2 ^ 62) ≤ j ∧ j < 2 ^ 62) ∧ R (Itr i (j - i).toNat) H1
theorem irng2 {ta : TA} (h : ta σ H (kR2 R)) : iRng2 ta σ H R := h
theorem k_r2 {i j : Int} (h1 : -(2 ^ 62) ≤ i) (h2 : i < 2 ^ 62) (h3 : -(2 ^ 62) ≤ j) (h4 : j < 2 ^ 62) (q : R (Itr i (j - i).toNat) H) : kR2 R [.int i, .int j] H := ⟨i, j, rfl, ⟨h1, h2, h3, h4⟩, q⟩
def kEn (K : PySem.W.Frag) (R : It → Hp → Prop) : List V → Hp → Prop := fun vs H1 => ∃ a xs, vs = [.ref a] ∧ SqL K H1 a xs ∧ R (Ite K a) H1
theorem ienum {ta : TA} (h : ta σ H (kEn K R)) : iEnum K ta σ H R := h
theorem k_en {a : Addr} {xs : List V} (h : SqL K H a xs) (q : R (Ite K a) H) : kEn K R [.ref a] H := ⟨a, xs, rfl, h, q⟩
def kZip (K : PySem.W.Frag) (R : It → Hp → Prop) : List V → Hp → Prop := fun vs H1 => ∃ a b xs ys, vs = [.ref a, .ref b] ∧ SqL K H1 a xs ∧ SqL K H1 b ys ∧ R (Itz K a b) H1
theorem izip {ta : TA} (h : ta σ H (kZip K R)) : iZip K ta σ H R := h
theorem k_zip {a b : Addr} {xs ys : List V} (h : SqL K H a xs) (h' : SqL K H b ys) (q : R (Itz K a b) H) : kZip K R [.ref a, .ref b] H := ⟨a, b, xs, ys, rfl, h, h', q⟩
/-- list(range(..)) -/
def kLR (Q : VK) : Int → Int → Hp → Prop := fun a b H1 => RgOk a b ∧ ∀ q, H1 q = none → Q (.ref q) (upd H1 q (.lst (rgV a b)))
theorem tlstrg {te : L2.St → Hp → (Int → Int → Hp → Prop) → Prop} (h : te σ H (kLR Q)) : tLstRg te σ H Q := h
theorem k_lr {n : Nat} (hn : n ≤ 100000) (k : ∀ (p : Addr) (H' : Hp), H p = none → Same H H' → H' p = some (.lst (rgV 0 n)) → Q (.ref p) H') : kLR Q 0 n H :=
  ⟨RgOk.of_le (by decide) (by omega) (by decide) (by omega), fun p np => k p _ np (same_upd np) upd_same⟩
def kG1 (QR : Int → Int → Hp → Prop) : VK := fun x H1 => ∃ n, x = .int n ∧ QR 0 n H1
theorem trg1 {ta : TE} {QR : Int → Int → Hp → Prop} (h : ta σ H (kG1 QR)) : tRg1 ta σ H QR := h
theorem k_g1 {n : Int} {QR : Int → Int → Hp → Prop} (q : QR 0 n H) : kG1 QR (.int n) H := ⟨n, rfl, q⟩
end
section
variable {J : It} {n : Nat} {G : Hp → Prop} {Y : Nat → Hp → V → Hp → Prop} {K : PySem.W.Frag}
theorem for_ (w : Walk J n G Y) {g : TG} {tb : TS} {D : Ends} {σ : L2.St} {H : Hp} (Pv : Nat → L2.St → Hp → Prop) (h0 : Pv 0 σ H) (hG : ∀ i σ H, i ≤ n → Pv i σ H → G H)
    (hs : ∀ i x σ H H', i < n → Pv i σ H → Y i H x H' → g x σ H' fun σ2 H2 => tb { D with nx := Pv (i + 1), ct := Pv (i + 1), bk := D.nx } σ2 H2) (hd : ∀ σ H, Pv n σ H → D.nx σ H) : kFor g tb D σ J H := for_it w Pv h0 hG hs hd
theorem comp (w : Walk J n G Y) {g : TG} {tt : TT} {te : TE} {vs : List Nat} {σ : L2.St} {H1 : Hp} {Q : VK} (Pv : Addr → Nat → List V → Hp → Prop)
    (h0 : ∀ D H', H1 D = none → Same H1 H' → H' D = some (.lst []) → Pv D 0 [] H') (hG : ∀ D i acc H, i ≤ n → H1 D = none → H D = some (.lst acc) → Pv D i acc H → G H)
    (hs : ∀ D i acc x H H', H1 D = none → i < n → acc.length ≤ i → H D = some (.lst acc) → Pv D i acc H → Y i H x H' → g x (wipe σ vs) H' fun σ2 H2 => wipe σ2 vs = wipe σ vs ∧ tt σ2 H2 fun b H3 =>
      if b = true then te σ2 H3 (kLc D (lcP D (Pv D) (i + 1))) else lcP D (Pv D) (i + 1) H3)
    (hd : ∀ D acc H, H1 D = none → H D = some (.lst acc) → acc.length ≤ n → Pv D n acc H → Q (.ref D) H) : kLcS g tt te vs σ Q J H1 :=
  fun D hD => lc_gen w hD (Pv D) (fun H' => h0 D H' hD) (fun i acc H hi => hG D i acc H hi hD) (fun i acc x H H' => hs D i acc x H H' hD) fun acc H => hd D acc H hD
theorem map_ {xs : List V} (w : Walk J xs.length G (YAt xs)) (hz : xs.length ≤ 99999) {g : TG} {tt : TT} {te : TE} {vs : List Nat} {σ : L2.St} {H1 : Hp} {Q : VK} (F : V → V)
    (hG : ∀ H', Same H1 H' → G H')
    (hs : ∀ x Hq, x ∈ xs → Same H1 Hq → ∀ (KK : VK) (KN : Hp → Prop), (∀ H5, Same Hq H5 → KK (F x) H5) → g x (wipe σ vs) Hq fun σ2 H2 => wipe σ2 vs = wipe σ vs ∧ tt σ2 H2 fun b H3 => if b = true then te σ2 H3 KK else KN H3)
    (hd : ∀ D H, H1 D = none → Same H1 H → H D = some (.lst (xs.map F)) → Q (.ref D) H) : kLcS g tt te vs σ Q J H1 :=
  fun D hD => lc_map w hz hD F hG hs fun H => hd D H hD
end
section
variable {P : Program} {w : World} {K : PySem.W.Frag} {mg : Str → Option Value} {base : Heap} {CX : CXT} {k : Nat} {f : Addr} {fd : FuncData} {ps : List Str} {sp sp' : Sp}
theorem fn_imp (F : FnOk P w K mg base CX k f fd ps sp) (h : ∀ vs H Q E, sp' vs H Q E → sp vs H Q E) : FnOk P w K mg base CX k f fd ps sp' :=
  ⟨fun vs H Q E x => F.len _ _ _ _ (h _ _ _ _ x), fun A out s H ar us vs Q E hr e b r x => F.run A out s H ar us vs Q E hr e b r (h _ _ _ _ x)⟩
theorem fn_no : FnOk P w K mg base CX 0 f fd ps (fun _ _ _ _ => False) := ⟨fun _ _ _ _ x => x.elim, fun _ _ _ _ _ _ _ _ _ _ _ _ _ x => x.elim⟩
end
end LS
namespace LP
open PySem L2 LT LG LX
def sp__law_draw_t : Sp := fun vs H Q _ => ∃ (b : Addr) (d : Nat) (n : Int), vs = [.ref b, .int n] ∧ Reel H b d ∧ 0 < n ∧ n.natAbs.log2 < 9000 ∧ d < 1000000 ∧
  ∀ (H' : Hp) (r : Int), 0 ≤ r → r < n → LS.RT H H' b (d + 1) → Q (.int r) H'
def sp__law_shuffled_t : Sp := fun vs H Q _ => ∃ (b : Addr) (d : Nat) (p : Addr) (xs : List Int), vs = [.ref b, .ref p] ∧ Reel H b d ∧ d < 900000 ∧ H p = some (.lst (xs.map V.int)) ∧ xs.length ≤ 400 ∧ p ≠ b ∧
  ∀ (H' : Hp) (q : Addr) (ys : List Int), LS.RT H H' b (d + xs.length) → H q = none → ys.Perm xs → H' q = some (.lst (ys.map V.int)) → Apart H' b q → Q (.ref q) H'
theorem draw_t {vs : List V} {H : Hp} {Q : VK} {E : XK} (h : sp__law_draw_t vs H Q E) : sp__law_draw_r vs H Q E := by
  obtain ⟨b, d, n, rfl, R, h1, h2, h3, k⟩ := h
  exact ⟨b, d, n, rfl, R, h1, h2, h3, fun H' r r0 r1 R' F A => k H' r r0 r1 ⟨R', F, A⟩⟩
end LP

/-! small data: what repr and == ask of it -/
namespace LG
open PySem L2
structure Sm (d : PyData) (k w : Nat) : Prop where
  sh : d.showable = true
  ls : d.leavesShort 40 = true
  cl : d.canLay0 = true
  dp : d.depth ≤ k
  wt : d.weight ≤ w
theorem Sm.mono {d : PyData} {k w k' w' : Nat} (h : Sm d k w) (hk : k ≤ k') (hw : w ≤ w') : Sm d k' w' := ⟨h.sh, h.ls, h.cl, Nat.le_trans h.dp hk, Nat.le_trans h.wt hw⟩
theorem Sm.int {i : Int} (hb : i.natAbs < 10 ^ 31) : Sm (.int i) 0 121 := by
  have hlog : i.natAbs.log2 < 1920 := by
    by_cases z : i.natAbs = 0
    · rw [z]; decide
    · exact Nat.lt_trans ((Nat.log2_lt z).mpr (show i.natAbs < 2 ^ 120 from Nat.lt_trans hb (by decide))) (by decide)
  have hlen : (PyData.shown (.int i)).length ≤ 40 := by
    have e := int_text_length_le10 (k := 31) (by decide) hb
    show (Str.ofString (toString i)).length ≤ 40
    rw [ofString_length]; omega
  refine ⟨?_, ?_, rfl, Nat.le_refl _, ?_⟩
  · simp only [PyData.showable, decide_eq_true_eq]; exact hlog
  · simp only [PyData.leavesShort, decide_eq_true_eq]; exact hlen
  · simp only [PyData.weight]
    split
    · omega
    · rename_i z
      have z2 : i.natAbs ≠ 0 := fun q => z (by simp [Int.natAbs_eq_zero.mp q])
      have := (Nat.log2_lt z2).mpr (show i.natAbs < 2 ^ 120 from Nat.lt_trans hb (by decide))
      omega
theorem Sm.non : Sm .none 0 0 := ⟨rfl, rfl, rfl, Nat.le_refl _, Nat.le_refl _⟩
theorem Sm.bl (b : Bool) : Sm (.bool b) 0 0 := ⟨rfl, rfl, rfl, Nat.le_refl _, Nat.le_refl _⟩
theorem Sm.all {k w : Nat} : ∀ {l : List PyData}, (∀ d ∈ l, Sm d k w) → PyData.showableAll l = true ∧ PyData.leavesShortAll 40 l = true ∧ PyData.canLayAll0 l = true ∧ PyData.depthAll l ≤ k ∧ PyData.weightAll l ≤ (w + 1) * l.length
  | [], _ => ⟨rfl, rfl, rfl, Nat.zero_le _, Nat.zero_le _⟩
  | d :: r, h => by
    obtain ⟨a, b, c, e, f⟩ := Sm.all (l := r) fun x hx => h x (List.mem_cons_of_mem _ hx)
    have g := h d List.mem_cons_self
    refine ⟨?_, ?_, ?_, ?_, ?_⟩
    · simp only [PyData.showableAll, Bool.and_eq_true]; exact ⟨g.sh, a⟩
    · simp only [PyData.leavesShortAll, Bool.and_eq_true]; exact ⟨g.ls, b⟩
    · simp only [PyData.canLayAll0, Bool.and_eq_true]; exact ⟨g.cl, c⟩
    · simp only [PyData.depthAll]
      have := g.dp
      omega
    · simp only [PyData.weightAll, List.length_cons]
      have := g.wt
      rw [Nat.mul_succ]
      omega
theorem Sm.list {k w : Nat} {l : List PyData} (h : ∀ d ∈ l, Sm d k w) : Sm (.list l) (k + 1) ((w + 1) * l.length) := by
  obtain ⟨a, b, c, e, f⟩ := Sm.all h
  exact ⟨by simp only [PyData.showable]; exact a, by simp only [PyData.leavesShort]; exact b, by simp only [PyData.canLay0]; exact c, by simp only [PyData.depth]; omega, by simp only [PyData.weight]; exact f⟩
theorem Sm.tup {k w : Nat} {l : List PyData} (h : ∀ d ∈ l, Sm d k w) : Sm (.tuple l) (k + 1) ((w + 1) * l.length) := by
  obtain ⟨a, b, c, e, f⟩ := Sm.all h
  exact ⟨by simp only [PyData.showable]; exact a, by simp only [PyData.leavesShort]; exact b, by simp only [PyData.canLay0]; exact c, by simp only [PyData.depth]; omega, by simp only [PyData.weight]; exact f⟩
theorem Sm.ok {d : PyData} {k w : Nat} (h : Sm d k w) (hk : k ≤ 64) (hw : w ≤ 200000) : d.showable = true ∧ SeqAt.shaped d = true ∧ d.shown.length ≤ sizeLine := by
  refine ⟨h.sh, ?_, ?_⟩
  · unfold SeqAt.shaped
    rw [Bool.and_eq_true, decide_eq_true_iff]
    exact ⟨h.cl, Nat.le_trans h.dp hk⟩
  · have := PyData.shown_le 40 (by decide) _ h.ls
    have e : (40 + 2) * d.weight ≤ 42 * 200000 := Nat.mul_le_mul_left _ (Nat.le_trans h.wt hw)
    exact Nat.le_trans this (Nat.le_trans (show _ ≤ 9000000 by omega) (by decide))
theorem dpAll_of {K : PySem.W.Frag} {H : Hp} : ∀ {vs : List V} {ds : List PyData}, vs.length = ds.length → (∀ (i : Nat) v d, vs[i]? = some v → ds[i]? = some d → Dp K H v d) → DpAll K H vs ds
  | [], [], _, _ => .nil
  | v :: vs, d :: ds, h, g => .cons (g 0 v d rfl rfl) (dpAll_of (by simpa using h) fun i x y h1 h2 => g (i + 1) x y h1 h2)
  | [], _ :: _, h, _ => by simp at h
  | _ :: _, [], h, _ => by simp at h
end LG

/-! data of lists and tuples: repr and == -/
namespace LS
open PySem L2 LT LG LP LX
section
variable {K : PySem.W.Frag} {H : Hp} {Q : VK}
def dI (ns : List Int) : PyData := .list (ns.map PyData.int)
def dS (ns : List Str) : PyData := .list (ns.map PyData.str)
theorem dpA_i : ∀ l : List Int, DpAll K H (l.map V.int) (l.map PyData.int)
  | [] => .nil
  | i :: r => .cons (.int i) (dpA_i r)
theorem dpA_s : ∀ l : List Str, DpAll K H (l.map V.str) (l.map PyData.str)
  | [] => .nil
  | i :: r => .cons (.str i) (dpA_s r)
theorem dp_i {p : Addr} {ns : List Int} (h : SqL K H p (ns.map V.int)) : Dp K H (.ref p) (dI ns) := .lst h (dpA_i _)
theorem dp_s {p : Addr} {ns : List Str} (h : SqL K H p (ns.map V.str)) : Dp K H (.ref p) (dS ns) := .lst h (dpA_s _)
theorem dp_it {p : Addr} {ns : List Int} (h : SqT K H p (ns.map V.int)) : Dp K H (.ref p) (.tuple (ns.map PyData.int)) := .tup h (dpA_i _)
theorem dp_E {p : Addr} {ns : List Int} (h : SqE K H p (ns.map V.int)) : ∃ d, (d = dI ns ∨ d = .tuple (ns.map PyData.int)) ∧ ∀ H', SqE K H' p (ns.map V.int) → True := ⟨_, .inl rfl, fun _ _ => trivial⟩
mutual
theorem dp_same {H' : Hp} (s : Same H H') : ∀ {v : V} {d : PyData}, Dp K H v d → Dp K H' v d
  | _, _, .non => .non
  | _, _, .bl b => .bl b
  | _, _, .int i => .int i
  | _, _, .str x => .str x
  | _, _, .lst h a => .lst (s.seq h) (dpA_same s a)
  | _, _, .tup h a => .tup (same_tup s h) (dpA_same s a)
theorem dpA_same {H' : Hp} (s : Same H H') : ∀ {vs : List V} {ds : List PyData}, DpAll K H vs ds → DpAll K H' vs ds
  | _, _, .nil => .nil
  | _, _, .cons h t => .cons (dp_same s h) (dpA_same s t)
end
theorem dpA_len : ∀ {vs : List V} {ds : List PyData}, DpAll K H vs ds → vs.length = ds.length
  | _, _, .nil => rfl
  | _, _, .cons _ t => by rw [List.length_cons, List.length_cons, dpA_len t]
theorem dpA_get : ∀ {vs : List V} {ds : List PyData} {i : Nat} {d : PyData}, DpAll K H vs ds → ds[i]? = some d → ∃ v, vs[i]? = some v ∧ Dp K H v d
  | _, _, _, _, .nil, e => by simp at e
  | _, _, 0, d, .cons h _, e => by simp at e; subst e; exact ⟨_, rfl, h⟩
  | _, _, i + 1, d, .cons _ t, e => by
    obtain ⟨v, h1, h2⟩ := dpA_get (i := i) (d := d) t (by simpa using e)
    exact ⟨v, by simpa using h1, h2⟩
theorem clA_i (l : List Int) : PyData.canLayAll0 (l.map PyData.int) = true := by
  induction l with
  | nil => rfl
  | cons i r ih => simp [PyData.canLayAll0, PyData.canLay0, ih]
theorem dpthA_i (l : List Int) : PyData.depthAll (l.map PyData.int) = 0 := by
  induction l with
  | nil => rfl
  | cons i r ih => simp [PyData.depthAll, PyData.depth, ih]
theorem clA_s (l : List Str) (h : ∀ x ∈ l, PyData.strOk x = true) : PyData.canLayAll0 (l.map PyData.str) = true := by
  induction l with
  | nil => rfl
  | cons i r ih => simp [PyData.canLayAll0, PyData.canLay0, ih fun x hx => h x (List.mem_cons_of_mem _ hx), h i (List.mem_cons_self ..)]
theorem dpthA_s (l : List Str) : PyData.depthAll (l.map PyData.str) = 0 := by
  induction l with
  | nil => rfl
  | cons i r ih => simp [PyData.depthAll, PyData.depth, ih]
theorem sh_i (l : List Int) : SeqAt.shaped (dI l) = true := by simp [SeqAt.shaped, dI, PyData.canLay0, PyData.depth, clA_i, dpthA_i]
theorem sh_s (l : List Str) (h : ∀ x ∈ l, PyData.strOk x = true) : SeqAt.shaped (dS l) = true := by simp [SeqAt.shaped, dS, PyData.canLay0, PyData.depth, clA_s l h, dpthA_s]
theorem eqvA_i : ∀ a b : List Int, PyData.eqvAll (a.map PyData.int) (b.map PyData.int) = decide (a = b)
  | [], [] => by simp [PyData.eqvAll]
  | [], _ :: _ => by simp [PyData.eqvAll]
  | _ :: _, [] => by simp [PyData.eqvAll]
  | x :: r, y :: t => by
    simp only [List.map_cons, PyData.eqvAll, eqvA_i r t]
    by_cases e : x = y
    · subst e; simp [PyData.eqv]
    · have : (x == y) = false := beq_eq_false_iff_ne.mpr e
      simp [PyData.eqv, e, this]
theorem eqvA_s : ∀ a b : List Str, PyData.eqvAll (a.map PyData.str) (b.map PyData.str) = decide (a = b)
  | [], [] => by simp [PyData.eqvAll]
  | [], _ :: _ => by simp [PyData.eqvAll]
  | _ :: _, [] => by simp [PyData.eqvAll]
  | x :: r, y :: t => by
    simp only [List.map_cons, PyData.eqvAll, eqvA_s r t]
    by_cases e : x = y
    · subst e; simp [PyData.eqv]
    · have : (x == y) = false := beq_eq_false_iff_ne.mpr e
      simp [PyData.eqv, e, this]
theorem eqv_i (a b : List Int) : PyData.eqv (dI a) (dI b) = decide (a = b) := by simp only [dI, PyData.eqv]; exact eqvA_i a b
theorem eqv_s (a b : List Str) : PyData.eqv (dS a) (dS b) = decide (a = b) := by simp only [dS, PyData.eqv]; exact eqvA_s a b
theorem reqd {x y : V} {d e : PyData} (h1 : Dp K H x d) (h2 : Dp K H y e) (s1 : SeqAt.shaped d = true) (s2 : SeqAt.shaped e = true) (q : Q (.bl (PyData.eqv d e)) H) : rEqD K x y H Q := ⟨d, e, h1, h2, s1, s2, q⟩
theorem rned {x y : V} {d e : PyData} (h1 : Dp K H x d) (h2 : Dp K H y e) (s1 : SeqAt.shaped d = true) (s2 : SeqAt.shaped e = true) (q : Q (.bl (!PyData.eqv d e)) H) : rNeD K x y H Q := ⟨d, e, h1, h2, s1, s2, q⟩
theorem req_il {a b : Addr} {x y : List Int} (h1 : SqL K H a (x.map V.int)) (h2 : SqL K H b (y.map V.int)) (q : Q (.bl (decide (x = y))) H) : rEqD K (.ref a) (.ref b) H Q := reqd (dp_i h1) (dp_i h2) (sh_i _) (sh_i _) (by rw [eqv_i]; exact q)
theorem rne_il {a b : Addr} {x y : List Int} (h1 : SqL K H a (x.map V.int)) (h2 : SqL K H b (y.map V.int)) (q : Q (.bl (!decide (x = y))) H) : rNeD K (.ref a) (.ref b) H Q := rned (dp_i h1) (dp_i h2) (sh_i _) (sh_i _) (by rw [eqv_i]; exact q)
theorem req_sl {a b : Addr} {x y : List Str} (o1 : ∀ z ∈ x, PyData.strOk z = true) (o2 : ∀ z ∈ y, PyData.strOk z = true) (h1 : SqL K H a (x.map V.str)) (h2 : SqL K H b (y.map V.str)) (q : Q (.bl (decide (x = y))) H) : rEqD K (.ref a) (.ref b) H Q := reqd (dp_s h1) (dp_s h2) (sh_s _ o1) (sh_s _ o2) (by rw [eqv_s]; exact q)
theorem rne_sl {a b : Addr} {x y : List Str} (o1 : ∀ z ∈ x, PyData.strOk z = true) (o2 : ∀ z ∈ y, PyData.strOk z = true) (h1 : SqL K H a (x.map V.str)) (h2 : SqL K H b (y.map V.str)) (q : Q (.bl (!decide (x = y))) H) : rNeD K (.ref a) (.ref b) H Q := rned (dp_s h1) (dp_s h2) (sh_s _ o1) (sh_s _ o2) (by rw [eqv_s]; exact q)
theorem rrepr {a : Addr} {d : PyData} {k w : Nat} (h : Dp K H (.ref a) d) (s : Sm d k w) (hk : k ≤ 64) (hw : w ≤ 200000) (q : Q (.str d.shown) H) : rReprN K [.ref a] H Q := by
  obtain ⟨a1, a2, a3⟩ := s.ok hk hw
  exact .inr (.inr (.inr ⟨a, d, rfl, h, a1, a2, a3, q⟩))
theorem rrepr_i {i : Int} (h : i.natAbs.log2 < 1920) (q : Q (.str (toString i)) H) : rReprN K [.int i] H Q := .inr (.inr (.inl ⟨i, rfl, h, q⟩))
theorem rrepr_n (q : Q (.str "None") H) : rReprN K [.non] H Q := .inl ⟨rfl, q⟩
theorem rrepr_b {b : Bool} (q : Q (.str (if b then "True" else "False")) H) : rReprN K [.bl b] H Q := .inr (.inl ⟨b, rfl, q⟩)
theorem sm_small {i : Int} (h : i.natAbs < 1024) : Sm (.int i) 0 10 := by
  have g := Sm.int (i := i) (Nat.lt_trans h (by decide))
  refine ⟨g.sh, g.ls, g.cl, g.dp, ?_⟩
  simp only [PyData.weight]
  split
  · omega
  · rename_i z
    have z2 : i.natAbs ≠ 0 := fun q => z (by simp [Int.natAbs_eq_zero.mp q])
    have := (Nat.log2_lt z2).mpr (show i.natAbs < 2 ^ 10 from h)
    omega
theorem sm_smalls {ns : List Int} (h : ∀ x ∈ ns, x.natAbs < 1024) : Sm (dI ns) 1 (11 * ns.length) := by
  have := Sm.list (k := 0) (w := 10) (l := ns.map PyData.int) (fun d hd => by obtain ⟨i, hi, rfl⟩ := List.mem_map.mp hd; exact sm_small (h i hi))
  rw [List.length_map] at this
  exact this
theorem sm_smallsT {ns : List Int} (h : ∀ x ∈ ns, x.natAbs < 1024) : Sm (.tuple (ns.map PyData.int)) 1 (11 * ns.length) := by
  have := Sm.tup (k := 0) (w := 10) (l := ns.map PyData.int) (fun d hd => by obtain ⟨i, hi, rfl⟩ := List.mem_map.mp hd; exact sm_small (h i hi))
  rw [List.length_map] at this
  exact this
theorem sm_ints {ns : List Int} (h : ∀ x ∈ ns, x.natAbs < 10 ^ 31) : Sm (dI ns) 1 (122 * ns.length) := by
  have := Sm.list (k := 0) (w := 121) (l := ns.map PyData.int) (fun d hd => by obtain ⟨i, hi, rfl⟩ := List.mem_map.mp hd; exact Sm.int (h i hi))
  rw [List.length_map] at this
  exact this
theorem sm_intsT {ns : List Int} (h : ∀ x ∈ ns, x.natAbs < 10 ^ 31) : Sm (.tuple (ns.map PyData.int)) 1 (122 * ns.length) := by
  have := Sm.tup (k := 0) (w := 121) (l := ns.map PyData.int) (fun d hd => by obtain ⟨i, hi, rfl⟩ := List.mem_map.mp hd; exact Sm.int (h i hi))
  rw [List.length_map] at this
  exact this
end
end LS

/-! == and != of an instance with its own ==, beside any value -/
namespace LX
open PySem PySem.Spec PySem.W PyProof.Rows L2
section
variable {prog : Program} {w : World} {A A₀ : Around} {E : Value → Shared → Prop} {s : Shared} {K : Frag} {x C L f : Addr} {h₀ : Heap} {m : Str → Option Value} {ox : Obj} {od : Option Obj} {b tb : Value}
theorem ne_entry {Q : Fin → Shared → Prop} (X : K.In s.heap) (I : InstAt s.heap x ox C od) (hs : findIn K (.ref C) "__eq__" = some (some (.ref f))) (hf : isFn K (.ref f) = true) (hu : A.units < cLine)
    (h : wpAny (model prog w) A (call (.ref f) [.ref x, b]) (fun v s' => ∃ r, v = .bool r ∧ Q (.done (.ret (.bool (!r)))) s') E s) : wpAny (model prog w) A (Builtin.«object.__ne__» ⟨[.ref x, b], []⟩) Q E s := by
  unfold Builtin.«object.__ne__»
  repeat (first
    | with_reducible refine wpAny_cRoomFor hu ?_
    | (refine wpAny_bind (m := callSpecialIfBound? (.ref x) (Str.ofString "__eq__") [b])
        (ifBound_K X I hs hf (wpAny_mono h (fun r s' hr => by
          obtain ⟨b, rfl, hq⟩ := hr
          repeat (first | exact hq | exact wpAny_pure hq | exact wpAny_truthy_bool hq | (refine wpAny_bind (m := truthy (.bool _)) (wpAny_truthy_bool ?_)) | wp_step)) fun _ _ e => e)))
    | wp_step)
theorem call_ne {Q : Value → Shared → Prop} (X : K.In s.heap) (I : InstAt s.heap x ox C od) (ho : mroIn K C (.type "object") = some true) (hs : findIn K (.ref C) "__eq__" = some (some (.ref f))) (hf : isFn K (.ref f) = true) (hu : A.units + 1 < cLine)
    (h : wpAny (model prog w) A.in1 (call (.ref f) [.ref x, b]) (fun v s' => ∃ r, v = .bool r ∧ Q (.bool (!r)) s') E s) : wpAny (model prog w) A (call (.builtin "object.__ne__") [.ref x, b]) Q E s := by
  refine wpAny_call (codeAny_call_builtin F.cmp_object.ne.plain F.cmpEntry_ne (check_slot F.cmpKind_ne F.cmpSplit_ne (I.type.andThen (looks_mroIn X ho)) (F.cmpArgs_ne _ _) (ne_entry (A := A.in1) X I hs hf hu (wpAny_mono h (fun v s' hv => ?_) fun _ _ e => e))))
  obtain ⟨b, rfl, hq⟩ := hv
  exact ⟨b, rfl, hq⟩
theorem cmp_ne {Q : Value → Shared → Prop} (hu : A.units + 1 < cLine) (FR : Fr h₀ L s.heap m) (X₀ : K.In h₀) (I : InstAt s.heap x ox C od) (hb : Looks (model prog w) s.heap (typeOf b) tb) (hn : notFirst K C tb = true)
    (ho : mroIn K C (.type "object") = some true) (hs : findIn K (.ref C) "__eq__" = some (some (.ref f))) (hf : isFn K (.ref f) = true) (hne : findIn K (.ref C) "__ne__" = some (some (.builtin "object.__ne__")))
    (h : wpAny (model prog w) A.in1 (call (.ref f) [.ref x, b]) (fun v s' => ∃ r, v = .bool r ∧ Q (.bool (!r)) s') E s) : wpAny (model prog w) A (richCompare .NotEq (.ref x) b) Q E s := by
  have X := X₀.keeps FR.keep
  have one : wpAny (model prog w) A (tryCompare (.ref x) "__ne__" b) (fun r s' => ∃ v, r = some v ∧ Q v s') E s := by
    unfold tryCompare
    have sp : wpAny (model prog w) A (callSpecialIfBound? (.ref x) "__ne__" [b]) (fun r s' => ∃ v, r = some (.bool v) ∧ Q (.bool v) s') E s := by
      simp only [callSpecialIfBound?, bindSpecialIfBound?]
      refine wpAny_holding (wpAny_bind (wpAny_bind (wpAny_bind (I.type.here ((looks_findIn X hne).here ?_)))))
      refine wpAny_bind (wpAny_askSetting (wpAny_ite ?_))
      have fin : wpAny (model prog w) A (call (.builtin "object.__ne__") ([.ref x] ++ [b]) >>= fun v => pure (some v)) (fun r s' => ∃ v, r = some (.bool v) ∧ Q (.bool v) s') E s :=
        wpAny_bind (call_ne X I ho hs hf hu (wpAny_mono h (fun v s' ⟨r, e, q⟩ => ⟨r, e, wpAny_pure ⟨_, rfl, q⟩⟩) fun _ _ e => e))
      rw [F.cmp_object.ne.bind]
      split
      · exact wpAny_bind (wpAny_pure (wpAny_pure (by exact fin)))
      · exact wpAny_tryCatch (wpAny_bind (wpAny_pure (wpAny_pure (by exact fin))))
    refine wpAny_bind (wpAny_mono sp (fun r s' z => ?_) fun _ _ e => e)
    obtain ⟨v, rfl, hq⟩ := z
    exact wpAny_pure ⟨_, rfl, hq⟩
  unfold richCompare
  simp only [oneThing_ref]
  refine wpAny_holding (wpAny_bind (wpAny_cRoomFor (Nat.lt_of_succ_lt hu) ?_))
  rw [cmpInfo_NotEq]
  dsimp only
  refine wpAny_bind (I.type.here (wpAny_bind (hb.here ?_)))
  split
  · rename_i q
    have e : subIn K tb (.ref C) = some false := by
      rcases Bool.or_eq_true_iff.mp hn with e | e
      · rw [beq_iff_eq.mp e] at q; simp at q
      · exact beq_iff_eq.mp e
    refine wpAny_bind ((looks_subIn X e).here ?_)
    simp only [Bool.false_eq_true, if_false]
    refine wpAny_bind (wpAny_mono one (fun r s' z => ?_) fun _ _ e => e)
    obtain ⟨v, rfl, hq⟩ := z
    exact wpAny_pure hq
  · refine wpAny_bind (wpAny_pure ?_)
    simp only [Bool.false_eq_true, if_false]
    refine wpAny_bind (wpAny_mono one (fun r s' z => ?_) fun _ _ e => e)
    obtain ⟨v, rfl, hq⟩ := z
    exact wpAny_pure hq
end
section
variable {X : Cx} {CX : CXT} {k : Nat} {C g : Addr} {fd : FuncData} {ps : List Str} {sp : Sp} {E : XK}
/-- x == y, x an instance of the class at C with its own ==; y any value that is no instance of a class below C -/
def rEqO (K : Frag) (C : Addr) (sp : Sp) (E : XK) : R2 := fun x y H Q => ∃ a dx fs t, x = .ref a ∧ H a = some (.ins C dx fs) ∧ TyX K H y t ∧ notFirst K C t = true ∧ sp [x, y] H Q E
def rNeO (K : Frag) (C : Addr) (sp : Sp) (E : XK) : R2 := fun x y H Q => ∃ a dx fs t, x = .ref a ∧ H a = some (.ins C dx fs) ∧ TyX K H y t ∧ notFirst K C t = true ∧ sp [x, y] H (fun z H' => ∃ b, z = .bl b ∧ Q (.bl (!b)) H') E
theorem op_eqO (M : Meth X.K C "__eq__" g) (F : FnOk X.prog X.w X.K X.mg X.base CX k g fd ps sp) (hr : Room k X.A) (hb : Binds X.K fd ps []) (hx : Passes CX X E) : OpR X (compareOp .Eq) (rEqO X.K C sp E) := by
  intro pins s σ H x y v u Q I rx ry h
  obtain ⟨a, dx, fs, t, rfl, ha, ty, hn, q⟩ := h
  cases (show v = Value.ref a from rx)
  obtain ⟨mA, J, _⟩ := ins_get I.hok ha
  obtain ⟨od, J, _⟩ := J.look
  obtain ⟨P, Z, p, _⟩ := kit_of I ry ty
  obtain ⟨m, hF⟩ := I.fr
  have G := F.raw hb (.nil)
  show wpAny (model X.prog X.w) X.A (richCompare .Eq (.ref a) u) (EP X pins σ Q) X.xe s
  refine PySem.W.cmp_K (op := .Eq) (tb := t) hr.units0 hF I.ok.mod.kin J (Z.ty _ _ I.kIn p) hn M.at_ M.fn ?_
  have run := wpAny_call (run_fnR (Q := Q) (us := [.ref a, u]) (vs := [.ref a, y]) G hr hx I (.cons rfl (.cons ry .nil)) q)
  refine wpAny_mono run (fun w s' z => ?_) fun _ _ x => x
  obtain ⟨z', H', I', rz, qz⟩ := z
  exact SlX.cmpback rz ⟨z', H', I', rz, qz⟩
theorem op_neO (M : Meth X.K C "__eq__" g) (ho : mroIn X.K C (.type "object") = some true) (hne : findIn X.K (.ref C) "__ne__" = some (some (.builtin "object.__ne__"))) (F : FnOk X.prog X.w X.K X.mg X.base CX k g fd ps sp) (hr : Room (k + 1) X.A) (hb : Binds X.K fd ps []) (hx : Passes CX X E) : OpR X (compareOp .NotEq) (rNeO X.K C sp E) := by
  intro pins s σ H x y v u Q I rx ry h
  obtain ⟨a, dx, fs, t, rfl, ha, ty, hn, q⟩ := h
  cases (show v = Value.ref a from rx)
  obtain ⟨mA, J, _⟩ := ins_get I.hok ha
  obtain ⟨od, J, _⟩ := J.look
  obtain ⟨P, Z, p, _⟩ := kit_of I ry ty
  obtain ⟨m, hF⟩ := I.fr
  have G := F.raw hb (.nil)
  show wpAny (model X.prog X.w) X.A (richCompare .NotEq (.ref a) u) (EP X pins σ Q) X.xe s
  refine cmp_ne (tb := t) (by have := hr.in1.units0; exact this) hF I.ok.mod.kin J (Z.ty _ _ I.kIn p) hn ho M.at_ M.fn hne ?_
  have run := wpAny_call (SlX.run_at (Q := fun z H' => ∃ b, z = .bl b ∧ Q (.bl (!b)) H') (us := [.ref a, u]) (ws := [.ref a, y]) G hr.in1 I.env0.in1 hx I (.cons rfl (.cons ry .nil)) q)
  refine wpAny_mono run (fun w s' z => ?_) fun _ _ x => x
  obtain ⟨z', H', I', rz, b, eb, qz⟩ := z
  subst eb
  cases (show w = Value.bool b from rz)
  exact ⟨b, rfl, .bl (!b), H', I', rfl, qz⟩
/-- the i-th slot holds the class at C -/
def tMakeL (i : Nat) (C : Addr) (sp : Sp) (dvs : List V) (E : XK) (t : TA) : TE := fun σ H Q => σ[i]? = some (some (.ref C)) ∧ tMake C sp dvs E t σ H Q
theorem pe_makeL {i : Nat} {x : Str} {p pos : Pos} {e : Expr} {es : List Expr} {t : TA} {ds : List Value} {dvs : List V} (M : Mk X.K C g) (F : FnOk X.prog X.w X.K X.mg X.base CX k g fd ps sp) (hr : Room (k + 1) X.A) (hN : X.N[i]? = some x) (hv : Vis X.env.scope x) (hb : Binds X.K fd ps ds) (hd : Vals dvs ds) (hx : Passes CX X E)
    (ha : PA X (e :: es) t) (hdb : (x == ("__debug__" : Str)) = false := by decide) (hcd : (x == ("__classdict__" : Str)) = false := by decide) (he : starEach (e :: es) X.env = (false, eval e X.env) :: starEach es X.env := by rfl) (hpl : (backTo pos (starEach es X.env)).any (·.1) = false := by rfl) :
    PE X (.Call (.Name x p) (e :: es) [] pos) (tMakeL i C sp dvs E t) := by
  refine ⟨fun pins s σ H Q I h => ?_⟩
  obtain ⟨hs, ht⟩ := h
  refine wpAny_Call_Name_kw (thn ((pe_var (pos := p) hN hv hdb hcd).run pins s σ H (fun v H1 => v = .ref C ∧ H1 = H) I ⟨.ref C, hs, rfl, rfl⟩) fun u s1 ⟨v, H1, I1, r1, q1⟩ => ?_)
  obtain ⟨rfl, rfl⟩ := q1
  cases r1
  refine PySem.W.callWith_K (h₀ := X.base) I.ok.mod.kin M.kp (thn (ha.run pos pins s1 σ _ _ I1 ht) fun us s2 ⟨vs, H2, I2, r, q⟩ => ⟨I2.kIn, ?_⟩) he hpl
  exact run_make M F hr hb hd hx I2 r q
theorem pe_cmethF {o e : Expr} {es : List Expr} {m : Str} {pos apos : Pos} {ta : TE} {t : TA} {pl : Sem Bool} {mc : Value} {p : Addr} {ds : List Value} {dvs : List V} (he : PE X o ta) (r : ClX.CRead X.K C mc) (c : ClX.CMet X.K C mc m p g) (F : FnOk X.prog X.w X.K X.mg X.base CX k g fd ps sp) (hr : Room k X.A) (hb : Binds X.K fd ps ds) (hd : Vals dvs ds) (hx : Passes CX X E) (ha : PA X (e :: es) t)
    (hst : starEach (e :: es) X.env = (false, eval e X.env) :: starEach es X.env := by rfl) (hpl : (backTo pos (starEach es X.env)).any (·.1) = false := by rfl)
    (ht : eval (.Call (.Attribute o m apos) (e :: es) [] pos) X.env = (do
      let ov ← eval o X.env
      standAt apos.atName
      let (f, first) ← holding [ov] (getMethod ov m pl)
      callWith pos f first (backTo pos (starEach (e :: es) X.env)) (backToKw pos (keywordEach [] X.env))) := by rfl) :
    PE X (.Call (.Attribute o m apos) (e :: es) [] pos) (ClX.tCMeth C (fun vs H Q E => sp (vs ++ dvs) H Q E) E ta t) := ClX.pe_cmeth he r c (F.raw hb hd) hr hx ha hst hpl ht
end
end LX

/-! more steps -/
namespace LX
open PySem L2
theorem pgor {X : Cx} {e : Expr} {t u : V → L2.St → Hp → (L2.St → Hp → Prop) → Prop} (h1 : PG X e t) (h2 : PG X e u) : PG X e (fun v σ H Q => t v σ H Q ∨ u v σ H Q) :=
  ⟨fun a1 a2 a3 a4 a5 a6 a7 a8 a9 w => w.elim (h1.run a1 a2 a3 a4 a5 a6 a7 a8 a9) (h2.run a1 a2 a3 a4 a5 a6 a7 a8 a9)⟩
end LX
namespace LS
open PySem L2 LT LG LP LX
section
variable {σ : L2.St} {H : Hp} {Q : VK}
def kG2 (QR : Int → Int → Hp → Prop) (x : V) : VK := fun y H2 => ∃ i j, x = .int i ∧ y = .int j ∧ QR i j H2
theorem trg2 {ta tb : TE} {QR : Int → Int → Hp → Prop} (h : ta σ H fun x H1 => tb σ H1 (kG2 QR x)) : tRg2 ta tb σ H QR := h
theorem k_g2 {i j : Int} {QR : Int → Int → Hp → Prop} (q : QR i j H) : kG2 QR (.int i) (.int j) H := ⟨i, j, rfl, rfl, q⟩
theorem k_lr2 {a b : Int} (ok : RgOk a b) (k : ∀ (p : Addr) (H' : Hp), H p = none → Same H H' → H' p = some (.lst (rgV a b)) → Q (.ref p) H') : kLR Q a b H :=
  ⟨ok, fun p np => k p _ np (same_upd np) upd_same⟩
theorem expn_join {c : Prop} [Decidable c] {ta tb : TE} (A : V → Hp → Prop) (h1 : ¬ c → ∀ Q' : VK, (∀ v H', A v H' → Q' v H') → ta σ H Q') (h2 : c → ∀ Q' : VK, (∀ v H', A v H' → Q' v H') → tb σ H Q')
    (k : ∀ v H', A v H' → Q v H') : if (!decide c) = true then ta σ H Q else tb σ H Q := by
  by_cases hc : c
  · rw [decide_eq_true hc]
    exact LS.ifnt (h2 hc Q k)
  · rw [decide_eq_false hc]
    exact LS.ifnf (h1 hc Q k)
theorem ifs_cut {c : TT} {t u : TS} {D : Ends} (A : Bool → Hp → Prop) (h1 : ∀ Qb : Bool → Hp → Prop, (∀ b H', A b H' → Qb b H') → c σ H Qb) (ht : ∀ H', A true H' → t D σ H') (hf : ∀ H', A false H' → u D σ H') : tIfS c t u D σ H :=
  h1 _ fun b H' h => by
    cases b with
    | true => exact LS.ift (ht H' h)
    | false => exact LS.iff_ (hf H' h)
theorem rlist_t {K : PySem.W.Frag} {a : Addr} {xs : List V} (h : SqT K H a xs) (k : ∀ (p : Addr) (H' : Hp), H p = none → Same H H' → H' p = some (.lst xs) → Q (.ref p) H') : rListOf K [.ref a] H Q := ⟨a, xs, rfl, .inr h, fun l nl => k l _ nl (same_upd nl) upd_same⟩
/-- a pair from a list or a tuple -/
theorem gorE {K : PySem.W.Frag} {n : Nat} {t : TGs} {a : Addr} {xs : List V} {QG : L2.St → Hp → Prop} (h : SqE K H a xs) (hn : xs.length = n) (q : t xs σ H QG) : gTup K n t (.ref a) σ H QG ∨ gUnl K n t (.ref a) σ H QG :=
  h.elim (fun h => .inr (gunl h hn q)) fun h => .inl (gtup h hn q)
end
end LS
namespace LP
open PySem L2 LT LG LX
theorem or_enumE0 {K : PySem.W.Frag} {H0 H : Hp} {a : Addr} {xs : List V} {σ : St} {R : It → Hp → Prop} {ta : TA} (hE : SqE K H0 a xs) (s0 : Same H0 H) (hv : ∀ Q : List V → Hp → Prop, Q [.ref a] H → ta σ H Q)
    (k : ∀ (J : It) (G : Hp → Prop), Walk J xs.length G (YPair (fun i => some (.int (i : Nat))) (fun i => xs[i]?)) → (∀ H', Same H0 H' → G H') → R J H) :
    iEnum K ta σ H R ∨ iEnumT K ta σ H R := by
  rcases hE with h | h
  · exact .inl (hv _ ⟨a, xs, rfl, s0.seq h, k _ _ walk_enum fun H' s => s.seq h⟩)
  · exact .inr (hv _ ⟨a, xs, rfl, same_tup s0 h, k _ _ walk_enumT fun H' s => same_tup s h⟩)
end LP

namespace LT
end LT
namespace LG
end LG
namespace LQ
end LQ
namespace LH
end LH
namespace LC
end LC
namespace LX
end LX
namespace LR
end LR
namespace LP
open PySem L2 LT LG LQ LH LC LX
def topS (i : Nat) : Stmt := PySem.Challenge.pw_leftreturn_k42_sorting_schedules_counted.main.body.getD i (.Pass ⟨0, 0, 0, 0⟩)
abbrev s_is_whole : Stmt := topS 7
abbrev s_is_listed : Stmt := topS 8
abbrev s_is_place : Stmt := topS 9
abbrev s_is_place_list : Stmt := topS 10
abbrev s_is_full_list : Stmt := topS 11
abbrev s_check_order : Stmt := topS 12
abbrev s_cycles_of : Stmt := topS 14
abbrev s_next_takes : Stmt := topS 15
abbrev s_ways_to_finish : Stmt := topS 16
abbrev s_Cycle_init : Stmt := inClass (topS 17) 0
abbrev s_read_cycles : Stmt := topS 18
abbrev s_count_ways_of : Stmt := topS 19
abbrev s_count_sorting : Stmt := topS 20
abbrev s__law_spring : Stmt := topS 22
abbrev s__law_draw : Stmt := topS 23
abbrev s__law_same : Stmt := topS 24
abbrev s__law_dressed : Stmt := topS 25
abbrev s__law_mixed : Stmt := topS 26
abbrev s__law_order : Stmt := topS 27
abbrev s__law_cycles : Stmt := topS 28
abbrev s__law_ways : Stmt := topS 29
abbrev s__law_count : Stmt := topS 30
abbrev s_law : Stmt := topS 31
theorem sc_is_whole : FnScope ["value"] ["value"] (defScope s_is_whole) := ⟨rfl, rfl, rfl, by decide +kernel, rfl, by decide +kernel, by decide +kernel⟩
theorem sc_is_listed : FnScope ["value"] ["value"] (defScope s_is_listed) := ⟨rfl, rfl, rfl, by decide +kernel, rfl, by decide +kernel, by decide +kernel⟩
theorem sc_is_place : FnScope ["value"] ["value"] (defScope s_is_place) := ⟨rfl, rfl, rfl, by decide +kernel, rfl, by decide +kernel, by decide +kernel⟩
theorem sc_is_place_list : FnScope ["value", "item"] ["value"] (defScope s_is_place_list) := ⟨rfl, rfl, rfl, by decide +kernel, rfl, by decide +kernel, by decide +kernel⟩
theorem sc_is_full_list : FnScope ["value"] ["value"] (defScope s_is_full_list) := ⟨rfl, rfl, rfl, by decide +kernel, rfl, by decide +kernel, by decide +kernel⟩
theorem sc_check_order : FnScope ["value"] ["value"] (defScope s_check_order) := ⟨rfl, rfl, rfl, by decide +kernel, rfl, by decide +kernel, by decide +kernel⟩
theorem sc_cycles_of : FnScope ["order", "seen", "cycles", "first", "cycle", "place"] ["order"] (defScope s_cycles_of) := ⟨rfl, rfl, rfl, by decide +kernel, rfl, by decide +kernel, by decide +kernel⟩
theorem sc_next_takes : FnScope ["places", "gap", "left", "after", "home", "takes"] ["places", "gap", "left"] (defScope s_next_takes) := ⟨rfl, rfl, rfl, by decide +kernel, rfl, by decide +kernel, by decide +kernel⟩
theorem sc_ways_to_finish : FnScope ["places", "rows", "left", "later", "gap", "_", "then"] ["places"] (defScope s_ways_to_finish) := ⟨rfl, rfl, rfl, by decide +kernel, rfl, by decide +kernel, by decide +kernel⟩
theorem sc_Cycle_init : FnScope ["self", "places"] ["self", "places"] (defScope s_Cycle_init) := ⟨rfl, rfl, rfl, by decide +kernel, rfl, by decide +kernel, by decide +kernel⟩
theorem sc_read_cycles : FnScope ["order", "places"] ["order"] (defScope s_read_cycles) := ⟨rfl, rfl, rfl, by decide +kernel, rfl, by decide +kernel, by decide +kernel⟩
theorem sc_count_ways_of : FnScope ["cycles", "count", "cycle"] ["cycles"] (defScope s_count_ways_of) := ⟨rfl, rfl, rfl, by decide +kernel, rfl, by decide +kernel, by decide +kernel⟩
theorem sc_count_sorting : FnScope ["order"] ["order"] (defScope s_count_sorting) := ⟨rfl, rfl, rfl, by decide +kernel, rfl, by decide +kernel, by decide +kernel⟩
theorem sc__law_spring : FnScope ["script", "digits", "seed", "cell"] ["script"] (defScope s__law_spring) := ⟨rfl, rfl, rfl, by decide +kernel, rfl, by decide +kernel, by decide +kernel⟩
theorem sc__law_draw : FnScope ["spring", "many", "found", "mix"] ["spring", "many"] (defScope s__law_draw) := ⟨rfl, rfl, rfl, by decide +kernel, rfl, by decide +kernel, by decide +kernel⟩
theorem sc__law_same : FnScope ["found", "due", "k"] ["found", "due"] (defScope s__law_same) := ⟨rfl, rfl, rfl, by decide +kernel, rfl, by decide +kernel, by decide +kernel⟩
theorem sc__law_dressed : FnScope ["spring", "value", "parts", "part"] ["spring", "value"] (defScope s__law_dressed) := ⟨rfl, rfl, rfl, by decide +kernel, rfl, by decide +kernel, by decide +kernel⟩
theorem sc__law_mixed : FnScope ["spring", "row", "left", "k"] ["spring", "row"] (defScope s__law_mixed) := ⟨rfl, rfl, rfl, by decide +kernel, rfl, by decide +kernel, by decide +kernel⟩
theorem sc__law_order : FnScope ["spring", "size", "way", "books", "row", "place", "book", "turn", "one", "other"] ["spring", "size"] (defScope s__law_order) := ⟨rfl, rfl, rfl, by decide +kernel, rfl, by decide +kernel, by decide +kernel⟩
theorem sc__law_cycles : FnScope ["order", "found", "known", "place", "cycle", "here"] ["order"] (defScope s__law_cycles) := ⟨rfl, rfl, rfl, by decide +kernel, rfl, by decide +kernel, by decide +kernel⟩
theorem sc__law_ways : FnScope ["cycle", "length", "ways", "size", "later", "first", "gap", "behind"] ["cycle"] (defScope s__law_ways) := ⟨rfl, rfl, rfl, by decide +kernel, rfl, by decide +kernel, by decide +kernel⟩
theorem sc__law_count : FnScope ["order", "found", "number", "cycle"] ["order"] (defScope s__law_count) := ⟨rfl, rfl, rfl, by decide +kernel, rfl, by decide +kernel, by decide +kernel⟩
theorem sc_law : FnScope ["script", "spring", "turn", "order", "handed", "before", "one", "other"] ["script"] (defScope s_law) := ⟨rfl, rfl, rfl, by decide +kernel, rfl, by decide +kernel, by decide +kernel⟩
structure Env (K : PySem.W.Frag) (mg : Str → Option Value) where
  n_len : mg "len" = none
  n_range : mg "range" = none
  n_list : mg "list" = none
  n_tuple : mg "tuple" = none
  n_int : mg "int" = none
  n_bool : mg "bool" = none
  n_str : mg "str" = none
  n_isinstance : mg "isinstance" = none
  n_min : mg "min" = none
  n_max : mg "max" = none
  n_set : mg "set" = none
  n_all : mg "all" = none
  n_repr : mg "repr" = none
  n_zip : mg "zip" = none
  n_abs : mg "abs" = none
  n_enumerate : mg "enumerate" = none
  n_sum : mg "sum" = none
  t_MOST_PLACES : Tok
  g_MOST_PLACES : mg "MOST_PLACES" = some (.int 200 t_MOST_PLACES)
  t_GREATEST_PLACE : Tok
  g_GREATEST_PLACE : mg "GREATEST_PLACE" = some (.int 1000000000000000000000000000000 t_GREATEST_PLACE)
  g_factorial : mg "factorial" = some (.builtin "math.factorial")
  C_Cycle : Addr
  g_Cycle : mg "Cycle" = some (.ref C_Cycle)
  cl_Cycle : Cls K C_Cycle
  nA_Cycle_places : NoAttr K C_Cycle "places"
  nA_Cycle_rows : NoAttr K C_Cycle "rows"
  nA_Cycle_total : NoAttr K C_Cycle "total"
  a_is_whole : Addr
  d_is_whole : FuncData
  f_is_whole : Fun K "is_whole" "is_whole" s_is_whole a_is_whole d_is_whole
  b_is_whole : Binds K d_is_whole ["value"] []
  g_is_whole : mg "is_whole" = some (.ref a_is_whole)
  a_is_listed : Addr
  d_is_listed : FuncData
  f_is_listed : Fun K "is_listed" "is_listed" s_is_listed a_is_listed d_is_listed
  b_is_listed : Binds K d_is_listed ["value"] []
  g_is_listed : mg "is_listed" = some (.ref a_is_listed)
  a_is_place : Addr
  d_is_place : FuncData
  f_is_place : Fun K "is_place" "is_place" s_is_place a_is_place d_is_place
  b_is_place : Binds K d_is_place ["value"] []
  g_is_place : mg "is_place" = some (.ref a_is_place)
  a_is_place_list : Addr
  d_is_place_list : FuncData
  f_is_place_list : Fun K "is_place_list" "is_place_list" s_is_place_list a_is_place_list d_is_place_list
  b_is_place_list : Binds K d_is_place_list ["value"] []
  g_is_place_list : mg "is_place_list" = some (.ref a_is_place_list)
  a_is_full_list : Addr
  d_is_full_list : FuncData
  f_is_full_list : Fun K "is_full_list" "is_full_list" s_is_full_list a_is_full_list d_is_full_list
  b_is_full_list : Binds K d_is_full_list ["value"] []
  g_is_full_list : mg "is_full_list" = some (.ref a_is_full_list)
  a_check_order : Addr
  d_check_order : FuncData
  f_check_order : Fun K "check_order" "check_order" s_check_order a_check_order d_check_order
  b_check_order : Binds K d_check_order ["value"] []
  g_check_order : mg "check_order" = some (.ref a_check_order)
  a_cycles_of : Addr
  d_cycles_of : FuncData
  f_cycles_of : Fun K "cycles_of" "cycles_of" s_cycles_of a_cycles_of d_cycles_of
  b_cycles_of : Binds K d_cycles_of ["order"] []
  g_cycles_of : mg "cycles_of" = some (.ref a_cycles_of)
  a_next_takes : Addr
  d_next_takes : FuncData
  f_next_takes : Fun K "next_takes" "next_takes" s_next_takes a_next_takes d_next_takes
  b_next_takes : Binds K d_next_takes ["places", "gap", "left"] []
  g_next_takes : mg "next_takes" = some (.ref a_next_takes)
  a_ways_to_finish : Addr
  d_ways_to_finish : FuncData
  f_ways_to_finish : Fun K "ways_to_finish" "ways_to_finish" s_ways_to_finish a_ways_to_finish d_ways_to_finish
  b_ways_to_finish : Binds K d_ways_to_finish ["places"] []
  g_ways_to_finish : mg "ways_to_finish" = some (.ref a_ways_to_finish)
  a_Cycle_init : Addr
  d_Cycle_init : FuncData
  f_Cycle_init : Fun K "__init__" "Cycle.__init__" s_Cycle_init a_Cycle_init d_Cycle_init
  b_Cycle_init : Binds K d_Cycle_init ["self", "places"] []
  mk_Cycle : Mk K C_Cycle a_Cycle_init
  a_read_cycles : Addr
  d_read_cycles : FuncData
  f_read_cycles : Fun K "read_cycles" "read_cycles" s_read_cycles a_read_cycles d_read_cycles
  b_read_cycles : Binds K d_read_cycles ["order"] []
  g_read_cycles : mg "read_cycles" = some (.ref a_read_cycles)
  a_count_ways_of : Addr
  d_count_ways_of : FuncData
  f_count_ways_of : Fun K "count_ways_of" "count_ways_of" s_count_ways_of a_count_ways_of d_count_ways_of
  b_count_ways_of : Binds K d_count_ways_of ["cycles"] []
  g_count_ways_of : mg "count_ways_of" = some (.ref a_count_ways_of)
  a_count_sorting : Addr
  d_count_sorting : FuncData
  f_count_sorting : Fun K "count_sorting" "count_sorting" s_count_sorting a_count_sorting d_count_sorting
  b_count_sorting : Binds K d_count_sorting ["order"] []
  g_count_sorting : mg "count_sorting" = some (.ref a_count_sorting)
  a__law_spring : Addr
  d__law_spring : FuncData
  f__law_spring : Fun K "_law_spring" "_law_spring" s__law_spring a__law_spring d__law_spring
  b__law_spring : Binds K d__law_spring ["script"] []
  g__law_spring : mg "_law_spring" = some (.ref a__law_spring)
  a__law_draw : Addr
  d__law_draw : FuncData
  f__law_draw : Fun K "_law_draw" "_law_draw" s__law_draw a__law_draw d__law_draw
  b__law_draw : Binds K d__law_draw ["spring", "many"] []
  g__law_draw : mg "_law_draw" = some (.ref a__law_draw)
  a__law_same : Addr
  d__law_same : FuncData
  f__law_same : Fun K "_law_same" "_law_same" s__law_same a__law_same d__law_same
  b__law_same : Binds K d__law_same ["found", "due"] []
  g__law_same : mg "_law_same" = some (.ref a__law_same)
  a__law_dressed : Addr
  d__law_dressed : FuncData
  f__law_dressed : Fun K "_law_dressed" "_law_dressed" s__law_dressed a__law_dressed d__law_dressed
  b__law_dressed : Binds K d__law_dressed ["spring", "value"] []
  g__law_dressed : mg "_law_dressed" = some (.ref a__law_dressed)
  a__law_mixed : Addr
  d__law_mixed : FuncData
  f__law_mixed : Fun K "_law_mixed" "_law_mixed" s__law_mixed a__law_mixed d__law_mixed
  b__law_mixed : Binds K d__law_mixed ["spring", "row"] []
  g__law_mixed : mg "_law_mixed" = some (.ref a__law_mixed)
  a__law_order : Addr
  d__law_order : FuncData
  f__law_order : Fun K "_law_order" "_law_order" s__law_order a__law_order d__law_order
  b__law_order : Binds K d__law_order ["spring", "size"] []
  g__law_order : mg "_law_order" = some (.ref a__law_order)
  a__law_cycles : Addr
  d__law_cycles : FuncData
  f__law_cycles : Fun K "_law_cycles" "_law_cycles" s__law_cycles a__law_cycles d__law_cycles
  b__law_cycles : Binds K d__law_cycles ["order"] []
  g__law_cycles : mg "_law_cycles" = some (.ref a__law_cycles)
  a__law_ways : Addr
  d__law_ways : FuncData
  f__law_ways : Fun K "_law_ways" "_law_ways" s__law_ways a__law_ways d__law_ways
  b__law_ways : Binds K d__law_ways ["cycle"] []
  g__law_ways : mg "_law_ways" = some (.ref a__law_ways)
  a__law_count : Addr
  d__law_count : FuncData
  f__law_count : Fun K "_law_count" "_law_count" s__law_count a__law_count d__law_count
  b__law_count : Binds K d__law_count ["order"] []
  g__law_count : mg "_law_count" = some (.ref a__law_count)
  a_law : Addr
  d_law : FuncData
  f_law : Fun K "law" "law" s_law a_law d_law
  b_law : Binds K d_law ["script"] []
  g_law : mg "law" = some (.ref a_law)
end LP

/-! place lists: what the checks promise -/
namespace LP
open PySem L2 LT LG LX
def G30 : Int := 1000000000000000000000000000000
/-- a place list of these places -/
structure Pl (ns : List Int) : Prop where
  nd : ns.Nodup
  rg : ∀ x ∈ ns, 0 ≤ x ∧ x ≤ G30
  le : ns.length ≤ 200
theorem Pl.perm {ns ms : List Int} (p : Pl ns) (h : ms.Perm ns) : Pl ms := ⟨h.nodup_iff.mpr p.nd, fun x hx => p.rg x (h.subset hx), by rw [h.length_eq]; exact p.le⟩
section
variable (K : PySem.W.Frag)
abbrev Is (H : Hp) (a : Addr) (ns : List Int) : Prop := SqE K H a (ns.map V.int)
def sp_is_whole : Sp := fun vs H Q _ => ∃ n : Int, vs = [.int n] ∧ Q (.bl true) H
def sp_is_listed : Sp := fun vs H Q _ => ∃ (a : Addr) (xs : List V), vs = [.ref a] ∧ SqE K H a xs ∧ ∀ H', Same H H' → Q (.bl true) H'
def sp_is_place : Sp := fun vs H Q _ => ∃ n : Int, vs = [.int n] ∧ 0 ≤ n ∧ n ≤ G30 ∧ Q (.bl true) H
def sp_is_place_list : Sp := fun vs H Q _ => ∃ (a : Addr) (ns : List Int), vs = [.ref a] ∧ Is K H a ns ∧ Pl ns ∧ ∀ H', Same H H' → Q (.bl true) H'
def sp_check_places : Sp := fun vs H Q _ => ∃ (a : Addr) (ns : List Int), vs = [.ref a] ∧ Is K H a ns ∧ Pl ns ∧ ∀ H', Same H H' → Q .non H'
end
end LP

namespace LR
/-! the mirror: a shelf, stp by stp -/
abbrev Op := Bool × Int
structure Sim where
  books : List (Option Int)
  out : List Int
  filled : List Int
  most : Int
def rangeI (n : Nat) : List Int := (List.range n).map fun k : Nat => (k : Int)
def simInit (n : Nat) : Sim := ⟨(rangeI n).map some, [], [], 0⟩
def gap (l : List (Option Int)) : Nat := l.idxOf none
def mx (i j : Int) : Int := if j > i then j else i
def stp (s : Sim) (o : Op) : Option Sim :=
  if o.1 = true then
    if 0 ≤ o.2 then
      match s.books[o.2.toNat]? with
      | some (some b) => some ⟨s.books.set o.2.toNat none, s.out ++ [b], s.filled, mx s.most ((s.out ++ [b]).length : Nat)⟩
      | _ => none
    else none
  else if o.2 ∈ s.out then some ⟨s.books.set (gap s.books) (some o.2), s.out.erase o.2, s.filled ++ [(gap s.books : Int)], mx s.most ((s.out.erase o.2).length : Nat)⟩
  else none
def run (s : Sim) : List Op → Option Sim
  | [] => some s
  | o :: os => (stp s o).bind fun t => run t os
theorem run_nil {s : Sim} : run s [] = some s := rfl
theorem run_append {s : Sim} {a b : List Op} : run s (a ++ b) = (run s a).bind fun t => run t b := by
  induction a generalizing s with
  | nil => rfl
  | cons o os ih =>
    show (stp s o).bind (fun t => run t (os ++ b)) = ((stp s o).bind fun t => run t os).bind fun t => run t b
    cases stp s o with
    | none => rfl
    | some t => exact ih
theorem run_snoc {s t u : Sim} {a : List Op} {o : Op} (h : run s a = some t) (h2 : stp t o = some u) : run s (a ++ [o]) = some u := by
  rw [run_append, h]
  show (stp t o).bind _ = _
  rw [h2]; rfl
theorem run_take {s e : Sim} {ops : List Op} (h : run s ops = some e) (i : Nat) : ∃ t, run s (ops.take i) = some t ∧ run t (ops.drop i) = some e := by
  have h2 : run s (ops.take i ++ ops.drop i) = some e := by rw [List.take_append_drop]; exact h
  rw [run_append] at h2
  cases q : run s (ops.take i) with
  | none => rw [q] at h2; cases h2
  | some t => rw [q] at h2; exact ⟨t, rfl, h2⟩
theorem run_stp {s e : Sim} {ops : List Op} (h : run s ops = some e) {i : Nat} {o : Op} (hi : ops[i]? = some o) : ∃ t u, run s (ops.take i) = some t ∧ stp t o = some u ∧ run s (ops.take (i + 1)) = some u := by
  obtain ⟨t, h1, h2⟩ := run_take h i
  obtain ⟨hl, e1⟩ := List.getElem?_eq_some_iff.mp hi
  have e2 : ops.drop i = o :: ops.drop (i + 1) := by rw [List.drop_eq_getElem_cons hl, e1]
  rw [e2] at h2
  have h3 : (stp t o).bind (fun u => run u (ops.drop (i + 1))) = some e := h2
  cases q : stp t o with
  | none => rw [q] at h3; cases h3
  | some u =>
    refine ⟨t, u, h1, q, ?_⟩
    rw [List.take_add_one, hi]
    exact run_snoc h1 q
/-! ### what is always so -/
structure Good (n : Nat) (s : Sim) : Prop where
  len : s.books.length = n
  perm : (s.books.filterMap id ++ s.out).Perm (rangeI n)
  out_le : (s.out.length : Int) ≤ s.most
theorem rangeI_length (n : Nat) : (rangeI n).length = n := by simp [rangeI]
theorem rangeI_nodup (n : Nat) : (rangeI n).Nodup := by
  unfold rangeI
  refine List.Pairwise.map _ (fun a b h => ?_) (List.nodup_range (n := n))
  intro e; exact h (Int.ofNat.inj e)
theorem rangeI_sorted (n : Nat) : (rangeI n).Pairwise (· ≤ ·) := by
  unfold rangeI
  refine List.Pairwise.map _ (fun a b h => ?_) (List.pairwise_lt_range (n := n))
  exact Int.ofNat_le.mpr (Nat.le_of_lt h)
theorem rangeI_get {n k : Nat} (h : k < n) : (rangeI n)[k]? = some (k : Int) := by
  unfold rangeI
  rw [List.getElem?_map, List.getElem?_range h]; rfl
theorem mem_rangeI {n : Nat} {x : Int} : x ∈ rangeI n ↔ 0 ≤ x ∧ x < n := by
  unfold rangeI
  rw [List.mem_map]
  constructor
  · rintro ⟨k, hk, rfl⟩
    have := List.mem_range.mp hk
    omega
  · intro ⟨h1, h2⟩
    exact ⟨x.toNat, List.mem_range.mpr (by omega), by omega⟩
theorem rangeI_succ (n : Nat) : rangeI (n + 1) = rangeI n ++ [(n : Int)] := by
  unfold rangeI
  rw [List.range_succ, List.map_append]; rfl
theorem fm_some (l : List Int) : (l.map some).filterMap id = l := by
  induction l with
  | nil => rfl
  | cons a r ih => show a :: (r.map some).filterMap id = a :: r; rw [ih]
theorem good_init (n : Nat) : Good n (simInit n) := by
  refine ⟨?_, ?_, ?_⟩
  · show ((rangeI n).map some).length = n
    rw [List.length_map, rangeI_length]
  · show (((rangeI n).map some).filterMap id ++ []).Perm _
    rw [List.append_nil, fm_some]
  · show ((0 : Nat) : Int) ≤ 0
    decide
theorem fm_set_none {b : Int} : ∀ {l : List (Option Int)} {p : Nat}, l[p]? = some (some b) → (b :: (l.set p none).filterMap id).Perm (l.filterMap id)
  | [], p, h => by simp at h
  | a :: r, 0, h => by
    have e : a = some b := Option.some.inj h
    subst e
    exact List.Perm.refl _
  | none :: r, p + 1, h => fm_set_none (l := r) (p := p) h
  | some a :: r, p + 1, h => by
    have ih := fm_set_none (l := r) (p := p) h
    show (b :: a :: (r.set p none).filterMap id).Perm (a :: r.filterMap id)
    exact (List.Perm.swap a b _).trans (ih.cons a)
theorem fm_set_some {b : Int} : ∀ {l : List (Option Int)} {p : Nat}, l[p]? = some none → ((l.set p (some b)).filterMap id).Perm (b :: l.filterMap id)
  | [], p, h => by simp at h
  | a :: r, 0, h => by
    have e : a = none := Option.some.inj h
    subst e
    exact List.Perm.refl _
  | none :: r, p + 1, h => fm_set_some (l := r) (p := p) h
  | some a :: r, p + 1, h => by
    have ih := fm_set_some (b := b) (l := r) (p := p) h
    show (a :: (r.set p (some b)).filterMap id).Perm (b :: a :: r.filterMap id)
    exact (ih.cons a).trans (List.Perm.swap b a _)
theorem fm_full : ∀ {l : List (Option Int)}, none ∉ l → (l.filterMap id).length = l.length
  | [], _ => rfl
  | none :: r, h => absurd List.mem_cons_self h
  | some a :: r, h => by
    show ((a :: r.filterMap id)).length = (some a :: r).length
    rw [List.length_cons, List.length_cons, fm_full fun q => h (List.mem_cons_of_mem _ q)]
theorem fm_len (l : List (Option Int)) : (l.filterMap id).length ≤ l.length := List.length_filterMap_le _ _
theorem gap_lt {l : List (Option Int)} (h : none ∈ l) : gap l < l.length := List.idxOf_lt_length_iff.mpr h
theorem gap_get {l : List (Option Int)} (h : none ∈ l) : l[gap l]? = some none := by
  have h1 := gap_lt h
  rw [List.getElem?_eq_getElem h1]
  have h2 := List.findIdx_getElem (p := (· == none)) (xs := l) (w := h1)
  exact congrArg some (eq_of_beq h2)
theorem gap_least : ∀ {l : List (Option Int)} {k : Nat}, l[k]? = some none → gap l ≤ k
  | [], k, h => by simp at h
  | none :: r, k, h => by unfold gap; rw [List.idxOf_cons]; simp
  | some a :: r, 0, h => by cases h
  | some a :: r, k + 1, h => by
    have ih := gap_least (l := r) (k := k) h
    unfold gap at ih ⊢
    rw [List.idxOf_cons]
    simp
    exact ih
theorem gap_before {l : List (Option Int)} {k : Nat} {x : Option Int} (hk : k < gap l) (h : l[k]? = some x) : x ≠ none := by
  intro e
  subst e
  exact absurd (gap_least h) (Nat.not_le.mpr hk)
theorem Good.gap {n : Nat} {s : Sim} (g : Good n s) {b : Int} (hb : b ∈ s.out) : none ∈ s.books := by
  refine Classical.byContradiction fun h => ?_
  have h1 := fm_full h
  have h2 := g.perm.length_eq
  rw [List.length_append, rangeI_length, h1, g.len] at h2
  have h3 : s.out.length = 0 := by omega
  rw [List.eq_nil_of_length_eq_zero h3] at hb
  cases hb
theorem mx_ge (i j : Int) : i ≤ mx i j ∧ j ≤ mx i j := by unfold mx; split <;> omega
theorem stp_take {s u : Sim} {p : Int} (h : stp s (true, p) = some u) : 0 ≤ p ∧ ∃ b, s.books[p.toNat]? = some (some b) ∧ u = ⟨s.books.set p.toNat none, s.out ++ [b], s.filled, mx s.most ((s.out ++ [b]).length : Nat)⟩ := by
  unfold stp at h
  rw [if_pos rfl] at h
  by_cases hp : 0 ≤ p
  · rw [if_pos (show 0 ≤ ((true, p) : Op).2 from hp)] at h
    refine ⟨hp, ?_⟩
    dsimp only at h
    split at h
    · rename_i b e
      exact ⟨b, e, (Option.some.inj h).symm⟩
    · cases h
  · rw [if_neg (show ¬ 0 ≤ ((true, p) : Op).2 from hp)] at h
    cases h
theorem stp_take_of {s : Sim} {p : Int} {b : Int} (hp : 0 ≤ p) (e : s.books[p.toNat]? = some (some b)) : stp s (true, p) = some ⟨s.books.set p.toNat none, s.out ++ [b], s.filled, mx s.most ((s.out ++ [b]).length : Nat)⟩ := by
  unfold stp
  rw [if_pos rfl, if_pos (show 0 ≤ ((true, p) : Op).2 from hp)]
  dsimp only
  rw [e]
theorem stp_ret {s u : Sim} {b : Int} (h : stp s (false, b) = some u) : b ∈ s.out ∧ u = ⟨s.books.set (gap s.books) (some b), s.out.erase b, s.filled ++ [(gap s.books : Int)], mx s.most ((s.out.erase b).length : Nat)⟩ := by
  unfold stp at h
  rw [if_neg (show ¬ ((false, b) : Op).1 = true from Bool.false_ne_true)] at h
  by_cases hb : b ∈ s.out
  · rw [if_pos (show ((false, b) : Op).2 ∈ s.out from hb)] at h
    exact ⟨hb, (Option.some.inj h).symm⟩
  · rw [if_neg (show ¬ ((false, b) : Op).2 ∈ s.out from hb)] at h
    cases h
theorem stp_ret_of {s : Sim} {b : Int} (hb : b ∈ s.out) : stp s (false, b) = some ⟨s.books.set (gap s.books) (some b), s.out.erase b, s.filled ++ [(gap s.books : Int)], mx s.most ((s.out.erase b).length : Nat)⟩ := by
  unfold stp
  rw [if_neg (show ¬ ((false, b) : Op).1 = true from Bool.false_ne_true), if_pos (show ((false, b) : Op).2 ∈ s.out from hb)]
theorem good_stp {n : Nat} {s u : Sim} {o : Op} (g : Good n s) (h : stp s o = some u) : Good n u := by
  obtain ⟨w, x⟩ := o
  cases w with
  | true =>
    obtain ⟨hp, b, e, rfl⟩ := stp_take h
    refine ⟨?_, ?_, ?_⟩
    · show (s.books.set _ none).length = n
      rw [List.length_set]; exact g.len
    · show ((s.books.set x.toNat none).filterMap id ++ (s.out ++ [b])).Perm _
      refine List.Perm.trans ?_ g.perm
      have h1 := fm_set_none e
      rw [← List.append_assoc]
      refine (List.perm_append_singleton b _).trans ?_
      exact List.Perm.append_right s.out h1
    · exact (mx_ge _ _).2
  | false =>
    obtain ⟨hb, rfl⟩ := stp_ret h
    have hg := g.gap hb
    refine ⟨?_, ?_, ?_⟩
    · show (s.books.set _ _).length = n
      rw [List.length_set]; exact g.len
    · show ((s.books.set (LR.gap s.books) (some x)).filterMap id ++ s.out.erase x).Perm _
      refine List.Perm.trans ?_ g.perm
      have h1 := fm_set_some (b := x) (gap_get hg)
      refine (List.Perm.append_right _ h1).trans ?_
      have h2 := List.perm_cons_erase hb
      refine List.Perm.trans ?_ (List.Perm.append_left _ h2.symm)
      exact List.perm_middle.symm
    · exact (mx_ge _ _).2
theorem good_run {n : Nat} {ops : List Op} : ∀ {s e : Sim}, Good n s → run s ops = some e → Good n e := by
  induction ops with
  | nil => intro s e g h; cases h; exact g
  | cons o os ih =>
    intro s e g h
    have h' : (stp s o).bind (fun t => run t os) = some e := h
    cases q : stp s o with
    | none => rw [q] at h'; cases h'
    | some t => rw [q] at h'; exact ih (good_stp g q) h'
theorem Good.nodup {n : Nat} {s : Sim} (g : Good n s) : (s.books.filterMap id ++ s.out).Nodup := g.perm.nodup_iff.mpr (rangeI_nodup n)
/-! ### the filled places and the greatest number -/
def rets (ops : List Op) : Nat := (ops.filter fun o => !o.1).length
theorem stp_grow {s u : Sim} {o : Op} (h : stp s o = some u) : (∃ m, u.filled = s.filled ++ m ∧ m.length = rets [o]) ∧ s.most ≤ u.most := by
  obtain ⟨w, x⟩ := o
  cases w with
  | true =>
    obtain ⟨hp, b, e, rfl⟩ := stp_take h
    exact ⟨⟨[], (List.append_nil _).symm, rfl⟩, (mx_ge _ _).1⟩
  | false =>
    obtain ⟨hb, rfl⟩ := stp_ret h
    exact ⟨⟨_, rfl, rfl⟩, (mx_ge _ _).1⟩
theorem run_grow {ops : List Op} : ∀ {s e : Sim}, run s ops = some e → (∃ m, e.filled = s.filled ++ m ∧ m.length = rets ops) ∧ s.most ≤ e.most := by
  induction ops with
  | nil => intro s e h; cases h; exact ⟨⟨[], (List.append_nil _).symm, rfl⟩, Int.le_refl _⟩
  | cons o os ih =>
    intro s e h
    have h' : (stp s o).bind (fun t => run t os) = some e := h
    cases q : stp s o with
    | none => rw [q] at h'; cases h'
    | some t =>
      rw [q] at h'
      obtain ⟨⟨m1, e1, l1⟩, k1⟩ := stp_grow q
      obtain ⟨⟨m2, e2, l2⟩, k2⟩ := ih h'
      refine ⟨⟨m1 ++ m2, by rw [e2, e1, List.append_assoc], ?_⟩, Int.le_trans k1 k2⟩
      rw [List.length_append, l1, l2]
      unfold rets
      rw [← List.length_append, ← List.filter_append]; rfl
/-! ### a longer shelf -/
def ext (n : Nat) (s : Sim) : Sim := { s with books := s.books ++ [some (n : Int)] }
theorem init_ext (n : Nat) : simInit (n + 1) = ext n (simInit n) := by
  unfold simInit ext
  simp [rangeI_succ]
theorem gap_append {l : List (Option Int)} (h : none ∈ l) (m : List (Option Int)) : gap (l ++ m) = gap l := by
  unfold gap
  rw [List.idxOf_append, if_pos h]
theorem stp_ext {n : Nat} {s u : Sim} {o : Op} (g : Good n s) (h : stp s o = some u) : stp (ext n s) o = some (ext n u) := by
  obtain ⟨w, x⟩ := o
  cases w with
  | true =>
    obtain ⟨hp, b, e, rfl⟩ := stp_take h
    have hl := (List.getElem?_eq_some_iff.mp e).1
    have e2 : (ext n s).books[x.toNat]? = some (some b) := by
      show (s.books ++ _)[x.toNat]? = _
      rw [List.getElem?_append_left hl]; exact e
    rw [stp_take_of hp e2]
    show some (Sim.mk ((s.books ++ [some (n : Int)]).set x.toNat none) _ _ _) = some (Sim.mk (s.books.set x.toNat none ++ [some (n : Int)]) _ _ _)
    rw [List.set_append_left _ _ hl]; rfl
  | false =>
    obtain ⟨hb, rfl⟩ := stp_ret h
    have hg := g.gap hb
    have hl := gap_lt hg
    rw [stp_ret_of (s := ext n s) hb]
    show some (Sim.mk ((s.books ++ [some (n : Int)]).set (LR.gap (s.books ++ [some (n : Int)])) (some x)) _ (s.filled ++ [(LR.gap (s.books ++ [some (n : Int)]) : Int)]) _) = some (Sim.mk (s.books.set (LR.gap s.books) (some x) ++ [some (n : Int)]) _ _ _)
    rw [gap_append hg, List.set_append_left _ _ hl]; rfl
theorem run_ext {n : Nat} {ops : List Op} : ∀ {s e : Sim}, Good n s → run s ops = some e → run (ext n s) ops = some (ext n e) := by
  induction ops with
  | nil => intro s e g h; cases h; rfl
  | cons o os ih =>
    intro s e g h
    have h' : (stp s o).bind (fun t => run t os) = some e := h
    cases q : stp s o with
    | none => rw [q] at h'; cases h'
    | some t =>
      rw [q] at h'
      show (stp (ext n s) o).bind _ = _
      rw [stp_ext g q]
      exact ih (good_stp g q) h'
/-! ### what one stp changes -/
theorem filter_range_eq {n p : Nat} (h : p < n) (f : Nat → Bool) (hf : ∀ k, k < n → (f k = true ↔ k = p)) : (List.range n).filter f = [p] := by
  have h1 : ((List.range n).filter f).Nodup := (List.nodup_range (n := n)).filter _
  refine List.Perm.eq_singleton ?_ |>.symm ▸ rfl
  exact (List.perm_ext_iff_of_nodup h1 (by simp)).mpr fun a => by
    rw [List.mem_filter, List.mem_range, List.mem_singleton]
    constructor
    · intro ⟨a1, a2⟩; exact (hf a a1).mp a2
    · intro e; subst e; exact ⟨h, (hf a h).mpr rfl⟩
theorem set_differs {l : List (Option Int)} {p : Nat} {x v : Option Int} (hp : l[p]? = some x) (hx : x ≠ v) (k : Nat) : l[k]? ≠ (l.set p v)[k]? ↔ k = p := by
  have hl := (List.getElem?_eq_some_iff.mp hp).1
  rw [List.getElem?_set]
  by_cases e : p = k
  · subst e
    rw [if_pos rfl, if_pos hl, hp]
    constructor
    · intro _; rfl
    · intro _ q; exact hx (Option.some.inj q)
  · rw [if_neg e]
    constructor
    · intro q; exact absurd rfl q
    · intro q; exact absurd q.symm e
theorem sorted_eq {l m : List Int} (h : l.Perm m) (h1 : l.Pairwise (· ≤ ·)) (h2 : m.Pairwise (· ≤ ·)) : l = m :=
  List.Perm.eq_of_pairwise (fun a b _ _ h1 h2 => Int.le_antisymm h1 h2) h1 h2 h
end LR

/-! cycles of orders -/
namespace LQ
open LR
/-- from here on, until a known place is met -/
def go (o : List Int) : Nat → List Int → List Int → Int → List Int × List Int
  | 0, known, cyc, _ => (known, cyc)
  | f + 1, known, cyc, here => if here ∈ known then (known, cyc) else go o f (known ++ [here]) (cyc ++ [here]) (o[here.toNat]?.getD 0)
def start (o : List Int) (known : List Int) (p : Int) : List Int × List Int := go o (o.length + 1 - known.length) known [] p
/-- the known places and the cycles behind the first i places -/
def upto (o : List Int) : Nat → List Int × List (List Int)
  | 0 => ([], [])
  | i + 1 => let r := start o (upto o i).1 (i : Int); (r.1, (upto o i).2 ++ if 1 < r.2.length then [r.2] else [])
def cycs (o : List Int) : List (List Int) := (upto o o.length).2
structure Ord (n : Nat) (o : List Int) : Prop where
  p : o.Perm (rangeI n)
theorem Ord.len {n : Nat} {o : List Int} (h : Ord n o) : o.length = n := by rw [h.p.length_eq, rangeI_length]
theorem Ord.rg {n : Nat} {o : List Int} (h : Ord n o) {x : Int} (hx : x ∈ o) : 0 ≤ x ∧ x < n := mem_rangeI.mp (h.p.subset hx)
/-- what is known is different places of the order -/
structure Kn (n : Nat) (k : List Int) : Prop where
  nd : k.Nodup
  rg : ∀ x ∈ k, 0 ≤ x ∧ x < n
theorem sub_len : ∀ (l m : List Int), l.Nodup → (∀ x ∈ l, x ∈ m) → l.length ≤ m.length
  | [], m, _, _ => Nat.zero_le _
  | a :: r, m, nd, h => by
    have nd' := List.nodup_cons.mp nd
    have ha := h a (List.mem_cons_self ..)
    have := sub_len r (m.erase a) nd'.2 fun x hx => (List.mem_erase_of_ne (fun (e : x = a) => nd'.1 (by rw [← e]; exact hx))).mpr (h x (List.mem_cons_of_mem _ hx))
    rw [List.length_erase_of_mem ha] at this
    have := List.length_pos_of_mem ha
    rw [List.length_cons]
    omega
theorem Kn.le {n : Nat} {k : List Int} (h : Kn n k) : k.length ≤ n := by
  have := sub_len k (rangeI n) h.nd fun x hx => mem_rangeI.mpr (h.rg x hx)
  rw [rangeI_length] at this
  exact this
theorem Kn.snoc {n : Nat} {k : List Int} (h : Kn n k) {x : Int} (hx : x ∉ k) (h0 : 0 ≤ x) (h1 : x < n) : Kn n (k ++ [x]) := by
  refine ⟨List.nodup_append.mpr ⟨h.nd, List.nodup_cons.mpr ⟨by simp, List.nodup_nil⟩, fun a ha b hb e => ?_⟩, fun y hy => ?_⟩
  · rw [List.mem_singleton.mp hb] at e; exact hx (e ▸ ha)
  · rcases List.mem_append.mp hy with q | q
    · exact h.rg y q
    · rw [List.mem_singleton.mp q]; exact ⟨h0, h1⟩
/-- a state of the walk that ends at R -/
structure Wk (n : Nat) (o : List Int) (R : List Int × List Int) (f : Nat) (k c : List Int) (here : Int) : Prop where
  kn : Kn n k
  h0 : 0 ≤ here
  h1 : here < n
  fu : f = n + 1 - k.length
  cl : c.length ≤ k.length
  e : go o f k c here = R
theorem Wk.stop {n : Nat} {o : List Int} {R : List Int × List Int} {f : Nat} {k c : List Int} {here : Int} (w : Wk n o R f k c here) (h : here ∈ k) : R = (k, c) := by
  have := w.kn.le
  have hf := w.fu
  have e := w.e
  obtain ⟨g, rfl⟩ : ∃ g, f = g + 1 := ⟨f - 1, by omega⟩
  rw [← e]
  show (if here ∈ k then (k, c) else _) = _
  rw [if_pos h]
theorem Wk.step {n : Nat} {o : List Int} {R : List Int × List Int} {f : Nat} {k c : List Int} {here nxt : Int} (hor : Ord n o) (w : Wk n o R f k c here) (h : here ∉ k) (hx : o[here.toNat]? = some nxt) : Wk n o R (f - 1) (k ++ [here]) (c ++ [here]) nxt ∧ f - 1 < f := by
  have hl := w.kn.le
  have hf := w.fu
  have e := w.e
  have kn' := w.kn.snoc h w.h0 w.h1
  have hl' := kn'.le
  rw [List.length_append] at hl'
  simp at hl'
  obtain ⟨g, rfl⟩ : ∃ g, f = g + 1 := ⟨f - 1, by omega⟩
  have r := hor.rg (List.mem_of_getElem? hx)
  refine ⟨⟨kn', r.1, r.2, by rw [List.length_append]; simp; omega, by rw [List.length_append, List.length_append]; have := w.cl; omega, ?_⟩, by omega⟩
  rw [← e]
  show _ = (if here ∈ k then (k, c) else _)
  rw [if_neg h, hx]; rfl
theorem Wk.init {n : Nat} {o : List Int} (hor : Ord n o) {k : List Int} (kn : Kn n k) {p : Nat} (hp : p < n) : Wk n o (start o k (p : Int)) (n + 1 - k.length) k [] (p : Int) :=
  ⟨kn, by omega, by omega, rfl, Nat.zero_le _, by unfold start; rw [hor.len]⟩
/-- where a walk ends is known -/
theorem go_kn {n : Nat} {o : List Int} (hor : Ord n o) : ∀ (f : Nat) {k c : List Int} {here : Int}, Kn n k → 0 ≤ here → here < n → c.length ≤ k.length → Kn n (go o f k c here).1 ∧ (go o f k c here).2.length ≤ (go o f k c here).1.length
  | 0, k, c, here, kn, _, _, hc => ⟨kn, hc⟩
  | f + 1, k, c, here, kn, h0, h1, hc => by
    show Kn n (if here ∈ k then (k, c) else _).1 ∧ (if here ∈ k then (k, c) else _).2.length ≤ (if here ∈ k then (k, c) else _).1.length
    by_cases h : here ∈ k
    · rw [if_pos h]; exact ⟨kn, hc⟩
    · rw [if_neg h]
      have hl := hor.len
      have ex : o[here.toNat]? = some (o[here.toNat]'(by omega)) := List.getElem?_eq_getElem (by omega)
      rw [ex]
      have r := hor.rg (List.mem_of_getElem? ex)
      exact go_kn hor f (kn.snoc h h0 h1) r.1 r.2 (by rw [List.length_append, List.length_append]; omega)
theorem upto_kn {n : Nat} {o : List Int} (hor : Ord n o) : ∀ i, i ≤ n → Kn n (upto o i).1
  | 0, _ => ⟨List.nodup_nil, by intro x h; cases h⟩
  | i + 1, h => (go_kn hor _ (upto_kn hor i (by omega)) (by omega) (by omega) (Nat.zero_le _)).1
theorem upto_len (o : List Int) : ∀ i, (upto o i).2.length ≤ i
  | 0 => Nat.le_refl _
  | i + 1 => by
    have := upto_len o i
    show ((upto o i).2 ++ _).length ≤ i + 1
    rw [List.length_append]
    split <;> simp <;> omega
end LQ
namespace LQ
open LR
theorem set_perm_cons : ∀ {l : List Int} {i : Nat} {x y : Int}, l[i]? = some x → (x :: l.set i y).Perm (y :: l)
  | [], i, x, y, h => by simp at h
  | a :: r, 0, x, y, h => by
    have e : a = x := Option.some.inj h
    subst e
    exact List.Perm.swap y a r
  | a :: r, i + 1, x, y, h => by
    have ih := set_perm_cons (l := r) (i := i) (x := x) (y := y) h
    exact ((List.Perm.swap a x (r.set i y)).trans (ih.cons a)).trans (List.Perm.swap y a r)
theorem swap_perm {l : List Int} {i j : Nat} {x y : Int} (hi : l[i]? = some x) (hj : l[j]? = some y) : ((l.set i y).set j x).Perm l := by
  have h1 := set_perm_cons (y := y) hi
  have hj2 : (l.set i y)[j]? = some y := by
    rw [List.getElem?_set]
    split
    · rename_i e
      have := (List.getElem?_eq_some_iff.mp hi).1
      rw [if_pos this]
    · exact hj
  have h2 := set_perm_cons (y := x) hj2
  exact (h2.trans h1).cons_inv
theorem Ord.swap {n : Nat} {l : List Int} {i j : Nat} {x y : Int} (h : Ord n l) (hi : l[i]? = some x) (hj : l[j]? = some y) : Ord n ((l.set i y).set j x) := ⟨(swap_perm hi hj).trans h.p⟩
/-- one cycle through all -/
theorem Ord.rot {n : Nat} {row B : List Int} (hr : Ord n row) (hB : B.length = n) (h : ∀ (j : Nat) (x : Int), row[j]? = some x → B[x.toNat]? = (row.drop 1 ++ row.take 1)[j]?) : Ord n B := by
  constructor
  have hl := hr.len
  have e1 : (rangeI n).map (fun x => (B[x.toNat]?).getD 0) = B := by
    apply List.ext_getElem?
    intro i
    rw [List.getElem?_map]
    rcases Nat.lt_or_ge i n with q | q
    · rw [rangeI_get q]
      have : B[i]? = some (B[i]'(by omega)) := List.getElem?_eq_getElem (by omega)
      simp [this]
    · rw [List.getElem?_eq_none (by rw [rangeI_length]; exact q), List.getElem?_eq_none (by omega)]; rfl
  have e2 : row.map (fun x => (B[x.toNat]?).getD 0) = row.drop 1 ++ row.take 1 := by
    apply List.ext_getElem?
    intro i
    rw [List.getElem?_map]
    have hlen : (row.drop 1 ++ row.take 1).length = row.length := by rw [List.length_append, List.length_drop, List.length_take]; omega
    rcases Nat.lt_or_ge i row.length with q | q
    · have hx := List.getElem?_eq_getElem q
      rw [hx]
      have := h i _ hx
      have h3 : (row.drop 1 ++ row.take 1)[i]? = some ((row.drop 1 ++ row.take 1)[i]'(by omega)) := List.getElem?_eq_getElem (by omega)
      rw [h3] at this ⊢
      show some ((B[row[i].toNat]?).getD 0) = _
      rw [this]; rfl
    · rw [List.getElem?_eq_none q, List.getElem?_eq_none (by omega)]; rfl
  have p1 : B.Perm (row.drop 1 ++ row.take 1) := by
    rw [← e1, ← e2]
    exact (hr.p.symm.map _)
  have p2 : (row.drop 1 ++ row.take 1).Perm row := by
    refine List.perm_append_comm.trans ?_
    rw [List.take_append_drop]
  exact (p1.trans p2).trans hr.p
end LQ

/-! the draws of the laws with a spring -/
namespace LP
open PySem L2 LT LG LX
structure Spring (H : Hp) (b : Addr) (d : Nat) : Prop where
  ex : ∃ g t k : Int, H b = some (.lst [.int g, .int t, .int k]) ∧ 0 ≤ g ∧ 0 ≤ t ∧ t < 2 ^ 61 ∧ 0 ≤ k ∧ k ≤ d
theorem Spring.mono {H : Hp} {b : Addr} {d d' : Nat} (r : Spring H b d) (h : d ≤ d') : Spring H b d' := by
  obtain ⟨g, t, k, a1, a2, a3, a4, a5, a6⟩ := r.ex
  exact ⟨⟨g, t, k, a1, a2, a3, a4, a5, by omega⟩⟩
theorem sg_s {H H' : Hp} {b : Addr} {d : Nat} (s : Same H H') (r : Spring H b d) : Spring H' b d := by
  obtain ⟨g, t, k, a1, a2⟩ := r.ex
  exact ⟨⟨g, t, k, s _ _ a1, a2⟩⟩
theorem sg_f {H H' : Hp} {b p : Addr} {d : Nat} (f : Fr H H' p) (r : Spring H b d) (n : p ≠ b) : Spring H' b d := by
  obtain ⟨g, t, k, a1, a2⟩ := r.ex
  exact ⟨⟨g, t, k, f _ _ a1 n.symm, a2⟩⟩
theorem sg_l {H H' : Hp} {b : Addr} {L : List Addr} {d : Nat} (f : LS.FrL H H' L) (r : Spring H b d) (n : b ∉ L) : Spring H' b d := by
  obtain ⟨g, t, k, a1, a2⟩ := r.ex
  exact ⟨⟨g, t, k, f.k _ _ a1 n, a2⟩⟩
theorem sg_ne {H : Hp} {b p : Addr} {d : Nat} (n : H p = none) (r : Spring H b d) : p ≠ b := by
  obtain ⟨g, t, k, a1, _⟩ := r.ex
  exact (ne_of_none a1 n).symm
theorem sg_ne' {H : Hp} {b p : Addr} {d : Nat} (n : H p = none) (r : Spring H b d) : b ≠ p := (sg_ne n r).symm
theorem sg_no {H H' : Hp} {b p : Addr} {d : Nat} (h : H' p = none) (f : Fr H H' b) (r : Spring H' b d) : H p = none := by
  obtain ⟨g, t, k, a1, _⟩ := r.ex
  exact LS.free_fr f a1 h
section
variable (K : PySem.W.Frag)
def sp__law_spring : Sp := fun vs H Q _ => ∃ (a : Addr) (ns : List Int), vs = [.ref a] ∧ SqL K H a (ns.map V.int) ∧ ns.length ≤ 63 ∧ ∀ (H' : Hp) (b : Addr), Same H H' → H b = none → Spring H' b 0 → Q (.ref b) H'
def sp__law_draw_s : Sp := fun vs H Q _ => ∃ (b : Addr) (d : Nat) (n : Int), vs = [.ref b, .int n] ∧ Spring H b d ∧ 0 < n ∧ n.natAbs.log2 < 9000 ∧ d < 1000000 ∧
  ∀ (H' : Hp) (r : Int), 0 ≤ r → r < n → Spring H' b (d + 1) → Fr H H' b → Q (.int r) H'
def sp__law_mixed : Sp := fun vs H Q _ => ∃ (b : Addr) (d : Nat) (p : Addr) (xs : List Int), vs = [.ref b, .ref p] ∧ Spring H b d ∧ d < 900000 ∧ H p = some (.lst (xs.map V.int)) ∧ xs.length ≤ 400 ∧ p ≠ b ∧
  ∀ (H' : Hp) (q : Addr) (ys : List Int), Spring H' b (d + xs.length) → Fr H H' b → H q = none → ys.Perm xs → H' q = some (.lst (ys.map V.int)) → Q (.ref q) H'
/-- data that two hold alike -/
def plain : Nat → PyData → Prop
  | _, .none => True
  | _, .bool _ => True
  | _, .int _ => True
  | _, .str _ => True
  | k + 1, .list ds => ds.length ≤ 10000 ∧ ∀ d ∈ ds, plain k d
  | k + 1, .tuple ds => ds.length ≤ 10000 ∧ ∀ d ∈ ds, plain k d
  | _, _ => False
def sp__law_same (k : Nat) : Sp := fun vs H Q _ => ∃ (x y : V) (d : PyData), vs = [x, y] ∧ Dp K H x d ∧ Dp K H y d ∧ plain k d ∧ ∀ H', Same H H' → Q (.bl true) H'
def sp__law_dressed0_s : Sp := fun vs H Q _ => ∃ (b : Addr) (z : Int), vs = [.ref b, .int z] ∧ ∀ H', Same H H' → Q (.int z) H'
def sp__law_dressed_s : Sp := fun vs H Q _ => ∃ (b : Addr) (d : Nat) (p : Addr) (ns : List Int), vs = [.ref b, .ref p] ∧ Spring H b d ∧ d < 900000 ∧ H p = some (.lst (ns.map V.int)) ∧ ns.length ≤ 400 ∧
  ∀ (H' : Hp) (q : Addr), Spring H' b (d + 1) → Fr H H' b → H q = none → (H' q = some (.lst (ns.map V.int)) ∨ H' q = some (.tup (ns.map V.int))) → Q (.ref q) H'
end
end LP

namespace LP
open PySem L2 LT LG LQ LH LC LX LR
local macro_rules | `(tactic| array_mem_dec) => `(tactic| first
  | assumption
  | ((with_reducible apply LS.hp_s); assumption; array_mem_dec)
  | ((with_reducible apply LS.hp_f); assumption; array_mem_dec; array_mem_dec)
  | ((with_reducible apply LS.hp_t); assumption; array_mem_dec; array_mem_dec)
  | ((with_reducible apply LS.hp_l); assumption; array_mem_dec; array_mem_dec)
  | ((with_reducible apply LS.sq_o); array_mem_dec)
  | ((with_reducible apply LS.sq_s); assumption; array_mem_dec)
  | ((with_reducible apply LS.sq_f); assumption; array_mem_dec; array_mem_dec)
  | ((with_reducible apply LS.sq_t); assumption; array_mem_dec; array_mem_dec)
  | ((with_reducible apply LS.sq_l); assumption; array_mem_dec; array_mem_dec)
  | ((with_reducible apply LS.tu_o); array_mem_dec)
  | ((with_reducible apply LS.tu_s); assumption; array_mem_dec)
  | ((with_reducible apply LS.tu_f); assumption; array_mem_dec; array_mem_dec)
  | ((with_reducible apply LS.tu_t); assumption; array_mem_dec; array_mem_dec)
  | ((with_reducible apply LS.tu_l); assumption; array_mem_dec; array_mem_dec)
  | ((with_reducible apply LS.se_l); array_mem_dec)
  | ((with_reducible apply LS.se_t); array_mem_dec)
  | ((with_reducible apply LS.se_s); assumption; array_mem_dec)
  | ((with_reducible apply LS.se_f); assumption; array_mem_dec; array_mem_dec)
  | ((with_reducible apply LS.se_tt); assumption; array_mem_dec; array_mem_dec)
  | ((with_reducible exact Same.refl _))
  | ((with_reducible apply LS.sm_s); assumption; array_mem_dec)
  | ((with_reducible apply LS.sm_f); assumption; array_mem_dec; array_mem_dec)
  | ((with_reducible exact Fr.refl _ _))
  | ((with_reducible apply LS.fr_b); assumption; array_mem_dec)
  | ((with_reducible apply LS.fr_s); assumption; array_mem_dec)
  | ((with_reducible apply LS.fr_n); assumption; array_mem_dec; array_mem_dec)
  | ((with_reducible apply LS.fr_t); assumption; array_mem_dec)
  | ((with_reducible apply LS.no_s); assumption; array_mem_dec)
  | ((with_reducible apply LS.no_f); assumption; array_mem_dec; array_mem_dec)
  | ((with_reducible apply LS.no_t); assumption; array_mem_dec)
  | ((with_reducible apply LS.no_l); assumption; assumption)
  | ((with_reducible apply Ne.symm); assumption)
  | ((with_reducible apply LS.ne_a); assumption; array_mem_dec)
  | ((with_reducible apply LS.ne_b); assumption; array_mem_dec)
  | ((with_reducible apply LS.ne_ap); assumption)
  | ((with_reducible apply LS.ne_il); assumption; array_mem_dec)
  | ((with_reducible apply LS.ne_li); assumption; array_mem_dec)
  | ((with_reducible apply LS.ne_lt); assumption; assumption)
  | ((with_reducible apply LS.ne_tl); assumption; assumption)
  | ((with_reducible apply LS.ne_rl); assumption; array_mem_dec)
  | ((with_reducible apply LS.rl_t); assumption)
  | ((with_reducible apply LS.rl_s); assumption; array_mem_dec)
  | ((with_reducible apply LS.rl_f); assumption; array_mem_dec; array_mem_dec)
  | ((with_reducible apply LS.rl_l); assumption; array_mem_dec; array_mem_dec)
  | ((with_reducible apply LS.ap_new); assumption; assumption; array_mem_dec)
  | ((with_reducible apply LS.ap_t); assumption; array_mem_dec; array_mem_dec)
  | ((with_reducible apply LS.ap_s); assumption; array_mem_dec; array_mem_dec)
  | ((with_reducible apply LS.ap_f); assumption; array_mem_dec; array_mem_dec; array_mem_dec)
  | ((with_reducible apply LS.ap_l); assumption; array_mem_dec; array_mem_dec; array_mem_dec)
  | (with_reducible apply LS.ni_nil)
  | ((with_reducible apply LS.ni_cons); array_mem_dec; array_mem_dec)
  | (with_reducible apply LS.trk_nil)
  | ((with_reducible apply LS.trk_cons); array_mem_dec; array_mem_dec)
  | (with_reducible apply LS.al_nil)
  | ((with_reducible apply LS.al_cons); array_mem_dec; array_mem_dec)
  | (with_reducible apply LS.mem_hd)
  | ((with_reducible apply LS.mem_tl); array_mem_dec)
  | ((with_reducible apply LS.fl_refl); array_mem_dec)
  | ((with_reducible apply LS.fl_l); assumption; array_mem_dec)
  | ((with_reducible apply LS.fl_lm); assumption; array_mem_dec; array_mem_dec)
  | (with_reducible apply LS.sub_nil)
  | ((with_reducible apply LS.sub_cons); array_mem_dec; array_mem_dec)
  | ((with_reducible apply LS.fl_s); assumption; array_mem_dec)
  | ((with_reducible apply LS.fl_m); assumption; array_mem_dec; array_mem_dec; array_mem_dec)
  | ((with_reducible apply LS.fl_n); assumption; array_mem_dec; array_mem_dec; array_mem_dec)
  | ((with_reducible apply LS.rt_refl); array_mem_dec)
  | ((with_reducible apply LS.rt_t); assumption; array_mem_dec)
  | ((with_reducible apply LS.rt_s); assumption; array_mem_dec)
  | ((with_reducible apply LS.rt_f); assumption; array_mem_dec; array_mem_dec; array_mem_dec)
  | ((with_reducible apply LS.sz); (first | decide | (simp only [List.length_append, List.length_map, List.length_cons, List.length_nil, List.length_replicate]; omega)))
  | ((with_reducible apply LS.szl); (first | decide | (simp only [List.length_append, List.length_map, List.length_cons, List.length_nil, List.length_replicate]; omega))))
local macro_rules | `(tactic| array_get_dec) => `(tactic| first
  | ((with_reducible apply LS.var); exact rfl)
  | (with_reducible apply LS.con)
  | (with_reducible apply LS.op)
  | (with_reducible apply LS.ri0)
  | (with_reducible apply LS.tseq)
  | (with_reducible apply LS.tasg)
  | (with_reducible apply LS.gname)
  | (with_reducible apply LS.tcons)
  | (with_reducible apply LS.tnil)
  | (with_reducible apply LS.tcb)
  | (with_reducible apply LS.tcall)
  | (with_reducible apply LS.ttest)
  | (with_reducible apply LS.k_b)
  | (with_reducible apply LS.tb)
  | (with_reducible apply LS.tifs)
  | (with_reducible apply LS.ift)
  | (with_reducible apply LS.iff_)
  | (with_reducible apply LS.ifnt)
  | (with_reducible apply LS.ifnf)
  | (with_reducible apply LS.tnext)
  | (with_reducible apply LS.tdrop)
  | (with_reducible apply LS.tret)
  | (with_reducible apply LS.tretn)
  | (with_reducible apply LS.un)
  | (with_reducible apply LS.ru)
  | (with_reducible apply LS.tyes)
  | (with_reducible apply LS.tand)
  | (with_reducible apply LS.tor)
  | (with_reducible apply LS.tnot)
  | (with_reducible apply LS.tif)
  | (with_reducible apply LS.tandv)
  | (with_reducible apply LS.k_av)
  | (with_reducible apply LS.torv)
  | (with_reducible apply LS.k_ov)
  | (with_reducible apply LS.tnotv)
  | (with_reducible apply LS.k_nv)
  | (with_reducible apply LS.tchain)
  | (with_reducible apply LS.k_ch)
  | (with_reducible apply LS.req_i)
  | (with_reducible apply LS.rne_i)
  | (with_reducible apply LS.req_s)
  | (with_reducible apply LS.rne_s)
  | (with_reducible apply LS.req_b)
  | (with_reducible apply LS.rne_b)
  | ((with_reducible apply LS.rin_i); array_mem_dec)
  | ((with_reducible apply LS.rni_i); array_mem_dec)
  | ((with_reducible apply LS.rlen_li); array_mem_dec)
  | ((with_reducible apply LS.rlen_ls); array_mem_dec)
  | ((with_reducible apply LS.rlen_l); array_mem_dec)
  | ((with_reducible apply LS.rlen_Ei); array_mem_dec)
  | ((with_reducible apply LS.rlen_E); array_mem_dec)
  | ((with_reducible apply LS.rlen_t); array_mem_dec)
  | ((with_reducible apply LS.rixl); array_mem_dec; exact rfl)
  | ((with_reducible apply LS.rixt); array_mem_dec; exact rfl)
  | (with_reducible apply LS.isi_int_int)
  | (with_reducible apply LS.isi_int_bool)
  | (with_reducible apply LS.isi_int_str)
  | (with_reducible apply LS.isi_str_int)
  | (with_reducible apply LS.isi_str_bool)
  | (with_reducible apply LS.isi_str_str)
  | (with_reducible apply LS.isi_bool_int)
  | (with_reducible apply LS.isi_bool_bool)
  | (with_reducible apply LS.isi_bool_str)
  | (with_reducible apply LS.isi_non_int)
  | (with_reducible apply LS.isi_non_bool)
  | (with_reducible apply LS.isi_non_str)
  | ((with_reducible apply LS.isi_list_int); array_mem_dec)
  | ((with_reducible apply LS.isi_list_bool); array_mem_dec)
  | ((with_reducible apply LS.isi_list_str); array_mem_dec)
  | ((with_reducible apply LS.isi_list_list); array_mem_dec)
  | ((with_reducible apply LS.isi_list_tuple); array_mem_dec)
  | ((with_reducible apply LS.isi_tuple_int); array_mem_dec)
  | ((with_reducible apply LS.isi_tuple_bool); array_mem_dec)
  | ((with_reducible apply LS.isi_tuple_str); array_mem_dec)
  | ((with_reducible apply LS.isi_tuple_list); array_mem_dec)
  | ((with_reducible apply LS.isi_tuple_tuple); array_mem_dec)
  | ((with_reducible apply LS.isiT_i); array_mem_dec)
  | ((with_reducible apply LS.isiT_s); array_mem_dec)
  | ((with_reducible apply LS.isiT_E); array_mem_dec; array_mem_dec)
  | (with_reducible apply LS.tfld)
  | ((with_reducible apply LS.k_fl); array_mem_dec; assumption; assumption; exact rfl)
  | (with_reducible apply LS.tmeth)
  | ((with_reducible apply LS.k_me); array_mem_dec; exact rfl)
  | (with_reducible apply LS.tmake)
  | (with_reducible apply LS.tsfld)
  | (with_reducible apply LS.tprop)
  | ((with_reducible apply LS.k_pr); array_mem_dec)
  | ((with_reducible apply LS.rlen_own); array_mem_dec)
  | (with_reducible apply LS.rabs)
  | (with_reducible apply LS.rmin2)
  | (with_reducible apply LS.rmax2)
  | (with_reducible apply LS.tsl)
  | (with_reducible apply LS.tthen)
  | (with_reducible apply LS.tstep)
  | (with_reducible apply LS.tnop)
  | (with_reducible apply LS.tpart)
  | (with_reducible apply LS.k_part)
  | (with_reducible apply LS.ttup)
  | (with_reducible apply LS.tlst)
  | (with_reducible apply LS.tbm)
  | (with_reducible apply LS.tbm0)
  | ((with_reducible apply LS.ty_l); array_mem_dec)
  | (with_reducible apply LS.tpar)
  | (with_reducible apply LS.tfor)
  | (with_reducible apply LS.tlc)
  | (with_reducible apply LS.ilist)
  | ((with_reducible apply LS.k_il); array_mem_dec)
  | (with_reducible apply LS.itup)
  | ((with_reducible apply LS.k_it); array_mem_dec)
  | (with_reducible apply LS.istr)
  | (with_reducible apply LS.k_is)
  | (with_reducible apply LS.irng1)
  | ((with_reducible apply LS.k_r1n); omega)
  | ((with_reducible apply LS.k_r1); (first | omega | decide); (first | omega | decide))
  | (with_reducible apply LS.irng2)
  | ((with_reducible apply LS.k_r2); (first | omega | decide); (first | omega | decide); (first | omega | decide); (first | omega | decide))
  | (with_reducible apply LS.ienum)
  | ((with_reducible apply LS.k_en); array_mem_dec)
  | (with_reducible apply LS.izip)
  | ((with_reducible apply LS.k_zip); array_mem_dec; array_mem_dec)
  | (with_reducible apply LS.tlstrg)
  | (with_reducible apply LS.trg1)
  | (with_reducible apply LS.k_g1)
  | (with_reducible apply LS.risn_i)
  | (with_reducible apply LS.risn_s)
  | (with_reducible apply LS.risn_n)
  | (with_reducible apply LS.rnotn_i)
  | (with_reducible apply LS.rnotn_n)
  | (with_reducible apply LS.rint_b)
  | (with_reducible apply LS.rint_i)
  | (with_reducible apply LS.tm0)
  | (with_reducible apply LS.tm1)
  | (with_reducible apply LS.is_str)
  | (with_reducible apply LS.ex_s0)
  | (with_reducible apply LS.ex_int_b)
  | (with_reducible apply LS.k_par)
  | (with_reducible apply LS.tpar3)
  | (with_reducible apply LS.k_par3)
  | ((with_reducible apply LS.taug); exact rfl)
  | (with_reducible apply LS.ipi)
  | ((with_reducible apply LS.gtup); array_mem_dec; exact rfl)
  | ((with_reducible apply LS.gunl); array_mem_dec; exact rfl)
  | (with_reducible apply LS.gnil)
  | (with_reducible apply LS.gcons)
  | (with_reducible apply LS.gsub)
  | ((with_reducible apply LS.ri); first | omega | decide | assumption | exact ⟨by decide, by decide, by decide⟩ | exact .inl ⟨by decide, by decide⟩ | exact .inr ⟨by decide, by decide⟩ | exact .inl ⟨by omega, by omega⟩ | exact .inr ⟨by omega, by omega⟩)
  | (with_reducible apply LS.ex_ss)
  | (with_reducible apply LS.ex_s1)
  | (with_reducible apply LS.ex_i1)
  | (with_reducible apply LS.and_rfl)
  | (with_reducible apply LS.and_tr)
  | (with_reducible apply LS.is_non))
local macro_rules | `(tactic| array_mem_dec) => `(tactic| first
  | ((with_reducible apply LP.lv_s); assumption; array_mem_dec)
  | ((with_reducible apply LP.lv_l); assumption; array_mem_dec; array_mem_dec; array_mem_dec)
  | ((with_reducible apply LP.lv_f); assumption; array_mem_dec; array_mem_dec; array_mem_dec)
  | ((with_reducible apply LP.lv_t); assumption; array_mem_dec; array_mem_dec; array_mem_dec)
  | ((with_reducible apply LP.ops_s); assumption; array_mem_dec)
  | ((with_reducible apply LP.md_s); assumption; array_mem_dec)
  | ((with_reducible apply LP.md_l); assumption; array_mem_dec; array_mem_dec; array_mem_dec)
  | ((with_reducible apply LP.md_f); assumption; array_mem_dec; array_mem_dec; array_mem_dec)
  | ((with_reducible apply LP.md_t); assumption; array_mem_dec; array_mem_dec; array_mem_dec)
  | ((with_reducible apply LP.al_s); assumption; array_mem_dec; array_mem_dec)
  | ((with_reducible apply LP.al_t); assumption; array_mem_dec; array_mem_dec)
  | ((with_reducible apply LP.al_l); assumption; array_mem_dec; array_mem_dec; array_mem_dec)
  | ((with_reducible apply LP.al_f); assumption; array_mem_dec; array_mem_dec; array_mem_dec)
  | ((with_reducible apply LP.Lv.lists); array_mem_dec)
  | ((with_reducible apply LP.Lv.trk); array_mem_dec)
  | ((with_reducible apply LP.Mdl.trk); array_mem_dec)
  | ((with_reducible apply LP.al_no); assumption; array_mem_dec))
local macro_rules | `(tactic| array_mem_dec) => `(tactic| first
  | ((with_reducible apply LP.sg_s); assumption; array_mem_dec)
  | ((with_reducible apply LP.sg_f); assumption; array_mem_dec; array_mem_dec)
  | ((with_reducible apply LP.sg_l); assumption; array_mem_dec; array_mem_dec)
  | ((with_reducible apply LP.sg_ne); assumption; array_mem_dec)
  | ((with_reducible apply LP.sg_ne'); assumption; array_mem_dec)
  | ((with_reducible apply LS.se_q); array_mem_dec)
  | ((with_reducible apply LS.se_u); array_mem_dec)
  | ((with_reducible apply LP.sg_no); assumption; array_mem_dec; array_mem_dec))
local macro_rules | `(tactic| array_get_dec) => `(tactic| first
  | ((with_reducible apply LS.rne_same); exact rfl)
  | ((with_reducible apply LS.req_same); exact rfl)
  | (with_reducible apply LS.trevl)
  | (with_reducible apply LS.irng3)
  | (with_reducible apply LS.risn_b)
  | ((with_reducible apply LS.isiT_n); array_mem_dec)
  | ((with_reducible apply LS.isiT_b); array_mem_dec))
local macro_rules | `(tactic| array_get_dec) => `(tactic| first
  | (with_reducible apply LS.trg2)
  | (with_reducible apply LS.k_g2))

section
variable {P : Program} {w : World} {K : PySem.W.Frag} {mg : Str → Option Value} {base : Heap}
theorem ok_is_whole (e : Env K mg) : FnOk P w K mg base CX0 1 e.a_is_whole e.d_is_whole ["value"] (sp_is_whole) := by
  refine Fun.ok e.f_is_whole sc_is_whole (fun vs H Q E h => ?_) (fun cdv A outer s H vs Q E hr h => ?_)
  · obtain ⟨n, rfl, _⟩ := h; rfl
  · obtain ⟨n, rfl, k⟩ := h
    refine ⟨_, (pss_one (ps_ret (pe_and (pe_callB call_isi (by rfl) e.n_isinstance (by decide +kernel) (pa_cons (pv 0) (pa_cons (pe_bltn (v := V.ty "int") (by rfl) e.n_int (by decide +kernel) rfl) pa_nil))) (pe_one (pe_not (pe_callB call_isi (by rfl) e.n_isinstance (by decide +kernel) (pa_cons (pv 0) (pa_cons (pe_bltn (v := V.ty "bool") (by rfl) e.n_bool (by decide +kernel) rfl) pa_nil)))))))), ?_⟩
    refine ⟨_, rfl, _, _, _, _, true, rfl, .ty "int", .base (.int n), kit_ty (by decide +kernel), _, rfl, iteT ?_⟩
    refine ⟨_, rfl, _, _, _, _, false, rfl, .ty "bool", .base (.int n), kit_ty (by decide +kernel), _, rfl, ?_⟩
    exact k
theorem ok_is_listed (e : Env K mg) : FnOk P w K mg base CX0 1 e.a_is_listed e.d_is_listed ["value"] (sp_is_listed K) := by
  refine Fun.ok e.f_is_listed sc_is_listed (fun vs H Q E h => ?_) (fun cdv A outer s H vs Q E hr h => ?_)
  · obtain ⟨a, xs, rfl, _⟩ := h; rfl
  · obtain ⟨a, xs, rfl, hx, k⟩ := h
    refine ⟨_, (pss_one (ps_ret (pe_callB call_isiT (by rfl) e.n_isinstance (by decide +kernel) (pa_cons (pv 0) (pa_cons (pe_tup (pa_cons (pe_bltn (v := V.ty "list") (by rfl) e.n_list (by decide +kernel) rfl) (pa_cons (pe_bltn (v := V.ty "tuple") (by rfl) e.n_tuple (by decide +kernel) rfl) pa_nil))) pa_nil))))), ?_⟩
    refine ⟨_, rfl, (by show 2 ≤ sizeLine; decide), fun p hp => ?_⟩
    rcases ty_E (hx.same (same_upd hp)) with hx | hx
    · exact ⟨_, p, _, .type "list", [.type "list", .type "tuple"], true, rfl, upd_same, .cons (.ty _) (.cons (.ty _) .nil), hx, kit_lt, k _ (same_upd hp)⟩
    · exact ⟨_, p, _, .type "tuple", [.type "list", .type "tuple"], true, rfl, upd_same, .cons (.ty _) (.cons (.ty _) .nil), hx, kit_tt, k _ (same_upd hp)⟩
theorem ok_is_place (e : Env K mg) : FnOk P w K mg base CX0 2 e.a_is_place e.d_is_place ["value"] (sp_is_place) := by
  refine Fun.ok e.f_is_place sc_is_place (fun vs H Q E h => ?_) (fun cdv A outer s H vs Q E hr h => ?_)
  · obtain ⟨n, rfl, _⟩ := h; rfl
  · obtain ⟨n, rfl, h1, h2, k⟩ := h
    refine ⟨_, (pss_one (ps_ret (pe_and (pe_call ((ok_is_whole e).mono (by decide)) hr rfl e.g_is_whole e.f_is_whole.kp e.b_is_whole .nil pass0 (pa_cons (pv 0) pa_nil)) (pe_one (pe_chain op_le op_le pe_int (pv 0) (pe_glob (v := V.int 1000000000000000000000000000000) rfl e.g_GREATEST_PLACE ⟨_, rfl⟩)))))), ?_⟩
    refine ⟨_, rfl, n, rfl, _, rfl, iteT ?_⟩
    refine ⟨_, rfl, _, _, rfl, rfl, _, rfl, iteD h1 ?_⟩
    refine ⟨_, _, rfl, rfl, ?_⟩
    show Q (V.bl (decide (n ≤ 1000000000000000000000000000000))) H
    rw [decide_eq_true (show n ≤ 1000000000000000000000000000000 from h2)]
    exact k
theorem all_bl {bs : List Bool} (h : ∀ b ∈ bs, b = true) : bs.all id = true := List.all_eq_true.mpr h
theorem ok_is_place_list (e : Env K mg) : FnOk P w K mg base CX0 3 e.a_is_place_list e.d_is_place_list ["value"] (sp_is_place_list K) := by
  refine Fun.ok e.f_is_place_list sc_is_place_list (fun vs H Q E h => ?_) (fun cdv A outer s H vs Q E hr h => ?_)
  · obtain ⟨a, ns, rfl, _⟩ := h; rfl
  · obtain ⟨a, ns, rfl, hE, pl, k⟩ := h
    refine ⟨_, (pss_cons (ps_if (PW.pt (pw_or (pt_not (pt_val (pe_call ((ok_is_listed e).mono (by decide)) hr rfl e.g_is_listed e.f_is_listed.kp e.b_is_listed .nil pass0 (pa_cons (pv 0) pa_nil)))) (pw_or1 (pt_cmpR op_gt (pe_callB LS.call_len (by rfl) e.n_len PySem.boot_len (pa_cons (pv 0) pa_nil)) (pe_glob (v := V.int 200) rfl e.g_MOST_PLACES ⟨_, rfl⟩) (nomark _)))))
        (pss_one (ps_ret pe_bl))
        pss_nil)
      (pss_one (ps_ret (pe_and (pe_callB (cr_all rfl) (by rfl) e.n_all (by decide +kernel) (pa_cons (pe_lc (own := [("item", 1)]) rfl sc_is_place_list.nd (PI.or (pi_list (pv 0)) (pi_tup (pv 0))) (blkOk_by (N := ["value", "item"]) (sc := defScope s_is_place_list) (by decide +kernel)) (fun _ _ _ _ _ => (pg_name (i := 1) sc_is_place_list.nd rfl (by first | exact Or.inl rfl | exact Or.inr rfl))) (fun _ _ _ _ _ => pts_nil) (fun _ _ _ _ _ => (pe_call ((ok_is_place e).mono (by decide)) hr rfl e.g_is_place e.f_is_place.kp e.b_is_place .nil pass0 (pa_cons (pv 1) pa_nil)))) pa_nil)) (pe_one (pe_cmpR op_eq (pe_lenSetS (by rfl) e.n_len (by rfl) e.n_set (pv 0)) (pe_callB LS.call_len (by rfl) e.n_len PySem.boot_len (pa_cons (pv 0) pa_nil)) (nomark _))))))), ?_⟩
    refine ⟨_, rfl, a, _, rfl, hE, fun H1 s1 => ⟨true, rfl, iteNB rfl ?_⟩⟩
    have hE1 := hE.same s1
    have hle := pl.le
    refine ⟨_, rfl, a, _, rfl, hE1, _, _, rfl, rfl, _, rfl, iteX (by rw [List.length_map]; omega) ?_⟩
    refine or_E hE1 rfl fun J G wk hG D hD => ?_
    have sD : ∀ o, Same H1 (upd H1 D o) := fun o => same_upd hD
    refine lc_it wk (fun j H' => H' = upd H1 D (.lst (List.replicate j (V.bl true)))) rfl (fun j H' _ h => by subst h; exact hG _ (sD _)) ?_ ?_
    · rintro j x H2 H3 hj rfl ⟨rfl, hx⟩
      obtain ⟨n, hn, rfl⟩ := at_int hx
      obtain ⟨h0, h1⟩ := pl.rg n (List.mem_of_getElem? hn)
      rw [List.length_map] at hj
      refine ⟨rfl, _, rfl, n, rfl, h0, h1, _, upd_same, ?_, ?_⟩
      · rw [List.length_replicate]; exact small1000 (by omega)
      · rw [upd_upd, ← List.replicate_succ']
    · rintro H2 rfl
      have hb : List.replicate (List.map V.int ns).length (V.bl true) = (List.replicate ns.length true).map V.bl := by rw [List.length_map, List.map_replicate]
      refine ⟨D, List.replicate ns.length true, rfl, SqL.of (by rw [upd_same, hb]), true, ?_, iteT ?_⟩
      · rw [all_bl fun b hb => (List.mem_replicate.mp hb).2]
      have hE2 := hE1.same (sD (.lst (List.replicate (List.map V.int ns).length (V.bl true))))
      refine ⟨_, rfl, a, ns, rfl, hE2, pl.nd, by omega, ?_⟩
      refine ⟨_, rfl, a, _, rfl, hE2, rfl, ?_⟩
      rw [List.length_map, decide_eq_true rfl]
      have s2 : Same H (upd H1 D (.lst (List.replicate (List.map V.int ns).length (V.bl true)))) := s1.trans (sD _)
      rw [List.length_map] at s2
      exact k _ s2
theorem pl_ord {n : Nat} {o : List Int} (h : Ord n o) (hn : n ≤ 200) : Pl o := ⟨h.p.nodup_iff.mpr (rangeI_nodup n), fun x hx => by have := h.rg hx; unfold G30; omega, by rw [h.len]; exact hn⟩
def sp_is_full_list (K : PySem.W.Frag) : Sp := fun vs H Q _ => ∃ (a : Addr) (ns : List Int) (n : Nat), vs = [.ref a] ∧ Is K H a ns ∧ Ord n ns ∧ 1 ≤ n ∧ n ≤ 200 ∧ ∀ H', Same H H' → Q (.bl true) H'
def sp_check_order (K : PySem.W.Frag) : Sp := fun vs H Q _ => ∃ (a : Addr) (ns : List Int) (n : Nat), vs = [.ref a] ∧ Is K H a ns ∧ Ord n ns ∧ 1 ≤ n ∧ n ≤ 200 ∧ ∀ H', Same H H' → Q .non H'
theorem ok_is_full_list (e : Env K mg) : FnOk P w K mg base CX0 4 e.a_is_full_list e.d_is_full_list ["value"] (sp_is_full_list K) := by
  refine Fun.ok e.f_is_full_list sc_is_full_list (fun vs H Q E h => ?_) (fun cdv A outer s H vs Q E hr h => ?_)
  · obtain ⟨a, ns, n, rfl, _⟩ := h; rfl
  · obtain ⟨a, ns, n, rfl, hE, ho, h1, h2, k⟩ := h
    refine ⟨_, (pss_one (ps_ret (pe_and (pe_call ((ok_is_place_list e).mono (by decide)) hr rfl e.g_is_place_list e.f_is_place_list.kp e.b_is_place_list .nil pass0 (pa_cons (pv 0) pa_nil)) (pe_and (pe_cmpR op_gt (pe_callB LS.call_len (by rfl) e.n_len PySem.boot_len (pa_cons (pv 0) pa_nil)) pe_int (nomark _)) (pe_one (pe_cmpR op_eq (pe_callB (LX.cr_maxE rfl) (by rfl) e.n_max (by decide +kernel) (pa_cons (pv 0) pa_nil)) (pe_op op_sub (pe_callB LS.call_len (by rfl) e.n_len PySem.boot_len (pa_cons (pv 0) pa_nil)) pe_int) (nomark _))))))), ?_⟩
    have hl := ho.len
    repeat array_get_dec
    refine ⟨a, ns, rfl, hE, pl_ord ho h2, fun H1 s1 => ?_⟩
    repeat array_get_dec
    rw [decide_eq_true (by omega)]
    repeat array_get_dec
    refine LS.rmaxe (ns := ns) (by array_mem_dec) (by intro e; rw [e] at hl; simp at hl; omega) fun m hm hy => ?_
    have e : m = (ns.length : Int) - 1 := by
      have r := ho.rg hm
      have := hy ((n : Int) - 1) (ho.p.symm.subset (mem_rangeI.mpr (by omega)))
      omega
    repeat array_get_dec
    rw [decide_eq_true e]
    exact k _ s1
theorem ok_check_order (e : Env K mg) : FnOk P w K mg base CX0 5 e.a_check_order e.d_check_order ["value"] (sp_check_order K) := by
  refine Fun.ok e.f_check_order sc_check_order (fun vs H Q E h => ?_) (fun cdv A outer s H vs Q E hr h => ?_)
  · obtain ⟨a, ns, n, rfl, _⟩ := h; rfl
  · obtain ⟨a, ns, n, rfl, hE, ho, h1, h2, k⟩ := h
    refine ⟨_, (pss_one (ps_if (pt_not (pt_val (pe_call ((ok_is_full_list e).mono (by decide)) hr rfl e.g_is_full_list e.f_is_full_list.kp e.b_is_full_list .nil pass0 (pa_cons (pv 0) pa_nil))))
        (pss_one ps_never)
        pss_nil)), ?_⟩
    repeat array_get_dec
    refine ⟨a, ns, n, rfl, hE, ho, h1, h2, fun H1 s1 => ?_⟩
    repeat array_get_dec
    exact k _ s1
end
end LP

namespace LP
open PySem L2 LT LG LQ LH LC LX LR
local macro_rules | `(tactic| array_mem_dec) => `(tactic| first
  | assumption
  | ((with_reducible apply LS.hp_s); assumption; array_mem_dec)
  | ((with_reducible apply LS.hp_f); assumption; array_mem_dec; array_mem_dec)
  | ((with_reducible apply LS.hp_t); assumption; array_mem_dec; array_mem_dec)
  | ((with_reducible apply LS.hp_l); assumption; array_mem_dec; array_mem_dec)
  | ((with_reducible apply LS.sq_o); array_mem_dec)
  | ((with_reducible apply LS.sq_s); assumption; array_mem_dec)
  | ((with_reducible apply LS.sq_f); assumption; array_mem_dec; array_mem_dec)
  | ((with_reducible apply LS.sq_t); assumption; array_mem_dec; array_mem_dec)
  | ((with_reducible apply LS.sq_l); assumption; array_mem_dec; array_mem_dec)
  | ((with_reducible apply LS.tu_o); array_mem_dec)
  | ((with_reducible apply LS.tu_s); assumption; array_mem_dec)
  | ((with_reducible apply LS.tu_f); assumption; array_mem_dec; array_mem_dec)
  | ((with_reducible apply LS.tu_t); assumption; array_mem_dec; array_mem_dec)
  | ((with_reducible apply LS.tu_l); assumption; array_mem_dec; array_mem_dec)
  | ((with_reducible apply LS.se_l); array_mem_dec)
  | ((with_reducible apply LS.se_t); array_mem_dec)
  | ((with_reducible apply LS.se_s); assumption; array_mem_dec)
  | ((with_reducible apply LS.se_f); assumption; array_mem_dec; array_mem_dec)
  | ((with_reducible apply LS.se_tt); assumption; array_mem_dec; array_mem_dec)
  | ((with_reducible exact Same.refl _))
  | ((with_reducible apply LS.sm_s); assumption; array_mem_dec)
  | ((with_reducible apply LS.sm_f); assumption; array_mem_dec; array_mem_dec)
  | ((with_reducible exact Fr.refl _ _))
  | ((with_reducible apply LS.fr_b); assumption; array_mem_dec)
  | ((with_reducible apply LS.fr_s); assumption; array_mem_dec)
  | ((with_reducible apply LS.fr_n); assumption; array_mem_dec; array_mem_dec)
  | ((with_reducible apply LS.fr_t); assumption; array_mem_dec)
  | ((with_reducible apply LS.no_s); assumption; array_mem_dec)
  | ((with_reducible apply LS.no_f); assumption; array_mem_dec; array_mem_dec)
  | ((with_reducible apply LS.no_t); assumption; array_mem_dec)
  | ((with_reducible apply LS.no_l); assumption; assumption)
  | ((with_reducible apply Ne.symm); assumption)
  | ((with_reducible apply LS.ne_a); assumption; array_mem_dec)
  | ((with_reducible apply LS.ne_b); assumption; array_mem_dec)
  | ((with_reducible apply LS.ne_ap); assumption)
  | ((with_reducible apply LS.ne_il); assumption; array_mem_dec)
  | ((with_reducible apply LS.ne_li); assumption; array_mem_dec)
  | ((with_reducible apply LS.ne_lt); assumption; assumption)
  | ((with_reducible apply LS.ne_tl); assumption; assumption)
  | ((with_reducible apply LS.ne_rl); assumption; array_mem_dec)
  | ((with_reducible apply LS.rl_t); assumption)
  | ((with_reducible apply LS.rl_s); assumption; array_mem_dec)
  | ((with_reducible apply LS.rl_f); assumption; array_mem_dec; array_mem_dec)
  | ((with_reducible apply LS.rl_l); assumption; array_mem_dec; array_mem_dec)
  | ((with_reducible apply LS.ap_new); assumption; assumption; array_mem_dec)
  | ((with_reducible apply LS.ap_t); assumption; array_mem_dec; array_mem_dec)
  | ((with_reducible apply LS.ap_s); assumption; array_mem_dec; array_mem_dec)
  | ((with_reducible apply LS.ap_f); assumption; array_mem_dec; array_mem_dec; array_mem_dec)
  | ((with_reducible apply LS.ap_l); assumption; array_mem_dec; array_mem_dec; array_mem_dec)
  | (with_reducible apply LS.ni_nil)
  | ((with_reducible apply LS.ni_cons); array_mem_dec; array_mem_dec)
  | (with_reducible apply LS.trk_nil)
  | ((with_reducible apply LS.trk_cons); array_mem_dec; array_mem_dec)
  | (with_reducible apply LS.al_nil)
  | ((with_reducible apply LS.al_cons); array_mem_dec; array_mem_dec)
  | (with_reducible apply LS.mem_hd)
  | ((with_reducible apply LS.mem_tl); array_mem_dec)
  | ((with_reducible apply LS.fl_refl); array_mem_dec)
  | ((with_reducible apply LS.fl_l); assumption; array_mem_dec)
  | ((with_reducible apply LS.fl_lm); assumption; array_mem_dec; array_mem_dec)
  | (with_reducible apply LS.sub_nil)
  | ((with_reducible apply LS.sub_cons); array_mem_dec; array_mem_dec)
  | ((with_reducible apply LS.fl_s); assumption; array_mem_dec)
  | ((with_reducible apply LS.fl_m); assumption; array_mem_dec; array_mem_dec; array_mem_dec)
  | ((with_reducible apply LS.fl_n); assumption; array_mem_dec; array_mem_dec; array_mem_dec)
  | ((with_reducible apply LS.rt_refl); array_mem_dec)
  | ((with_reducible apply LS.rt_t); assumption; array_mem_dec)
  | ((with_reducible apply LS.rt_s); assumption; array_mem_dec)
  | ((with_reducible apply LS.rt_f); assumption; array_mem_dec; array_mem_dec; array_mem_dec)
  | ((with_reducible apply LS.sz); (first | decide | (simp only [List.length_append, List.length_map, List.length_cons, List.length_nil, List.length_replicate]; omega)))
  | ((with_reducible apply LS.szl); (first | decide | (simp only [List.length_append, List.length_map, List.length_cons, List.length_nil, List.length_replicate]; omega))))
local macro_rules | `(tactic| array_get_dec) => `(tactic| first
  | ((with_reducible apply LS.var); exact rfl)
  | (with_reducible apply LS.con)
  | (with_reducible apply LS.op)
  | (with_reducible apply LS.ri0)
  | (with_reducible apply LS.tseq)
  | (with_reducible apply LS.tasg)
  | (with_reducible apply LS.gname)
  | (with_reducible apply LS.tcons)
  | (with_reducible apply LS.tnil)
  | (with_reducible apply LS.tcb)
  | (with_reducible apply LS.tcall)
  | (with_reducible apply LS.ttest)
  | (with_reducible apply LS.k_b)
  | (with_reducible apply LS.tb)
  | (with_reducible apply LS.tifs)
  | (with_reducible apply LS.ift)
  | (with_reducible apply LS.iff_)
  | (with_reducible apply LS.ifnt)
  | (with_reducible apply LS.ifnf)
  | (with_reducible apply LS.tnext)
  | (with_reducible apply LS.tdrop)
  | (with_reducible apply LS.tret)
  | (with_reducible apply LS.tretn)
  | (with_reducible apply LS.un)
  | (with_reducible apply LS.ru)
  | (with_reducible apply LS.tyes)
  | (with_reducible apply LS.tand)
  | (with_reducible apply LS.tor)
  | (with_reducible apply LS.tnot)
  | (with_reducible apply LS.tif)
  | (with_reducible apply LS.tandv)
  | (with_reducible apply LS.k_av)
  | (with_reducible apply LS.torv)
  | (with_reducible apply LS.k_ov)
  | (with_reducible apply LS.tnotv)
  | (with_reducible apply LS.k_nv)
  | (with_reducible apply LS.tchain)
  | (with_reducible apply LS.k_ch)
  | (with_reducible apply LS.req_i)
  | (with_reducible apply LS.rne_i)
  | (with_reducible apply LS.req_s)
  | (with_reducible apply LS.rne_s)
  | (with_reducible apply LS.req_b)
  | (with_reducible apply LS.rne_b)
  | ((with_reducible apply LS.rin_i); array_mem_dec)
  | ((with_reducible apply LS.rni_i); array_mem_dec)
  | ((with_reducible apply LS.rlen_li); array_mem_dec)
  | ((with_reducible apply LS.rlen_ls); array_mem_dec)
  | ((with_reducible apply LS.rlen_l); array_mem_dec)
  | ((with_reducible apply LS.rlen_Ei); array_mem_dec)
  | ((with_reducible apply LS.rlen_E); array_mem_dec)
  | ((with_reducible apply LS.rlen_t); array_mem_dec)
  | ((with_reducible apply LS.rixl); array_mem_dec; exact rfl)
  | ((with_reducible apply LS.rixt); array_mem_dec; exact rfl)
  | (with_reducible apply LS.isi_int_int)
  | (with_reducible apply LS.isi_int_bool)
  | (with_reducible apply LS.isi_int_str)
  | (with_reducible apply LS.isi_str_int)
  | (with_reducible apply LS.isi_str_bool)
  | (with_reducible apply LS.isi_str_str)
  | (with_reducible apply LS.isi_bool_int)
  | (with_reducible apply LS.isi_bool_bool)
  | (with_reducible apply LS.isi_bool_str)
  | (with_reducible apply LS.isi_non_int)
  | (with_reducible apply LS.isi_non_bool)
  | (with_reducible apply LS.isi_non_str)
  | ((with_reducible apply LS.isi_list_int); array_mem_dec)
  | ((with_reducible apply LS.isi_list_bool); array_mem_dec)
  | ((with_reducible apply LS.isi_list_str); array_mem_dec)
  | ((with_reducible apply LS.isi_list_list); array_mem_dec)
  | ((with_reducible apply LS.isi_list_tuple); array_mem_dec)
  | ((with_reducible apply LS.isi_tuple_int); array_mem_dec)
  | ((with_reducible apply LS.isi_tuple_bool); array_mem_dec)
  | ((with_reducible apply LS.isi_tuple_str); array_mem_dec)
  | ((with_reducible apply LS.isi_tuple_list); array_mem_dec)
  | ((with_reducible apply LS.isi_tuple_tuple); array_mem_dec)
  | ((with_reducible apply LS.isiT_i); array_mem_dec)
  | ((with_reducible apply LS.isiT_s); array_mem_dec)
  | ((with_reducible apply LS.isiT_E); array_mem_dec; array_mem_dec)
  | (with_reducible apply LS.tfld)
  | ((with_reducible apply LS.k_fl); array_mem_dec; assumption; assumption; exact rfl)
  | (with_reducible apply LS.tmeth)
  | ((with_reducible apply LS.k_me); array_mem_dec; exact rfl)
  | (with_reducible apply LS.tmake)
  | (with_reducible apply LS.tsfld)
  | (with_reducible apply LS.tprop)
  | ((with_reducible apply LS.k_pr); array_mem_dec)
  | ((with_reducible apply LS.rlen_own); array_mem_dec)
  | (with_reducible apply LS.rabs)
  | (with_reducible apply LS.rmin2)
  | (with_reducible apply LS.rmax2)
  | (with_reducible apply LS.tsl)
  | (with_reducible apply LS.tthen)
  | (with_reducible apply LS.tstep)
  | (with_reducible apply LS.tnop)
  | (with_reducible apply LS.tpart)
  | (with_reducible apply LS.k_part)
  | (with_reducible apply LS.ttup)
  | (with_reducible apply LS.tlst)
  | (with_reducible apply LS.tbm)
  | (with_reducible apply LS.tbm0)
  | ((with_reducible apply LS.ty_l); array_mem_dec)
  | (with_reducible apply LS.tpar)
  | (with_reducible apply LS.tfor)
  | (with_reducible apply LS.tlc)
  | (with_reducible apply LS.ilist)
  | ((with_reducible apply LS.k_il); array_mem_dec)
  | (with_reducible apply LS.itup)
  | ((with_reducible apply LS.k_it); array_mem_dec)
  | (with_reducible apply LS.istr)
  | (with_reducible apply LS.k_is)
  | (with_reducible apply LS.irng1)
  | ((with_reducible apply LS.k_r1n); omega)
  | ((with_reducible apply LS.k_r1); (first | omega | decide); (first | omega | decide))
  | (with_reducible apply LS.irng2)
  | ((with_reducible apply LS.k_r2); (first | omega | decide); (first | omega | decide); (first | omega | decide); (first | omega | decide))
  | (with_reducible apply LS.ienum)
  | ((with_reducible apply LS.k_en); array_mem_dec)
  | (with_reducible apply LS.izip)
  | ((with_reducible apply LS.k_zip); array_mem_dec; array_mem_dec)
  | (with_reducible apply LS.tlstrg)
  | (with_reducible apply LS.trg1)
  | (with_reducible apply LS.k_g1)
  | (with_reducible apply LS.risn_i)
  | (with_reducible apply LS.risn_s)
  | (with_reducible apply LS.risn_n)
  | (with_reducible apply LS.rnotn_i)
  | (with_reducible apply LS.rnotn_n)
  | (with_reducible apply LS.rint_b)
  | (with_reducible apply LS.rint_i)
  | (with_reducible apply LS.tm0)
  | (with_reducible apply LS.tm1)
  | (with_reducible apply LS.is_str)
  | (with_reducible apply LS.ex_s0)
  | (with_reducible apply LS.ex_int_b)
  | (with_reducible apply LS.k_par)
  | (with_reducible apply LS.tpar3)
  | (with_reducible apply LS.k_par3)
  | ((with_reducible apply LS.taug); exact rfl)
  | (with_reducible apply LS.ipi)
  | ((with_reducible apply LS.gtup); array_mem_dec; exact rfl)
  | ((with_reducible apply LS.gunl); array_mem_dec; exact rfl)
  | (with_reducible apply LS.gnil)
  | (with_reducible apply LS.gcons)
  | (with_reducible apply LS.gsub)
  | ((with_reducible apply LS.ri); first | omega | decide | assumption | exact ⟨by decide, by decide, by decide⟩ | exact .inl ⟨by decide, by decide⟩ | exact .inr ⟨by decide, by decide⟩ | exact .inl ⟨by omega, by omega⟩ | exact .inr ⟨by omega, by omega⟩)
  | (with_reducible apply LS.ex_ss)
  | (with_reducible apply LS.ex_s1)
  | (with_reducible apply LS.ex_i1)
  | (with_reducible apply LS.and_rfl)
  | (with_reducible apply LS.and_tr)
  | (with_reducible apply LS.is_non))
local macro_rules | `(tactic| array_mem_dec) => `(tactic| first
  | ((with_reducible apply LP.lv_s); assumption; array_mem_dec)
  | ((with_reducible apply LP.lv_l); assumption; array_mem_dec; array_mem_dec; array_mem_dec)
  | ((with_reducible apply LP.lv_f); assumption; array_mem_dec; array_mem_dec; array_mem_dec)
  | ((with_reducible apply LP.lv_t); assumption; array_mem_dec; array_mem_dec; array_mem_dec)
  | ((with_reducible apply LP.ops_s); assumption; array_mem_dec)
  | ((with_reducible apply LP.md_s); assumption; array_mem_dec)
  | ((with_reducible apply LP.md_l); assumption; array_mem_dec; array_mem_dec; array_mem_dec)
  | ((with_reducible apply LP.md_f); assumption; array_mem_dec; array_mem_dec; array_mem_dec)
  | ((with_reducible apply LP.md_t); assumption; array_mem_dec; array_mem_dec; array_mem_dec)
  | ((with_reducible apply LP.al_s); assumption; array_mem_dec; array_mem_dec)
  | ((with_reducible apply LP.al_t); assumption; array_mem_dec; array_mem_dec)
  | ((with_reducible apply LP.al_l); assumption; array_mem_dec; array_mem_dec; array_mem_dec)
  | ((with_reducible apply LP.al_f); assumption; array_mem_dec; array_mem_dec; array_mem_dec)
  | ((with_reducible apply LP.Lv.lists); array_mem_dec)
  | ((with_reducible apply LP.Lv.trk); array_mem_dec)
  | ((with_reducible apply LP.Mdl.trk); array_mem_dec)
  | ((with_reducible apply LP.al_no); assumption; array_mem_dec))
local macro_rules | `(tactic| array_mem_dec) => `(tactic| first
  | ((with_reducible apply LP.sg_s); assumption; array_mem_dec)
  | ((with_reducible apply LP.sg_f); assumption; array_mem_dec; array_mem_dec)
  | ((with_reducible apply LP.sg_l); assumption; array_mem_dec; array_mem_dec)
  | ((with_reducible apply LP.sg_ne); assumption; array_mem_dec)
  | ((with_reducible apply LP.sg_ne'); assumption; array_mem_dec)
  | ((with_reducible apply LS.se_q); array_mem_dec)
  | ((with_reducible apply LS.se_u); array_mem_dec)
  | ((with_reducible apply LP.sg_no); assumption; array_mem_dec; array_mem_dec))
local macro_rules | `(tactic| array_get_dec) => `(tactic| first
  | ((with_reducible apply LS.rne_same); exact rfl)
  | ((with_reducible apply LS.req_same); exact rfl)
  | (with_reducible apply LS.trevl)
  | (with_reducible apply LS.irng3)
  | (with_reducible apply LS.risn_b)
  | ((with_reducible apply LS.isiT_n); array_mem_dec)
  | ((with_reducible apply LS.isiT_b); array_mem_dec))
local macro_rules | `(tactic| array_get_dec) => `(tactic| first
  | (with_reducible apply LS.trg2)
  | (with_reducible apply LS.k_g2))

section
variable {P : Program} {w : World} {K : PySem.W.Frag} {mg : Str → Option Value} {base : Heap}

theorem cut_63 {xs : List V} (h : xs.length ≤ 63) : cutV xs none (some (63 : Int)) = xs := by
  rw [show (63 : Int) = ((63 : Nat) : Int) from rfl, LS.cut_to, List.take_of_length_le h]
theorem log_add {a b : Nat} {k : Nat} (ha : a < 2 ^ k) (hb : b < 2 ^ k) : a + b < 2 ^ (k + 1) := by rw [Nat.pow_succ]; omega
theorem log_lt {t : Int} {k : Nat} (h0 : 0 ≤ t) (h1 : t < 2 ^ k) : t.natAbs.log2 < k + 1 := by
  by_cases z : t.natAbs = 0
  · rw [z]; show Nat.log2 0 < k + 1; rw [show Nat.log2 0 = 0 by decide]; omega
  · have : t.natAbs < 2 ^ k := by
      have : ((t.natAbs : Nat) : Int) < ((2 ^ k : Nat) : Int) := by rw [Int.natAbs_of_nonneg h0]; simpa using h1
      omega
    exact Nat.lt_succ_of_lt ((Nat.log2_lt z).mpr this)
theorem ok__law_spring (e : Env K mg) : FnOk P w K mg base CX0 1 e.a__law_spring e.d__law_spring ["script"] (sp__law_spring K) := by
  refine Fun.ok e.f__law_spring sc__law_spring (fun vs H Q E h => ?_) (fun cdv A outer s H vs Q E hr h => ?_)
  · obtain ⟨a, ns, rfl, _⟩ := h; rfl
  · obtain ⟨a, ns, rfl, hS, hl, k⟩ := h
    refine ⟨_, (pss_cons (ps_set (i := 1) sc__law_spring.nd rfl (by first | exact Or.inl rfl | exact Or.inr rfl) pe_int)
      (pss_cons (ps_set (i := 2) sc__law_spring.nd rfl (by first | exact Or.inl rfl | exact Or.inr rfl) pe_int)
      (pss_cons (ps_for PassesOwn.never rfl (pi_list (pe_slice sl_list (pv 0) po_none (po_some pe_int))) (pg_name (i := 3) sc__law_spring.nd rfl (by first | exact Or.inl rfl | exact Or.inr rfl))
      (pss_cons (ps_if (pt_cmpR op_ge (pe_callB LS.call_abs (by rfl) e.n_abs (by decide +kernel) (pa_cons (pv 3) pa_nil)) (pe_op op_pow pe_int pe_int) (nomark _))
        (pss_one (ps_set (i := 1) sc__law_spring.nd rfl (by first | exact Or.inl rfl | exact Or.inr rfl) (pe_op op_add (pe_op op_mulW (pv 1) (pe_op op_pow pe_int pe_int)) (pe_op op_mod (pe_callB LS.call_abs (by rfl) e.n_abs (by decide +kernel) (pa_cons (pv 3) pa_nil)) (pe_op op_pow pe_int pe_int)))))
        pss_nil)
      (pss_one (ps_set (i := 2) sc__law_spring.nd rfl (by first | exact Or.inl rfl | exact Or.inr rfl) (pe_op op_mod (pe_op op_add (pe_op op_add (pe_op op_mulW (pv 2) pe_int) (pe_op op_mod (pv 3) pe_int)) pe_int) pe_int)))))
      (pss_one (ps_ret (pe_lst (pa_cons (pv 1) (pa_cons (pv 2) (pa_cons pe_int pa_nil))))))))), ?_⟩
    have hl2 : (ns.map V.int).length ≤ 63 := by rw [List.length_map]; exact hl
    repeat array_get_dec
    refine LS.rsll (xs := ns.map V.int) (by array_mem_dec) fun p H1 np s1 hp => ?_
    rw [cut_63 hl2] at hp
    repeat array_get_dec
    refine LS.for_ (walk_list (xs := ns.map V.int)) (fun i σ H' => ∃ (g t : Int) (v : Option V), 0 ≤ g ∧ g < 2 ^ (200 * i) ∧ 0 ≤ t ∧ t < 2 ^ 61 ∧ H' = H1 ∧ σ = [some (.ref a), some (.int g), some (.int t), v]) ⟨0, 88651, _, by decide, by decide, by decide, by decide, rfl, rfl⟩ (fun i σ H' _ ⟨_, _, _, _, _, _, _, e, _⟩ => by rw [e]; exact SqL.of hp) ?_ ?_
    · rintro i x σ H2 H3 hi ⟨g, t, v, g0, g1, t0, t1, rfl, rfl⟩ ⟨rfl, hx⟩
      obtain ⟨c, hc, rfl⟩ := at_int hx
      rw [List.length_map] at hi
      repeat array_get_dec
      refine LS.if_join (fun σ H' => ∃ g' : Int, 0 ≤ g' ∧ g' < 2 ^ (200 * (i + 1)) ∧ H' = H3 ∧ σ = [some (.ref a), some (.int g'), some (.int t), some (.int c)]) (fun _ D' _ kk => ?_) (fun _ D' _ kk => ?_) ?_
      · repeat array_get_dec
        refine LS.ri (by
          have := log_lt g0 g1
          show _ + Nat.log2 (10 ^ 60) < 1000000
          have e : Nat.log2 (10 ^ 60) < 300 := by decide +kernel
          omega) ?_
        repeat array_get_dec
        refine kk _ _ ⟨g * 10 ^ 60 + (c.natAbs : Int) % 10 ^ 60, ?_, ?_, rfl, rfl⟩
        · have := Int.emod_nonneg (c.natAbs : Int) (show (10 : Int) ^ 60 ≠ 0 by decide)
          have : 0 ≤ g * 10 ^ 60 := Int.mul_nonneg g0 (by decide)
          omega
        · have h1 := Int.emod_lt_of_pos (c.natAbs : Int) (show (0 : Int) < 10 ^ 60 by decide)
          have h2 : (g + 1) * 10 ^ 60 ≤ 2 ^ (200 * i) * 10 ^ 60 := Int.mul_le_mul_of_nonneg_right (by omega) (by decide)
          have h3 : (2 : Int) ^ (200 * i) * 10 ^ 60 ≤ 2 ^ (200 * i) * 2 ^ 200 := Int.mul_le_mul_of_nonneg_left (by decide) (Int.le_of_lt (Int.pow_pos (by decide)))
          have h4 : (2 : Int) ^ (200 * (i + 1)) = 2 ^ (200 * i) * 2 ^ 200 := by rw [← Int.pow_add, Nat.mul_succ]
          rw [h4]
          rw [Int.add_mul] at h2
          omega
      · refine kk _ _ ⟨g, g0, Int.lt_of_lt_of_le g1 ?_, rfl, rfl⟩
        have h3 : (2 : Int) ^ (200 * i) * 1 ≤ 2 ^ (200 * i) * 2 ^ 200 := Int.mul_le_mul_of_nonneg_left (by decide) (Int.le_of_lt (Int.pow_pos (by decide)))
        have h4 : (2 : Int) ^ (200 * (i + 1)) = 2 ^ (200 * i) * 2 ^ 200 := by rw [← Int.pow_add, Nat.mul_succ]
        rw [h4]; omega
      · rintro σ H' ⟨g', g0', g1', rfl, rfl⟩
        repeat array_get_dec
        refine LS.ri (by
          have := log_lt t0 t1
          show _ + Nat.log2 69069 < 1000000
          have e : Nat.log2 69069 < 300 := by decide +kernel
          omega) ?_
        repeat array_get_dec
        exact ⟨g', _, _, g0', g1', Int.emod_nonneg _ (by decide), Int.lt_of_lt_of_le (Int.emod_lt_of_pos _ (by decide)) (by decide), rfl, rfl⟩
    · rintro σ H2 ⟨g, t, v, g0, g1, t0, t1, rfl, rfl⟩
      repeat array_get_dec
      refine LS.k_lst (by array_mem_dec) fun b H3 nb s3 hb => ?_
      exact k H3 b (by array_mem_dec) (by array_mem_dec) ⟨⟨g, t, 0, hb, g0, t0, t1, by decide, by decide⟩⟩
theorem ok__law_draw (e : Env K mg) : FnOk P w K mg base CX0 2 e.a__law_draw e.d__law_draw ["spring", "many"] (sp__law_draw_s) := by
  refine Fun.ok e.f__law_draw sc__law_draw (fun vs H Q E h => ?_) (fun cdv A outer s H vs Q E hr h => ?_)
  · obtain ⟨b, d, n, rfl, _⟩ := h; rfl
  · obtain ⟨b, d, n, rfl, R, h0, hl, hd, k⟩ := h
    obtain ⟨g, t, c, hb, g0, t0, t1, c0, c1⟩ := R.ex
    refine ⟨_, (pss_cons (ps_if (pt_cmpR op_gt (pe_ix ix_list (pv 0) pe_int (fun _ _ => rfl)) pe_int (nomark _))
        (pss_cons (ps_set (i := 2) sc__law_draw.nd rfl (by first | exact Or.inl rfl | exact Or.inr rfl) (pe_op op_mod (pe_ix ix_list (pv 0) pe_int (fun _ _ => rfl)) (pv 1)))
      (pss_cons (ps_asg (pe_op op_fdivW (pe_ix ix_list (pv 0) pe_int (fun _ _ => rfl)) (pv 1)) (pg_sub (pv 0) pe_int set_list))
      (pss_one (ps_ret (pv 2)))))
        pss_nil)
      (pss_cons (ps_asg (pe_op op_add (pe_ix ix_list (pv 0) pe_int (fun _ _ => rfl)) pe_int) (pg_sub (pv 0) pe_int set_list))
      (pss_cons (ps_set (i := 3) sc__law_draw.nd rfl (by first | exact Or.inl rfl | exact Or.inr rfl) (pe_op op_mod (pe_op op_mulW (pe_ix ix_list (pv 0) pe_int (fun _ _ => rfl)) (pe_ix ix_list (pv 0) pe_int (fun _ _ => rfl))) pe_int))
      (pss_cons (ps_asg (pe_op op_mod (pe_op op_add (pe_op op_add (pv 3) (pe_op op_mulW (pe_op op_mulW pe_int (pe_ix ix_list (pv 0) pe_int (fun _ _ => rfl))) (pe_ix ix_list (pv 0) pe_int (fun _ _ => rfl)))) pe_int) pe_int) (pg_sub (pv 0) pe_int set_list))
      (pss_one (ps_ret (pe_op op_mod (pe_op op_fdivW (pe_ix ix_list (pv 0) pe_int (fun _ _ => rfl)) pe_int) (pv 1)))))))), ?_⟩
    repeat array_get_dec
    refine LS.if2 (fun hg => ?_) fun hg => ?_
    · repeat array_get_dec
      refine LS.ri ⟨h0, hl⟩ ?_
      repeat array_get_dec
      refine LS.rset (j := 0) (by array_mem_dec) rfl fun H1 f1 h1 => ?_
      repeat array_get_dec
      exact k H1 _ (Int.emod_nonneg _ (by omega)) (Int.emod_lt_of_pos _ h0) ⟨⟨g / n, t, c, h1, Int.ediv_nonneg g0 (by omega), t0, t1, c0, by omega⟩⟩ (by array_mem_dec)
    · repeat array_get_dec
      refine LS.rset (j := 2) (by array_mem_dec) rfl fun H1 f1 h1 => ?_
      have h1' : H1 b = some (.lst [.int g, .int t, .int (c + 1)]) := h1
      clear h1
      repeat array_get_dec
      have lt := log_lt t0 t1
      have lc : (c + 1).natAbs.log2 < 31 := log_lt (k := 30) (by omega) (by omega)
      refine LS.ri (by show _ + _ < 1000000; omega) ?_
      repeat array_get_dec
      refine LS.ri (by
        show Nat.log2 7919 + _ < 1000000
        have e : Nat.log2 7919 < 300 := by decide +kernel
        omega) ?_
      repeat array_get_dec
      refine LS.ri (by
        have m1 : (0 : Int) ≤ 7919 * (c + 1) := by omega
        have := log_lt (k := 50) m1 (by omega)
        show _ + _ < 1000000
        omega) ?_
      repeat array_get_dec
      refine LS.rset (j := 1) (by array_mem_dec) rfl fun H2 f2 h2 => ?_
      have h2' : H2 b = some (.lst [.int g, .int ((t * t % 2305843009213693951 + 7919 * (c + 1) * t + 104729) % 2305843009213693951), .int (c + 1)]) := h2
      clear h2
      repeat array_get_dec
      refine LS.ri (by exact ⟨by decide, by decide +kernel⟩) ?_
      repeat array_get_dec
      exact k H2 _ (Int.emod_nonneg _ (by omega)) (Int.emod_lt_of_pos _ h0) ⟨⟨g, _, c + 1, h2', g0, Int.emod_nonneg _ (by decide), Int.lt_of_lt_of_le (Int.emod_lt_of_pos _ (by decide)) (by decide), by omega, by omega⟩⟩ (by array_mem_dec)
end
end LP

namespace LP
open PySem L2 LT LG LQ LH LC LX LR
local macro_rules | `(tactic| array_mem_dec) => `(tactic| first
  | assumption
  | ((with_reducible apply LS.hp_s); assumption; array_mem_dec)
  | ((with_reducible apply LS.hp_f); assumption; array_mem_dec; array_mem_dec)
  | ((with_reducible apply LS.hp_t); assumption; array_mem_dec; array_mem_dec)
  | ((with_reducible apply LS.hp_l); assumption; array_mem_dec; array_mem_dec)
  | ((with_reducible apply LS.sq_o); array_mem_dec)
  | ((with_reducible apply LS.sq_s); assumption; array_mem_dec)
  | ((with_reducible apply LS.sq_f); assumption; array_mem_dec; array_mem_dec)
  | ((with_reducible apply LS.sq_t); assumption; array_mem_dec; array_mem_dec)
  | ((with_reducible apply LS.sq_l); assumption; array_mem_dec; array_mem_dec)
  | ((with_reducible apply LS.tu_o); array_mem_dec)
  | ((with_reducible apply LS.tu_s); assumption; array_mem_dec)
  | ((with_reducible apply LS.tu_f); assumption; array_mem_dec; array_mem_dec)
  | ((with_reducible apply LS.tu_t); assumption; array_mem_dec; array_mem_dec)
  | ((with_reducible apply LS.tu_l); assumption; array_mem_dec; array_mem_dec)
  | ((with_reducible apply LS.se_l); array_mem_dec)
  | ((with_reducible apply LS.se_t); array_mem_dec)
  | ((with_reducible apply LS.se_s); assumption; array_mem_dec)
  | ((with_reducible apply LS.se_f); assumption; array_mem_dec; array_mem_dec)
  | ((with_reducible apply LS.se_tt); assumption; array_mem_dec; array_mem_dec)
  | ((with_reducible exact Same.refl _))
  | ((with_reducible apply LS.sm_s); assumption; array_mem_dec)
  | ((with_reducible apply LS.sm_f); assumption; array_mem_dec; array_mem_dec)
  | ((with_reducible exact Fr.refl _ _))
  | ((with_reducible apply LS.fr_b); assumption; array_mem_dec)
  | ((with_reducible apply LS.fr_s); assumption; array_mem_dec)
  | ((with_reducible apply LS.fr_n); assumption; array_mem_dec; array_mem_dec)
  | ((with_reducible apply LS.fr_t); assumption; array_mem_dec)
  | ((with_reducible apply LS.no_s); assumption; array_mem_dec)
  | ((with_reducible apply LS.no_f); assumption; array_mem_dec; array_mem_dec)
  | ((with_reducible apply LS.no_t); assumption; array_mem_dec)
  | ((with_reducible apply LS.no_l); assumption; assumption)
  | ((with_reducible apply Ne.symm); assumption)
  | ((with_reducible apply LS.ne_a); assumption; array_mem_dec)
  | ((with_reducible apply LS.ne_b); assumption; array_mem_dec)
  | ((with_reducible apply LS.ne_ap); assumption)
  | ((with_reducible apply LS.ne_il); assumption; array_mem_dec)
  | ((with_reducible apply LS.ne_li); assumption; array_mem_dec)
  | ((with_reducible apply LS.ne_lt); assumption; assumption)
  | ((with_reducible apply LS.ne_tl); assumption; assumption)
  | ((with_reducible apply LS.ne_rl); assumption; array_mem_dec)
  | ((with_reducible apply LS.rl_t); assumption)
  | ((with_reducible apply LS.rl_s); assumption; array_mem_dec)
  | ((with_reducible apply LS.rl_f); assumption; array_mem_dec; array_mem_dec)
  | ((with_reducible apply LS.rl_l); assumption; array_mem_dec; array_mem_dec)
  | ((with_reducible apply LS.ap_new); assumption; assumption; array_mem_dec)
  | ((with_reducible apply LS.ap_t); assumption; array_mem_dec; array_mem_dec)
  | ((with_reducible apply LS.ap_s); assumption; array_mem_dec; array_mem_dec)
  | ((with_reducible apply LS.ap_f); assumption; array_mem_dec; array_mem_dec; array_mem_dec)
  | ((with_reducible apply LS.ap_l); assumption; array_mem_dec; array_mem_dec; array_mem_dec)
  | (with_reducible apply LS.ni_nil)
  | ((with_reducible apply LS.ni_cons); array_mem_dec; array_mem_dec)
  | (with_reducible apply LS.trk_nil)
  | ((with_reducible apply LS.trk_cons); array_mem_dec; array_mem_dec)
  | (with_reducible apply LS.al_nil)
  | ((with_reducible apply LS.al_cons); array_mem_dec; array_mem_dec)
  | (with_reducible apply LS.mem_hd)
  | ((with_reducible apply LS.mem_tl); array_mem_dec)
  | ((with_reducible apply LS.fl_refl); array_mem_dec)
  | ((with_reducible apply LS.fl_l); assumption; array_mem_dec)
  | ((with_reducible apply LS.fl_lm); assumption; array_mem_dec; array_mem_dec)
  | (with_reducible apply LS.sub_nil)
  | ((with_reducible apply LS.sub_cons); array_mem_dec; array_mem_dec)
  | ((with_reducible apply LS.fl_s); assumption; array_mem_dec)
  | ((with_reducible apply LS.fl_m); assumption; array_mem_dec; array_mem_dec; array_mem_dec)
  | ((with_reducible apply LS.fl_n); assumption; array_mem_dec; array_mem_dec; array_mem_dec)
  | ((with_reducible apply LS.rt_refl); array_mem_dec)
  | ((with_reducible apply LS.rt_t); assumption; array_mem_dec)
  | ((with_reducible apply LS.rt_s); assumption; array_mem_dec)
  | ((with_reducible apply LS.rt_f); assumption; array_mem_dec; array_mem_dec; array_mem_dec)
  | ((with_reducible apply LS.sz); (first | decide | (simp only [List.length_append, List.length_map, List.length_cons, List.length_nil, List.length_replicate]; omega)))
  | ((with_reducible apply LS.szl); (first | decide | (simp only [List.length_append, List.length_map, List.length_cons, List.length_nil, List.length_replicate]; omega))))
local macro_rules | `(tactic| array_get_dec) => `(tactic| first
  | ((with_reducible apply LS.var); exact rfl)
  | (with_reducible apply LS.con)
  | (with_reducible apply LS.op)
  | (with_reducible apply LS.ri0)
  | (with_reducible apply LS.tseq)
  | (with_reducible apply LS.tasg)
  | (with_reducible apply LS.gname)
  | (with_reducible apply LS.tcons)
  | (with_reducible apply LS.tnil)
  | (with_reducible apply LS.tcb)
  | (with_reducible apply LS.tcall)
  | (with_reducible apply LS.ttest)
  | (with_reducible apply LS.k_b)
  | (with_reducible apply LS.tb)
  | (with_reducible apply LS.tifs)
  | (with_reducible apply LS.ift)
  | (with_reducible apply LS.iff_)
  | (with_reducible apply LS.ifnt)
  | (with_reducible apply LS.ifnf)
  | (with_reducible apply LS.tnext)
  | (with_reducible apply LS.tdrop)
  | (with_reducible apply LS.tret)
  | (with_reducible apply LS.tretn)
  | (with_reducible apply LS.un)
  | (with_reducible apply LS.ru)
  | (with_reducible apply LS.tyes)
  | (with_reducible apply LS.tand)
  | (with_reducible apply LS.tor)
  | (with_reducible apply LS.tnot)
  | (with_reducible apply LS.tif)
  | (with_reducible apply LS.tandv)
  | (with_reducible apply LS.k_av)
  | (with_reducible apply LS.torv)
  | (with_reducible apply LS.k_ov)
  | (with_reducible apply LS.tnotv)
  | (with_reducible apply LS.k_nv)
  | (with_reducible apply LS.tchain)
  | (with_reducible apply LS.k_ch)
  | (with_reducible apply LS.req_i)
  | (with_reducible apply LS.rne_i)
  | (with_reducible apply LS.req_s)
  | (with_reducible apply LS.rne_s)
  | (with_reducible apply LS.req_b)
  | (with_reducible apply LS.rne_b)
  | ((with_reducible apply LS.rin_i); array_mem_dec)
  | ((with_reducible apply LS.rni_i); array_mem_dec)
  | ((with_reducible apply LS.rlen_li); array_mem_dec)
  | ((with_reducible apply LS.rlen_ls); array_mem_dec)
  | ((with_reducible apply LS.rlen_l); array_mem_dec)
  | ((with_reducible apply LS.rlen_Ei); array_mem_dec)
  | ((with_reducible apply LS.rlen_E); array_mem_dec)
  | ((with_reducible apply LS.rlen_t); array_mem_dec)
  | ((with_reducible apply LS.rixl); array_mem_dec; exact rfl)
  | ((with_reducible apply LS.rixt); array_mem_dec; exact rfl)
  | (with_reducible apply LS.isi_int_int)
  | (with_reducible apply LS.isi_int_bool)
  | (with_reducible apply LS.isi_int_str)
  | (with_reducible apply LS.isi_str_int)
  | (with_reducible apply LS.isi_str_bool)
  | (with_reducible apply LS.isi_str_str)
  | (with_reducible apply LS.isi_bool_int)
  | (with_reducible apply LS.isi_bool_bool)
  | (with_reducible apply LS.isi_bool_str)
  | (with_reducible apply LS.isi_non_int)
  | (with_reducible apply LS.isi_non_bool)
  | (with_reducible apply LS.isi_non_str)
  | ((with_reducible apply LS.isi_list_int); array_mem_dec)
  | ((with_reducible apply LS.isi_list_bool); array_mem_dec)
  | ((with_reducible apply LS.isi_list_str); array_mem_dec)
  | ((with_reducible apply LS.isi_list_list); array_mem_dec)
  | ((with_reducible apply LS.isi_list_tuple); array_mem_dec)
  | ((with_reducible apply LS.isi_tuple_int); array_mem_dec)
  | ((with_reducible apply LS.isi_tuple_bool); array_mem_dec)
  | ((with_reducible apply LS.isi_tuple_str); array_mem_dec)
  | ((with_reducible apply LS.isi_tuple_list); array_mem_dec)
  | ((with_reducible apply LS.isi_tuple_tuple); array_mem_dec)
  | ((with_reducible apply LS.isiT_i); array_mem_dec)
  | ((with_reducible apply LS.isiT_s); array_mem_dec)
  | ((with_reducible apply LS.isiT_E); array_mem_dec; array_mem_dec)
  | (with_reducible apply LS.tfld)
  | ((with_reducible apply LS.k_fl); array_mem_dec; assumption; assumption; exact rfl)
  | (with_reducible apply LS.tmeth)
  | ((with_reducible apply LS.k_me); array_mem_dec; exact rfl)
  | (with_reducible apply LS.tmake)
  | (with_reducible apply LS.tsfld)
  | (with_reducible apply LS.tprop)
  | ((with_reducible apply LS.k_pr); array_mem_dec)
  | ((with_reducible apply LS.rlen_own); array_mem_dec)
  | (with_reducible apply LS.rabs)
  | (with_reducible apply LS.rmin2)
  | (with_reducible apply LS.rmax2)
  | (with_reducible apply LS.tsl)
  | (with_reducible apply LS.tthen)
  | (with_reducible apply LS.tstep)
  | (with_reducible apply LS.tnop)
  | (with_reducible apply LS.tpart)
  | (with_reducible apply LS.k_part)
  | (with_reducible apply LS.ttup)
  | (with_reducible apply LS.tlst)
  | (with_reducible apply LS.tbm)
  | (with_reducible apply LS.tbm0)
  | ((with_reducible apply LS.ty_l); array_mem_dec)
  | (with_reducible apply LS.tpar)
  | (with_reducible apply LS.tfor)
  | (with_reducible apply LS.tlc)
  | (with_reducible apply LS.ilist)
  | ((with_reducible apply LS.k_il); array_mem_dec)
  | (with_reducible apply LS.itup)
  | ((with_reducible apply LS.k_it); array_mem_dec)
  | (with_reducible apply LS.istr)
  | (with_reducible apply LS.k_is)
  | (with_reducible apply LS.irng1)
  | ((with_reducible apply LS.k_r1n); omega)
  | ((with_reducible apply LS.k_r1); (first | omega | decide); (first | omega | decide))
  | (with_reducible apply LS.irng2)
  | ((with_reducible apply LS.k_r2); (first | omega | decide); (first | omega | decide); (first | omega | decide); (first | omega | decide))
  | (with_reducible apply LS.ienum)
  | ((with_reducible apply LS.k_en); array_mem_dec)
  | (with_reducible apply LS.izip)
  | ((with_reducible apply LS.k_zip); array_mem_dec; array_mem_dec)
  | (with_reducible apply LS.tlstrg)
  | (with_reducible apply LS.trg1)
  | (with_reducible apply LS.k_g1)
  | (with_reducible apply LS.risn_i)
  | (with_reducible apply LS.risn_s)
  | (with_reducible apply LS.risn_n)
  | (with_reducible apply LS.rnotn_i)
  | (with_reducible apply LS.rnotn_n)
  | (with_reducible apply LS.rint_b)
  | (with_reducible apply LS.rint_i)
  | (with_reducible apply LS.tm0)
  | (with_reducible apply LS.tm1)
  | (with_reducible apply LS.is_str)
  | (with_reducible apply LS.ex_s0)
  | (with_reducible apply LS.ex_int_b)
  | (with_reducible apply LS.k_par)
  | (with_reducible apply LS.tpar3)
  | (with_reducible apply LS.k_par3)
  | ((with_reducible apply LS.taug); exact rfl)
  | (with_reducible apply LS.ipi)
  | ((with_reducible apply LS.gtup); array_mem_dec; exact rfl)
  | ((with_reducible apply LS.gunl); array_mem_dec; exact rfl)
  | (with_reducible apply LS.gnil)
  | (with_reducible apply LS.gcons)
  | (with_reducible apply LS.gsub)
  | ((with_reducible apply LS.ri); first | omega | decide | assumption | exact ⟨by decide, by decide, by decide⟩ | exact .inl ⟨by decide, by decide⟩ | exact .inr ⟨by decide, by decide⟩ | exact .inl ⟨by omega, by omega⟩ | exact .inr ⟨by omega, by omega⟩)
  | (with_reducible apply LS.ex_ss)
  | (with_reducible apply LS.ex_s1)
  | (with_reducible apply LS.ex_i1)
  | (with_reducible apply LS.and_rfl)
  | (with_reducible apply LS.and_tr)
  | (with_reducible apply LS.is_non))
local macro_rules | `(tactic| array_mem_dec) => `(tactic| first
  | ((with_reducible apply LP.lv_s); assumption; array_mem_dec)
  | ((with_reducible apply LP.lv_l); assumption; array_mem_dec; array_mem_dec; array_mem_dec)
  | ((with_reducible apply LP.lv_f); assumption; array_mem_dec; array_mem_dec; array_mem_dec)
  | ((with_reducible apply LP.lv_t); assumption; array_mem_dec; array_mem_dec; array_mem_dec)
  | ((with_reducible apply LP.ops_s); assumption; array_mem_dec)
  | ((with_reducible apply LP.md_s); assumption; array_mem_dec)
  | ((with_reducible apply LP.md_l); assumption; array_mem_dec; array_mem_dec; array_mem_dec)
  | ((with_reducible apply LP.md_f); assumption; array_mem_dec; array_mem_dec; array_mem_dec)
  | ((with_reducible apply LP.md_t); assumption; array_mem_dec; array_mem_dec; array_mem_dec)
  | ((with_reducible apply LP.al_s); assumption; array_mem_dec; array_mem_dec)
  | ((with_reducible apply LP.al_t); assumption; array_mem_dec; array_mem_dec)
  | ((with_reducible apply LP.al_l); assumption; array_mem_dec; array_mem_dec; array_mem_dec)
  | ((with_reducible apply LP.al_f); assumption; array_mem_dec; array_mem_dec; array_mem_dec)
  | ((with_reducible apply LP.Lv.lists); array_mem_dec)
  | ((with_reducible apply LP.Lv.trk); array_mem_dec)
  | ((with_reducible apply LP.Mdl.trk); array_mem_dec)
  | ((with_reducible apply LP.al_no); assumption; array_mem_dec))
local macro_rules | `(tactic| array_mem_dec) => `(tactic| first
  | ((with_reducible apply LP.sg_s); assumption; array_mem_dec)
  | ((with_reducible apply LP.sg_f); assumption; array_mem_dec; array_mem_dec)
  | ((with_reducible apply LP.sg_l); assumption; array_mem_dec; array_mem_dec)
  | ((with_reducible apply LP.sg_ne); assumption; array_mem_dec)
  | ((with_reducible apply LP.sg_ne'); assumption; array_mem_dec)
  | ((with_reducible apply LS.se_q); array_mem_dec)
  | ((with_reducible apply LS.se_u); array_mem_dec)
  | ((with_reducible apply LP.sg_no); assumption; array_mem_dec; array_mem_dec))
local macro_rules | `(tactic| array_get_dec) => `(tactic| first
  | ((with_reducible apply LS.rne_same); exact rfl)
  | ((with_reducible apply LS.req_same); exact rfl)
  | (with_reducible apply LS.trevl)
  | (with_reducible apply LS.irng3)
  | (with_reducible apply LS.risn_b)
  | ((with_reducible apply LS.isiT_n); array_mem_dec)
  | ((with_reducible apply LS.isiT_b); array_mem_dec))
local macro_rules | `(tactic| array_get_dec) => `(tactic| first
  | (with_reducible apply LS.trg2)
  | (with_reducible apply LS.k_g2))

section
variable {P : Program} {w : World} {K : PySem.W.Frag} {mg : Str → Option Value} {base : Heap}

theorem ok0__law_dressed (e : Env K mg) : FnOk P w K mg base CX0 3 e.a__law_dressed e.d__law_dressed ["spring", "value"] (sp__law_dressed0_s) := by
  refine Fun.ok e.f__law_dressed sc__law_dressed (fun vs H Q E h => ?_) (fun cdv A outer s H vs Q E hr h => ?_)
  · obtain ⟨b, z, rfl, _⟩ := h; rfl
  · obtain ⟨b, z, rfl, k⟩ := h
    have hrec := LS.fn_no (P := P) (w := w) (K := K) (mg := mg) (base := base) (CX := CX0) (f := e.a__law_dressed) (fd := e.d__law_dressed) (ps := ["spring", "value"])
    refine ⟨_, (pss_cons (ps_if (pt_not (pt_val (pe_callB call_isiT (by rfl) e.n_isinstance (by decide +kernel) (pa_cons (pv 1) (pa_cons (pe_tup (pa_cons (pe_bltn (v := V.ty "list") (by rfl) e.n_list (by decide +kernel) rfl) (pa_cons (pe_bltn (v := V.ty "tuple") (by rfl) e.n_tuple (by decide +kernel) rfl) pa_nil))) pa_nil)))))
        (pss_one (ps_ret (pv 1)))
        pss_nil)
      (pss_cons (ps_setLc (i := 2) (own := [("part", 3)]) rfl sc__law_dressed.nd rfl rfl (sw_true rfl rfl rfl (by decide +kernel)) (pi_list (pv 1)) (blkOk_by (N := ["spring", "value", "parts", "part"]) (sc := defScope s__law_dressed) (by decide +kernel)) (fun _ _ _ _ _ => (pg_name (i := 3) sc__law_dressed.nd rfl (by first | exact Or.inl rfl | exact Or.inr rfl))) (fun _ _ _ _ _ => pts_nil) (fun _ _ _ _ _ => (pe_call (hrec.mono (by first | decide | exact Nat.le_refl _)) hr rfl e.g__law_dressed e.f__law_dressed.kp e.b__law_dressed .nil pass0 (pa_cons (pv 0) (pa_cons (pv 3) pa_nil)))))
      (pss_one (ps_ret (pe_ifExp (pt_cmpR op_eq (pe_call ((ok__law_draw e).mono (by decide)) hr rfl e.g__law_draw e.f__law_draw.kp e.b__law_draw .nil pass0 (pa_cons (pv 0) (pa_cons pe_int pa_nil))) pe_int (nomark _)) (pv 2) (pe_tupleOf (by rfl) e.n_tuple (pv 2))))))), ?_⟩
    repeat array_get_dec
    refine LS.k_tup (by decide) fun tp H1 nt s1 ht => ?_
    repeat array_get_dec
    exact k _ s1
theorem ok__law_dressed (e : Env K mg) : FnOk P w K mg base CX0 4 e.a__law_dressed e.d__law_dressed ["spring", "value"] (sp__law_dressed_s) := by
  refine Fun.ok e.f__law_dressed sc__law_dressed (fun vs H Q E h => ?_) (fun cdv A outer s H vs Q E hr h => ?_)
  · obtain ⟨b, d, p, ns, rfl, _⟩ := h; rfl
  · obtain ⟨b, d, p, ns, rfl, R, hd, hp, hn, k⟩ := h
    have hrec := ok0__law_dressed (P := P) (w := w) (base := base) e
    refine ⟨_, (pss_cons (ps_if (pt_not (pt_val (pe_callB call_isiT (by rfl) e.n_isinstance (by decide +kernel) (pa_cons (pv 1) (pa_cons (pe_tup (pa_cons (pe_bltn (v := V.ty "list") (by rfl) e.n_list (by decide +kernel) rfl) (pa_cons (pe_bltn (v := V.ty "tuple") (by rfl) e.n_tuple (by decide +kernel) rfl) pa_nil))) pa_nil)))))
        (pss_one (ps_ret (pv 1)))
        pss_nil)
      (pss_cons (ps_setLc (i := 2) (own := [("part", 3)]) rfl sc__law_dressed.nd rfl rfl (sw_true rfl rfl rfl (by decide +kernel)) (pi_list (pv 1)) (blkOk_by (N := ["spring", "value", "parts", "part"]) (sc := defScope s__law_dressed) (by decide +kernel)) (fun _ _ _ _ _ => (pg_name (i := 3) sc__law_dressed.nd rfl (by first | exact Or.inl rfl | exact Or.inr rfl))) (fun _ _ _ _ _ => pts_nil) (fun _ _ _ _ _ => (pe_call (hrec.mono (by first | decide | exact Nat.le_refl _)) hr rfl e.g__law_dressed e.f__law_dressed.kp e.b__law_dressed .nil pass0 (pa_cons (pv 0) (pa_cons (pv 3) pa_nil)))))
      (pss_one (ps_ret (pe_ifExp (pt_cmpR op_eq (pe_call ((ok__law_draw e).mono (by decide)) hr rfl e.g__law_draw e.f__law_draw.kp e.b__law_draw .nil pass0 (pa_cons (pv 0) (pa_cons pe_int pa_nil))) pe_int (nomark _)) (pv 2) (pe_tupleOf (by rfl) e.n_tuple (pv 2))))))), ?_⟩
    repeat array_get_dec
    refine LS.k_tup (by decide) fun tp H1 nt s1 ht => ?_
    repeat array_get_dec
    refine LS.map_ (xs := ns.map V.int) walk_list (by rw [List.length_map]; omega) id (fun H' s => (by array_mem_dec)) (fun x Hq hx s KK KN kk => ?_) fun D H2 nD s2 h2 => ?_
    · obtain ⟨i, hi, rfl⟩ := List.mem_map.mp hx
      refine ⟨rfl, ?_⟩
      repeat array_get_dec
      exact ⟨b, i, rfl, kk⟩
    rw [List.map_id] at h2
    repeat array_get_dec
    refine ⟨b, _, 2, rfl, (by array_mem_dec), by decide, by decide +kernel, by omega, fun H3 r r0 r1 R3 F3 => ?_⟩
    repeat array_get_dec
    refine LS.if2 (fun hr => ?_) fun hr => ?_
    · repeat array_get_dec
      exact k H3 D (by array_mem_dec) (by array_mem_dec) (by array_mem_dec) (.inl (by array_mem_dec))
    · repeat array_get_dec
      exact LS.tup_l (xs := ns.map V.int) (by array_mem_dec) fun q H4 nq s4 h4 => k H4 q (by array_mem_dec) (by array_mem_dec) (by array_mem_dec) (.inr h4)
def SameRec (P : Program) (w : World) (K : PySem.W.Frag) (mg : Str → Option Value) (base : Heap) (e : Env K mg) : Nat → Prop
  | 0 => FnOk P w K mg base CX0 0 e.a__law_same e.d__law_same ["found", "due"] (fun _ _ _ _ => False)
  | k + 1 => FnOk P w K mg base CX0 (k + 1) e.a__law_same e.d__law_same ["found", "due"] (sp__law_same K k)
theorem same_body (e : Env K mg) (k : Nat) (sp : Sp) (hrec : FnOk P w K mg base CX0 k e.a__law_same e.d__law_same ["found", "due"] sp) (hsp : ∀ j, k = j + 1 → sp = sp__law_same K j) : FnOk P w K mg base CX0 (k + 1) e.a__law_same e.d__law_same ["found", "due"] (sp__law_same K k) := by
  refine Fun.ok e.f__law_same sc__law_same (fun vs H Q E h => ?_) (fun cdv A outer s H vs Q E hr h => ?_)
  · obtain ⟨x, y, d, rfl, _⟩ := h; rfl
  · obtain ⟨x, y, d, rfl, h1, h2, pl, kk⟩ := h
    refine ⟨_, (pss_cons (ps_if (pt_val (pe_callB call_isiT (by rfl) e.n_isinstance (by decide +kernel) (pa_cons (pv 1) (pa_cons (pe_tup (pa_cons (pe_bltn (v := V.ty "list") (by rfl) e.n_list (by decide +kernel) rfl) (pa_cons (pe_bltn (v := V.ty "tuple") (by rfl) e.n_tuple (by decide +kernel) rfl) pa_nil))) pa_nil))))
        (pss_cons (ps_if (PW.pt (pw_or (pt_cmpR op_ne (pe_callB call_isi (by rfl) e.n_isinstance (by decide +kernel) (pa_cons (pv 0) (pa_cons (pe_bltn (v := V.ty "list") (by rfl) e.n_list (by decide +kernel) rfl) pa_nil))) (pe_callB call_isi (by rfl) e.n_isinstance (by decide +kernel) (pa_cons (pv 1) (pa_cons (pe_bltn (v := V.ty "list") (by rfl) e.n_list (by decide +kernel) rfl) pa_nil))) (nomark _)) (pw_or1 (pt_cmpR op_ne (pe_callB call_isi (by rfl) e.n_isinstance (by decide +kernel) (pa_cons (pv 0) (pa_cons (pe_bltn (v := V.ty "tuple") (by rfl) e.n_tuple (by decide +kernel) rfl) pa_nil))) (pe_callB call_isi (by rfl) e.n_isinstance (by decide +kernel) (pa_cons (pv 1) (pa_cons (pe_bltn (v := V.ty "tuple") (by rfl) e.n_tuple (by decide +kernel) rfl) pa_nil))) (nomark _)))))
        (pss_one (ps_ret pe_bl))
        pss_nil)
      (pss_one (ps_ret (pe_and (pe_cmpR op_eq (pe_callB LS.call_len (by rfl) e.n_len PySem.boot_len (pa_cons (pv 0) pa_nil)) (pe_callB LS.call_len (by rfl) e.n_len PySem.boot_len (pa_cons (pv 1) pa_nil)) (nomark _)) (pe_one (pe_callB (cr_all rfl) (by rfl) e.n_all (by decide +kernel) (pa_cons (pe_lc (own := [("k", 2)]) rfl sc__law_same.nd (pi_range1 (by rfl) e.n_range (pa_cons (pe_callB LS.call_len (by rfl) e.n_len PySem.boot_len (pa_cons (pv 1) pa_nil)) pa_nil)) (blkOk_by (N := ["found", "due", "k"]) (sc := defScope s__law_same) (by decide +kernel)) (fun _ _ _ _ _ => (pg_name (i := 2) sc__law_same.nd rfl (by first | exact Or.inl rfl | exact Or.inr rfl))) (fun _ _ _ _ _ => pts_nil) (fun _ _ _ _ _ => (pe_call (hrec.mono (by first | decide | exact Nat.le_refl _)) hr rfl e.g__law_same e.f__law_same.kp e.b__law_same .nil pass0 (pa_cons (PE.or (pe_ix (show IxR _ (rIxL K) from ix_list) (pv 0) (pv 2) (fun _ _ => rfl)) (pe_ix (show IxR _ (rIxT K) from ix_tup) (pv 0) (pv 2) (fun _ _ => rfl))) (pa_cons (PE.or (pe_ix (show IxR _ (rIxL K) from ix_list) (pv 1) (pv 2) (fun _ _ => rfl)) (pe_ix (show IxR _ (rIxT K) from ix_tup) (pv 1) (pv 2) (fun _ _ => rfl))) pa_nil))))) pa_nil)))))))
        pss_nil)
      (pss_cons (ps_if (PW.pt (pw_or (pt_cmpR LS.op_isN (pv 1) pe_non (nomark _)) (pw_or1 (pt_cmpR LS.op_isN (pv 0) pe_non (nomark _)))))
        (pss_one (ps_ret (pe_and (pe_cmpR LS.op_isN (pv 1) pe_non (nomark _)) (pe_one (pe_cmpR LS.op_isN (pv 0) pe_non (nomark _))))))
        pss_nil)
      (pss_cons (ps_if (PW.pt (pw_or (pt_cmpR op_ne (pe_callB call_isi (by rfl) e.n_isinstance (by decide +kernel) (pa_cons (pv 1) (pa_cons (pe_bltn (v := V.ty "bool") (by rfl) e.n_bool (by decide +kernel) rfl) pa_nil))) (pe_callB call_isi (by rfl) e.n_isinstance (by decide +kernel) (pa_cons (pv 0) (pa_cons (pe_bltn (v := V.ty "bool") (by rfl) e.n_bool (by decide +kernel) rfl) pa_nil))) (nomark _)) (pw_or1 (pt_cmpR op_ne (pe_callB call_isi (by rfl) e.n_isinstance (by decide +kernel) (pa_cons (pv 1) (pa_cons (pe_bltn (v := V.ty "str") (by rfl) e.n_str (by decide +kernel) rfl) pa_nil))) (pe_callB call_isi (by rfl) e.n_isinstance (by decide +kernel) (pa_cons (pv 0) (pa_cons (pe_bltn (v := V.ty "str") (by rfl) e.n_str (by decide +kernel) rfl) pa_nil))) (nomark _)))))
        (pss_one (ps_ret pe_bl))
        pss_nil)
      (pss_one (ps_ret (pe_cmpR op_eq (pv 0) (pv 1) (nomark _))))))), ?_⟩
    repeat array_get_dec
    refine LS.k_tup (by decide) fun tp H1 nt s1 ht => ?_
    repeat array_get_dec
    have rows : ∀ (a b : Addr) (xs ys : List V) (ds : List PyData), ds.length ≤ 10000 → (∀ j, k = j + 1 → ∀ d ∈ ds, plain j d) → (ds = [] ∨ ∃ j, k = j + 1) → SqE K H1 a xs → SqE K H1 b ys → DpAll K H1 xs ds → DpAll K H1 ys ds → ∀ (D : Ends) , D.rt = Q →
        tRet (tAndV (tOp rEq (tCB (rLenS K) (tCons (tVar 0) tNil)) (tCB (rLenS K) (tCons (tVar 1) tNil))) (tCB (rAll K) (tCons (tLc (iRng1 (tCons (tCB (rLenS K) (tCons (tVar 1) tNil)) tNil)) (gName 2) tYes (tCall sp [] E0 (tCons (fun σ H Q => tOp (rIxL K) (tVar 0) (tVar 2) σ H Q ∨ tOp (rIxT K) (tVar 0) (tVar 2) σ H Q) (tCons (fun σ H Q => tOp (rIxL K) (tVar 1) (tVar 2) σ H Q ∨ tOp (rIxT K) (tVar 1) (tVar 2) σ H Q) tNil))) (List.map (fun x => x.snd) [("k", 2)])) tNil))) D (L2.start ["found", "due", "k"] [.ref a, .ref b]) H1 := by
      intro a b xs ys ds dl dpl dk ha hb da db D hD
      have lx := LS.dpA_len da
      have ly := LS.dpA_len db
      repeat array_get_dec
      rw [decide_eq_true (by omega)]
      repeat array_get_dec
      rw [ly]
      repeat array_get_dec
      refine LS.comp (walk_range (lo := 0) (n := ds.length)) (fun D i acc H' => Same H1 H' ∧ acc = (List.replicate i true).map V.bl) (fun D H' nD s' hD => ⟨s', rfl⟩) (fun _ _ _ _ _ _ _ _ => trivial) ?_ ?_
      · rintro D i acc x H2 H3 nD hi hl2 hD ⟨s2, rfl⟩ ⟨rfl, rfl⟩
        refine ⟨rfl, ?_⟩
        repeat array_get_dec
        have hd := List.getElem?_eq_getElem (l := ds) hi
        obtain ⟨vx, hvx, dx⟩ := LS.dpA_get da hd
        obtain ⟨vy, hvy, dy⟩ := LS.dpA_get db hd
        refine LS.ixe (m := i) rfl rfl (by array_mem_dec) hvx (by omega) ?_
        repeat array_get_dec
        refine LS.ixe (m := i) rfl rfl (by array_mem_dec) hvy (by omega) ?_
        repeat array_get_dec
        obtain ⟨j, rfl⟩ : ∃ j, k = j + 1 := by
          rcases dk with e | e
          · rw [e] at hi; simp at hi
          · exact e
        rw [hsp j rfl]
        refine ⟨vx, vy, _, rfl, LS.dp_same s2 dx, LS.dp_same s2 dy, dpl j rfl _ (List.getElem_mem hi), fun H4 s4 => ?_⟩
        exact LS.k_lc (acc := (List.replicate i true).map V.bl) (by array_mem_dec) hl2 (by omega) fun H5 f5 h5 => ⟨(by array_mem_dec), by rw [List.replicate_succ', List.map_append]; rfl⟩
      rintro D2 acc H2 nD hD2 hl2 ⟨s2, rfl⟩
      refine LS.rall (bs := List.replicate ds.length true) (by array_mem_dec) ?_
      rw [show (List.replicate ds.length true).all id = true from List.all_eq_true.mpr fun b hb => (List.mem_replicate.mp hb).2]
      rw [hD]
      exact kk _ (by array_mem_dec)
    cases d with
    | none =>
      cases h1; cases h2
      repeat array_get_dec
      exact kk _ s1
    | bool b =>
      cases h1; cases h2
      repeat array_get_dec
      exact kk _ s1
    | int b =>
      cases h1; cases h2
      repeat array_get_dec
      exact kk _ s1
    | str b =>
      cases h1; cases h2
      repeat array_get_dec
      exact kk _ s1
    | list ds =>
      cases h1 with | @lst a xs _ ha da =>
      cases h2 with | @lst b ys _ hb db =>
      cases k with
      | zero => exact pl.elim
      | succ j =>
        refine LS.isiT_E (xs := ys) (by array_mem_dec) ht ?_
        refine LS.k_b ?_
        refine LS.ift ?_
        refine LS.seq_cut (fun σ' H' => σ' = L2.start ["found", "due", "k"] [.ref a, .ref b] ∧ H' = H1) (fun D' _ kk2 => ?_) ?_
        · repeat array_get_dec
          exact kk2 _ _ ⟨rfl, rfl⟩
        · rintro σ' H' ⟨rfl, rfl⟩
          exact rows a b xs ys ds pl.1 (fun j' e d hd => by cases e; exact pl.2 d hd) (.inr ⟨j, rfl⟩) (by array_mem_dec) (by array_mem_dec) (LS.dpA_same s1 da) (LS.dpA_same s1 db) _ rfl
    | tuple ds =>
      cases h1 with | @tup a xs _ ha da =>
      cases h2 with | @tup b ys _ hb db =>
      cases k with
      | zero => exact pl.elim
      | succ j =>
        refine LS.isiT_E (xs := ys) (by array_mem_dec) ht ?_
        refine LS.k_b ?_
        refine LS.ift ?_
        refine LS.seq_cut (fun σ' H' => σ' = L2.start ["found", "due", "k"] [.ref a, .ref b] ∧ H' = H1) (fun D' _ kk2 => ?_) ?_
        · repeat array_get_dec
          exact kk2 _ _ ⟨rfl, rfl⟩
        · rintro σ' H' ⟨rfl, rfl⟩
          exact rows a b xs ys ds pl.1 (fun j' e d hd => by cases e; exact pl.2 d hd) (.inr ⟨j, rfl⟩) (by array_mem_dec) (by array_mem_dec) (LS.dpA_same s1 da) (LS.dpA_same s1 db) _ rfl
    | dict ds => cases k <;> exact pl.elim
theorem ok_same (e : Env K mg) : ∀ k, FnOk P w K mg base CX0 (k + 1) e.a__law_same e.d__law_same ["found", "due"] (sp__law_same K k)
  | 0 => same_body e 0 _ LS.fn_no (fun j h => by omega)
  | k + 1 => same_body e (k + 1) _ (ok_same e k) (fun j h => by cases h; rfl)
theorem ok__law_same (e : Env K mg) : FnOk P w K mg base CX0 5 e.a__law_same e.d__law_same ["found", "due"] (sp__law_same K 4) := ok_same e 4
end
end LP

namespace LP
open PySem L2 LT LG LQ LH LC LX LR
local macro_rules | `(tactic| array_mem_dec) => `(tactic| first
  | assumption
  | ((with_reducible apply LS.hp_s); assumption; array_mem_dec)
  | ((with_reducible apply LS.hp_f); assumption; array_mem_dec; array_mem_dec)
  | ((with_reducible apply LS.hp_t); assumption; array_mem_dec; array_mem_dec)
  | ((with_reducible apply LS.hp_l); assumption; array_mem_dec; array_mem_dec)
  | ((with_reducible apply LS.sq_o); array_mem_dec)
  | ((with_reducible apply LS.sq_s); assumption; array_mem_dec)
  | ((with_reducible apply LS.sq_f); assumption; array_mem_dec; array_mem_dec)
  | ((with_reducible apply LS.sq_t); assumption; array_mem_dec; array_mem_dec)
  | ((with_reducible apply LS.sq_l); assumption; array_mem_dec; array_mem_dec)
  | ((with_reducible apply LS.tu_o); array_mem_dec)
  | ((with_reducible apply LS.tu_s); assumption; array_mem_dec)
  | ((with_reducible apply LS.tu_f); assumption; array_mem_dec; array_mem_dec)
  | ((with_reducible apply LS.tu_t); assumption; array_mem_dec; array_mem_dec)
  | ((with_reducible apply LS.tu_l); assumption; array_mem_dec; array_mem_dec)
  | ((with_reducible apply LS.se_l); array_mem_dec)
  | ((with_reducible apply LS.se_t); array_mem_dec)
  | ((with_reducible apply LS.se_s); assumption; array_mem_dec)
  | ((with_reducible apply LS.se_f); assumption; array_mem_dec; array_mem_dec)
  | ((with_reducible apply LS.se_tt); assumption; array_mem_dec; array_mem_dec)
  | ((with_reducible exact Same.refl _))
  | ((with_reducible apply LS.sm_s); assumption; array_mem_dec)
  | ((with_reducible apply LS.sm_f); assumption; array_mem_dec; array_mem_dec)
  | ((with_reducible exact Fr.refl _ _))
  | ((with_reducible apply LS.fr_b); assumption; array_mem_dec)
  | ((with_reducible apply LS.fr_s); assumption; array_mem_dec)
  | ((with_reducible apply LS.fr_n); assumption; array_mem_dec; array_mem_dec)
  | ((with_reducible apply LS.fr_t); assumption; array_mem_dec)
  | ((with_reducible apply LS.no_s); assumption; array_mem_dec)
  | ((with_reducible apply LS.no_f); assumption; array_mem_dec; array_mem_dec)
  | ((with_reducible apply LS.no_t); assumption; array_mem_dec)
  | ((with_reducible apply LS.no_l); assumption; assumption)
  | ((with_reducible apply Ne.symm); assumption)
  | ((with_reducible apply LS.ne_a); assumption; array_mem_dec)
  | ((with_reducible apply LS.ne_b); assumption; array_mem_dec)
  | ((with_reducible apply LS.ne_ap); assumption)
  | ((with_reducible apply LS.ne_il); assumption; array_mem_dec)
  | ((with_reducible apply LS.ne_li); assumption; array_mem_dec)
  | ((with_reducible apply LS.ne_lt); assumption; assumption)
  | ((with_reducible apply LS.ne_tl); assumption; assumption)
  | ((with_reducible apply LS.ne_rl); assumption; array_mem_dec)
  | ((with_reducible apply LS.rl_t); assumption)
  | ((with_reducible apply LS.rl_s); assumption; array_mem_dec)
  | ((with_reducible apply LS.rl_f); assumption; array_mem_dec; array_mem_dec)
  | ((with_reducible apply LS.rl_l); assumption; array_mem_dec; array_mem_dec)
  | ((with_reducible apply LS.ap_new); assumption; assumption; array_mem_dec)
  | ((with_reducible apply LS.ap_t); assumption; array_mem_dec; array_mem_dec)
  | ((with_reducible apply LS.ap_s); assumption; array_mem_dec; array_mem_dec)
  | ((with_reducible apply LS.ap_f); assumption; array_mem_dec; array_mem_dec; array_mem_dec)
  | ((with_reducible apply LS.ap_l); assumption; array_mem_dec; array_mem_dec; array_mem_dec)
  | (with_reducible apply LS.ni_nil)
  | ((with_reducible apply LS.ni_cons); array_mem_dec; array_mem_dec)
  | (with_reducible apply LS.trk_nil)
  | ((with_reducible apply LS.trk_cons); array_mem_dec; array_mem_dec)
  | (with_reducible apply LS.al_nil)
  | ((with_reducible apply LS.al_cons); array_mem_dec; array_mem_dec)
  | (with_reducible apply LS.mem_hd)
  | ((with_reducible apply LS.mem_tl); array_mem_dec)
  | ((with_reducible apply LS.fl_refl); array_mem_dec)
  | ((with_reducible apply LS.fl_l); assumption; array_mem_dec)
  | ((with_reducible apply LS.fl_lm); assumption; array_mem_dec; array_mem_dec)
  | (with_reducible apply LS.sub_nil)
  | ((with_reducible apply LS.sub_cons); array_mem_dec; array_mem_dec)
  | ((with_reducible apply LS.fl_s); assumption; array_mem_dec)
  | ((with_reducible apply LS.fl_m); assumption; array_mem_dec; array_mem_dec; array_mem_dec)
  | ((with_reducible apply LS.fl_n); assumption; array_mem_dec; array_mem_dec; array_mem_dec)
  | ((with_reducible apply LS.rt_refl); array_mem_dec)
  | ((with_reducible apply LS.rt_t); assumption; array_mem_dec)
  | ((with_reducible apply LS.rt_s); assumption; array_mem_dec)
  | ((with_reducible apply LS.rt_f); assumption; array_mem_dec; array_mem_dec; array_mem_dec)
  | ((with_reducible apply LS.sz); (first | decide | (simp only [List.length_append, List.length_map, List.length_cons, List.length_nil, List.length_replicate]; omega)))
  | ((with_reducible apply LS.szl); (first | decide | (simp only [List.length_append, List.length_map, List.length_cons, List.length_nil, List.length_replicate]; omega))))
local macro_rules | `(tactic| array_get_dec) => `(tactic| first
  | ((with_reducible apply LS.var); exact rfl)
  | (with_reducible apply LS.con)
  | (with_reducible apply LS.op)
  | (with_reducible apply LS.ri0)
  | (with_reducible apply LS.tseq)
  | (with_reducible apply LS.tasg)
  | (with_reducible apply LS.gname)
  | (with_reducible apply LS.tcons)
  | (with_reducible apply LS.tnil)
  | (with_reducible apply LS.tcb)
  | (with_reducible apply LS.tcall)
  | (with_reducible apply LS.ttest)
  | (with_reducible apply LS.k_b)
  | (with_reducible apply LS.tb)
  | (with_reducible apply LS.tifs)
  | (with_reducible apply LS.ift)
  | (with_reducible apply LS.iff_)
  | (with_reducible apply LS.ifnt)
  | (with_reducible apply LS.ifnf)
  | (with_reducible apply LS.tnext)
  | (with_reducible apply LS.tdrop)
  | (with_reducible apply LS.tret)
  | (with_reducible apply LS.tretn)
  | (with_reducible apply LS.un)
  | (with_reducible apply LS.ru)
  | (with_reducible apply LS.tyes)
  | (with_reducible apply LS.tand)
  | (with_reducible apply LS.tor)
  | (with_reducible apply LS.tnot)
  | (with_reducible apply LS.tif)
  | (with_reducible apply LS.tandv)
  | (with_reducible apply LS.k_av)
  | (with_reducible apply LS.torv)
  | (with_reducible apply LS.k_ov)
  | (with_reducible apply LS.tnotv)
  | (with_reducible apply LS.k_nv)
  | (with_reducible apply LS.tchain)
  | (with_reducible apply LS.k_ch)
  | (with_reducible apply LS.req_i)
  | (with_reducible apply LS.rne_i)
  | (with_reducible apply LS.req_s)
  | (with_reducible apply LS.rne_s)
  | (with_reducible apply LS.req_b)
  | (with_reducible apply LS.rne_b)
  | ((with_reducible apply LS.rin_i); array_mem_dec)
  | ((with_reducible apply LS.rni_i); array_mem_dec)
  | ((with_reducible apply LS.rlen_li); array_mem_dec)
  | ((with_reducible apply LS.rlen_ls); array_mem_dec)
  | ((with_reducible apply LS.rlen_l); array_mem_dec)
  | ((with_reducible apply LS.rlen_Ei); array_mem_dec)
  | ((with_reducible apply LS.rlen_E); array_mem_dec)
  | ((with_reducible apply LS.rlen_t); array_mem_dec)
  | ((with_reducible apply LS.rixl); array_mem_dec; exact rfl)
  | ((with_reducible apply LS.rixt); array_mem_dec; exact rfl)
  | (with_reducible apply LS.isi_int_int)
  | (with_reducible apply LS.isi_int_bool)
  | (with_reducible apply LS.isi_int_str)
  | (with_reducible apply LS.isi_str_int)
  | (with_reducible apply LS.isi_str_bool)
  | (with_reducible apply LS.isi_str_str)
  | (with_reducible apply LS.isi_bool_int)
  | (with_reducible apply LS.isi_bool_bool)
  | (with_reducible apply LS.isi_bool_str)
  | (with_reducible apply LS.isi_non_int)
  | (with_reducible apply LS.isi_non_bool)
  | (with_reducible apply LS.isi_non_str)
  | ((with_reducible apply LS.isi_list_int); array_mem_dec)
  | ((with_reducible apply LS.isi_list_bool); array_mem_dec)
  | ((with_reducible apply LS.isi_list_str); array_mem_dec)
  | ((with_reducible apply LS.isi_list_list); array_mem_dec)
  | ((with_reducible apply LS.isi_list_tuple); array_mem_dec)
  | ((with_reducible apply LS.isi_tuple_int); array_mem_dec)
  | ((with_reducible apply LS.isi_tuple_bool); array_mem_dec)
  | ((with_reducible apply LS.isi_tuple_str); array_mem_dec)
  | ((with_reducible apply LS.isi_tuple_list); array_mem_dec)
  | ((with_reducible apply LS.isi_tuple_tuple); array_mem_dec)
  | ((with_reducible apply LS.isiT_i); array_mem_dec)
  | ((with_reducible apply LS.isiT_s); array_mem_dec)
  | ((with_reducible apply LS.isiT_E); array_mem_dec; array_mem_dec)
  | (with_reducible apply LS.tfld)
  | ((with_reducible apply LS.k_fl); array_mem_dec; assumption; assumption; exact rfl)
  | (with_reducible apply LS.tmeth)
  | ((with_reducible apply LS.k_me); array_mem_dec; exact rfl)
  | (with_reducible apply LS.tmake)
  | (with_reducible apply LS.tsfld)
  | (with_reducible apply LS.tprop)
  | ((with_reducible apply LS.k_pr); array_mem_dec)
  | ((with_reducible apply LS.rlen_own); array_mem_dec)
  | (with_reducible apply LS.rabs)
  | (with_reducible apply LS.rmin2)
  | (with_reducible apply LS.rmax2)
  | (with_reducible apply LS.tsl)
  | (with_reducible apply LS.tthen)
  | (with_reducible apply LS.tstep)
  | (with_reducible apply LS.tnop)
  | (with_reducible apply LS.tpart)
  | (with_reducible apply LS.k_part)
  | (with_reducible apply LS.ttup)
  | (with_reducible apply LS.tlst)
  | (with_reducible apply LS.tbm)
  | (with_reducible apply LS.tbm0)
  | ((with_reducible apply LS.ty_l); array_mem_dec)
  | (with_reducible apply LS.tpar)
  | (with_reducible apply LS.tfor)
  | (with_reducible apply LS.tlc)
  | (with_reducible apply LS.ilist)
  | ((with_reducible apply LS.k_il); array_mem_dec)
  | (with_reducible apply LS.itup)
  | ((with_reducible apply LS.k_it); array_mem_dec)
  | (with_reducible apply LS.istr)
  | (with_reducible apply LS.k_is)
  | (with_reducible apply LS.irng1)
  | ((with_reducible apply LS.k_r1n); omega)
  | ((with_reducible apply LS.k_r1); (first | omega | decide); (first | omega | decide))
  | (with_reducible apply LS.irng2)
  | ((with_reducible apply LS.k_r2); (first | omega | decide); (first | omega | decide); (first | omega | decide); (first | omega | decide))
  | (with_reducible apply LS.ienum)
  | ((with_reducible apply LS.k_en); array_mem_dec)
  | (with_reducible apply LS.izip)
  | ((with_reducible apply LS.k_zip); array_mem_dec; array_mem_dec)
  | (with_reducible apply LS.tlstrg)
  | (with_reducible apply LS.trg1)
  | (with_reducible apply LS.k_g1)
  | (with_reducible apply LS.risn_i)
  | (with_reducible apply LS.risn_s)
  | (with_reducible apply LS.risn_n)
  | (with_reducible apply LS.rnotn_i)
  | (with_reducible apply LS.rnotn_n)
  | (with_reducible apply LS.rint_b)
  | (with_reducible apply LS.rint_i)
  | (with_reducible apply LS.tm0)
  | (with_reducible apply LS.tm1)
  | (with_reducible apply LS.is_str)
  | (with_reducible apply LS.ex_s0)
  | (with_reducible apply LS.ex_int_b)
  | (with_reducible apply LS.k_par)
  | (with_reducible apply LS.tpar3)
  | (with_reducible apply LS.k_par3)
  | ((with_reducible apply LS.taug); exact rfl)
  | (with_reducible apply LS.ipi)
  | ((with_reducible apply LS.gtup); array_mem_dec; exact rfl)
  | ((with_reducible apply LS.gunl); array_mem_dec; exact rfl)
  | (with_reducible apply LS.gnil)
  | (with_reducible apply LS.gcons)
  | (with_reducible apply LS.gsub)
  | ((with_reducible apply LS.ri); first | omega | decide | assumption | exact ⟨by decide, by decide, by decide⟩ | exact .inl ⟨by decide, by decide⟩ | exact .inr ⟨by decide, by decide⟩ | exact .inl ⟨by omega, by omega⟩ | exact .inr ⟨by omega, by omega⟩)
  | (with_reducible apply LS.ex_ss)
  | (with_reducible apply LS.ex_s1)
  | (with_reducible apply LS.ex_i1)
  | (with_reducible apply LS.and_rfl)
  | (with_reducible apply LS.and_tr)
  | (with_reducible apply LS.is_non))
local macro_rules | `(tactic| array_mem_dec) => `(tactic| first
  | ((with_reducible apply LP.lv_s); assumption; array_mem_dec)
  | ((with_reducible apply LP.lv_l); assumption; array_mem_dec; array_mem_dec; array_mem_dec)
  | ((with_reducible apply LP.lv_f); assumption; array_mem_dec; array_mem_dec; array_mem_dec)
  | ((with_reducible apply LP.lv_t); assumption; array_mem_dec; array_mem_dec; array_mem_dec)
  | ((with_reducible apply LP.ops_s); assumption; array_mem_dec)
  | ((with_reducible apply LP.md_s); assumption; array_mem_dec)
  | ((with_reducible apply LP.md_l); assumption; array_mem_dec; array_mem_dec; array_mem_dec)
  | ((with_reducible apply LP.md_f); assumption; array_mem_dec; array_mem_dec; array_mem_dec)
  | ((with_reducible apply LP.md_t); assumption; array_mem_dec; array_mem_dec; array_mem_dec)
  | ((with_reducible apply LP.al_s); assumption; array_mem_dec; array_mem_dec)
  | ((with_reducible apply LP.al_t); assumption; array_mem_dec; array_mem_dec)
  | ((with_reducible apply LP.al_l); assumption; array_mem_dec; array_mem_dec; array_mem_dec)
  | ((with_reducible apply LP.al_f); assumption; array_mem_dec; array_mem_dec; array_mem_dec)
  | ((with_reducible apply LP.Lv.lists); array_mem_dec)
  | ((with_reducible apply LP.Lv.trk); array_mem_dec)
  | ((with_reducible apply LP.Mdl.trk); array_mem_dec)
  | ((with_reducible apply LP.al_no); assumption; array_mem_dec))
local macro_rules | `(tactic| array_mem_dec) => `(tactic| first
  | ((with_reducible apply LP.sg_s); assumption; array_mem_dec)
  | ((with_reducible apply LP.sg_f); assumption; array_mem_dec; array_mem_dec)
  | ((with_reducible apply LP.sg_l); assumption; array_mem_dec; array_mem_dec)
  | ((with_reducible apply LP.sg_ne); assumption; array_mem_dec)
  | ((with_reducible apply LP.sg_ne'); assumption; array_mem_dec)
  | ((with_reducible apply LS.se_q); array_mem_dec)
  | ((with_reducible apply LS.se_u); array_mem_dec)
  | ((with_reducible apply LP.sg_no); assumption; array_mem_dec; array_mem_dec))
local macro_rules | `(tactic| array_get_dec) => `(tactic| first
  | ((with_reducible apply LS.rne_same); exact rfl)
  | ((with_reducible apply LS.req_same); exact rfl)
  | (with_reducible apply LS.trevl)
  | (with_reducible apply LS.irng3)
  | (with_reducible apply LS.risn_b)
  | ((with_reducible apply LS.isiT_n); array_mem_dec)
  | ((with_reducible apply LS.isiT_b); array_mem_dec))
local macro_rules | `(tactic| array_get_dec) => `(tactic| first
  | (with_reducible apply LS.trg2)
  | (with_reducible apply LS.k_g2))

section
variable {P : Program} {w : World} {K : PySem.W.Frag} {mg : Str → Option Value} {base : Heap}

/-- new lists of ints -/
def LsOk (H0 H : Hp) (as : List Addr) (cs : List (List Int)) : Prop := as.length = cs.length ∧ ∀ (i : Nat) a c, as[i]? = some a → cs[i]? = some c → H a = some (.lst (c.map V.int)) ∧ H0 a = none
theorem lso_s {H0 H H' : Hp} {as : List Addr} {cs : List (List Int)} (s : Same H H') (h : LsOk H0 H as cs) : LsOk H0 H' as cs := ⟨h.1, fun i a c ha hc => ⟨s _ _ (h.2 i a c ha hc).1, (h.2 i a c ha hc).2⟩⟩
theorem lso_f {H0 H H' : Hp} {p : Addr} {as : List Addr} {cs : List (List Int)} (f : Fr H H' p) (h : LsOk H0 H as cs) (n : p ∉ as) : LsOk H0 H' as cs := ⟨h.1, fun i a c ha hc => ⟨f _ _ (h.2 i a c ha hc).1 fun e => n (e ▸ List.mem_of_getElem? ha), (h.2 i a c ha hc).2⟩⟩
theorem lso_nil {H0 H : Hp} : LsOk H0 H [] [] := ⟨rfl, fun i a c ha => by simp at ha⟩
theorem lso_snoc {H0 H : Hp} {as : List Addr} {cs : List (List Int)} {a : Addr} {c : List Int} (h : LsOk H0 H as cs) (e : H a = some (.lst (c.map V.int))) (n : H0 a = none) : LsOk H0 H (as ++ [a]) (cs ++ [c]) := by
  refine ⟨by simp [h.1], fun i x y hx hy => ?_⟩
  rcases Nat.lt_or_ge i as.length with q | q
  · rw [List.getElem?_append_left q] at hx
    rw [List.getElem?_append_left (by rw [← h.1]; exact q)] at hy
    exact h.2 i x y hx hy
  · rw [List.getElem?_append_right q] at hx
    rw [List.getElem?_append_right (by rw [← h.1]; exact q), ← h.1] at hy
    cases z : i - as.length with
    | zero => rw [z] at hx hy; cases hx; cases hy; exact ⟨e, n⟩
    | succ n => rw [z] at hx; simp at hx
theorem lso_no {H0 H : Hp} {as : List Addr} {cs : List (List Int)} {p : Addr} (h : LsOk H0 H as cs) (n : H p = none) : p ∉ as := fun q => by
  obtain ⟨i, hi⟩ := List.mem_iff_getElem?.mp q
  have hl := (List.getElem?_eq_some_iff.mp hi).1
  have := (h.2 i p _ hi (List.getElem?_eq_getElem (by rw [← h.1]; exact hl))).1
  rw [n] at this; cases this
def seenV (n : Nat) (k : List Int) : List V := (List.range n).map fun (j : Nat) => V.bl (decide ((j : Int) ∈ k))
theorem seen_nil (n : Nat) : List.replicate n (V.bl false) = seenV n [] := by
  unfold seenV
  induction n with
  | zero => rfl
  | succ m ih => rw [List.replicate_succ', List.range_succ, List.map_append, ih]; simp
theorem seen_at {n : Nat} {k : List Int} {x : Int} (h0 : 0 ≤ x) (h1 : x < n) : (seenV n k)[x.toNat]? = some (.bl (decide (x ∈ k))) := by
  unfold seenV
  rw [List.getElem?_map, List.getElem?_range (by omega)]
  show some (V.bl (decide (((x.toNat : Nat) : Int) ∈ k))) = _
  rw [show ((x.toNat : Nat) : Int) = x by omega]
theorem seen_set {n : Nat} {k : List Int} {x : Int} (h0 : 0 ≤ x) : (seenV n k).set x.toNat (.bl true) = seenV n (k ++ [x]) := by
  unfold seenV
  apply List.ext_getElem?
  intro i
  rw [List.getElem?_set, List.getElem?_map, List.getElem?_map, List.length_map, List.length_range]
  rcases Nat.lt_or_ge i n with q | q
  · rw [List.getElem?_range q]
    by_cases e : x.toNat = i
    · rw [if_pos e, if_pos (by omega)]
      show _ = some (V.bl (decide ((i : Int) ∈ k ++ [x])))
      rw [decide_eq_true (List.mem_append_right _ (List.mem_singleton.mpr (by omega)))]
    · rw [if_neg e]
      show some (V.bl (decide ((i : Int) ∈ k))) = some (V.bl (decide ((i : Int) ∈ k ++ [x])))
      rw [decide_eq_decide.mpr]
      rw [List.mem_append, List.mem_singleton]
      constructor
      · exact Or.inl
      · rintro (h | h)
        · exact h
        · omega
  · rw [List.getElem?_eq_none (by simpa using q)]
    by_cases e : x.toNat = i
    · rw [if_pos e, if_neg (by omega)]; rfl
    · rw [if_neg e]; rfl
theorem seen_len (n : Nat) (k : List Int) : (seenV n k).length = n := by unfold seenV; rw [List.length_map, List.length_range]
def sp_cycles_of (K : PySem.W.Frag) : Sp := fun vs H Q _ => ∃ (a : Addr) (o : List Int) (n : Nat), vs = [.ref a] ∧ Is K H a o ∧ Ord n o ∧ 1 ≤ n ∧ n ≤ 200 ∧ ∀ (H' : Hp) (p : Addr) (as : List Addr), Same H H' → H p = none → H' p = some (.lst (as.map V.ref)) → LsOk H H' as (cycs o) → p ∉ as → Q (.ref p) H'
def sp__law_cycles : Sp := fun vs H Q _ => ∃ (a : Addr) (o : List Int) (n : Nat), vs = [.ref a] ∧ H a = some (.lst (o.map V.int)) ∧ Ord n o ∧ 1 ≤ n ∧ n ≤ 200 ∧ ∀ (H' : Hp) (p : Addr) (as : List Addr), Same H H' → H p = none → H' p = some (.lst (as.map V.ref)) → LsOk H H' as (cycs o) → p ∉ as → Q (.ref p) H'
local macro_rules | `(tactic| array_mem_dec) => `(tactic| first
  | ((with_reducible apply LP.lso_s); assumption; array_mem_dec)
  | ((with_reducible apply LP.lso_f); assumption; array_mem_dec; assumption))
theorem ok_cycles_of (e : Env K mg) : FnOk P w K mg base CX0 6 e.a_cycles_of e.d_cycles_of ["order"] (sp_cycles_of K) := by
  refine Fun.ok e.f_cycles_of sc_cycles_of (fun vs H Q E h => ?_) (fun cdv A outer s H vs Q E hr h => ?_)
  · obtain ⟨a, o, n, rfl, _⟩ := h; rfl
  · obtain ⟨a, o, n, rfl, hE, ho, h1, h2, kk⟩ := h
    refine ⟨_, (pss_cons (ps_expr (pe_call ((ok_check_order e).mono (by decide)) hr rfl e.g_check_order e.f_check_order.kp e.b_check_order .nil pass0 (pa_cons (pv 0) pa_nil)))
      (pss_cons (ps_set (i := 1) sc_cycles_of.nd rfl (by first | exact Or.inl rfl | exact Or.inr rfl) (pe_op op_rep (pe_lst (pa_cons pe_bl pa_nil)) (pe_callB LS.call_len (by rfl) e.n_len PySem.boot_len (pa_cons (pv 0) pa_nil))))
      (pss_cons (ps_set (i := 2) sc_cycles_of.nd rfl (by first | exact Or.inl rfl | exact Or.inr rfl) (pe_lst pa_nil))
      (pss_cons (ps_for PassesOwn.never rfl (pi_range1 (by rfl) e.n_range (pa_cons (pe_callB LS.call_len (by rfl) e.n_len PySem.boot_len (pa_cons (pv 0) pa_nil)) pa_nil)) (pg_name (i := 3) sc_cycles_of.nd rfl (by first | exact Or.inl rfl | exact Or.inr rfl))
      (pss_cons (ps_set (i := 4) sc_cycles_of.nd rfl (by first | exact Or.inl rfl | exact Or.inr rfl) (pe_lst pa_nil))
      (pss_cons (ps_set (i := 5) sc_cycles_of.nd rfl (by first | exact Or.inl rfl | exact Or.inr rfl) (pv 3))
      (pss_cons (ps_while PassesOwn.never (pt_not (pt_val (pe_ix ix_list (pv 1) (pv 5) (fun _ _ => rfl))))
      (pss_cons (ps_asg pe_bl (pg_sub (pv 1) (pv 5) set_list))
      (pss_cons (ps_expr (pe_bm PySem.F.plainAttrs_list PySem.F.slot_list_append PySem.F.type_list_append mt_append (pv 4) (pa_cons (pv 5) pa_nil)))
      (pss_one (ps_set (i := 5) sc_cycles_of.nd rfl (by first | exact Or.inl rfl | exact Or.inr rfl) (PE.or (pe_ix ix_list (pv 0) (pv 5) (fun _ _ => rfl)) (pe_ix ix_tup (pv 0) (pv 5) (fun _ _ => rfl))))))))
      (pss_one (ps_if (pt_cmpR op_gt (pe_callB LS.call_len (by rfl) e.n_len PySem.boot_len (pa_cons (pv 4) pa_nil)) pe_int (nomark _))
        (pss_one (ps_expr (pe_bm PySem.F.plainAttrs_list PySem.F.slot_list_append PySem.F.type_list_append mt_append (pv 2) (pa_cons (pv 4) pa_nil))))
        pss_nil))))))
      (pss_one (ps_ret (pv 2))))))), ?_⟩
    have hol := ho.len
    repeat array_get_dec
    refine ⟨a, o, n, rfl, hE, ho, h1, h2, fun H1 s1 => ?_⟩
    repeat array_get_dec
    refine LS.k_lst (by array_mem_dec) fun f0 H_f0 n_f0 s_f0 h_f0 => ?_
    repeat array_get_dec
    refine LS.rrep1 (by array_mem_dec) (by omega) fun sn H3 n3 s3 h3 => ?_
    rw [seen_nil, hol] at h3
    repeat array_get_dec
    refine LS.k_lst (by array_mem_dec) fun cy H4 n4 s4 h4 => ?_
    have nsc : sn ≠ cy := (by array_mem_dec)
    have nsn : H sn = none := (by array_mem_dec)
    have ncy : H cy = none := (by array_mem_dec)
    repeat array_get_dec
    refine LS.for_ (walk_range (lo := 0) (n := o.length)) (fun i σ H' => ∃ (as : List Addr) (v3 v4 v5 : Option V), Same H H' ∧ H' sn = some (.lst (seenV n (upto o i).1)) ∧ H' cy = some (.lst (as.map V.ref)) ∧ LsOk H H' as (upto o i).2 ∧ sn ∉ as ∧ cy ∉ as ∧ σ = [some (.ref a), some (.ref sn), some (.ref cy), v3, v4, v5])
      ⟨[], _, _, _, (by array_mem_dec), (by array_mem_dec), h4, lso_nil, by simp, by simp, rfl⟩ (fun _ _ _ _ _ => trivial) ?_ ?_
    · rintro i x σ H5 H6 hi ⟨as, v3, v4, v5, s5, hs5, hc5, ls5, ns, nc, rfl⟩ ⟨rfl, rfl⟩
      have kn := upto_kn ho i (by omega)
      have ul := upto_len o i
      repeat array_get_dec
      refine LS.k_lst (by array_mem_dec) fun cl H7 n7 s7 h7 => ?_
      have ncl : cl ∉ as := lso_no ls5 n7
      have nls : cl ≠ sn := (by array_mem_dec)
      have nlc : cl ≠ cy := (by array_mem_dec)
      have nlH : H cl = none := (by array_mem_dec)
      have hs7 : H7 sn = some (.lst (seenV n (upto o i).1)) := (by array_mem_dec)
      have hc7 : H7 cy = some (.lst (as.map V.ref)) := (by array_mem_dec)
      have ls7 : LsOk H H7 as (upto o i).2 := (by array_mem_dec)
      have s70 : Same H H7 := (by array_mem_dec)
      repeat array_get_dec
      refine LS.while_ (fun m σ H' => ∃ (k c : List Int) (here : Int), Wk n o (start o (upto o i).1 (i : Int)) m k c here ∧ Same H H' ∧ H' sn = some (.lst (seenV n k)) ∧ H' cl = some (.lst (c.map V.int)) ∧ H' cy = some (.lst (as.map V.ref)) ∧ LsOk H H' as (upto o i).2 ∧ σ = [some (.ref a), some (.ref sn), some (.ref cy), some (.int (0 + (i : Int))), some (.ref cl), some (.int here)])
        (n + 1 - (upto o i).1.length) ⟨(upto o i).1, [], 0 + (i : Int), by rw [Int.zero_add]; exact Wk.init ho kn (by omega), s70, hs7, h7, hc7, ls7, rfl⟩ ?_
      · rintro m σ H8 ⟨k, c, here, wk, s8, hs8, hl8, hc8, ls8, rfl⟩
        have w0 := wk.h0
        have w1 := wk.h1
        have wcl := wk.cl
        have wkn := wk.kn.le
        repeat array_get_dec
        refine LS.rixl_n (j := here.toNat) (by array_mem_dec) (seen_at w0 w1) (by omega) ?_
        repeat array_get_dec
        by_cases hk : here ∈ k
        · rw [decide_eq_true hk]
          refine LS.k_wf ?_
          have e := wk.stop hk
          have eu : upto o (i + 1) = (k, (upto o i).2 ++ if 1 < c.length then [c] else []) := by show ((start o (upto o i).1 (i : Int)).1, _) = _; rw [e]
          repeat array_get_dec
          refine LS.if2 (fun h2 => ?_) fun h2 => ?_
          · repeat array_get_dec
            refine LS.rapp (xs := as.map V.ref) (by array_mem_dec) (LS.szl (by rw [List.length_map, ls8.1]; omega)) fun H9 f9 h9 => ?_
            repeat array_get_dec
            refine ⟨as ++ [cl], _, _, _, (by array_mem_dec), ?_, by rw [h9, List.map_append]; rfl, ?_, ?_, ?_, rfl⟩
            · rw [eu]; exact (by array_mem_dec)
            · rw [eu, if_pos (by omega)]
              have ls9 : LsOk H H9 as (upto o i).2 := (by array_mem_dec)
              exact lso_snoc ls9 (by array_mem_dec) nlH
            · intro q; rcases List.mem_append.mp q with q | q
              · exact ns q
              · exact nls (List.mem_singleton.mp q).symm
            · intro q; rcases List.mem_append.mp q with q | q
              · exact nc q
              · exact nlc (List.mem_singleton.mp q).symm
          · repeat array_get_dec
            refine ⟨as, _, _, _, s8, by rw [eu]; exact hs8, hc8, ?_, ns, nc, rfl⟩
            rw [eu, if_neg (by omega), List.append_nil]; exact ls8
        · rw [decide_eq_false hk]
          refine LS.k_wt ?_
          obtain ⟨nx, hnx⟩ : ∃ nx, o[here.toNat]? = some nx := ⟨_, List.getElem?_eq_getElem (by omega)⟩
          obtain ⟨wk2, lt⟩ := wk.step ho hk hnx
          repeat array_get_dec
          refine LS.rset (j := here.toNat) (by array_mem_dec) (by rw [seen_len]; exact ixN_int w0 (by omega)) fun H9 f9 h9 => ?_
          rw [seen_set w0] at h9
          repeat array_get_dec
          refine LS.rapp (xs := c.map V.int) (by array_mem_dec) (LS.szl (by rw [List.length_map]; omega)) fun HA fa ha => ?_
          repeat array_get_dec
          refine LS.ixe (m := here.toNat) rfl rfl (show SqE K HA a (o.map V.int) from LS.se_s (show Same H HA from (by array_mem_dec)) hE) (int_at hnx) (by omega) ?_
          repeat array_get_dec
          exact ⟨_, lt, _, _, _, wk2, (by array_mem_dec), (by array_mem_dec), by rw [ha, List.map_append]; rfl, (by array_mem_dec), lso_f fa (lso_f f9 ls8 ns) ncl, rfl⟩
    · rintro σ H5 ⟨as, v3, v4, v5, s5, hs5, hc5, ls5, ns, nc, rfl⟩
      repeat array_get_dec
      exact kk H5 cy as s5 ncy hc5 ls5 nc
theorem ok__law_cycles (e : Env K mg) : FnOk P w K mg base CX0 1 e.a__law_cycles e.d__law_cycles ["order"] (sp__law_cycles) := by
  refine Fun.ok e.f__law_cycles sc__law_cycles (fun vs H Q E h => ?_) (fun cdv A outer s H vs Q E hr h => ?_)
  · obtain ⟨a, o, n, rfl, _⟩ := h; rfl
  · obtain ⟨a, o, n, rfl, hE, ho, h1, h2, kk⟩ := h
    refine ⟨_, (pss_cons (ps_par (i := 1) (j := 2) (by rfl) sc__law_cycles.nd rfl rfl (by decide) rfl rfl (pa_cons (pe_lst pa_nil) (pa_cons (pe_lst pa_nil) pa_nil)) (by rfl))
      (pss_cons (ps_for PassesOwn.never rfl (pi_range1 (by rfl) e.n_range (pa_cons (pe_callB LS.call_len (by rfl) e.n_len PySem.boot_len (pa_cons (pv 0) pa_nil)) pa_nil)) (pg_name (i := 3) sc__law_cycles.nd rfl (by first | exact Or.inl rfl | exact Or.inr rfl))
      (pss_cons (ps_par (i := 4) (j := 5) (by rfl) sc__law_cycles.nd rfl rfl (by decide) rfl rfl (pa_cons (pe_lst pa_nil) (pa_cons (pv 3) pa_nil)) (by rfl))
      (pss_cons (ps_while PassesOwn.never (pt_cmpR op_notIn_seq (pv 5) (pv 2) (by rfl))
      (pss_cons (ps_expr (pe_bm PySem.F.plainAttrs_list PySem.F.slot_list_append PySem.F.type_list_append mt_append (pv 2) (pa_cons (pv 5) pa_nil)))
      (pss_cons (ps_expr (pe_bm PySem.F.plainAttrs_list PySem.F.slot_list_append PySem.F.type_list_append mt_append (pv 4) (pa_cons (pv 5) pa_nil)))
      (pss_one (ps_set (i := 5) sc__law_cycles.nd rfl (by first | exact Or.inl rfl | exact Or.inr rfl) (pe_ix ix_list (pv 0) (pv 5) (fun _ _ => rfl)))))))
      (pss_one (ps_if (pt_cmpR op_gt (pe_callB LS.call_len (by rfl) e.n_len PySem.boot_len (pa_cons (pv 4) pa_nil)) pe_int (nomark _))
        (pss_one (ps_expr (pe_bm PySem.F.plainAttrs_list PySem.F.slot_list_append PySem.F.type_list_append mt_append (pv 1) (pa_cons (pv 4) pa_nil))))
        pss_nil)))))
      (pss_one (ps_ret (pv 1))))), ?_⟩
    have hol := ho.len
    repeat array_get_dec
    refine LS.k_lst (by array_mem_dec) fun cy H3 n3 s3 h3 => ?_
    repeat array_get_dec
    refine LS.k_lst (by array_mem_dec) fun sn H4 n4 s4 h4 => ?_
    have nsc : sn ≠ cy := (by array_mem_dec)
    have nsn : H sn = none := (by array_mem_dec)
    have ncy : H cy = none := (by array_mem_dec)
    repeat array_get_dec
    refine LS.for_ (walk_range (lo := 0) (n := o.length)) (fun i σ H' => ∃ (as : List Addr) (v3 v4 v5 : Option V), Same H H' ∧ H' sn = some (.lst ((upto o i).1.map V.int)) ∧ H' cy = some (.lst (as.map V.ref)) ∧ LsOk H H' as (upto o i).2 ∧ sn ∉ as ∧ cy ∉ as ∧ σ = [some (.ref a), some (.ref cy), some (.ref sn), v3, v4, v5])
      ⟨[], _, _, _, (by array_mem_dec), h4, (by array_mem_dec), lso_nil, by simp, by simp, rfl⟩ (fun _ _ _ _ _ => trivial) ?_ ?_
    · rintro i x σ H5 H6 hi ⟨as, v3, v4, v5, s5, hs5, hc5, ls5, ns, nc, rfl⟩ ⟨rfl, rfl⟩
      have kn := upto_kn ho i (by omega)
      have ul := upto_len o i
      repeat array_get_dec
      refine LS.k_lst (by array_mem_dec) fun cl H7 n7 s7 h7 => ?_
      have ncl : cl ∉ as := lso_no ls5 n7
      have nls : cl ≠ sn := (by array_mem_dec)
      have nlc : cl ≠ cy := (by array_mem_dec)
      have nlH : H cl = none := (by array_mem_dec)
      have hs7 : H7 sn = some (.lst ((upto o i).1.map V.int)) := (by array_mem_dec)
      have hc7 : H7 cy = some (.lst (as.map V.ref)) := (by array_mem_dec)
      have ls7 : LsOk H H7 as (upto o i).2 := (by array_mem_dec)
      have s70 : Same H H7 := (by array_mem_dec)
      repeat array_get_dec
      refine LS.while_ (fun m σ H' => ∃ (k c : List Int) (here : Int), Wk n o (start o (upto o i).1 (i : Int)) m k c here ∧ Same H H' ∧ H' sn = some (.lst (k.map V.int)) ∧ H' cl = some (.lst (c.map V.int)) ∧ H' cy = some (.lst (as.map V.ref)) ∧ LsOk H H' as (upto o i).2 ∧ σ = [some (.ref a), some (.ref cy), some (.ref sn), some (.int (0 + (i : Int))), some (.ref cl), some (.int here)])
        (n + 1 - (upto o i).1.length) ⟨(upto o i).1, [], 0 + (i : Int), by rw [Int.zero_add]; exact Wk.init ho kn (by omega), s70, hs7, h7, hc7, ls7, rfl⟩ ?_
      · rintro m σ H8 ⟨k, c, here, wk, s8, hs8, hl8, hc8, ls8, rfl⟩
        have w0 := wk.h0
        have w1 := wk.h1
        have wcl := wk.cl
        have wkn := wk.kn.le
        repeat array_get_dec
        by_cases hk : here ∈ k
        · rw [decide_eq_true hk]
          refine LS.k_wf ?_
          have e := wk.stop hk
          have eu : upto o (i + 1) = (k, (upto o i).2 ++ if 1 < c.length then [c] else []) := by show ((start o (upto o i).1 (i : Int)).1, _) = _; rw [e]
          repeat array_get_dec
          refine LS.if2 (fun h2 => ?_) fun h2 => ?_
          · repeat array_get_dec
            refine LS.rapp (xs := as.map V.ref) (by array_mem_dec) (LS.szl (by rw [List.length_map, ls8.1]; omega)) fun H9 f9 h9 => ?_
            repeat array_get_dec
            refine ⟨as ++ [cl], _, _, _, (by array_mem_dec), ?_, by rw [h9, List.map_append]; rfl, ?_, ?_, ?_, rfl⟩
            · rw [eu]; exact (by array_mem_dec)
            · rw [eu, if_pos (by omega)]
              have ls9 : LsOk H H9 as (upto o i).2 := (by array_mem_dec)
              exact lso_snoc ls9 (by array_mem_dec) nlH
            · intro q; rcases List.mem_append.mp q with q | q
              · exact ns q
              · exact nls (List.mem_singleton.mp q).symm
            · intro q; rcases List.mem_append.mp q with q | q
              · exact nc q
              · exact nlc (List.mem_singleton.mp q).symm
          · repeat array_get_dec
            refine ⟨as, _, _, _, s8, by rw [eu]; exact hs8, hc8, ?_, ns, nc, rfl⟩
            rw [eu, if_neg (by omega), List.append_nil]; exact ls8
        · rw [decide_eq_false hk]
          refine LS.k_wt ?_
          obtain ⟨nx, hnx⟩ : ∃ nx, o[here.toNat]? = some nx := ⟨_, List.getElem?_eq_getElem (by omega)⟩
          obtain ⟨wk2, lt⟩ := wk.step ho hk hnx
          repeat array_get_dec
          refine LS.rapp (xs := k.map V.int) (by array_mem_dec) (LS.szl (by rw [List.length_map]; omega)) fun H9 f9 h9 => ?_
          repeat array_get_dec
          refine LS.rapp (xs := c.map V.int) (by array_mem_dec) (LS.szl (by rw [List.length_map]; omega)) fun HA fa ha => ?_
          have sA : Same H HA := (by array_mem_dec)
          repeat array_get_dec
          refine LS.rixl_n (j := here.toNat) (xs := o.map V.int) (SqL.of (sA _ _ hE)) (int_at hnx) (by omega) ?_
          repeat array_get_dec
          exact ⟨_, lt, _, _, _, wk2, sA, (by rw [List.map_append]; exact LS.hp_f fa h9 (by array_mem_dec)), by rw [ha, List.map_append]; rfl, LS.hp_f fa (LS.hp_f f9 hc8 (by array_mem_dec)) (by array_mem_dec), lso_f fa (lso_f f9 ls8 ns) ncl, rfl⟩
    · rintro σ H5 ⟨as, v3, v4, v5, s5, hs5, hc5, ls5, ns, nc, rfl⟩
      repeat array_get_dec
      exact kk H5 cy as s5 ncy hc5 ls5 nc
end
end LP

/-! ways to treat a cycle -/
namespace LQ
open LR
def at_ (c : List Int) (g : Nat) : Int := (c[g % c.length]?).getD 0
theorem at_mod (c : List Int) {g h : Nat} (e : g % c.length = h % c.length) : at_ c g = at_ c h := by unfold at_; rw [e]
theorem at_get {c : List Int} {g : Nat} (h : 0 < c.length) : c[g % c.length]? = some (at_ c g) := by
  unfold at_
  rw [List.getElem?_eq_getElem (Nat.mod_lt _ h)]; rfl
/-- in how many ways a cycle is finished, from the gap g, with m + 1 places left -/
def wy (c : List Int) : Nat → Nat → Int
  | 0, _ => 1
  | m + 1, g => (if at_ c (g + (m + 1)) < at_ c g then wy c m g else 0) + (if at_ c g < at_ c (g + 1) then wy c m (g + 1) else 0)
theorem wy_mod (c : List Int) : ∀ (m : Nat) {g h : Nat}, g % c.length = h % c.length → wy c m g = wy c m h
  | 0, _, _, _ => rfl
  | m + 1, g, h, e => by
    have e1 : (g + 1) % c.length = (h + 1) % c.length := by rw [Nat.add_mod, e, ← Nat.add_mod]
    have e2 : (g + (m + 1)) % c.length = (h + (m + 1)) % c.length := by rw [Nat.add_mod, e, ← Nat.add_mod]
    show (if _ then _ else _) + (if _ then _ else _) = (if _ then _ else _) + (if _ then _ else _)
    rw [at_mod c e, at_mod c e1, at_mod c e2, wy_mod c m e, wy_mod c m e1]
def wrow (c : List Int) (m : Nat) : List Int := (List.range c.length).map fun g => wy c m g
theorem wrow_len (c : List Int) (m : Nat) : (wrow c m).length = c.length := by unfold wrow; rw [List.length_map, List.length_range]
theorem wrow_get {c : List Int} {m g : Nat} (h : g < c.length) : (wrow c m)[g]? = some (wy c m g) := by
  unfold wrow; rw [List.getElem?_map, List.getElem?_range h]; rfl
theorem wrow_0 (c : List Int) : wrow c 0 = List.replicate c.length 1 := by
  unfold wrow
  apply List.ext_getElem?
  intro i
  rw [List.getElem?_map]
  rcases Nat.lt_or_ge i c.length with q | q
  · rw [List.getElem?_range q, List.getElem?_replicate, if_pos q]; rfl
  · rw [List.getElem?_eq_none (by simpa using q), List.getElem?_eq_none (by simpa using q)]; rfl
/-- what can be taken next -/
def tks (c : List Int) (g m : Nat) : List (Int × Nat) := (if at_ c (g + (m + 1)) < at_ c g then [(at_ c (g + (m + 1)), g)] else []) ++ (if at_ c g < at_ c (g + 1) then [(at_ c (g + 1), (g + 1) % c.length)] else [])
theorem tks_sum (c : List Int) (g m : Nat) : ((tks c g m).map fun t => wy c m t.2).sum = wy c (m + 1) g := by
  have e : wy c m ((g + 1) % c.length) = wy c m (g + 1) := wy_mod c m (Nat.mod_mod _ _)
  unfold tks
  show _ = (if _ then _ else _) + (if _ then _ else _)
  split <;> split <;> simp [e]
theorem tks_lt {c : List Int} {g m : Nat} (hg : g < c.length) : ∀ t ∈ tks c g m, t.2 < c.length := by
  intro t h
  unfold tks at h
  rcases List.mem_append.mp h with h | h
  · split at h
    · rw [List.mem_singleton.mp h]; exact hg
    · cases h
  · split at h
    · rw [List.mem_singleton.mp h]; exact Nat.mod_lt _ (by omega)
    · cases h
theorem tks_len (c : List Int) (g m : Nat) : (tks c g m).length ≤ 2 := by
  unfold tks
  rw [List.length_append]
  split <;> split <;> simp
def tot (c : List Int) : Int := (wrow c (c.length - 1)).sum
/-! the law goes the other way -/
/-- the sum of products with weights -/
def dotW (w : Nat → Int) : Nat → List Int → Int
  | _, [] => 0
  | k, x :: l => x * w k + dotW w (k + 1) l
theorem dot_set (w : Nat → Int) (a : Int) : ∀ (l : List Int) (k i : Nat), i < l.length → dotW w k (l.set i ((l[i]?).getD 0 + a)) = dotW w k l + a * w (k + i)
  | [], k, i, h => by simp at h
  | x :: l, k, 0, _ => by
    show (x + a) * w k + dotW w (k + 1) l = x * w k + dotW w (k + 1) l + a * w (k + 0)
    rw [Int.add_mul, show k + 0 = k from rfl]; omega
  | x :: l, k, i + 1, h => by
    have := dot_set w a l (k + 1) i (by simpa using h)
    show x * w k + dotW w (k + 1) (l.set i ((l[i]?).getD 0 + a)) = x * w k + dotW w (k + 1) l + a * w (k + (i + 1))
    rw [this, show k + 1 + i = k + (i + 1) by omega]; omega
theorem dot_zero (w : Nat → Int) : ∀ (n k : Nat), dotW w k (List.replicate n 0) = 0
  | 0, _ => rfl
  | n + 1, k => by
    rw [List.replicate_succ]
    show 0 * w k + dotW w (k + 1) (List.replicate n 0) = 0
    rw [dot_zero w n (k + 1)]; omega
theorem dot_one {w : Nat → Int} (h : ∀ i, w i = 1) : ∀ (l : List Int) (k : Nat), dotW w k l = l.sum
  | [], _ => rfl
  | x :: l, k => by
    show x * w k + dotW w (k + 1) l = (x :: l).sum
    rw [dot_one h l (k + 1), h k, List.sum_cons]; omega
theorem dot_ones {w : Nat → Int} : ∀ (n k : Nat), dotW w k (List.replicate n 1) = ((List.range n).map fun i => w (k + i)).sum
  | 0, _ => rfl
  | n + 1, k => by
    rw [List.replicate_succ, List.range_succ_eq_map, List.map_cons, List.map_map, List.sum_cons]
    show 1 * w k + dotW w (k + 1) (List.replicate n 1) = w (k + 0) + _
    rw [dot_ones n (k + 1), show k + 0 = k from rfl]
    have : ((fun i => w (k + i)) ∘ Nat.succ) = fun i => w (k + 1 + i) := by
      funext i; show w (k + (i + 1)) = _; rw [show k + (i + 1) = k + 1 + i by omega]
    rw [this]; omega
theorem dot_take (w : Nat → Int) : ∀ (l : List Int) (k i : Nat) (x : Int), l[i]? = some x → dotW w k (l.take (i + 1)) = dotW w k (l.take i) + x * w (k + i)
  | [], _, _, _, h => by simp at h
  | y :: l, k, 0, x, h => by
    cases h
    show y * w k + 0 = 0 + y * w (k + 0)
    rw [show k + 0 = k from rfl]; omega
  | y :: l, k, i + 1, x, h => by
    have := dot_take w l (k + 1) i x h
    show y * w k + dotW w (k + 1) (l.take (i + 1)) = y * w k + dotW w (k + 1) (l.take i) + x * w (k + (i + 1))
    rw [this, show k + 1 + i = k + (i + 1) by omega]; omega
/-- the weight of a first place behind s places -/
def wt (c : List Int) (s x : Nat) : Int := wy c (c.length - 1 - s) (x + s)
/-- the law's row behind s places -/
structure Fw (c : List Int) (s : Nat) (l : List Int) : Prop where
  len : l.length = c.length
  e : dotW (wt c s) 0 l = tot c
theorem Fw.init (c : List Int) : Fw c 0 (List.replicate c.length 1) := by
  refine ⟨List.length_replicate .., ?_⟩
  rw [dot_ones]
  unfold tot wrow wt
  congr 1
  apply List.map_congr_left
  intro i _
  show wy c (c.length - 1 - 0) (0 + i + 0) = _
  rw [Nat.sub_zero, Nat.zero_add, Nat.add_zero]
theorem Fw.last {c l : List Int} (h : Fw c (c.length - 1) l) : l.sum = tot c := by
  rw [← h.e]
  refine (dot_one (fun i => ?_) l 0).symm
  unfold wt
  rw [Nat.sub_self]; rfl
/-- the new row behind the first i of the old one -/
structure Fs (c : List Int) (s : Nat) (l : List Int) (i : Nat) (m : List Int) : Prop where
  len : m.length = c.length
  e : dotW (wt c (s + 1)) 0 m = dotW (wt c s) 0 (l.take i)
theorem Fs.init (c : List Int) (s : Nat) (l : List Int) : Fs c s l 0 (List.replicate c.length 0) := ⟨List.length_replicate .., by rw [dot_zero]; rfl⟩
theorem Fs.last {c l m : List Int} {s : Nat} (h : Fs c s l c.length m) (f : Fw c s l) : Fw c (s + 1) m := ⟨h.len, by rw [h.e, List.take_of_length_le (by rw [f.len]; exact Nat.le_refl _), f.e]⟩
/-- the index before i -/
def bef (n i : Nat) : Nat := (i + (n - 1)) % n
theorem wt_bef {c : List Int} {s i : Nat} (hi : i < c.length) (hs : s + 1 < c.length) : wt c (s + 1) (bef c.length i) = wy c (c.length - 1 - (s + 1)) (i + s) := by
  unfold wt bef
  refine wy_mod c _ ?_
  rw [Nat.mod_add_mod, show i + (c.length - 1) + (s + 1) = i + s + c.length by omega, Nat.add_mod_right]
theorem wt_step {c : List Int} {s i : Nat} (hi : i < c.length) (hs : s + 1 < c.length) : wt c s i = (if at_ c (i + (c.length - 1)) < at_ c (i + s) then wt c (s + 1) (bef c.length i) else 0) + (if at_ c (i + s) < at_ c (i + s + 1) then wt c (s + 1) i else 0) := by
  rw [wt_bef hi hs]
  unfold wt
  obtain ⟨m, hm⟩ : ∃ m, c.length - 1 - s = m + 1 := ⟨c.length - 1 - s - 1, by omega⟩
  rw [hm, show c.length - 1 - (s + 1) = m by omega]
  show (if at_ c (i + s + (m + 1)) < at_ c (i + s) then _ else _) + _ = _
  rw [show i + s + (m + 1) = i + (c.length - 1) by omega, show i + (s + 1) = i + s + 1 by omega]
theorem Fs.step {c l m : List Int} {s i : Nat} {x : Int} (h : Fs c s l i m) (f : Fw c s l) (hx : l[i]? = some x) (hs : s + 1 < c.length) (m2 m3 : List Int)
    (h2 : m2 = if at_ c (i + s) < at_ c (i + s + 1) then m.set i ((m[i]?).getD 0 + x) else m)
    (h3 : m3 = if at_ c (i + (c.length - 1)) < at_ c (i + s) then m2.set (bef c.length i) ((m2[bef c.length i]?).getD 0 + x) else m2) : Fs c s l (i + 1) m3 := by
  have hi : i < c.length := by have := (List.getElem?_eq_some_iff.mp hx).1; rw [f.len] at this; exact this
  have hb : bef c.length i < c.length := Nat.mod_lt _ (by omega)
  have l2 : m2.length = c.length := by rw [h2]; split <;> simp [h.len]
  have e2 : dotW (wt c (s + 1)) 0 m2 = dotW (wt c (s + 1)) 0 m + (if at_ c (i + s) < at_ c (i + s + 1) then x * wt c (s + 1) i else 0) := by
    rw [h2]; split
    · rw [dot_set _ _ _ _ _ (by rw [h.len]; exact hi), Nat.zero_add]
    · omega
  have e3 : dotW (wt c (s + 1)) 0 m3 = dotW (wt c (s + 1)) 0 m2 + (if at_ c (i + (c.length - 1)) < at_ c (i + s) then x * wt c (s + 1) (bef c.length i) else 0) := by
    rw [h3]; split
    · rw [dot_set _ _ _ _ _ (by rw [l2]; exact hb), Nat.zero_add]
    · omega
  refine ⟨by rw [h3]; split <;> simp [l2], ?_⟩
  rw [e3, e2, h.e, dot_take _ _ _ _ _ hx, Nat.zero_add, wt_step hi hs, Int.mul_add]
  split <;> split <;> omega
/-! bounds -/
theorem wy_bd (c : List Int) : ∀ (m g : Nat), 0 ≤ wy c m g ∧ wy c m g ≤ 2 ^ m
  | 0, _ => by show (0 : Int) ≤ 1 ∧ (1 : Int) ≤ 2 ^ 0; decide
  | m + 1, g => by
    have a := wy_bd c m g
    have b := wy_bd c m (g + 1)
    have e : wy c (m + 1) g = (if at_ c (g + (m + 1)) < at_ c g then wy c m g else 0) + (if at_ c g < at_ c (g + 1) then wy c m (g + 1) else 0) := rfl
    rw [e, Int.pow_succ]
    split <;> split <;> omega
theorem sum_bd {B : Int} : ∀ {l : List Int}, (∀ x ∈ l, 0 ≤ x ∧ x ≤ B) → 0 ≤ l.sum ∧ l.sum ≤ l.length * B
  | [], _ => by simp
  | x :: l, h => by
    have := sum_bd (l := l) fun y hy => h y (List.mem_cons_of_mem _ hy)
    have hx := h x (List.mem_cons_self ..)
    rw [List.sum_cons, List.length_cons]
    have : ((l.length + 1 : Nat) : Int) * B = l.length * B + B := by rw [Int.natCast_add, Int.add_mul]; simp
    omega
theorem tot_bd {c : List Int} (h : c.length ≤ 200) : 0 ≤ tot c ∧ (tot c).natAbs < 2 ^ 208 := by
  have := sum_bd (B := 2 ^ (c.length - 1)) (l := wrow c (c.length - 1)) fun x hx => by
    unfold wrow at hx
    obtain ⟨g, _, rfl⟩ := List.mem_map.mp hx
    exact wy_bd c _ g
  rw [wrow_len] at this
  refine ⟨this.1, ?_⟩
  have t : tot c = (wrow c (c.length - 1)).sum := rfl
  rw [← t] at this
  have p : (2 : Int) ^ (c.length - 1) ≤ 2 ^ 199 := by
    have : (2 : Nat) ^ (c.length - 1) ≤ 2 ^ 199 := Nat.pow_le_pow_right (by omega) (by omega)
    exact_mod_cast this
  have q : (c.length : Int) * 2 ^ (c.length - 1) ≤ 200 * 2 ^ 199 := by
    refine Int.mul_le_mul (by omega) p ?_ (by omega)
    have : (0 : Int) < 2 ^ (c.length - 1) := Int.pow_pos (by omega)
    omega
  have r : (200 : Int) * 2 ^ 199 < 2 ^ 208 := by decide
  have : (tot c) < 2 ^ 208 := by omega
  have z : ((tot c).natAbs : Int) < ((2 ^ 208 : Nat) : Int) := by
    rw [show ((2 ^ 208 : Nat) : Int) = (2 : Int) ^ 208 by norm_cast]
    omega
  exact_mod_cast z
end LQ
namespace LQ
def prd (l : List Int) : Int := l.foldl (· * ·) 1
theorem prd_snoc (l : List Int) (x : Int) : prd (l ++ [x]) = prd l * x := by unfold prd; rw [List.foldl_append]; rfl
theorem prd_bd : ∀ (n : Nat) (l : List Int), l.length = n → (∀ x ∈ l, x.natAbs < 2 ^ 208) → (prd l).natAbs < 2 ^ (208 * n + 1)
  | 0, l, hl, _ => by
    rw [List.length_eq_zero_iff.mp hl]; decide
  | n + 1, l, hl, h => by
    obtain ⟨l', x, rfl⟩ : ∃ l' x, l = l' ++ [x] := by
      rcases List.eq_nil_or_concat l with e | ⟨l', x, e⟩
      · rw [e] at hl; simp at hl
      · exact ⟨l', x, by rw [e, List.concat_eq_append]⟩
    have hl' : l'.length = n := by rw [List.length_append] at hl; simpa using hl
    have ih := prd_bd n l' hl' fun y hy => h y (List.mem_append_left _ hy)
    have hx := h x (List.mem_append_right _ (List.mem_singleton.mpr rfl))
    rw [prd_snoc, Int.natAbs_mul, show 208 * (n + 1) + 1 = (208 * n + 1) + 208 by omega, Nat.pow_add]
    exact Nat.mul_lt_mul'' ih hx
theorem cyc_gt (o : List Int) : ∀ i, ∀ c ∈ (upto o i).2, 1 < c.length
  | 0, c, h => by simp [upto] at h
  | i + 1, c, h => by
    have h : c ∈ (upto o i).2 ++ if 1 < (start o (upto o i).1 (i : Int)).2.length then [(start o (upto o i).1 (i : Int)).2] else [] := h
    rcases List.mem_append.mp h with q | q
    · exact cyc_gt o i c q
    · split at q
      · rw [List.mem_singleton.mp q]; assumption
      · cases q
theorem bef_val {n i : Nat} (h : i < n) : bef n i = if i = 0 then n - 1 else i - 1 := by
  unfold bef
  split
  · subst i; rw [Nat.zero_add, Nat.mod_eq_of_lt (by omega)]
  · rw [show i + (n - 1) = (i - 1) + n by omega, Nat.add_mod_right, Nat.mod_eq_of_lt (by omega)]
end LQ
namespace LQ
open LR
theorem cyc_len {n : Nat} {o : List Int} (ho : Ord n o) : ∀ i, i ≤ n → ∀ c ∈ (upto o i).2, c.length ≤ n
  | 0, _, c, h => by simp [upto] at h
  | i + 1, hi, c, h => by
    have h : c ∈ (upto o i).2 ++ if 1 < (start o (upto o i).1 (i : Int)).2.length then [(start o (upto o i).1 (i : Int)).2] else [] := h
    rcases List.mem_append.mp h with q | q
    · exact cyc_len ho i (by omega) c q
    · split at q
      · rw [List.mem_singleton.mp q]
        have g := go_kn (c := []) ho (o.length + 1 - (upto o i).1.length) (upto_kn ho i (by omega)) (by omega : (0 : Int) ≤ (i : Int)) (by omega) (Nat.zero_le _)
        exact Nat.le_trans g.2 g.1.le
      · cases q
end LQ

/-! math.factorial -/
namespace LX
open PySem PySem.Spec PyProof.Rows L2
variable {X : Cx}
theorem int1 {i : Int} {us : List Value} (r : Vals [V.int i] us) : ∃ t, us = [Value.int i t] := by
  cases r with
  | cons r t =>
    cases t
    obtain ⟨t, rfl⟩ := r
    exact ⟨t, rfl⟩
def rFact : List V → Hp → VK → Prop := fun vs H Q => ∃ a : Int, vs = [.int a] ∧ 0 ≤ a ∧ a ≤ 20000 ∧ Q (.int ((Builtin.Math.factorialNat a.toNat : Nat) : Int)) H
theorem cr_fact : CallR X (.builtin "math.factorial") rFact := by
  intro pins s σ H vs us Q I r h
  obtain ⟨a, rfl, h0, h1, q⟩ := h
  obtain ⟨t, rfl⟩ := int1 r
  exact PySem.W.mc_factorial h0 h1 fun _ => ⟨.int _, H, I.tok _, ⟨_, rfl⟩, q⟩
end LX

namespace LX
open PySem L2
theorem lookup_map {α β : Type} [BEq α] (g : α → β → β) (n : α) : ∀ l : List (α × β), List.lookup n (l.map fun x => (x.1, g x.1 x.2)) = (l.find? fun x => n == x.1).map fun x => g x.1 x.2
  | [] => rfl
  | (a, b) :: r => by
    rw [List.map_cons]
    show List.lookup n ((a, g a b) :: _) = _
    rw [List.lookup_cons, List.find?_cons]
    show (match n == a with | true => _ | false => _) = _
    cases q : n == a with
    | true => rfl
    | false => exact lookup_map g n r
theorem lookup_find {α β : Type} [BEq α] (n : α) : ∀ l : List (α × β), List.lookup n l = (l.find? fun x => n == x.1).map fun x => x.2
  | [] => rfl
  | (a, b) :: r => by
    rw [List.lookup_cons, List.find?_cons]
    cases q : n == a with
    | true => rfl
    | false => exact lookup_find n r
theorem relabel_or {sc : Scope} {env : Env} {n : Str} (h : List.lookup n sc.names = some NameKind.cell ∨ List.lookup n sc.names = some NameKind.free) :
    List.lookup n (relabel sc env).names = some NameKind.cell ∨ List.lookup n (relabel sc env).names = some NameKind.free := by
  have e : (relabel sc env).names = sc.names.map fun x => (x.1, (fun (n : Str) (k : NameKind) => if (k == NameKind.free && env.scope.kind == ScopeKind.function && env.kindOf n == some NameKind.cell) = true then NameKind.cell else k) x.1 x.2) := by
    unfold relabel
    apply List.map_congr_left
    rintro ⟨a, b⟩ _
    show (if _ then _ else _) = _
    split
    · rename_i q
      show _ = (a, if _ then _ else _)
      rw [if_pos q]
    · rename_i q
      show _ = (a, if _ then _ else _)
      rw [if_neg q]
  rw [e]
  generalize hg : (fun (n : Str) (k : NameKind) => if (k == NameKind.free && env.scope.kind == ScopeKind.function && env.kindOf n == some NameKind.cell) = true then NameKind.cell else k) = g
  rw [lookup_map g]
  have g1 : ∀ n, g n NameKind.cell = NameKind.cell := fun n => by rw [← hg]; exact if_neg (by simp)
  have g2 : ∀ n, g n NameKind.free = NameKind.cell ∨ g n NameKind.free = NameKind.free := fun n => by
    rw [← hg]
    show (if _ then _ else _) = _ ∨ (if _ then _ else _) = _
    split
    · exact .inl rfl
    · exact .inr rfl
  rw [lookup_find] at h
  cases q : sc.names.find? fun x => n == x.1 with
  | none => rw [q] at h; rcases h with h | h <;> cases h
  | some y =>
    rw [q] at h
    rcases h with h | h
    · left
      have h2 : y.2 = NameKind.cell := Option.some.inj h
      show some (g y.1 y.2) = _
      rw [h2, g1]
    · have h2 : y.2 = NameKind.free := Option.some.inj h
      show some (g y.1 y.2) = _ ∨ some (g y.1 y.2) = _
      rw [h2]
      exact (g2 y.1).imp (congrArg some) (congrArg some)
/-- a comprehension within a comprehension's block -/
theorem blkOk_in {X : Cx} {s : Shared} {H : Hp} {sc : Scope} {cl : List (Str × Addr)} {C : Addr} {fp : List Addr} {N : List Str} {scope : Scope} {own : List (Str × Nat)} (h : blkC N sc scope own = true) : BlkOk N (X.blk s H sc (compEnvC sc cl C X.env) fp).env.scope scope own := by
  obtain ⟨a, b, c, d, e⟩ := blkOk_by h
  exact ⟨a, b, c, fun y hy q => relabel_or (d y hy q), e⟩
end LX

namespace LP
open PySem L2 LT LG LQ LH LC LX LR
local macro_rules | `(tactic| array_mem_dec) => `(tactic| first
  | assumption
  | ((with_reducible apply LS.hp_s); assumption; array_mem_dec)
  | ((with_reducible apply LS.hp_f); assumption; array_mem_dec; array_mem_dec)
  | ((with_reducible apply LS.hp_t); assumption; array_mem_dec; array_mem_dec)
  | ((with_reducible apply LS.hp_l); assumption; array_mem_dec; array_mem_dec)
  | ((with_reducible apply LS.sq_o); array_mem_dec)
  | ((with_reducible apply LS.sq_s); assumption; array_mem_dec)
  | ((with_reducible apply LS.sq_f); assumption; array_mem_dec; array_mem_dec)
  | ((with_reducible apply LS.sq_t); assumption; array_mem_dec; array_mem_dec)
  | ((with_reducible apply LS.sq_l); assumption; array_mem_dec; array_mem_dec)
  | ((with_reducible apply LS.tu_o); array_mem_dec)
  | ((with_reducible apply LS.tu_s); assumption; array_mem_dec)
  | ((with_reducible apply LS.tu_f); assumption; array_mem_dec; array_mem_dec)
  | ((with_reducible apply LS.tu_t); assumption; array_mem_dec; array_mem_dec)
  | ((with_reducible apply LS.tu_l); assumption; array_mem_dec; array_mem_dec)
  | ((with_reducible apply LS.se_l); array_mem_dec)
  | ((with_reducible apply LS.se_t); array_mem_dec)
  | ((with_reducible apply LS.se_s); assumption; array_mem_dec)
  | ((with_reducible apply LS.se_f); assumption; array_mem_dec; array_mem_dec)
  | ((with_reducible apply LS.se_tt); assumption; array_mem_dec; array_mem_dec)
  | ((with_reducible exact Same.refl _))
  | ((with_reducible apply LS.sm_s); assumption; array_mem_dec)
  | ((with_reducible apply LS.sm_f); assumption; array_mem_dec; array_mem_dec)
  | ((with_reducible exact Fr.refl _ _))
  | ((with_reducible apply LS.fr_b); assumption; array_mem_dec)
  | ((with_reducible apply LS.fr_s); assumption; array_mem_dec)
  | ((with_reducible apply LS.fr_n); assumption; array_mem_dec; array_mem_dec)
  | ((with_reducible apply LS.fr_t); assumption; array_mem_dec)
  | ((with_reducible apply LS.no_s); assumption; array_mem_dec)
  | ((with_reducible apply LS.no_f); assumption; array_mem_dec; array_mem_dec)
  | ((with_reducible apply LS.no_t); assumption; array_mem_dec)
  | ((with_reducible apply LS.no_l); assumption; assumption)
  | ((with_reducible apply Ne.symm); assumption)
  | ((with_reducible apply LS.ne_a); assumption; array_mem_dec)
  | ((with_reducible apply LS.ne_b); assumption; array_mem_dec)
  | ((with_reducible apply LS.ne_ap); assumption)
  | ((with_reducible apply LS.ne_il); assumption; array_mem_dec)
  | ((with_reducible apply LS.ne_li); assumption; array_mem_dec)
  | ((with_reducible apply LS.ne_lt); assumption; assumption)
  | ((with_reducible apply LS.ne_tl); assumption; assumption)
  | ((with_reducible apply LS.ne_rl); assumption; array_mem_dec)
  | ((with_reducible apply LS.rl_t); assumption)
  | ((with_reducible apply LS.rl_s); assumption; array_mem_dec)
  | ((with_reducible apply LS.rl_f); assumption; array_mem_dec; array_mem_dec)
  | ((with_reducible apply LS.rl_l); assumption; array_mem_dec; array_mem_dec)
  | ((with_reducible apply LS.ap_new); assumption; assumption; array_mem_dec)
  | ((with_reducible apply LS.ap_t); assumption; array_mem_dec; array_mem_dec)
  | ((with_reducible apply LS.ap_s); assumption; array_mem_dec; array_mem_dec)
  | ((with_reducible apply LS.ap_f); assumption; array_mem_dec; array_mem_dec; array_mem_dec)
  | ((with_reducible apply LS.ap_l); assumption; array_mem_dec; array_mem_dec; array_mem_dec)
  | (with_reducible apply LS.ni_nil)
  | ((with_reducible apply LS.ni_cons); array_mem_dec; array_mem_dec)
  | (with_reducible apply LS.trk_nil)
  | ((with_reducible apply LS.trk_cons); array_mem_dec; array_mem_dec)
  | (with_reducible apply LS.al_nil)
  | ((with_reducible apply LS.al_cons); array_mem_dec; array_mem_dec)
  | (with_reducible apply LS.mem_hd)
  | ((with_reducible apply LS.mem_tl); array_mem_dec)
  | ((with_reducible apply LS.fl_refl); array_mem_dec)
  | ((with_reducible apply LS.fl_l); assumption; array_mem_dec)
  | ((with_reducible apply LS.fl_lm); assumption; array_mem_dec; array_mem_dec)
  | (with_reducible apply LS.sub_nil)
  | ((with_reducible apply LS.sub_cons); array_mem_dec; array_mem_dec)
  | ((with_reducible apply LS.fl_s); assumption; array_mem_dec)
  | ((with_reducible apply LS.fl_m); assumption; array_mem_dec; array_mem_dec; array_mem_dec)
  | ((with_reducible apply LS.fl_n); assumption; array_mem_dec; array_mem_dec; array_mem_dec)
  | ((with_reducible apply LS.rt_refl); array_mem_dec)
  | ((with_reducible apply LS.rt_t); assumption; array_mem_dec)
  | ((with_reducible apply LS.rt_s); assumption; array_mem_dec)
  | ((with_reducible apply LS.rt_f); assumption; array_mem_dec; array_mem_dec; array_mem_dec)
  | ((with_reducible apply LS.sz); (first | decide | (simp only [List.length_append, List.length_map, List.length_cons, List.length_nil, List.length_replicate]; omega)))
  | ((with_reducible apply LS.szl); (first | decide | (simp only [List.length_append, List.length_map, List.length_cons, List.length_nil, List.length_replicate]; omega))))
local macro_rules | `(tactic| array_get_dec) => `(tactic| first
  | ((with_reducible apply LS.var); exact rfl)
  | (with_reducible apply LS.con)
  | (with_reducible apply LS.op)
  | (with_reducible apply LS.ri0)
  | (with_reducible apply LS.tseq)
  | (with_reducible apply LS.tasg)
  | (with_reducible apply LS.gname)
  | (with_reducible apply LS.tcons)
  | (with_reducible apply LS.tnil)
  | (with_reducible apply LS.tcb)
  | (with_reducible apply LS.tcall)
  | (with_reducible apply LS.ttest)
  | (with_reducible apply LS.k_b)
  | (with_reducible apply LS.tb)
  | (with_reducible apply LS.tifs)
  | (with_reducible apply LS.ift)
  | (with_reducible apply LS.iff_)
  | (with_reducible apply LS.ifnt)
  | (with_reducible apply LS.ifnf)
  | (with_reducible apply LS.tnext)
  | (with_reducible apply LS.tdrop)
  | (with_reducible apply LS.tret)
  | (with_reducible apply LS.tretn)
  | (with_reducible apply LS.un)
  | (with_reducible apply LS.ru)
  | (with_reducible apply LS.tyes)
  | (with_reducible apply LS.tand)
  | (with_reducible apply LS.tor)
  | (with_reducible apply LS.tnot)
  | (with_reducible apply LS.tif)
  | (with_reducible apply LS.tandv)
  | (with_reducible apply LS.k_av)
  | (with_reducible apply LS.torv)
  | (with_reducible apply LS.k_ov)
  | (with_reducible apply LS.tnotv)
  | (with_reducible apply LS.k_nv)
  | (with_reducible apply LS.tchain)
  | (with_reducible apply LS.k_ch)
  | (with_reducible apply LS.req_i)
  | (with_reducible apply LS.rne_i)
  | (with_reducible apply LS.req_s)
  | (with_reducible apply LS.rne_s)
  | (with_reducible apply LS.req_b)
  | (with_reducible apply LS.rne_b)
  | ((with_reducible apply LS.rin_i); array_mem_dec)
  | ((with_reducible apply LS.rni_i); array_mem_dec)
  | ((with_reducible apply LS.rlen_li); array_mem_dec)
  | ((with_reducible apply LS.rlen_ls); array_mem_dec)
  | ((with_reducible apply LS.rlen_l); array_mem_dec)
  | ((with_reducible apply LS.rlen_Ei); array_mem_dec)
  | ((with_reducible apply LS.rlen_E); array_mem_dec)
  | ((with_reducible apply LS.rlen_t); array_mem_dec)
  | ((with_reducible apply LS.rixl); array_mem_dec; exact rfl)
  | ((with_reducible apply LS.rixt); array_mem_dec; exact rfl)
  | (with_reducible apply LS.isi_int_int)
  | (with_reducible apply LS.isi_int_bool)
  | (with_reducible apply LS.isi_int_str)
  | (with_reducible apply LS.isi_str_int)
  | (with_reducible apply LS.isi_str_bool)
  | (with_reducible apply LS.isi_str_str)
  | (with_reducible apply LS.isi_bool_int)
  | (with_reducible apply LS.isi_bool_bool)
  | (with_reducible apply LS.isi_bool_str)
  | (with_reducible apply LS.isi_non_int)
  | (with_reducible apply LS.isi_non_bool)
  | (with_reducible apply LS.isi_non_str)
  | ((with_reducible apply LS.isi_list_int); array_mem_dec)
  | ((with_reducible apply LS.isi_list_bool); array_mem_dec)
  | ((with_reducible apply LS.isi_list_str); array_mem_dec)
  | ((with_reducible apply LS.isi_list_list); array_mem_dec)
  | ((with_reducible apply LS.isi_list_tuple); array_mem_dec)
  | ((with_reducible apply LS.isi_tuple_int); array_mem_dec)
  | ((with_reducible apply LS.isi_tuple_bool); array_mem_dec)
  | ((with_reducible apply LS.isi_tuple_str); array_mem_dec)
  | ((with_reducible apply LS.isi_tuple_list); array_mem_dec)
  | ((with_reducible apply LS.isi_tuple_tuple); array_mem_dec)
  | ((with_reducible apply LS.isiT_i); array_mem_dec)
  | ((with_reducible apply LS.isiT_s); array_mem_dec)
  | ((with_reducible apply LS.isiT_E); array_mem_dec; array_mem_dec)
  | (with_reducible apply LS.tfld)
  | ((with_reducible apply LS.k_fl); array_mem_dec; assumption; assumption; exact rfl)
  | (with_reducible apply LS.tmeth)
  | ((with_reducible apply LS.k_me); array_mem_dec; exact rfl)
  | (with_reducible apply LS.tmake)
  | (with_reducible apply LS.tsfld)
  | (with_reducible apply LS.tprop)
  | ((with_reducible apply LS.k_pr); array_mem_dec)
  | ((with_reducible apply LS.rlen_own); array_mem_dec)
  | (with_reducible apply LS.rabs)
  | (with_reducible apply LS.rmin2)
  | (with_reducible apply LS.rmax2)
  | (with_reducible apply LS.tsl)
  | (with_reducible apply LS.tthen)
  | (with_reducible apply LS.tstep)
  | (with_reducible apply LS.tnop)
  | (with_reducible apply LS.tpart)
  | (with_reducible apply LS.k_part)
  | (with_reducible apply LS.ttup)
  | (with_reducible apply LS.tlst)
  | (with_reducible apply LS.tbm)
  | (with_reducible apply LS.tbm0)
  | ((with_reducible apply LS.ty_l); array_mem_dec)
  | (with_reducible apply LS.tpar)
  | (with_reducible apply LS.tfor)
  | (with_reducible apply LS.tlc)
  | (with_reducible apply LS.ilist)
  | ((with_reducible apply LS.k_il); array_mem_dec)
  | (with_reducible apply LS.itup)
  | ((with_reducible apply LS.k_it); array_mem_dec)
  | (with_reducible apply LS.istr)
  | (with_reducible apply LS.k_is)
  | (with_reducible apply LS.irng1)
  | ((with_reducible apply LS.k_r1n); omega)
  | ((with_reducible apply LS.k_r1); (first | omega | decide); (first | omega | decide))
  | (with_reducible apply LS.irng2)
  | ((with_reducible apply LS.k_r2); (first | omega | decide); (first | omega | decide); (first | omega | decide); (first | omega | decide))
  | (with_reducible apply LS.ienum)
  | ((with_reducible apply LS.k_en); array_mem_dec)
  | (with_reducible apply LS.izip)
  | ((with_reducible apply LS.k_zip); array_mem_dec; array_mem_dec)
  | (with_reducible apply LS.tlstrg)
  | (with_reducible apply LS.trg1)
  | (with_reducible apply LS.k_g1)
  | (with_reducible apply LS.risn_i)
  | (with_reducible apply LS.risn_s)
  | (with_reducible apply LS.risn_n)
  | (with_reducible apply LS.rnotn_i)
  | (with_reducible apply LS.rnotn_n)
  | (with_reducible apply LS.rint_b)
  | (with_reducible apply LS.rint_i)
  | (with_reducible apply LS.tm0)
  | (with_reducible apply LS.tm1)
  | (with_reducible apply LS.is_str)
  | (with_reducible apply LS.ex_s0)
  | (with_reducible apply LS.ex_int_b)
  | (with_reducible apply LS.k_par)
  | (with_reducible apply LS.tpar3)
  | (with_reducible apply LS.k_par3)
  | ((with_reducible apply LS.taug); exact rfl)
  | (with_reducible apply LS.ipi)
  | ((with_reducible apply LS.gtup); array_mem_dec; exact rfl)
  | ((with_reducible apply LS.gunl); array_mem_dec; exact rfl)
  | (with_reducible apply LS.gnil)
  | (with_reducible apply LS.gcons)
  | (with_reducible apply LS.gsub)
  | ((with_reducible apply LS.ri); first | omega | decide | assumption | exact ⟨by decide, by decide, by decide⟩ | exact .inl ⟨by decide, by decide⟩ | exact .inr ⟨by decide, by decide⟩ | exact .inl ⟨by omega, by omega⟩ | exact .inr ⟨by omega, by omega⟩)
  | (with_reducible apply LS.ex_ss)
  | (with_reducible apply LS.ex_s1)
  | (with_reducible apply LS.ex_i1)
  | (with_reducible apply LS.and_rfl)
  | (with_reducible apply LS.and_tr)
  | (with_reducible apply LS.is_non))
local macro_rules | `(tactic| array_mem_dec) => `(tactic| first
  | ((with_reducible apply LP.lv_s); assumption; array_mem_dec)
  | ((with_reducible apply LP.lv_l); assumption; array_mem_dec; array_mem_dec; array_mem_dec)
  | ((with_reducible apply LP.lv_f); assumption; array_mem_dec; array_mem_dec; array_mem_dec)
  | ((with_reducible apply LP.lv_t); assumption; array_mem_dec; array_mem_dec; array_mem_dec)
  | ((with_reducible apply LP.ops_s); assumption; array_mem_dec)
  | ((with_reducible apply LP.md_s); assumption; array_mem_dec)
  | ((with_reducible apply LP.md_l); assumption; array_mem_dec; array_mem_dec; array_mem_dec)
  | ((with_reducible apply LP.md_f); assumption; array_mem_dec; array_mem_dec; array_mem_dec)
  | ((with_reducible apply LP.md_t); assumption; array_mem_dec; array_mem_dec; array_mem_dec)
  | ((with_reducible apply LP.al_s); assumption; array_mem_dec; array_mem_dec)
  | ((with_reducible apply LP.al_t); assumption; array_mem_dec; array_mem_dec)
  | ((with_reducible apply LP.al_l); assumption; array_mem_dec; array_mem_dec; array_mem_dec)
  | ((with_reducible apply LP.al_f); assumption; array_mem_dec; array_mem_dec; array_mem_dec)
  | ((with_reducible apply LP.Lv.lists); array_mem_dec)
  | ((with_reducible apply LP.Lv.trk); array_mem_dec)
  | ((with_reducible apply LP.Mdl.trk); array_mem_dec)
  | ((with_reducible apply LP.al_no); assumption; array_mem_dec))
local macro_rules | `(tactic| array_mem_dec) => `(tactic| first
  | ((with_reducible apply LP.sg_s); assumption; array_mem_dec)
  | ((with_reducible apply LP.sg_f); assumption; array_mem_dec; array_mem_dec)
  | ((with_reducible apply LP.sg_l); assumption; array_mem_dec; array_mem_dec)
  | ((with_reducible apply LP.sg_ne); assumption; array_mem_dec)
  | ((with_reducible apply LP.sg_ne'); assumption; array_mem_dec)
  | ((with_reducible apply LS.se_q); array_mem_dec)
  | ((with_reducible apply LS.se_u); array_mem_dec)
  | ((with_reducible apply LP.sg_no); assumption; array_mem_dec; array_mem_dec))
local macro_rules | `(tactic| array_get_dec) => `(tactic| first
  | ((with_reducible apply LS.rne_same); exact rfl)
  | ((with_reducible apply LS.req_same); exact rfl)
  | (with_reducible apply LS.trevl)
  | (with_reducible apply LS.irng3)
  | (with_reducible apply LS.risn_b)
  | ((with_reducible apply LS.isiT_n); array_mem_dec)
  | ((with_reducible apply LS.isiT_b); array_mem_dec))
local macro_rules | `(tactic| array_get_dec) => `(tactic| first
  | (with_reducible apply LS.trg2)
  | (with_reducible apply LS.k_g2))

section
variable {P : Program} {w : World} {K : PySem.W.Frag} {mg : Str → Option Value} {base : Heap}

local macro_rules | `(tactic| array_mem_dec) => `(tactic| first
  | ((with_reducible apply LP.lso_s); assumption; array_mem_dec)
  | ((with_reducible apply LP.lso_f); assumption; array_mem_dec; assumption))
/-- tuples of a place and an index -/
def TkOk (H : Hp) (as : List Addr) (ts : List (Int × Nat)) : Prop := as.length = ts.length ∧ ∀ (i : Nat) a t, as[i]? = some a → ts[i]? = some t → H a = some (.tup [.int t.1, .int t.2])
theorem tk_s {H H' : Hp} {as : List Addr} {ts : List (Int × Nat)} (s : Same H H') (h : TkOk H as ts) : TkOk H' as ts := ⟨h.1, fun i a t ha ht => s _ _ (h.2 i a t ha ht)⟩
theorem tk_0 {H : Hp} : TkOk H [] [] := ⟨rfl, fun i a t h => by simp at h⟩
theorem tk_1 {H : Hp} {a : Addr} {t : Int × Nat} (h : H a = some (.tup [.int t.1, .int t.2])) : TkOk H [a] [t] := ⟨rfl, fun i x y hx hy => by
  cases i with
  | zero => cases hx; cases hy; exact h
  | succ n => simp at hx⟩
theorem tk_2 {H : Hp} {a b : Addr} {t u : Int × Nat} (h : H a = some (.tup [.int t.1, .int t.2])) (g : H b = some (.tup [.int u.1, .int u.2])) : TkOk H [a, b] [t, u] := ⟨rfl, fun i x y hx hy => by
  cases i with
  | zero => cases hx; cases hy; exact h
  | succ n =>
    cases n with
    | zero => cases hx; cases hy; exact g
    | succ n => simp at hx⟩
def sp_next_takes (K : PySem.W.Frag) : Sp := fun vs H Q _ => ∃ (a : Addr) (c : List Int) (g m : Nat), vs = [.ref a, .int g, .int ((m : Int) + 2)] ∧ SqL K H a (c.map V.int) ∧ g < c.length ∧
  ∀ (H' : Hp) (p : Addr) (as : List Addr), Same H H' → H p = none → H' p = some (.lst (as.map V.ref)) → TkOk H' as (tks c g m) → Q (.ref p) H'
theorem ok_next_takes (e : Env K mg) : FnOk P w K mg base CX0 1 e.a_next_takes e.d_next_takes ["places", "gap", "left"] (sp_next_takes K) := by
  refine Fun.ok e.f_next_takes sc_next_takes (fun vs H Q E h => ?_) (fun cdv A outer s H vs Q E hr h => ?_)
  · obtain ⟨a, c, g, m, rfl, _⟩ := h; rfl
  · obtain ⟨a, c, g, m, rfl, hc, hg, k⟩ := h
    refine ⟨_, (pss_cons (ps_set (i := 3) sc_next_takes.nd rfl (by first | exact Or.inl rfl | exact Or.inr rfl) (pe_op op_mod (pe_op op_add (pv 1) pe_int) (pe_callB LS.call_len (by rfl) e.n_len PySem.boot_len (pa_cons (pv 0) pa_nil))))
      (pss_cons (ps_set (i := 4) sc_next_takes.nd rfl (by first | exact Or.inl rfl | exact Or.inr rfl) (pe_op op_mod (pe_op op_sub (pe_op op_add (pv 1) (pv 2)) pe_int) (pe_callB LS.call_len (by rfl) e.n_len PySem.boot_len (pa_cons (pv 0) pa_nil))))
      (pss_cons (ps_set (i := 5) sc_next_takes.nd rfl (by first | exact Or.inl rfl | exact Or.inr rfl) (pe_lst pa_nil))
      (pss_cons (ps_if (pt_cmpR op_lt (pe_ix ix_list (pv 0) (pv 4) (fun _ _ => rfl)) (pe_ix ix_list (pv 0) (pv 1) (fun _ _ => rfl)) (nomark _))
        (pss_one (ps_expr (pe_bm PySem.F.plainAttrs_list PySem.F.slot_list_append PySem.F.type_list_append mt_append (pv 5) (pa_cons (pe_tup (pa_cons (pe_ix ix_list (pv 0) (pv 4) (fun _ _ => rfl)) (pa_cons (pv 1) pa_nil))) pa_nil))))
        pss_nil)
      (pss_cons (ps_if (pt_cmpR op_gt (pe_ix ix_list (pv 0) (pv 3) (fun _ _ => rfl)) (pe_ix ix_list (pv 0) (pv 1) (fun _ _ => rfl)) (nomark _))
        (pss_one (ps_expr (pe_bm PySem.F.plainAttrs_list PySem.F.slot_list_append PySem.F.type_list_append mt_append (pv 5) (pa_cons (pe_tup (pa_cons (pe_ix ix_list (pv 0) (pv 3) (fun _ _ => rfl)) (pa_cons (pv 3) pa_nil))) pa_nil))))
        pss_nil)
      (pss_one (ps_ret (pv 5)))))))), ?_⟩
    have c0 : 0 < c.length := by omega
    have ea : ((g : Int) + 1) % ((c.length : Nat) : Int) = (((g + 1) % c.length : Nat) : Int) := by rw [show (g : Int) + 1 = ((g + 1 : Nat) : Int) by omega]; exact (Int.natCast_emod _ _).symm
    have eh : ((g : Int) + ((m : Int) + 2) - 1) % ((c.length : Nat) : Int) = (((g + (m + 1)) % c.length : Nat) : Int) := by rw [show (g : Int) + ((m : Int) + 2) - 1 = ((g + (m + 1) : Nat) : Int) by omega]; exact (Int.natCast_emod _ _).symm
    have g0 := at_get (c := c) (g := g) c0
    rw [Nat.mod_eq_of_lt hg] at g0
    have g1 := at_get (c := c) (g := g + 1) c0
    have g2 := at_get (c := c) (g := g + (m + 1)) c0
    repeat array_get_dec
    rw [ea]
    repeat array_get_dec
    rw [eh]
    repeat array_get_dec
    refine LS.k_lst (by array_mem_dec) fun l0 H_l0 n_l0 s_l0 h_l0 => ?_
    repeat array_get_dec
    refine LS.rixl_n (by array_mem_dec) (int_at g2) rfl ?_
    repeat array_get_dec
    refine LS.rixl_n (by array_mem_dec) (int_at g0) rfl ?_
    repeat array_get_dec
    refine LS.if2 (fun q1 => ?_) fun q1 => ?_
    · repeat array_get_dec
      refine LS.rixl_n (by array_mem_dec) (int_at g2) rfl ?_
      repeat array_get_dec
      refine LS.k_tup (by array_mem_dec) fun t1 H_t1 n_t1 s_t1 h_t1 => ?_
      repeat array_get_dec
      refine LS.rapp (by array_mem_dec) (by show 0 < sizeLine; decide) fun H2 f2 h2 => ?_
      have s2 : Same H H2 := (by array_mem_dec)
      have n2 : H l0 = none := (by array_mem_dec)
      have ht1 : H2 t1 = some (.tup [.int (at_ c (g + (m + 1))), .int (g : Nat)]) := (by array_mem_dec)
      repeat array_get_dec
      refine LS.rixl_n (by array_mem_dec) (int_at g1) rfl ?_
      repeat array_get_dec
      refine LS.rixl_n (by array_mem_dec) (int_at g0) rfl ?_
      repeat array_get_dec
      refine LS.if2 (fun q2 => ?_) fun q2 => ?_
      · repeat array_get_dec
        refine LS.rixl_n (by array_mem_dec) (int_at g1) rfl ?_
        repeat array_get_dec
        refine LS.k_tup (by array_mem_dec) fun t2 H_t2 n_t2 s_t2 h_t2 => ?_
        repeat array_get_dec
        refine LS.rapp (by array_mem_dec) (by show 1 < sizeLine; decide) fun H4 f4 h4 => ?_
        repeat array_get_dec
        refine k H4 l0 [t1, t2] (by array_mem_dec) n2 h4 ?_
        unfold tks
        rw [if_pos q1, if_pos q2]
        exact tk_2 (by array_mem_dec) (by array_mem_dec)
      · repeat array_get_dec
        refine k H2 l0 [t1] s2 n2 h2 ?_
        unfold tks
        rw [if_pos q1, if_neg q2]
        exact tk_1 ht1
    · repeat array_get_dec
      refine LS.rixl_n (by array_mem_dec) (int_at g1) rfl ?_
      repeat array_get_dec
      refine LS.rixl_n (by array_mem_dec) (int_at g0) rfl ?_
      repeat array_get_dec
      refine LS.if2 (fun q2 => ?_) fun q2 => ?_
      · repeat array_get_dec
        refine LS.rixl_n (by array_mem_dec) (int_at g1) rfl ?_
        repeat array_get_dec
        refine LS.k_tup (by array_mem_dec) fun t2 H_t2 n_t2 s_t2 h_t2 => ?_
        repeat array_get_dec
        refine LS.rapp (by array_mem_dec) (by show 0 < sizeLine; decide) fun H4 f4 h4 => ?_
        repeat array_get_dec
        refine k H4 l0 [t2] (by array_mem_dec) (by array_mem_dec) h4 ?_
        unfold tks
        rw [if_neg q1, if_pos q2]
        exact tk_1 (by array_mem_dec)
      · repeat array_get_dec
        refine k _ l0 [] (by array_mem_dec) (by array_mem_dec) (by array_mem_dec) ?_
        unfold tks
        rw [if_neg q1, if_neg q2]
        exact tk_0
def sp_ways_to_finish (K : PySem.W.Frag) : Sp := fun vs H Q _ => ∃ (a : Addr) (c : List Int), vs = [.ref a] ∧ SqL K H a (c.map V.int) ∧ 1 ≤ c.length ∧ c.length ≤ 200 ∧
  ∀ (H' : Hp) (p : Addr) (as : List Addr), Same H H' → H p = none → H' p = some (.lst (as.map V.ref)) → LsOk H H' as ((List.range c.length).map (wrow c)) → p ∉ as → Q (.ref p) H'
theorem take_sum (w : Nat → Int) (ts : List (Int × Nat)) : ts.map (fun t => w t.2) = (ts.map (·.2)).map w := by rw [List.map_map]; rfl
theorem ok_ways_to_finish (e : Env K mg) : FnOk P w K mg base CX0 2 e.a_ways_to_finish e.d_ways_to_finish ["places"] (sp_ways_to_finish K) := by
  refine Fun.ok e.f_ways_to_finish sc_ways_to_finish (fun vs H Q E h => ?_) (fun cdv A outer s H vs Q E hr h => ?_)
  · obtain ⟨a, c, rfl, _⟩ := h; rfl
  · obtain ⟨a, c, rfl, hc, h1, h2, k⟩ := h
    refine ⟨_, (pss_cons (ps_set (i := 1) sc_ways_to_finish.nd rfl (by first | exact Or.inl rfl | exact Or.inr rfl) (pe_lst (pa_cons (pe_op op_rep (pe_lst (pa_cons pe_int pa_nil)) (pe_callB LS.call_len (by rfl) e.n_len PySem.boot_len (pa_cons (pv 0) pa_nil))) pa_nil)))
      (pss_cons (ps_for PassesOwn.never rfl (pi_range2 (by rfl) e.n_range (pa_cons pe_int (pa_cons (pe_op op_add (pe_callB LS.call_len (by rfl) e.n_len PySem.boot_len (pa_cons (pv 0) pa_nil)) pe_int) pa_nil))) (pg_name (i := 2) sc_ways_to_finish.nd rfl (by first | exact Or.inl rfl | exact Or.inr rfl))
      (pss_cons (ps_set (i := 3) sc_ways_to_finish.nd rfl (by first | exact Or.inl rfl | exact Or.inr rfl) (pe_ix ix_list (pv 1) (pe_un un_neg pe_int) (fun _ _ => rfl)))
      (pss_one (ps_expr (pe_bm PySem.F.plainAttrs_list PySem.F.slot_list_append PySem.F.type_list_append mt_append (pv 1) (pa_cons (pe_lc (own := [("gap", 4)]) rfl sc_ways_to_finish.nd (pi_range1 (by rfl) e.n_range (pa_cons (pe_callB LS.call_len (by rfl) e.n_len PySem.boot_len (pa_cons (pv 0) pa_nil)) pa_nil)) (blkOk_by (N := ["places", "rows", "left", "later", "gap", "_", "then"]) (sc := defScope s_ways_to_finish) (by decide +kernel)) (fun _ _ _ _ _ => (pg_name (i := 4) sc_ways_to_finish.nd rfl (by first | exact Or.inl rfl | exact Or.inr rfl))) (fun _ _ _ _ _ => pts_nil) (fun _ _ _ _ _ => (pe_callB (show CallR _ _ (rSum K) from cr_sum rfl) (by rfl) e.n_sum (by decide +kernel) (pa_cons (pe_lc (own := [("_", 5), ("then", 6)]) rfl sc_ways_to_finish.nd (show PI _ _ _ (iList K _) from pi_list (pe_call ((ok_next_takes e).mono (by decide)) hr rfl e.g_next_takes e.f_next_takes.kp e.b_next_takes .nil pass0 (pa_cons (pv 0) (pa_cons (pv 4) (pa_cons (pv 2) pa_nil))))) (LX.blkOk_in (N := ["places", "rows", "left", "later", "gap", "_", "then"]) (by decide +kernel)) (fun _ _ _ _ _ => (show PG _ _ (gTup K 2 _) from pg_tup (by rfl) (pgs_cons (pg_name (i := 5) sc_ways_to_finish.nd rfl (by first | exact Or.inl rfl | exact Or.inr rfl)) (pgs_cons (pg_name (i := 6) sc_ways_to_finish.nd rfl (by first | exact Or.inl rfl | exact Or.inr rfl)) pgs_nil)))) (fun _ _ _ _ _ => pts_nil) (fun _ _ _ _ _ => (pe_ix (show IxR _ (rIxL K) from ix_list) (pv 3) (pv 6) (fun _ _ => rfl)))) pa_nil)))) pa_nil))))))
      (pss_one (ps_ret (pv 1))))), ?_⟩
    repeat array_get_dec
    refine LS.k_lst (by array_mem_dec) fun l0 H_l0 n_l0 s_l0 h_l0 => ?_
    repeat array_get_dec
    refine LS.rrep1 (by array_mem_dec) (by omega) fun r0 H2 n2 s2 h2' => ?_
    rw [show List.replicate c.length (V.int 1) = (wrow c 0).map V.int by rw [wrow_0, List.map_replicate]] at h2'
    have nr0 : H r0 = none := (by array_mem_dec)
    repeat array_get_dec
    refine LS.k_lst (by array_mem_dec) fun rs H3 n3 s3 h3 => ?_
    have nrs : H rs = none := (by array_mem_dec)
    have nrr : r0 ≠ rs := ne_of_none h2' n3
    repeat array_get_dec
    refine LS.for_ walk_range (fun i σ H' => ∃ (as : List Addr) (v2 v3 v4 v5 v6 : Option V), Same H H' ∧ H' rs = some (.lst (as.map V.ref)) ∧ LsOk H H' as ((List.range (i + 1)).map (wrow c)) ∧ rs ∉ as ∧ σ = [some (.ref a), some (.ref rs), v2, v3, v4, v5, v6])
      ⟨[r0], _, _, _, _, _, (by array_mem_dec), (by array_mem_dec), ?_, by simpa using nrr.symm, rfl⟩ (fun _ _ _ _ _ => trivial) ?_ ?_
    · exact lso_snoc lso_nil (by array_mem_dec) nr0
    · rintro i x σ H5 H6 hi ⟨as, v2, v3, v4, v5, v6, s5, hr5, ls5, nr, rfl⟩ ⟨rfl, rfl⟩
      have hlen := ls5.1
      rw [List.length_map, List.length_range] at hlen
      obtain ⟨b, hb⟩ : ∃ b, as[i]? = some b := ⟨_, List.getElem?_eq_getElem (by omega)⟩
      have hb5 : H6 b = some (.lst ((wrow c i).map V.int)) := (ls5.2 i b _ hb (by rw [List.getElem?_map, List.getElem?_range (by omega)]; rfl)).1
      repeat array_get_dec
      have ea : as = as.take i ++ [b] := by
        have := List.take_add_one (l := as) (i := i)
        rw [hb, List.take_of_length_le (by omega)] at this
        exact this
      refine LS.rixl (v := .ref b) (by array_mem_dec) (by rw [ea, List.map_append]; exact atI_last _ _) ?_
      repeat array_get_dec
      refine LS.comp (walk_range (lo := 0) (n := c.length)) (fun D j acc H' => Same H6 H' ∧ acc = (List.range j).map fun g => V.int (wy c (i + 1) g)) (fun D H' nD s' hD => ⟨s', rfl⟩) (fun _ _ _ _ _ _ _ _ => trivial) ?_ ?_
      · rintro D j acc x H7 H8 nD hj hl7 hD ⟨s7, rfl⟩ ⟨rfl, rfl⟩
        repeat array_get_dec
        refine ⟨rfl, ?_⟩
        repeat array_get_dec
        refine ⟨a, c, j, i, (by show [V.ref a, V.int (0 + (j : Int)), V.int (2 + (i : Int))] = _; rw [Int.zero_add, Int.add_comm 2]), (by array_mem_dec), hj, fun H9 p ts s9 np hp tk => ?_⟩
        have hb9 : H9 b = some (.lst ((wrow c i).map V.int)) := (by array_mem_dec)
        have hD9 : H9 D = some (.lst ((List.range j).map fun g => V.int (wy c (i + 1) g))) := (by array_mem_dec)
        have s69 : Same H6 H9 := (by array_mem_dec)
        have tl := tks_len c j i
        repeat array_get_dec
        refine LS.comp (walk_list (xs := ts.map V.ref)) (fun D q acc H' => Same H9 H' ∧ acc = (((tks c j i).take q).map fun t => wy c i t.2).map V.int) (fun D H' nD s' hD => ⟨s', rfl⟩) (fun D q acc H' hi nD hD h => (by obtain ⟨h, _⟩ := h; exact (by array_mem_dec))) ?_ ?_
        · rintro D2 q acc x HA HB nD2 hq hl2 hD2 ⟨sA, rfl⟩ ⟨rfl, hx⟩
          rw [List.length_map] at hq
          obtain ⟨t, ht⟩ : ∃ t, ts[q]? = some t := ⟨_, List.getElem?_eq_getElem hq⟩
          rw [List.getElem?_map, ht] at hx
          cases hx
          obtain ⟨u, hu⟩ : ∃ u, (tks c j i)[q]? = some u := ⟨_, List.getElem?_eq_getElem (by rw [← tk.1]; exact hq)⟩
          have htu := tk.2 q t u ht hu
          have hq2 : q < (tks c j i).length := by rw [← tk.1]; exact hq
          have hq3 : q ≤ 2 := by omega
          have hlt := tks_lt hj u (List.mem_of_getElem? hu)
          repeat array_get_dec
          refine ⟨rfl, ?_⟩
          repeat array_get_dec
          refine LS.rixl_n (by array_mem_dec) (int_at (wrow_get hlt)) rfl ?_
          exact LS.k_lc (acc := (((tks c j i).take q).map fun t => wy c i t.2).map V.int) (by array_mem_dec) hl2 (by omega) fun HC fC hC => ⟨(by array_mem_dec), by rw [List.take_add_one, hu, List.map_append, List.map_append]; rfl⟩
        · rintro D2 acc HA nD2 hD2 hl2 ⟨sA, rfl⟩
          rw [List.length_map] at hD2
          rw [List.take_of_length_le (by rw [tk.1]; exact Nat.le_refl _)] at hD2
          repeat array_get_dec
          refine ⟨D2, _, rfl, SqL.of hD2, ?_⟩
          rw [tks_sum]
          exact LS.k_lc (acc := (List.range j).map fun g => V.int (wy c (i + 1) g)) (by array_mem_dec) hl7 (by omega) fun HC fC hC => ⟨(by array_mem_dec), by rw [List.range_succ, List.map_append]; rfl⟩
      · rintro p acc H7 np hp hl2 ⟨s7, rfl⟩
        have hp7 : H7 p = some (.lst ((wrow c (i + 1)).map V.int)) := by rw [hp]; unfold wrow; rw [List.map_map]; rfl
        have npH : H p = none := (by array_mem_dec)
        have npr : p ≠ rs := (ne_of_none hr5 np).symm
        repeat array_get_dec
        refine LS.rapp (xs := as.map V.ref) (by array_mem_dec) (LS.szl (by rw [List.length_map]; omega)) fun H8 f8 h8 => ?_
        repeat array_get_dec
        refine ⟨as ++ [p], _, _, _, _, _, (by array_mem_dec), by rw [h8, List.map_append]; rfl, ?_, ?_, rfl⟩
        · rw [List.range_succ, List.map_append]
          refine lso_snoc (by array_mem_dec) (by array_mem_dec) npH
        · intro q; rcases List.mem_append.mp q with q | q
          · exact nr q
          · exact npr (List.mem_singleton.mp q).symm
    · rintro σ H5 ⟨as, v2, v3, v4, v5, v6, s5, hr5, ls5, nr, rfl⟩
      repeat array_get_dec
      refine k H5 rs as s5 nrs hr5 ?_ nr
      rw [show ((c.length : Int) + 1 - 2).toNat + 1 = c.length by omega] at ls5
      exact ls5
end
end LP

namespace LP
open PySem L2 LT LG LQ LH LC LX LR
local macro_rules | `(tactic| array_mem_dec) => `(tactic| first
  | assumption
  | ((with_reducible apply LS.hp_s); assumption; array_mem_dec)
  | ((with_reducible apply LS.hp_f); assumption; array_mem_dec; array_mem_dec)
  | ((with_reducible apply LS.hp_t); assumption; array_mem_dec; array_mem_dec)
  | ((with_reducible apply LS.hp_l); assumption; array_mem_dec; array_mem_dec)
  | ((with_reducible apply LS.sq_o); array_mem_dec)
  | ((with_reducible apply LS.sq_s); assumption; array_mem_dec)
  | ((with_reducible apply LS.sq_f); assumption; array_mem_dec; array_mem_dec)
  | ((with_reducible apply LS.sq_t); assumption; array_mem_dec; array_mem_dec)
  | ((with_reducible apply LS.sq_l); assumption; array_mem_dec; array_mem_dec)
  | ((with_reducible apply LS.tu_o); array_mem_dec)
  | ((with_reducible apply LS.tu_s); assumption; array_mem_dec)
  | ((with_reducible apply LS.tu_f); assumption; array_mem_dec; array_mem_dec)
  | ((with_reducible apply LS.tu_t); assumption; array_mem_dec; array_mem_dec)
  | ((with_reducible apply LS.tu_l); assumption; array_mem_dec; array_mem_dec)
  | ((with_reducible apply LS.se_l); array_mem_dec)
  | ((with_reducible apply LS.se_t); array_mem_dec)
  | ((with_reducible apply LS.se_s); assumption; array_mem_dec)
  | ((with_reducible apply LS.se_f); assumption; array_mem_dec; array_mem_dec)
  | ((with_reducible apply LS.se_tt); assumption; array_mem_dec; array_mem_dec)
  | ((with_reducible exact Same.refl _))
  | ((with_reducible apply LS.sm_s); assumption; array_mem_dec)
  | ((with_reducible apply LS.sm_f); assumption; array_mem_dec; array_mem_dec)
  | ((with_reducible exact Fr.refl _ _))
  | ((with_reducible apply LS.fr_b); assumption; array_mem_dec)
  | ((with_reducible apply LS.fr_s); assumption; array_mem_dec)
  | ((with_reducible apply LS.fr_n); assumption; array_mem_dec; array_mem_dec)
  | ((with_reducible apply LS.fr_t); assumption; array_mem_dec)
  | ((with_reducible apply LS.no_s); assumption; array_mem_dec)
  | ((with_reducible apply LS.no_f); assumption; array_mem_dec; array_mem_dec)
  | ((with_reducible apply LS.no_t); assumption; array_mem_dec)
  | ((with_reducible apply LS.no_l); assumption; assumption)
  | ((with_reducible apply Ne.symm); assumption)
  | ((with_reducible apply LS.ne_a); assumption; array_mem_dec)
  | ((with_reducible apply LS.ne_b); assumption; array_mem_dec)
  | ((with_reducible apply LS.ne_ap); assumption)
  | ((with_reducible apply LS.ne_il); assumption; array_mem_dec)
  | ((with_reducible apply LS.ne_li); assumption; array_mem_dec)
  | ((with_reducible apply LS.ne_lt); assumption; assumption)
  | ((with_reducible apply LS.ne_tl); assumption; assumption)
  | ((with_reducible apply LS.ne_rl); assumption; array_mem_dec)
  | ((with_reducible apply LS.rl_t); assumption)
  | ((with_reducible apply LS.rl_s); assumption; array_mem_dec)
  | ((with_reducible apply LS.rl_f); assumption; array_mem_dec; array_mem_dec)
  | ((with_reducible apply LS.rl_l); assumption; array_mem_dec; array_mem_dec)
  | ((with_reducible apply LS.ap_new); assumption; assumption; array_mem_dec)
  | ((with_reducible apply LS.ap_t); assumption; array_mem_dec; array_mem_dec)
  | ((with_reducible apply LS.ap_s); assumption; array_mem_dec; array_mem_dec)
  | ((with_reducible apply LS.ap_f); assumption; array_mem_dec; array_mem_dec; array_mem_dec)
  | ((with_reducible apply LS.ap_l); assumption; array_mem_dec; array_mem_dec; array_mem_dec)
  | (with_reducible apply LS.ni_nil)
  | ((with_reducible apply LS.ni_cons); array_mem_dec; array_mem_dec)
  | (with_reducible apply LS.trk_nil)
  | ((with_reducible apply LS.trk_cons); array_mem_dec; array_mem_dec)
  | (with_reducible apply LS.al_nil)
  | ((with_reducible apply LS.al_cons); array_mem_dec; array_mem_dec)
  | (with_reducible apply LS.mem_hd)
  | ((with_reducible apply LS.mem_tl); array_mem_dec)
  | ((with_reducible apply LS.fl_refl); array_mem_dec)
  | ((with_reducible apply LS.fl_l); assumption; array_mem_dec)
  | ((with_reducible apply LS.fl_lm); assumption; array_mem_dec; array_mem_dec)
  | (with_reducible apply LS.sub_nil)
  | ((with_reducible apply LS.sub_cons); array_mem_dec; array_mem_dec)
  | ((with_reducible apply LS.fl_s); assumption; array_mem_dec)
  | ((with_reducible apply LS.fl_m); assumption; array_mem_dec; array_mem_dec; array_mem_dec)
  | ((with_reducible apply LS.fl_n); assumption; array_mem_dec; array_mem_dec; array_mem_dec)
  | ((with_reducible apply LS.rt_refl); array_mem_dec)
  | ((with_reducible apply LS.rt_t); assumption; array_mem_dec)
  | ((with_reducible apply LS.rt_s); assumption; array_mem_dec)
  | ((with_reducible apply LS.rt_f); assumption; array_mem_dec; array_mem_dec; array_mem_dec)
  | ((with_reducible apply LS.sz); (first | decide | (simp only [List.length_append, List.length_map, List.length_cons, List.length_nil, List.length_replicate]; omega)))
  | ((with_reducible apply LS.szl); (first | decide | (simp only [List.length_append, List.length_map, List.length_cons, List.length_nil, List.length_replicate]; omega))))
local macro_rules | `(tactic| array_get_dec) => `(tactic| first
  | ((with_reducible apply LS.var); exact rfl)
  | (with_reducible apply LS.con)
  | (with_reducible apply LS.op)
  | (with_reducible apply LS.ri0)
  | (with_reducible apply LS.tseq)
  | (with_reducible apply LS.tasg)
  | (with_reducible apply LS.gname)
  | (with_reducible apply LS.tcons)
  | (with_reducible apply LS.tnil)
  | (with_reducible apply LS.tcb)
  | (with_reducible apply LS.tcall)
  | (with_reducible apply LS.ttest)
  | (with_reducible apply LS.k_b)
  | (with_reducible apply LS.tb)
  | (with_reducible apply LS.tifs)
  | (with_reducible apply LS.ift)
  | (with_reducible apply LS.iff_)
  | (with_reducible apply LS.ifnt)
  | (with_reducible apply LS.ifnf)
  | (with_reducible apply LS.tnext)
  | (with_reducible apply LS.tdrop)
  | (with_reducible apply LS.tret)
  | (with_reducible apply LS.tretn)
  | (with_reducible apply LS.un)
  | (with_reducible apply LS.ru)
  | (with_reducible apply LS.tyes)
  | (with_reducible apply LS.tand)
  | (with_reducible apply LS.tor)
  | (with_reducible apply LS.tnot)
  | (with_reducible apply LS.tif)
  | (with_reducible apply LS.tandv)
  | (with_reducible apply LS.k_av)
  | (with_reducible apply LS.torv)
  | (with_reducible apply LS.k_ov)
  | (with_reducible apply LS.tnotv)
  | (with_reducible apply LS.k_nv)
  | (with_reducible apply LS.tchain)
  | (with_reducible apply LS.k_ch)
  | (with_reducible apply LS.req_i)
  | (with_reducible apply LS.rne_i)
  | (with_reducible apply LS.req_s)
  | (with_reducible apply LS.rne_s)
  | (with_reducible apply LS.req_b)
  | (with_reducible apply LS.rne_b)
  | ((with_reducible apply LS.rin_i); array_mem_dec)
  | ((with_reducible apply LS.rni_i); array_mem_dec)
  | ((with_reducible apply LS.rlen_li); array_mem_dec)
  | ((with_reducible apply LS.rlen_ls); array_mem_dec)
  | ((with_reducible apply LS.rlen_l); array_mem_dec)
  | ((with_reducible apply LS.rlen_Ei); array_mem_dec)
  | ((with_reducible apply LS.rlen_E); array_mem_dec)
  | ((with_reducible apply LS.rlen_t); array_mem_dec)
  | ((with_reducible apply LS.rixl); array_mem_dec; exact rfl)
  | ((with_reducible apply LS.rixt); array_mem_dec; exact rfl)
  | (with_reducible apply LS.isi_int_int)
  | (with_reducible apply LS.isi_int_bool)
  | (with_reducible apply LS.isi_int_str)
  | (with_reducible apply LS.isi_str_int)
  | (with_reducible apply LS.isi_str_bool)
  | (with_reducible apply LS.isi_str_str)
  | (with_reducible apply LS.isi_bool_int)
  | (with_reducible apply LS.isi_bool_bool)
  | (with_reducible apply LS.isi_bool_str)
  | (with_reducible apply LS.isi_non_int)
  | (with_reducible apply LS.isi_non_bool)
  | (with_reducible apply LS.isi_non_str)
  | ((with_reducible apply LS.isi_list_int); array_mem_dec)
  | ((with_reducible apply LS.isi_list_bool); array_mem_dec)
  | ((with_reducible apply LS.isi_list_str); array_mem_dec)
  | ((with_reducible apply LS.isi_list_list); array_mem_dec)
  | ((with_reducible apply LS.isi_list_tuple); array_mem_dec)
  | ((with_reducible apply LS.isi_tuple_int); array_mem_dec)
  | ((with_reducible apply LS.isi_tuple_bool); array_mem_dec)
  | ((with_reducible apply LS.isi_tuple_str); array_mem_dec)
  | ((with_reducible apply LS.isi_tuple_list); array_mem_dec)
  | ((with_reducible apply LS.isi_tuple_tuple); array_mem_dec)
  | ((with_reducible apply LS.isiT_i); array_mem_dec)
  | ((with_reducible apply LS.isiT_s); array_mem_dec)
  | ((with_reducible apply LS.isiT_E); array_mem_dec; array_mem_dec)
  | (with_reducible apply LS.tfld)
  | ((with_reducible apply LS.k_fl); array_mem_dec; assumption; assumption; exact rfl)
  | (with_reducible apply LS.tmeth)
  | ((with_reducible apply LS.k_me); array_mem_dec; exact rfl)
  | (with_reducible apply LS.tmake)
  | (with_reducible apply LS.tsfld)
  | (with_reducible apply LS.tprop)
  | ((with_reducible apply LS.k_pr); array_mem_dec)
  | ((with_reducible apply LS.rlen_own); array_mem_dec)
  | (with_reducible apply LS.rabs)
  | (with_reducible apply LS.rmin2)
  | (with_reducible apply LS.rmax2)
  | (with_reducible apply LS.tsl)
  | (with_reducible apply LS.tthen)
  | (with_reducible apply LS.tstep)
  | (with_reducible apply LS.tnop)
  | (with_reducible apply LS.tpart)
  | (with_reducible apply LS.k_part)
  | (with_reducible apply LS.ttup)
  | (with_reducible apply LS.tlst)
  | (with_reducible apply LS.tbm)
  | (with_reducible apply LS.tbm0)
  | ((with_reducible apply LS.ty_l); array_mem_dec)
  | (with_reducible apply LS.tpar)
  | (with_reducible apply LS.tfor)
  | (with_reducible apply LS.tlc)
  | (with_reducible apply LS.ilist)
  | ((with_reducible apply LS.k_il); array_mem_dec)
  | (with_reducible apply LS.itup)
  | ((with_reducible apply LS.k_it); array_mem_dec)
  | (with_reducible apply LS.istr)
  | (with_reducible apply LS.k_is)
  | (with_reducible apply LS.irng1)
  | ((with_reducible apply LS.k_r1n); omega)
  | ((with_reducible apply LS.k_r1); (first | omega | decide); (first | omega | decide))
  | (with_reducible apply LS.irng2)
  | ((with_reducible apply LS.k_r2); (first | omega | decide); (first | omega | decide); (first | omega | decide); (first | omega | decide))
  | (with_reducible apply LS.ienum)
  | ((with_reducible apply LS.k_en); array_mem_dec)
  | (with_reducible apply LS.izip)
  | ((with_reducible apply LS.k_zip); array_mem_dec; array_mem_dec)
  | (with_reducible apply LS.tlstrg)
  | (with_reducible apply LS.trg1)
  | (with_reducible apply LS.k_g1)
  | (with_reducible apply LS.risn_i)
  | (with_reducible apply LS.risn_s)
  | (with_reducible apply LS.risn_n)
  | (with_reducible apply LS.rnotn_i)
  | (with_reducible apply LS.rnotn_n)
  | (with_reducible apply LS.rint_b)
  | (with_reducible apply LS.rint_i)
  | (with_reducible apply LS.tm0)
  | (with_reducible apply LS.tm1)
  | (with_reducible apply LS.is_str)
  | (with_reducible apply LS.ex_s0)
  | (with_reducible apply LS.ex_int_b)
  | (with_reducible apply LS.k_par)
  | (with_reducible apply LS.tpar3)
  | (with_reducible apply LS.k_par3)
  | ((with_reducible apply LS.taug); exact rfl)
  | (with_reducible apply LS.ipi)
  | ((with_reducible apply LS.gtup); array_mem_dec; exact rfl)
  | ((with_reducible apply LS.gunl); array_mem_dec; exact rfl)
  | (with_reducible apply LS.gnil)
  | (with_reducible apply LS.gcons)
  | (with_reducible apply LS.gsub)
  | ((with_reducible apply LS.ri); first | omega | decide | assumption | exact ⟨by decide, by decide, by decide⟩ | exact .inl ⟨by decide, by decide⟩ | exact .inr ⟨by decide, by decide⟩ | exact .inl ⟨by omega, by omega⟩ | exact .inr ⟨by omega, by omega⟩)
  | (with_reducible apply LS.ex_ss)
  | (with_reducible apply LS.ex_s1)
  | (with_reducible apply LS.ex_i1)
  | (with_reducible apply LS.and_rfl)
  | (with_reducible apply LS.and_tr)
  | (with_reducible apply LS.is_non))
local macro_rules | `(tactic| array_mem_dec) => `(tactic| first
  | ((with_reducible apply LP.lv_s); assumption; array_mem_dec)
  | ((with_reducible apply LP.lv_l); assumption; array_mem_dec; array_mem_dec; array_mem_dec)
  | ((with_reducible apply LP.lv_f); assumption; array_mem_dec; array_mem_dec; array_mem_dec)
  | ((with_reducible apply LP.lv_t); assumption; array_mem_dec; array_mem_dec; array_mem_dec)
  | ((with_reducible apply LP.ops_s); assumption; array_mem_dec)
  | ((with_reducible apply LP.md_s); assumption; array_mem_dec)
  | ((with_reducible apply LP.md_l); assumption; array_mem_dec; array_mem_dec; array_mem_dec)
  | ((with_reducible apply LP.md_f); assumption; array_mem_dec; array_mem_dec; array_mem_dec)
  | ((with_reducible apply LP.md_t); assumption; array_mem_dec; array_mem_dec; array_mem_dec)
  | ((with_reducible apply LP.al_s); assumption; array_mem_dec; array_mem_dec)
  | ((with_reducible apply LP.al_t); assumption; array_mem_dec; array_mem_dec)
  | ((with_reducible apply LP.al_l); assumption; array_mem_dec; array_mem_dec; array_mem_dec)
  | ((with_reducible apply LP.al_f); assumption; array_mem_dec; array_mem_dec; array_mem_dec)
  | ((with_reducible apply LP.Lv.lists); array_mem_dec)
  | ((with_reducible apply LP.Lv.trk); array_mem_dec)
  | ((with_reducible apply LP.Mdl.trk); array_mem_dec)
  | ((with_reducible apply LP.al_no); assumption; array_mem_dec))
local macro_rules | `(tactic| array_mem_dec) => `(tactic| first
  | ((with_reducible apply LP.sg_s); assumption; array_mem_dec)
  | ((with_reducible apply LP.sg_f); assumption; array_mem_dec; array_mem_dec)
  | ((with_reducible apply LP.sg_l); assumption; array_mem_dec; array_mem_dec)
  | ((with_reducible apply LP.sg_ne); assumption; array_mem_dec)
  | ((with_reducible apply LP.sg_ne'); assumption; array_mem_dec)
  | ((with_reducible apply LS.se_q); array_mem_dec)
  | ((with_reducible apply LS.se_u); array_mem_dec)
  | ((with_reducible apply LP.sg_no); assumption; array_mem_dec; array_mem_dec))
local macro_rules | `(tactic| array_get_dec) => `(tactic| first
  | ((with_reducible apply LS.rne_same); exact rfl)
  | ((with_reducible apply LS.req_same); exact rfl)
  | (with_reducible apply LS.trevl)
  | (with_reducible apply LS.irng3)
  | (with_reducible apply LS.risn_b)
  | ((with_reducible apply LS.isiT_n); array_mem_dec)
  | ((with_reducible apply LS.isiT_b); array_mem_dec))
local macro_rules | `(tactic| array_get_dec) => `(tactic| first
  | (with_reducible apply LS.trg2)
  | (with_reducible apply LS.k_g2))

section
variable {P : Program} {w : World} {K : PySem.W.Frag} {mg : Str → Option Value} {base : Heap}

local macro_rules | `(tactic| array_mem_dec) => `(tactic| first
  | ((with_reducible apply LP.lso_s); assumption; array_mem_dec)
  | ((with_reducible apply LP.lso_f); assumption; array_mem_dec; assumption))
def factI (n : Nat) : Int := ((PySem.Builtin.Math.factorialNat n : Nat) : Int)
theorem fact_succ (n : Nat) : factI (n + 1) = factI n * ((n : Int) + 1) := by unfold factI; rw [PySem.W.mc_fac_succ]; simp
set_option exponentiation.threshold 100000
theorem fact_bd {n : Nat} (h : n ≤ 200) : (factI n).natAbs < 2 ^ 12801 := by
  have := PySem.W.mc_fac_le n (by omega)
  have p : 2 ^ (64 * n) ≤ 2 ^ 12800 := Nat.pow_le_pow_right (by omega) (by omega)
  show (PySem.Builtin.Math.factorialNat n) < _
  refine Nat.lt_of_le_of_lt (Nat.le_trans this p) (Nat.pow_lt_pow_right (by omega) (by omega))
/-- what stands behind the first i cycles -/
def cntP (f : Int) (cs : List (List Int)) (i : Nat) : Int := f * prd ((cs.take i).map tot)
def cnt (cs : List (List Int)) : Int := cntP (factI cs.length) cs cs.length
theorem cntP_succ {f : Int} {cs : List (List Int)} {i : Nat} {c : List Int} (h : cs[i]? = some c) : cntP f cs (i + 1) = cntP f cs i * tot c := by
  unfold cntP
  rw [List.take_add_one, h, List.map_append]
  show f * prd (_ ++ [tot c]) = _
  rw [prd_snoc, Int.mul_assoc]
theorem cntP_bd {n : Nat} (hn : n ≤ 200) {cs : List (List Int)} (hl : cs.length ≤ 200) (hc : ∀ c ∈ cs, c.length ≤ 200) (i : Nat) : (cntP (factI n) cs i).natAbs < 2 ^ 60000 := by
  unfold cntP
  have p := prd_bd ((cs.take i).map tot).length ((cs.take i).map tot) rfl fun x hx => by
    obtain ⟨c, h, rfl⟩ := List.mem_map.mp hx
    exact (tot_bd (hc c (List.mem_of_mem_take h))).2
  have l : ((cs.take i).map tot).length ≤ 200 := by rw [List.length_map, List.length_take]; omega
  have f := fact_bd hn
  rw [Int.natAbs_mul]
  refine Nat.lt_of_lt_of_le (Nat.mul_lt_mul'' f p) ?_
  rw [← Nat.pow_add]
  exact Nat.pow_le_pow_right (by omega) (by omega)
def CyOk (C : Addr) (H : Hp) (os : List Addr) (cs : List (List Int)) : Prop := os.length = cs.length ∧ ∀ (i : Nat) o c, os[i]? = some o → cs[i]? = some c → ∃ dx pv rv, H o = some (.ins C dx [("places", pv), ("rows", rv), ("total", .int (tot c))])
theorem cyo_nil {C : Addr} {H : Hp} : CyOk C H [] [] := ⟨rfl, fun i o c h => by simp at h⟩
theorem cyo_s {C : Addr} {H H' : Hp} {os : List Addr} {cs : List (List Int)} (s : Same H H') (h : CyOk C H os cs) : CyOk C H' os cs := ⟨h.1, fun i o c ho hc => by
  obtain ⟨dx, pv, rv, e⟩ := h.2 i o c ho hc
  exact ⟨dx, pv, rv, s _ _ e⟩⟩
theorem cyo_f {C : Addr} {H H' : Hp} {p : Addr} {xs : List V} {os : List Addr} {cs : List (List Int)} (f : Fr H H' p) (hp : H p = some (.lst xs)) (h : CyOk C H os cs) : CyOk C H' os cs := ⟨h.1, fun i o c ho hc => by
  obtain ⟨dx, pv, rv, e⟩ := h.2 i o c ho hc
  exact ⟨dx, pv, rv, f _ _ e fun q => by subst q; rw [hp] at e; cases e⟩⟩
theorem cyo_snoc {C : Addr} {H : Hp} {os : List Addr} {cs : List (List Int)} {o : Addr} {c : List Int} (h : CyOk C H os cs) (e : ∃ dx pv rv, H o = some (.ins C dx [("places", pv), ("rows", rv), ("total", .int (tot c))])) : CyOk C H (os ++ [o]) (cs ++ [c]) := by
  refine ⟨by simp [h.1], fun i x y hx hy => ?_⟩
  rcases Nat.lt_or_ge i os.length with q | q
  · rw [List.getElem?_append_left q] at hx
    rw [List.getElem?_append_left (by rw [← h.1]; exact q)] at hy
    exact h.2 i x y hx hy
  · rw [List.getElem?_append_right q] at hx
    rw [List.getElem?_append_right (by rw [← h.1]; exact q), ← h.1] at hy
    cases z : i - os.length with
    | zero => rw [z] at hx hy; cases hx; cases hy; exact e
    | succ n => rw [z] at hx; simp at hx
def sp_Cycle_init (K : PySem.W.Frag) (C : Addr) : Sp := fun vs H Q _ => ∃ (p dx a : Addr) (c : List Int), vs = [.ref p, .ref a] ∧ H p = some (.ins C dx []) ∧ H a = some (.lst (c.map V.int)) ∧ 1 ≤ c.length ∧ c.length ≤ 200 ∧
  ∀ (H' : Hp) (pv rv : V), Fr H H' p → H' p = some (.ins C dx [("places", pv), ("rows", rv), ("total", .int (tot c))]) → Q .non H'
theorem ok_Cycle_init (e : Env K mg) : FnOk P w K mg base CX0 3 e.a_Cycle_init e.d_Cycle_init ["self", "places"] (sp_Cycle_init K e.C_Cycle) := by
  refine Fun.ok e.f_Cycle_init sc_Cycle_init (fun vs H Q E h => ?_) (fun cdv A outer s H vs Q E hr h => ?_)
  · obtain ⟨p, dx, a, c, rfl, _⟩ := h; rfl
  · obtain ⟨p, dx, a, c, rfl, hp, ha, h1, h2, k⟩ := h
    refine ⟨_, (pss_cons (ps_fld (pv 0) (pv 1) rfl)
      (pss_cons (ps_fld (pv 0) (pe_call ((ok_ways_to_finish e).mono (by decide)) hr rfl e.g_ways_to_finish e.f_ways_to_finish.kp e.b_ways_to_finish .nil pass0 (pa_cons (pv 1) pa_nil)) rfl)
      (pss_one (ps_fld (pv 0) (pe_callB (cr_sum rfl) (by rfl) e.n_sum (by decide +kernel) (pa_cons (pe_ix ix_list (pe_fld (pv 0) rfl) (pe_un un_neg pe_int) (fun _ _ => rfl)) pa_nil)) rfl)))), ?_⟩
    have c_Cycle := e.cl_Cycle; have a_Cycle_places := e.nA_Cycle_places; have a_Cycle_rows := e.nA_Cycle_rows; have a_Cycle_total := e.nA_Cycle_total
    repeat array_get_dec
    refine LS.k_sf (gs := [("places", .ref a)]) (by array_mem_dec) c_Cycle a_Cycle_places (by decide) rfl fun H1 f1 h1' => ?_
    repeat array_get_dec
    have ha1 : H1 a = some (.lst (c.map V.int)) := f1 _ _ ha fun q => by subst q; rw [hp] at ha; cases ha
    refine ⟨a, c, rfl, SqL.of ha1, h1, h2, fun H2 r as s2 nr hr ls nras => ?_⟩
    have hlen := ls.1
    rw [List.length_map, List.length_range] at hlen
    obtain ⟨b, hb⟩ : ∃ b, as[c.length - 1]? = some b := ⟨_, List.getElem?_eq_getElem (by omega)⟩
    have hb5 : H2 b = some (.lst ((wrow c (c.length - 1)).map V.int)) := (ls.2 _ b _ hb (by rw [List.getElem?_map, List.getElem?_range (by omega)]; rfl)).1
    have ea : as = as.take (c.length - 1) ++ [b] := by
      have := List.take_add_one (l := as) (i := c.length - 1)
      rw [hb, List.take_of_length_le (by omega)] at this
      exact this
    repeat array_get_dec
    have hp2 := s2 _ _ h1'
    refine LS.k_sf (gs := [("places", .ref a), ("rows", .ref r)]) hp2 c_Cycle a_Cycle_rows (by show 1 < 1000; decide) rfl fun H3 f3 h3 => ?_
    repeat array_get_dec
    have hb3 : H3 b = some (.lst ((wrow c (c.length - 1)).map V.int)) := f3 _ _ hb5 fun q => by subst q; rw [hp2] at hb5; cases hb5
    have hr3 : H3 r = some (.lst (as.map V.ref)) := f3 _ _ hr fun q => by subst q; rw [hp2] at hr; cases hr
    refine LS.rixl (v := .ref b) (SqL.of hr3) (by rw [ea, List.map_append]; exact atI_last _ _) ?_
    repeat array_get_dec
    refine ⟨b, wrow c (c.length - 1), rfl, SqL.of hb3, ?_⟩
    have et : (wrow c (c.length - 1)).sum = tot c := rfl
    rw [et]
    repeat array_get_dec
    refine LS.k_sf (gs := [("places", .ref a), ("rows", .ref r), ("total", .int (tot c))]) h3 c_Cycle a_Cycle_total (by show 2 < 1000; decide) rfl fun H4 f4 h4 => ?_
    repeat array_get_dec
    exact k H4 _ _ (((LS.fr_s s2 f1).trans f3).trans f4) h4
def sp_read_cycles (K : PySem.W.Frag) (C : Addr) : Sp := fun vs H Q _ => ∃ (a : Addr) (o : List Int) (n : Nat), vs = [.ref a] ∧ Is K H a o ∧ Ord n o ∧ 1 ≤ n ∧ n ≤ 200 ∧
  ∀ (H' : Hp) (p : Addr) (os : List Addr), Same H H' → H' p = some (.lst (os.map V.ref)) → CyOk C H' os (cycs o) → Q (.ref p) H'
theorem ok_read_cycles (e : Env K mg) : FnOk P w K mg base CX0 7 e.a_read_cycles e.d_read_cycles ["order"] (sp_read_cycles K e.C_Cycle) := by
  refine Fun.ok e.f_read_cycles sc_read_cycles (fun vs H Q E h => ?_) (fun cdv A outer s H vs Q E hr h => ?_)
  · obtain ⟨a, o, n, rfl, _⟩ := h; rfl
  · obtain ⟨a, o, n, rfl, hE, ho, h1, h2, k⟩ := h
    refine ⟨_, (pss_one (ps_ret (pe_lc (own := [("places", 1)]) rfl sc_read_cycles.nd (pi_list (pe_call ((ok_cycles_of e).mono (by decide)) hr rfl e.g_cycles_of e.f_cycles_of.kp e.b_cycles_of .nil pass0 (pa_cons (pv 0) pa_nil))) (blkOk_by (N := ["order", "places"]) (sc := defScope s_read_cycles) (by decide +kernel)) (fun _ _ _ _ _ => (pg_name (i := 1) sc_read_cycles.nd rfl (by first | exact Or.inl rfl | exact Or.inr rfl))) (fun _ _ _ _ _ => pts_nil) (fun _ _ _ _ _ => (pe_make e.mk_Cycle ((ok_Cycle_init e).mono (by decide)) hr rfl e.g_Cycle e.b_Cycle_init .nil pass0 (pa_cons (pv 1) pa_nil)))))), ?_⟩
    have c_Cycle := e.cl_Cycle; have a_Cycle_places := e.nA_Cycle_places; have a_Cycle_rows := e.nA_Cycle_rows; have a_Cycle_total := e.nA_Cycle_total
    have hol := ho.len
    repeat array_get_dec
    refine ⟨a, o, n, rfl, hE, ho, h1, h2, fun H1 p as s1 np hp ls nas => ?_⟩
    have ul : (cycs o).length ≤ o.length := upto_len o o.length
    have hlen := ls.1
    repeat array_get_dec
    refine LS.comp (walk_list (xs := as.map V.ref)) (fun D i acc H' => ∃ os : List Addr, Same H1 H' ∧ CyOk e.C_Cycle H' os ((cycs o).take i) ∧ acc = os.map V.ref) (fun D H' nD s' hD => ⟨[], s', cyo_nil, rfl⟩) (fun D i acc H' hi nD hD h => (by obtain ⟨_, h, _⟩ := h; exact (by array_mem_dec))) ?_ ?_
    · rintro D i acc x H2 H3 nD hi hl2 hD ⟨os, s2, cy, rfl⟩ ⟨rfl, hx⟩
      rw [List.length_map] at hi
      obtain ⟨t, ht⟩ : ∃ t, as[i]? = some t := ⟨_, List.getElem?_eq_getElem hi⟩
      rw [List.getElem?_map, ht] at hx
      cases hx
      obtain ⟨c, hc⟩ : ∃ c, (cycs o)[i]? = some c := ⟨_, List.getElem?_eq_getElem (by rw [← hlen]; exact hi)⟩
      have ht1 := (ls.2 i t c ht hc).1
      have l1 := cyc_gt o o.length c (List.mem_of_getElem? hc)
      have l2 := cyc_len ho o.length (by omega) c (List.mem_of_getElem? hc)
      repeat array_get_dec
      refine ⟨rfl, ?_⟩
      repeat array_get_dec
      refine LS.k_mk fun ob dx H4 n1 n2 s4 h4 => ?_
      refine ⟨ob, dx, t, c, rfl, h4, (by array_mem_dec), by omega, by omega, fun H5 pv rv f5 h5 => ⟨rfl, ?_⟩⟩
      have s35 : Same H3 H5 := (by array_mem_dec)
      have hD5 : H5 D = some (.lst (os.map V.ref)) := (by array_mem_dec)
      exact LS.k_lc (acc := os.map V.ref) (by array_mem_dec) hl2 (by omega) fun H6 f6 h6 => ⟨os ++ [ob], (by array_mem_dec), by
        rw [List.take_add_one, hc]
        exact cyo_snoc (cyo_f f6 hD5 (cyo_s s35 cy)) ⟨dx, pv, rv, (by array_mem_dec)⟩, by rw [List.map_append]; rfl⟩
    · rintro D acc H2 nD hD hl2 ⟨os, s2, cy, rfl⟩
      rw [List.length_map, hlen, List.take_of_length_le (Nat.le_refl _)] at cy
      repeat array_get_dec
      exact k H2 D os (by array_mem_dec) hD cy
def sp_count_ways_of (C : Addr) : Sp := fun vs H Q _ => ∃ (p : Addr) (os : List Addr) (cs : List (List Int)), vs = [.ref p] ∧ H p = some (.lst (os.map V.ref)) ∧ CyOk C H os cs ∧ cs.length ≤ 200 ∧ (∀ c ∈ cs, c.length ≤ 200) ∧
  ∀ H', Same H H' → Q (.int (cnt cs)) H'
theorem ok_count_ways_of (e : Env K mg) : FnOk P w K mg base CX0 1 e.a_count_ways_of e.d_count_ways_of ["cycles"] (sp_count_ways_of e.C_Cycle) := by
  refine Fun.ok e.f_count_ways_of sc_count_ways_of (fun vs H Q E h => ?_) (fun cdv A outer s H vs Q E hr h => ?_)
  · obtain ⟨p, os, cs, rfl, _⟩ := h; rfl
  · obtain ⟨p, os, cs, rfl, hp, cy, hl, hc, k⟩ := h
    refine ⟨_, (pss_cons (ps_set (i := 1) sc_count_ways_of.nd rfl (by first | exact Or.inl rfl | exact Or.inr rfl) (pe_callBfun LX.cr_fact (by rfl) e.g_factorial (pa_cons (pe_callB LS.call_len (by rfl) e.n_len PySem.boot_len (pa_cons (pv 0) pa_nil)) pa_nil)))
      (pss_cons (ps_for PassesOwn.never rfl (pi_list (pv 0)) (pg_name (i := 2) sc_count_ways_of.nd rfl (by first | exact Or.inl rfl | exact Or.inr rfl))
      (pss_one (ps_set (i := 1) sc_count_ways_of.nd rfl (by first | exact Or.inl rfl | exact Or.inr rfl) (pe_op op_mulW (pv 1) (pe_fld (pv 2) rfl)))))
      (pss_one (ps_ret (pv 1))))), ?_⟩
    have c_Cycle := e.cl_Cycle; have a_Cycle_places := e.nA_Cycle_places; have a_Cycle_rows := e.nA_Cycle_rows; have a_Cycle_total := e.nA_Cycle_total
    have hlen := cy.1
    repeat array_get_dec
    refine ⟨_, rfl, by omega, by rw [List.length_map]; omega, ?_⟩
    repeat array_get_dec
    rw [show (((List.map V.ref os).length : Nat) : Int).toNat = cs.length by rw [List.length_map]; omega]
    refine LS.for_ (walk_list (xs := os.map V.ref)) (fun i σ H' => ∃ v2 : Option V, Same H H' ∧ σ = [some (.ref p), some (.int (cntP (factI cs.length) cs i)), v2]) ⟨_, (by array_mem_dec), by
      show [_, some (V.int (factI cs.length)), _] = [_, some (V.int (factI cs.length * 1)), _]
      rw [Int.mul_one]⟩ (fun i σ H' _ ⟨_, s, _⟩ => SqL.of (s _ _ hp)) ?_ ?_
    · rintro i x σ H2 H3 hi ⟨v2, s2, rfl⟩ ⟨rfl, hx⟩
      rw [List.length_map] at hi
      obtain ⟨t, ht⟩ : ∃ t, os[i]? = some t := ⟨_, List.getElem?_eq_getElem hi⟩
      rw [List.getElem?_map, ht] at hx
      cases hx
      obtain ⟨c, hc2⟩ : ∃ c, cs[i]? = some c := ⟨_, List.getElem?_eq_getElem (by rw [← hlen]; exact hi)⟩
      obtain ⟨dx, pv, rv, he⟩ := cy.2 i t c ht hc2
      repeat array_get_dec
      refine LS.ri (wide_mul (a := 60000) (b := 208) (cntP_bd hl hl hc i) (tot_bd (hc c (List.mem_of_getElem? hc2))).2 (by decide) (by decide) (by decide)) ?_
      repeat array_get_dec
      exact ⟨_, s2, by rw [cntP_succ hc2]; rfl⟩
    · rintro σ H2 ⟨v2, s2, rfl⟩
      repeat array_get_dec
      rw [List.length_map, hlen]
      exact k H2 s2
def sp_count_sorting (K : PySem.W.Frag) : Sp := fun vs H Q _ => ∃ (a : Addr) (o : List Int) (n : Nat), vs = [.ref a] ∧ Is K H a o ∧ Ord n o ∧ 1 ≤ n ∧ n ≤ 200 ∧ ∀ H', Same H H' → Q (.int (cnt (cycs o))) H'
theorem ok_count_sorting (e : Env K mg) : FnOk P w K mg base CX0 8 e.a_count_sorting e.d_count_sorting ["order"] (sp_count_sorting K) := by
  refine Fun.ok e.f_count_sorting sc_count_sorting (fun vs H Q E h => ?_) (fun cdv A outer s H vs Q E hr h => ?_)
  · obtain ⟨a, o, n, rfl, _⟩ := h; rfl
  · obtain ⟨a, o, n, rfl, hE, ho, h1, h2, k⟩ := h
    refine ⟨_, (pss_one (ps_ret (pe_call ((ok_count_ways_of e).mono (by decide)) hr rfl e.g_count_ways_of e.f_count_ways_of.kp e.b_count_ways_of .nil pass0 (pa_cons (pe_call ((ok_read_cycles e).mono (by decide)) hr rfl e.g_read_cycles e.f_read_cycles.kp e.b_read_cycles .nil pass0 (pa_cons (pv 0) pa_nil)) pa_nil)))), ?_⟩
    have hol := ho.len
    have ul : (cycs o).length ≤ o.length := upto_len o o.length
    repeat array_get_dec
    refine ⟨a, o, n, rfl, hE, ho, h1, h2, fun H1 p os s1 hp cy => ?_⟩
    repeat array_get_dec
    refine ⟨p, os, cycs o, rfl, hp, cy, by omega, fun c hc => ?_, fun H2 s2 => ?_⟩
    · have := cyc_len ho o.length (by omega) c hc
      omega
    · repeat array_get_dec
      exact k H2 (by array_mem_dec)
end
end LP

namespace LP
open PySem L2 LT LG LQ LH LC LX LR
local macro_rules | `(tactic| array_mem_dec) => `(tactic| first
  | assumption
  | ((with_reducible apply LS.hp_s); assumption; array_mem_dec)
  | ((with_reducible apply LS.hp_f); assumption; array_mem_dec; array_mem_dec)
  | ((with_reducible apply LS.hp_t); assumption; array_mem_dec; array_mem_dec)
  | ((with_reducible apply LS.hp_l); assumption; array_mem_dec; array_mem_dec)
  | ((with_reducible apply LS.sq_o); array_mem_dec)
  | ((with_reducible apply LS.sq_s); assumption; array_mem_dec)
  | ((with_reducible apply LS.sq_f); assumption; array_mem_dec; array_mem_dec)
  | ((with_reducible apply LS.sq_t); assumption; array_mem_dec; array_mem_dec)
  | ((with_reducible apply LS.sq_l); assumption; array_mem_dec; array_mem_dec)
  | ((with_reducible apply LS.tu_o); array_mem_dec)
  | ((with_reducible apply LS.tu_s); assumption; array_mem_dec)
  | ((with_reducible apply LS.tu_f); assumption; array_mem_dec; array_mem_dec)
  | ((with_reducible apply LS.tu_t); assumption; array_mem_dec; array_mem_dec)
  | ((with_reducible apply LS.tu_l); assumption; array_mem_dec; array_mem_dec)
  | ((with_reducible apply LS.se_l); array_mem_dec)
  | ((with_reducible apply LS.se_t); array_mem_dec)
  | ((with_reducible apply LS.se_s); assumption; array_mem_dec)
  | ((with_reducible apply LS.se_f); assumption; array_mem_dec; array_mem_dec)
  | ((with_reducible apply LS.se_tt); assumption; array_mem_dec; array_mem_dec)
  | ((with_reducible exact Same.refl _))
  | ((with_reducible apply LS.sm_s); assumption; array_mem_dec)
  | ((with_reducible apply LS.sm_f); assumption; array_mem_dec; array_mem_dec)
  | ((with_reducible exact Fr.refl _ _))
  | ((with_reducible apply LS.fr_b); assumption; array_mem_dec)
  | ((with_reducible apply LS.fr_s); assumption; array_mem_dec)
  | ((with_reducible apply LS.fr_n); assumption; array_mem_dec; array_mem_dec)
  | ((with_reducible apply LS.fr_t); assumption; array_mem_dec)
  | ((with_reducible apply LS.no_s); assumption; array_mem_dec)
  | ((with_reducible apply LS.no_f); assumption; array_mem_dec; array_mem_dec)
  | ((with_reducible apply LS.no_t); assumption; array_mem_dec)
  | ((with_reducible apply LS.no_l); assumption; assumption)
  | ((with_reducible apply Ne.symm); assumption)
  | ((with_reducible apply LS.ne_a); assumption; array_mem_dec)
  | ((with_reducible apply LS.ne_b); assumption; array_mem_dec)
  | ((with_reducible apply LS.ne_ap); assumption)
  | ((with_reducible apply LS.ne_il); assumption; array_mem_dec)
  | ((with_reducible apply LS.ne_li); assumption; array_mem_dec)
  | ((with_reducible apply LS.ne_lt); assumption; assumption)
  | ((with_reducible apply LS.ne_tl); assumption; assumption)
  | ((with_reducible apply LS.ne_rl); assumption; array_mem_dec)
  | ((with_reducible apply LS.rl_t); assumption)
  | ((with_reducible apply LS.rl_s); assumption; array_mem_dec)
  | ((with_reducible apply LS.rl_f); assumption; array_mem_dec; array_mem_dec)
  | ((with_reducible apply LS.rl_l); assumption; array_mem_dec; array_mem_dec)
  | ((with_reducible apply LS.ap_new); assumption; assumption; array_mem_dec)
  | ((with_reducible apply LS.ap_t); assumption; array_mem_dec; array_mem_dec)
  | ((with_reducible apply LS.ap_s); assumption; array_mem_dec; array_mem_dec)
  | ((with_reducible apply LS.ap_f); assumption; array_mem_dec; array_mem_dec; array_mem_dec)
  | ((with_reducible apply LS.ap_l); assumption; array_mem_dec; array_mem_dec; array_mem_dec)
  | (with_reducible apply LS.ni_nil)
  | ((with_reducible apply LS.ni_cons); array_mem_dec; array_mem_dec)
  | (with_reducible apply LS.trk_nil)
  | ((with_reducible apply LS.trk_cons); array_mem_dec; array_mem_dec)
  | (with_reducible apply LS.al_nil)
  | ((with_reducible apply LS.al_cons); array_mem_dec; array_mem_dec)
  | (with_reducible apply LS.mem_hd)
  | ((with_reducible apply LS.mem_tl); array_mem_dec)
  | ((with_reducible apply LS.fl_refl); array_mem_dec)
  | ((with_reducible apply LS.fl_l); assumption; array_mem_dec)
  | ((with_reducible apply LS.fl_lm); assumption; array_mem_dec; array_mem_dec)
  | (with_reducible apply LS.sub_nil)
  | ((with_reducible apply LS.sub_cons); array_mem_dec; array_mem_dec)
  | ((with_reducible apply LS.fl_s); assumption; array_mem_dec)
  | ((with_reducible apply LS.fl_m); assumption; array_mem_dec; array_mem_dec; array_mem_dec)
  | ((with_reducible apply LS.fl_n); assumption; array_mem_dec; array_mem_dec; array_mem_dec)
  | ((with_reducible apply LS.rt_refl); array_mem_dec)
  | ((with_reducible apply LS.rt_t); assumption; array_mem_dec)
  | ((with_reducible apply LS.rt_s); assumption; array_mem_dec)
  | ((with_reducible apply LS.rt_f); assumption; array_mem_dec; array_mem_dec; array_mem_dec)
  | ((with_reducible apply LS.sz); (first | decide | (simp only [List.length_append, List.length_map, List.length_cons, List.length_nil, List.length_replicate]; omega)))
  | ((with_reducible apply LS.szl); (first | decide | (simp only [List.length_append, List.length_map, List.length_cons, List.length_nil, List.length_replicate]; omega))))
local macro_rules | `(tactic| array_get_dec) => `(tactic| first
  | ((with_reducible apply LS.var); exact rfl)
  | (with_reducible apply LS.con)
  | (with_reducible apply LS.op)
  | (with_reducible apply LS.ri0)
  | (with_reducible apply LS.tseq)
  | (with_reducible apply LS.tasg)
  | (with_reducible apply LS.gname)
  | (with_reducible apply LS.tcons)
  | (with_reducible apply LS.tnil)
  | (with_reducible apply LS.tcb)
  | (with_reducible apply LS.tcall)
  | (with_reducible apply LS.ttest)
  | (with_reducible apply LS.k_b)
  | (with_reducible apply LS.tb)
  | (with_reducible apply LS.tifs)
  | (with_reducible apply LS.ift)
  | (with_reducible apply LS.iff_)
  | (with_reducible apply LS.ifnt)
  | (with_reducible apply LS.ifnf)
  | (with_reducible apply LS.tnext)
  | (with_reducible apply LS.tdrop)
  | (with_reducible apply LS.tret)
  | (with_reducible apply LS.tretn)
  | (with_reducible apply LS.un)
  | (with_reducible apply LS.ru)
  | (with_reducible apply LS.tyes)
  | (with_reducible apply LS.tand)
  | (with_reducible apply LS.tor)
  | (with_reducible apply LS.tnot)
  | (with_reducible apply LS.tif)
  | (with_reducible apply LS.tandv)
  | (with_reducible apply LS.k_av)
  | (with_reducible apply LS.torv)
  | (with_reducible apply LS.k_ov)
  | (with_reducible apply LS.tnotv)
  | (with_reducible apply LS.k_nv)
  | (with_reducible apply LS.tchain)
  | (with_reducible apply LS.k_ch)
  | (with_reducible apply LS.req_i)
  | (with_reducible apply LS.rne_i)
  | (with_reducible apply LS.req_s)
  | (with_reducible apply LS.rne_s)
  | (with_reducible apply LS.req_b)
  | (with_reducible apply LS.rne_b)
  | ((with_reducible apply LS.rin_i); array_mem_dec)
  | ((with_reducible apply LS.rni_i); array_mem_dec)
  | ((with_reducible apply LS.rlen_li); array_mem_dec)
  | ((with_reducible apply LS.rlen_ls); array_mem_dec)
  | ((with_reducible apply LS.rlen_l); array_mem_dec)
  | ((with_reducible apply LS.rlen_Ei); array_mem_dec)
  | ((with_reducible apply LS.rlen_E); array_mem_dec)
  | ((with_reducible apply LS.rlen_t); array_mem_dec)
  | ((with_reducible apply LS.rixl); array_mem_dec; exact rfl)
  | ((with_reducible apply LS.rixt); array_mem_dec; exact rfl)
  | (with_reducible apply LS.isi_int_int)
  | (with_reducible apply LS.isi_int_bool)
  | (with_reducible apply LS.isi_int_str)
  | (with_reducible apply LS.isi_str_int)
  | (with_reducible apply LS.isi_str_bool)
  | (with_reducible apply LS.isi_str_str)
  | (with_reducible apply LS.isi_bool_int)
  | (with_reducible apply LS.isi_bool_bool)
  | (with_reducible apply LS.isi_bool_str)
  | (with_reducible apply LS.isi_non_int)
  | (with_reducible apply LS.isi_non_bool)
  | (with_reducible apply LS.isi_non_str)
  | ((with_reducible apply LS.isi_list_int); array_mem_dec)
  | ((with_reducible apply LS.isi_list_bool); array_mem_dec)
  | ((with_reducible apply LS.isi_list_str); array_mem_dec)
  | ((with_reducible apply LS.isi_list_list); array_mem_dec)
  | ((with_reducible apply LS.isi_list_tuple); array_mem_dec)
  | ((with_reducible apply LS.isi_tuple_int); array_mem_dec)
  | ((with_reducible apply LS.isi_tuple_bool); array_mem_dec)
  | ((with_reducible apply LS.isi_tuple_str); array_mem_dec)
  | ((with_reducible apply LS.isi_tuple_list); array_mem_dec)
  | ((with_reducible apply LS.isi_tuple_tuple); array_mem_dec)
  | ((with_reducible apply LS.isiT_i); array_mem_dec)
  | ((with_reducible apply LS.isiT_s); array_mem_dec)
  | ((with_reducible apply LS.isiT_E); array_mem_dec; array_mem_dec)
  | (with_reducible apply LS.tfld)
  | ((with_reducible apply LS.k_fl); array_mem_dec; assumption; assumption; exact rfl)
  | (with_reducible apply LS.tmeth)
  | ((with_reducible apply LS.k_me); array_mem_dec; exact rfl)
  | (with_reducible apply LS.tmake)
  | (with_reducible apply LS.tsfld)
  | (with_reducible apply LS.tprop)
  | ((with_reducible apply LS.k_pr); array_mem_dec)
  | ((with_reducible apply LS.rlen_own); array_mem_dec)
  | (with_reducible apply LS.rabs)
  | (with_reducible apply LS.rmin2)
  | (with_reducible apply LS.rmax2)
  | (with_reducible apply LS.tsl)
  | (with_reducible apply LS.tthen)
  | (with_reducible apply LS.tstep)
  | (with_reducible apply LS.tnop)
  | (with_reducible apply LS.tpart)
  | (with_reducible apply LS.k_part)
  | (with_reducible apply LS.ttup)
  | (with_reducible apply LS.tlst)
  | (with_reducible apply LS.tbm)
  | (with_reducible apply LS.tbm0)
  | ((with_reducible apply LS.ty_l); array_mem_dec)
  | (with_reducible apply LS.tpar)
  | (with_reducible apply LS.tfor)
  | (with_reducible apply LS.tlc)
  | (with_reducible apply LS.ilist)
  | ((with_reducible apply LS.k_il); array_mem_dec)
  | (with_reducible apply LS.itup)
  | ((with_reducible apply LS.k_it); array_mem_dec)
  | (with_reducible apply LS.istr)
  | (with_reducible apply LS.k_is)
  | (with_reducible apply LS.irng1)
  | ((with_reducible apply LS.k_r1n); omega)
  | ((with_reducible apply LS.k_r1); (first | omega | decide); (first | omega | decide))
  | (with_reducible apply LS.irng2)
  | ((with_reducible apply LS.k_r2); (first | omega | decide); (first | omega | decide); (first | omega | decide); (first | omega | decide))
  | (with_reducible apply LS.ienum)
  | ((with_reducible apply LS.k_en); array_mem_dec)
  | (with_reducible apply LS.izip)
  | ((with_reducible apply LS.k_zip); array_mem_dec; array_mem_dec)
  | (with_reducible apply LS.tlstrg)
  | (with_reducible apply LS.trg1)
  | (with_reducible apply LS.k_g1)
  | (with_reducible apply LS.risn_i)
  | (with_reducible apply LS.risn_s)
  | (with_reducible apply LS.risn_n)
  | (with_reducible apply LS.rnotn_i)
  | (with_reducible apply LS.rnotn_n)
  | (with_reducible apply LS.rint_b)
  | (with_reducible apply LS.rint_i)
  | (with_reducible apply LS.tm0)
  | (with_reducible apply LS.tm1)
  | (with_reducible apply LS.is_str)
  | (with_reducible apply LS.ex_s0)
  | (with_reducible apply LS.ex_int_b)
  | (with_reducible apply LS.k_par)
  | (with_reducible apply LS.tpar3)
  | (with_reducible apply LS.k_par3)
  | ((with_reducible apply LS.taug); exact rfl)
  | (with_reducible apply LS.ipi)
  | ((with_reducible apply LS.gtup); array_mem_dec; exact rfl)
  | ((with_reducible apply LS.gunl); array_mem_dec; exact rfl)
  | (with_reducible apply LS.gnil)
  | (with_reducible apply LS.gcons)
  | (with_reducible apply LS.gsub)
  | ((with_reducible apply LS.ri); first | omega | decide | assumption | exact ⟨by decide, by decide, by decide⟩ | exact .inl ⟨by decide, by decide⟩ | exact .inr ⟨by decide, by decide⟩ | exact .inl ⟨by omega, by omega⟩ | exact .inr ⟨by omega, by omega⟩)
  | (with_reducible apply LS.ex_ss)
  | (with_reducible apply LS.ex_s1)
  | (with_reducible apply LS.ex_i1)
  | (with_reducible apply LS.and_rfl)
  | (with_reducible apply LS.and_tr)
  | (with_reducible apply LS.is_non))
local macro_rules | `(tactic| array_mem_dec) => `(tactic| first
  | ((with_reducible apply LP.lv_s); assumption; array_mem_dec)
  | ((with_reducible apply LP.lv_l); assumption; array_mem_dec; array_mem_dec; array_mem_dec)
  | ((with_reducible apply LP.lv_f); assumption; array_mem_dec; array_mem_dec; array_mem_dec)
  | ((with_reducible apply LP.lv_t); assumption; array_mem_dec; array_mem_dec; array_mem_dec)
  | ((with_reducible apply LP.ops_s); assumption; array_mem_dec)
  | ((with_reducible apply LP.md_s); assumption; array_mem_dec)
  | ((with_reducible apply LP.md_l); assumption; array_mem_dec; array_mem_dec; array_mem_dec)
  | ((with_reducible apply LP.md_f); assumption; array_mem_dec; array_mem_dec; array_mem_dec)
  | ((with_reducible apply LP.md_t); assumption; array_mem_dec; array_mem_dec; array_mem_dec)
  | ((with_reducible apply LP.al_s); assumption; array_mem_dec; array_mem_dec)
  | ((with_reducible apply LP.al_t); assumption; array_mem_dec; array_mem_dec)
  | ((with_reducible apply LP.al_l); assumption; array_mem_dec; array_mem_dec; array_mem_dec)
  | ((with_reducible apply LP.al_f); assumption; array_mem_dec; array_mem_dec; array_mem_dec)
  | ((with_reducible apply LP.Lv.lists); array_mem_dec)
  | ((with_reducible apply LP.Lv.trk); array_mem_dec)
  | ((with_reducible apply LP.Mdl.trk); array_mem_dec)
  | ((with_reducible apply LP.al_no); assumption; array_mem_dec))
local macro_rules | `(tactic| array_mem_dec) => `(tactic| first
  | ((with_reducible apply LP.sg_s); assumption; array_mem_dec)
  | ((with_reducible apply LP.sg_f); assumption; array_mem_dec; array_mem_dec)
  | ((with_reducible apply LP.sg_l); assumption; array_mem_dec; array_mem_dec)
  | ((with_reducible apply LP.sg_ne); assumption; array_mem_dec)
  | ((with_reducible apply LP.sg_ne'); assumption; array_mem_dec)
  | ((with_reducible apply LS.se_q); array_mem_dec)
  | ((with_reducible apply LS.se_u); array_mem_dec)
  | ((with_reducible apply LP.sg_no); assumption; array_mem_dec; array_mem_dec))
local macro_rules | `(tactic| array_get_dec) => `(tactic| first
  | ((with_reducible apply LS.rne_same); exact rfl)
  | ((with_reducible apply LS.req_same); exact rfl)
  | (with_reducible apply LS.trevl)
  | (with_reducible apply LS.irng3)
  | (with_reducible apply LS.risn_b)
  | ((with_reducible apply LS.isiT_n); array_mem_dec)
  | ((with_reducible apply LS.isiT_b); array_mem_dec))
local macro_rules | `(tactic| array_get_dec) => `(tactic| first
  | (with_reducible apply LS.trg2)
  | (with_reducible apply LS.k_g2))

section
variable {P : Program} {w : World} {K : PySem.W.Frag} {mg : Str → Option Value} {base : Heap}

theorem get_erase {α : Type} : ∀ {l : List α} {i : Nat} {x : α}, l[i]? = some x → (x :: l.eraseIdx i).Perm l
  | [], i, x, h => by simp at h
  | a :: r, 0, x, h => by
    have e : a = x := Option.some.inj h
    subst e; exact List.Perm.refl _
  | a :: r, i + 1, x, h => by
    have ih := get_erase (l := r) (i := i) (x := x) h
    exact (List.Perm.swap a x (r.eraseIdx i)).trans (ih.cons a)
theorem pop_perm {lf dn xs : List Int} {i : Nat} {x : Int} (h : (lf ++ dn).Perm xs) (hx : lf[i]? = some x) : (lf.eraseIdx i ++ (dn ++ [x])).Perm xs := by
  refine List.Perm.trans ?_ h
  have p : (x :: lf.eraseIdx i).Perm lf := get_erase hx
  have q : (lf.eraseIdx i ++ (dn ++ [x])).Perm (x :: (lf.eraseIdx i ++ dn)) := by
    rw [← List.append_assoc]
    exact List.perm_append_singleton _ _
  exact q.trans ((List.perm_append_right_iff dn).mpr p)
theorem ok__law_mixed (e : Env K mg) : FnOk P w K mg base CX0 3 e.a__law_mixed e.d__law_mixed ["spring", "row"] (sp__law_mixed) := by
  refine Fun.ok e.f__law_mixed sc__law_mixed (fun vs H Q E h => ?_) (fun cdv A outer s H vs Q E hr h => ?_)
  · obtain ⟨b, d, p, xs, rfl, _⟩ := h; rfl
  · obtain ⟨b, d, p, xs, rfl, R, hd, hp, hx, hpb, k⟩ := h
    refine ⟨_, (pss_cons (ps_set (i := 2) sc__law_mixed.nd rfl (by first | exact Or.inl rfl | exact Or.inr rfl) (pe_callTy LS.call_list (by rfl) e.n_list (by decide +kernel) (pa_cons (pv 1) pa_nil)))
      (pss_one (ps_ret (pe_lc (own := [("k", 3)]) rfl sc__law_mixed.nd (pi_range1 (by rfl) e.n_range (pa_cons (pe_callB LS.call_len (by rfl) e.n_len PySem.boot_len (pa_cons (pv 1) pa_nil)) pa_nil)) (blkOk_by (N := ["spring", "row", "left", "k"]) (sc := defScope s__law_mixed) (by decide +kernel)) (fun _ _ _ _ _ => (pg_name (i := 3) sc__law_mixed.nd rfl (by first | exact Or.inl rfl | exact Or.inr rfl))) (fun _ _ _ _ _ => pts_nil) (fun _ _ _ _ _ => (show PE _ _ (tBM K "list" _ _ _) from pe_bm PySem.F.plainAttrs_list PySem.F.slot_list_pop PySem.F.type_list_pop mt_popAt (pv 2) (pa_cons (pe_call ((ok__law_draw e).mono (by decide)) hr rfl e.g__law_draw e.f__law_draw.kp e.b__law_draw .nil pass0 (pa_cons (pv 0) (pa_cons (pe_callB (show CallR _ _ (rLenS K) from LS.call_len) (by rfl) e.n_len PySem.boot_len (pa_cons (pv 2) pa_nil)) pa_nil))) pa_nil))))))), ?_⟩
    repeat array_get_dec
    refine LS.rlist_l (by array_mem_dec) fun L H1 nL s1 hL => ?_
    repeat array_get_dec
    refine LS.comp (walk_range (lo := 0) (n := xs.length)) (fun D j acc H' => ∃ lf dn : List Int, acc = dn.map V.int ∧ (lf ++ dn).Perm xs ∧ dn.length = j ∧ Spring H' b (d + j) ∧ Fr H H' b ∧ H' L = some (.lst (lf.map V.int))) ?_ ?_ ?_ ?_
    · intro D H2 nD s2 hD
      exact ⟨xs, [], rfl, by rw [List.append_nil], rfl, (by array_mem_dec), (by array_mem_dec), (by array_mem_dec)⟩
    · rintro D j acc H2 hj nD hD ⟨lf, dn, rfl, pm, dl, R2, F2, hL2⟩
      trivial
    · rintro D j acc x H2 H3 nD hj hl hD ⟨lf, dn, rfl, pm, dl, R2, F2, hL2⟩ ⟨rfl, rfl⟩
      have hlen := pm.length_eq
      rw [List.length_append] at hlen
      refine ⟨rfl, ?_⟩
      repeat array_get_dec
      refine ⟨b, _, _, rfl, (by array_mem_dec), by omega, log_small (by omega), by omega, fun H4 r r0 r1 R4 F4 => ?_⟩
      have hr : r.toNat < lf.length := by omega
      have hg := List.getElem?_eq_getElem hr
      repeat array_get_dec
      refine LS.rpopi (xs := lf.map V.int) (k := r.toNat) (by array_mem_dec) (by omega) (by omega) (by rw [List.length_map]; exact seq_int r0 hr) (int_at hg) fun H5 f5 h5 => ?_
      refine LS.k_lc (acc := dn.map V.int) (by array_mem_dec) hl (by omega) fun H6 f6 h6 => ?_
      refine ⟨lf.eraseIdx r.toNat, dn ++ [lf[r.toNat]], by rw [List.map_append]; rfl, pop_perm pm hg, by rw [List.length_append, dl]; rfl, (by array_mem_dec), (by array_mem_dec), ?_⟩
      rw [erase_map] at h5
      exact (by array_mem_dec)
    · rintro D acc H2 nD hD hl ⟨lf, dn, rfl, pm, dl, R2, F2, hL2⟩
      have hlen := pm.length_eq
      rw [List.length_append] at hlen
      have e : lf = [] := List.length_eq_zero_iff.mp (by omega)
      subst e
      exact k H2 D dn R2 F2 (by array_mem_dec) pm hD
end
end LP

namespace LP
open PySem L2 LT LG LQ LH LC LX LR
local macro_rules | `(tactic| array_mem_dec) => `(tactic| first
  | assumption
  | ((with_reducible apply LS.hp_s); assumption; array_mem_dec)
  | ((with_reducible apply LS.hp_f); assumption; array_mem_dec; array_mem_dec)
  | ((with_reducible apply LS.hp_t); assumption; array_mem_dec; array_mem_dec)
  | ((with_reducible apply LS.hp_l); assumption; array_mem_dec; array_mem_dec)
  | ((with_reducible apply LS.sq_o); array_mem_dec)
  | ((with_reducible apply LS.sq_s); assumption; array_mem_dec)
  | ((with_reducible apply LS.sq_f); assumption; array_mem_dec; array_mem_dec)
  | ((with_reducible apply LS.sq_t); assumption; array_mem_dec; array_mem_dec)
  | ((with_reducible apply LS.sq_l); assumption; array_mem_dec; array_mem_dec)
  | ((with_reducible apply LS.tu_o); array_mem_dec)
  | ((with_reducible apply LS.tu_s); assumption; array_mem_dec)
  | ((with_reducible apply LS.tu_f); assumption; array_mem_dec; array_mem_dec)
  | ((with_reducible apply LS.tu_t); assumption; array_mem_dec; array_mem_dec)
  | ((with_reducible apply LS.tu_l); assumption; array_mem_dec; array_mem_dec)
  | ((with_reducible apply LS.se_l); array_mem_dec)
  | ((with_reducible apply LS.se_t); array_mem_dec)
  | ((with_reducible apply LS.se_s); assumption; array_mem_dec)
  | ((with_reducible apply LS.se_f); assumption; array_mem_dec; array_mem_dec)
  | ((with_reducible apply LS.se_tt); assumption; array_mem_dec; array_mem_dec)
  | ((with_reducible exact Same.refl _))
  | ((with_reducible apply LS.sm_s); assumption; array_mem_dec)
  | ((with_reducible apply LS.sm_f); assumption; array_mem_dec; array_mem_dec)
  | ((with_reducible exact Fr.refl _ _))
  | ((with_reducible apply LS.fr_b); assumption; array_mem_dec)
  | ((with_reducible apply LS.fr_s); assumption; array_mem_dec)
  | ((with_reducible apply LS.fr_n); assumption; array_mem_dec; array_mem_dec)
  | ((with_reducible apply LS.fr_t); assumption; array_mem_dec)
  | ((with_reducible apply LS.no_s); assumption; array_mem_dec)
  | ((with_reducible apply LS.no_f); assumption; array_mem_dec; array_mem_dec)
  | ((with_reducible apply LS.no_t); assumption; array_mem_dec)
  | ((with_reducible apply LS.no_l); assumption; assumption)
  | ((with_reducible apply Ne.symm); assumption)
  | ((with_reducible apply LS.ne_a); assumption; array_mem_dec)
  | ((with_reducible apply LS.ne_b); assumption; array_mem_dec)
  | ((with_reducible apply LS.ne_ap); assumption)
  | ((with_reducible apply LS.ne_il); assumption; array_mem_dec)
  | ((with_reducible apply LS.ne_li); assumption; array_mem_dec)
  | ((with_reducible apply LS.ne_lt); assumption; assumption)
  | ((with_reducible apply LS.ne_tl); assumption; assumption)
  | ((with_reducible apply LS.ne_rl); assumption; array_mem_dec)
  | ((with_reducible apply LS.rl_t); assumption)
  | ((with_reducible apply LS.rl_s); assumption; array_mem_dec)
  | ((with_reducible apply LS.rl_f); assumption; array_mem_dec; array_mem_dec)
  | ((with_reducible apply LS.rl_l); assumption; array_mem_dec; array_mem_dec)
  | ((with_reducible apply LS.ap_new); assumption; assumption; array_mem_dec)
  | ((with_reducible apply LS.ap_t); assumption; array_mem_dec; array_mem_dec)
  | ((with_reducible apply LS.ap_s); assumption; array_mem_dec; array_mem_dec)
  | ((with_reducible apply LS.ap_f); assumption; array_mem_dec; array_mem_dec; array_mem_dec)
  | ((with_reducible apply LS.ap_l); assumption; array_mem_dec; array_mem_dec; array_mem_dec)
  | (with_reducible apply LS.ni_nil)
  | ((with_reducible apply LS.ni_cons); array_mem_dec; array_mem_dec)
  | (with_reducible apply LS.trk_nil)
  | ((with_reducible apply LS.trk_cons); array_mem_dec; array_mem_dec)
  | (with_reducible apply LS.al_nil)
  | ((with_reducible apply LS.al_cons); array_mem_dec; array_mem_dec)
  | (with_reducible apply LS.mem_hd)
  | ((with_reducible apply LS.mem_tl); array_mem_dec)
  | ((with_reducible apply LS.fl_refl); array_mem_dec)
  | ((with_reducible apply LS.fl_l); assumption; array_mem_dec)
  | ((with_reducible apply LS.fl_lm); assumption; array_mem_dec; array_mem_dec)
  | (with_reducible apply LS.sub_nil)
  | ((with_reducible apply LS.sub_cons); array_mem_dec; array_mem_dec)
  | ((with_reducible apply LS.fl_s); assumption; array_mem_dec)
  | ((with_reducible apply LS.fl_m); assumption; array_mem_dec; array_mem_dec; array_mem_dec)
  | ((with_reducible apply LS.fl_n); assumption; array_mem_dec; array_mem_dec; array_mem_dec)
  | ((with_reducible apply LS.rt_refl); array_mem_dec)
  | ((with_reducible apply LS.rt_t); assumption; array_mem_dec)
  | ((with_reducible apply LS.rt_s); assumption; array_mem_dec)
  | ((with_reducible apply LS.rt_f); assumption; array_mem_dec; array_mem_dec; array_mem_dec)
  | ((with_reducible apply LS.sz); (first | decide | (simp only [List.length_append, List.length_map, List.length_cons, List.length_nil, List.length_replicate]; omega)))
  | ((with_reducible apply LS.szl); (first | decide | (simp only [List.length_append, List.length_map, List.length_cons, List.length_nil, List.length_replicate]; omega))))
local macro_rules | `(tactic| array_get_dec) => `(tactic| first
  | ((with_reducible apply LS.var); exact rfl)
  | (with_reducible apply LS.con)
  | (with_reducible apply LS.op)
  | (with_reducible apply LS.ri0)
  | (with_reducible apply LS.tseq)
  | (with_reducible apply LS.tasg)
  | (with_reducible apply LS.gname)
  | (with_reducible apply LS.tcons)
  | (with_reducible apply LS.tnil)
  | (with_reducible apply LS.tcb)
  | (with_reducible apply LS.tcall)
  | (with_reducible apply LS.ttest)
  | (with_reducible apply LS.k_b)
  | (with_reducible apply LS.tb)
  | (with_reducible apply LS.tifs)
  | (with_reducible apply LS.ift)
  | (with_reducible apply LS.iff_)
  | (with_reducible apply LS.ifnt)
  | (with_reducible apply LS.ifnf)
  | (with_reducible apply LS.tnext)
  | (with_reducible apply LS.tdrop)
  | (with_reducible apply LS.tret)
  | (with_reducible apply LS.tretn)
  | (with_reducible apply LS.un)
  | (with_reducible apply LS.ru)
  | (with_reducible apply LS.tyes)
  | (with_reducible apply LS.tand)
  | (with_reducible apply LS.tor)
  | (with_reducible apply LS.tnot)
  | (with_reducible apply LS.tif)
  | (with_reducible apply LS.tandv)
  | (with_reducible apply LS.k_av)
  | (with_reducible apply LS.torv)
  | (with_reducible apply LS.k_ov)
  | (with_reducible apply LS.tnotv)
  | (with_reducible apply LS.k_nv)
  | (with_reducible apply LS.tchain)
  | (with_reducible apply LS.k_ch)
  | (with_reducible apply LS.req_i)
  | (with_reducible apply LS.rne_i)
  | (with_reducible apply LS.req_s)
  | (with_reducible apply LS.rne_s)
  | (with_reducible apply LS.req_b)
  | (with_reducible apply LS.rne_b)
  | ((with_reducible apply LS.rin_i); array_mem_dec)
  | ((with_reducible apply LS.rni_i); array_mem_dec)
  | ((with_reducible apply LS.rlen_li); array_mem_dec)
  | ((with_reducible apply LS.rlen_ls); array_mem_dec)
  | ((with_reducible apply LS.rlen_l); array_mem_dec)
  | ((with_reducible apply LS.rlen_Ei); array_mem_dec)
  | ((with_reducible apply LS.rlen_E); array_mem_dec)
  | ((with_reducible apply LS.rlen_t); array_mem_dec)
  | ((with_reducible apply LS.rixl); array_mem_dec; exact rfl)
  | ((with_reducible apply LS.rixt); array_mem_dec; exact rfl)
  | (with_reducible apply LS.isi_int_int)
  | (with_reducible apply LS.isi_int_bool)
  | (with_reducible apply LS.isi_int_str)
  | (with_reducible apply LS.isi_str_int)
  | (with_reducible apply LS.isi_str_bool)
  | (with_reducible apply LS.isi_str_str)
  | (with_reducible apply LS.isi_bool_int)
  | (with_reducible apply LS.isi_bool_bool)
  | (with_reducible apply LS.isi_bool_str)
  | (with_reducible apply LS.isi_non_int)
  | (with_reducible apply LS.isi_non_bool)
  | (with_reducible apply LS.isi_non_str)
  | ((with_reducible apply LS.isi_list_int); array_mem_dec)
  | ((with_reducible apply LS.isi_list_bool); array_mem_dec)
  | ((with_reducible apply LS.isi_list_str); array_mem_dec)
  | ((with_reducible apply LS.isi_list_list); array_mem_dec)
  | ((with_reducible apply LS.isi_list_tuple); array_mem_dec)
  | ((with_reducible apply LS.isi_tuple_int); array_mem_dec)
  | ((with_reducible apply LS.isi_tuple_bool); array_mem_dec)
  | ((with_reducible apply LS.isi_tuple_str); array_mem_dec)
  | ((with_reducible apply LS.isi_tuple_list); array_mem_dec)
  | ((with_reducible apply LS.isi_tuple_tuple); array_mem_dec)
  | ((with_reducible apply LS.isiT_i); array_mem_dec)
  | ((with_reducible apply LS.isiT_s); array_mem_dec)
  | ((with_reducible apply LS.isiT_E); array_mem_dec; array_mem_dec)
  | (with_reducible apply LS.tfld)
  | ((with_reducible apply LS.k_fl); array_mem_dec; assumption; assumption; exact rfl)
  | (with_reducible apply LS.tmeth)
  | ((with_reducible apply LS.k_me); array_mem_dec; exact rfl)
  | (with_reducible apply LS.tmake)
  | (with_reducible apply LS.tsfld)
  | (with_reducible apply LS.tprop)
  | ((with_reducible apply LS.k_pr); array_mem_dec)
  | ((with_reducible apply LS.rlen_own); array_mem_dec)
  | (with_reducible apply LS.rabs)
  | (with_reducible apply LS.rmin2)
  | (with_reducible apply LS.rmax2)
  | (with_reducible apply LS.tsl)
  | (with_reducible apply LS.tthen)
  | (with_reducible apply LS.tstep)
  | (with_reducible apply LS.tnop)
  | (with_reducible apply LS.tpart)
  | (with_reducible apply LS.k_part)
  | (with_reducible apply LS.ttup)
  | (with_reducible apply LS.tlst)
  | (with_reducible apply LS.tbm)
  | (with_reducible apply LS.tbm0)
  | ((with_reducible apply LS.ty_l); array_mem_dec)
  | (with_reducible apply LS.tpar)
  | (with_reducible apply LS.tfor)
  | (with_reducible apply LS.tlc)
  | (with_reducible apply LS.ilist)
  | ((with_reducible apply LS.k_il); array_mem_dec)
  | (with_reducible apply LS.itup)
  | ((with_reducible apply LS.k_it); array_mem_dec)
  | (with_reducible apply LS.istr)
  | (with_reducible apply LS.k_is)
  | (with_reducible apply LS.irng1)
  | ((with_reducible apply LS.k_r1n); omega)
  | ((with_reducible apply LS.k_r1); (first | omega | decide); (first | omega | decide))
  | (with_reducible apply LS.irng2)
  | ((with_reducible apply LS.k_r2); (first | omega | decide); (first | omega | decide); (first | omega | decide); (first | omega | decide))
  | (with_reducible apply LS.ienum)
  | ((with_reducible apply LS.k_en); array_mem_dec)
  | (with_reducible apply LS.izip)
  | ((with_reducible apply LS.k_zip); array_mem_dec; array_mem_dec)
  | (with_reducible apply LS.tlstrg)
  | (with_reducible apply LS.trg1)
  | (with_reducible apply LS.k_g1)
  | (with_reducible apply LS.risn_i)
  | (with_reducible apply LS.risn_s)
  | (with_reducible apply LS.risn_n)
  | (with_reducible apply LS.rnotn_i)
  | (with_reducible apply LS.rnotn_n)
  | (with_reducible apply LS.rint_b)
  | (with_reducible apply LS.rint_i)
  | (with_reducible apply LS.tm0)
  | (with_reducible apply LS.tm1)
  | (with_reducible apply LS.is_str)
  | (with_reducible apply LS.ex_s0)
  | (with_reducible apply LS.ex_int_b)
  | (with_reducible apply LS.k_par)
  | (with_reducible apply LS.tpar3)
  | (with_reducible apply LS.k_par3)
  | ((with_reducible apply LS.taug); exact rfl)
  | (with_reducible apply LS.ipi)
  | ((with_reducible apply LS.gtup); array_mem_dec; exact rfl)
  | ((with_reducible apply LS.gunl); array_mem_dec; exact rfl)
  | (with_reducible apply LS.gnil)
  | (with_reducible apply LS.gcons)
  | (with_reducible apply LS.gsub)
  | ((with_reducible apply LS.ri); first | omega | decide | assumption | exact ⟨by decide, by decide, by decide⟩ | exact .inl ⟨by decide, by decide⟩ | exact .inr ⟨by decide, by decide⟩ | exact .inl ⟨by omega, by omega⟩ | exact .inr ⟨by omega, by omega⟩)
  | (with_reducible apply LS.ex_ss)
  | (with_reducible apply LS.ex_s1)
  | (with_reducible apply LS.ex_i1)
  | (with_reducible apply LS.and_rfl)
  | (with_reducible apply LS.and_tr)
  | (with_reducible apply LS.is_non))
local macro_rules | `(tactic| array_mem_dec) => `(tactic| first
  | ((with_reducible apply LP.lv_s); assumption; array_mem_dec)
  | ((with_reducible apply LP.lv_l); assumption; array_mem_dec; array_mem_dec; array_mem_dec)
  | ((with_reducible apply LP.lv_f); assumption; array_mem_dec; array_mem_dec; array_mem_dec)
  | ((with_reducible apply LP.lv_t); assumption; array_mem_dec; array_mem_dec; array_mem_dec)
  | ((with_reducible apply LP.ops_s); assumption; array_mem_dec)
  | ((with_reducible apply LP.md_s); assumption; array_mem_dec)
  | ((with_reducible apply LP.md_l); assumption; array_mem_dec; array_mem_dec; array_mem_dec)
  | ((with_reducible apply LP.md_f); assumption; array_mem_dec; array_mem_dec; array_mem_dec)
  | ((with_reducible apply LP.md_t); assumption; array_mem_dec; array_mem_dec; array_mem_dec)
  | ((with_reducible apply LP.al_s); assumption; array_mem_dec; array_mem_dec)
  | ((with_reducible apply LP.al_t); assumption; array_mem_dec; array_mem_dec)
  | ((with_reducible apply LP.al_l); assumption; array_mem_dec; array_mem_dec; array_mem_dec)
  | ((with_reducible apply LP.al_f); assumption; array_mem_dec; array_mem_dec; array_mem_dec)
  | ((with_reducible apply LP.Lv.lists); array_mem_dec)
  | ((with_reducible apply LP.Lv.trk); array_mem_dec)
  | ((with_reducible apply LP.Mdl.trk); array_mem_dec)
  | ((with_reducible apply LP.al_no); assumption; array_mem_dec))
local macro_rules | `(tactic| array_mem_dec) => `(tactic| first
  | ((with_reducible apply LP.sg_s); assumption; array_mem_dec)
  | ((with_reducible apply LP.sg_f); assumption; array_mem_dec; array_mem_dec)
  | ((with_reducible apply LP.sg_l); assumption; array_mem_dec; array_mem_dec)
  | ((with_reducible apply LP.sg_ne); assumption; array_mem_dec)
  | ((with_reducible apply LP.sg_ne'); assumption; array_mem_dec)
  | ((with_reducible apply LS.se_q); array_mem_dec)
  | ((with_reducible apply LS.se_u); array_mem_dec)
  | ((with_reducible apply LP.sg_no); assumption; array_mem_dec; array_mem_dec))
local macro_rules | `(tactic| array_get_dec) => `(tactic| first
  | ((with_reducible apply LS.rne_same); exact rfl)
  | ((with_reducible apply LS.req_same); exact rfl)
  | (with_reducible apply LS.trevl)
  | (with_reducible apply LS.irng3)
  | (with_reducible apply LS.risn_b)
  | ((with_reducible apply LS.isiT_n); array_mem_dec)
  | ((with_reducible apply LS.isiT_b); array_mem_dec))
local macro_rules | `(tactic| array_get_dec) => `(tactic| first
  | (with_reducible apply LS.trg2)
  | (with_reducible apply LS.k_g2))

section
variable {P : Program} {w : World} {K : PySem.W.Frag} {mg : Str → Option Value} {base : Heap}

def sp__law_order : Sp := fun vs H Q _ => ∃ (b : Addr) (d n : Nat), vs = [.ref b, .int n] ∧ Spring H b d ∧ d < 800000 ∧ 1 ≤ n ∧ n ≤ 200 ∧
  ∀ (H' : Hp) (q : Addr) (o : List Int), Spring H' b (d + 300) → Fr H H' b → H q = none → Ord n o → H' q = some (.lst (o.map V.int)) → Q (.ref q) H'
theorem rg2 : ∀ m : Fin 201, Builtin.Range.small 0 ((m.val : Nat) : Int) 2 = true ∧ Builtin.Range.rangeSize 0 ((m.val : Nat) : Int) 2 = ((m.val + 1) / 2 : Nat) := by decide +kernel
theorem rgc2 {n : Nat} (h1 : 1 ≤ n) (h : n ≤ 200) : RgC 0 ((n : Int) - 1) 2 (n / 2) := by
  obtain ⟨a, b⟩ := rg2 ⟨n - 1, by omega⟩
  have e : (((n - 1 : Nat) : Nat) : Int) = (n : Int) - 1 := by omega
  have e2 : n - 1 + 1 = n := by omega
  dsimp only at a b
  rw [e2] at b
  exact ⟨by decide, by decide, by rw [← e]; exact a, by rw [← e]; exact b⟩
theorem rg_map (n : Nat) : rgV 0 n = (rangeI n).map V.int := by
  unfold rgV rangeI
  rw [List.map_map, show ((n : Int) - 0).toNat = n by omega]
  refine List.map_congr_left fun k hk => ?_
  show V.int (0 + (k : Int)) = V.int (k : Int)
  rw [Int.zero_add]
theorem int_set (l : List Int) (i : Nat) (x : Int) : (l.map V.int).set i (.int x) = (l.set i x).map V.int := by rw [List.map_set]
theorem ok__law_order (e : Env K mg) : FnOk P w K mg base CX0 4 e.a__law_order e.d__law_order ["spring", "size"] (sp__law_order) := by
  refine Fun.ok e.f__law_order sc__law_order (fun vs H Q E h => ?_) (fun cdv A outer s H vs Q E hr h => ?_)
  · obtain ⟨b, d, n, rfl, _⟩ := h; rfl
  · obtain ⟨b, d, n, rfl, R, hd, hn1, hn, k⟩ := h
    refine ⟨_, (pss_cons (ps_par (i := 2) (j := 3) (by rfl) sc__law_order.nd rfl rfl (by decide) rfl rfl (pa_cons (pe_call ((ok__law_draw e).mono (by decide)) hr rfl e.g__law_draw e.f__law_draw.kp e.b__law_draw .nil pass0 (pa_cons (pv 0) (pa_cons pe_int pa_nil))) (pa_cons (pe_listRg rfl (by rfl) e.n_list (prg_1 (by rfl) e.n_range (pv 1))) pa_nil)) (by rfl))
      (pss_cons (ps_if (pt_cmpR op_lt (pv 2) pe_int (nomark _))
        (pss_one (ps_ret (pe_call ((ok__law_mixed e).mono (by decide)) hr rfl e.g__law_mixed e.f__law_mixed.kp e.b__law_mixed .nil pass0 (pa_cons (pv 0) (pa_cons (pv 3) pa_nil)))))
        pss_nil)
      (pss_cons (ps_if (pt_cmpR op_eq (pv 2) pe_int (nomark _))
        (pss_cons (ps_set (i := 4) sc__law_order.nd rfl (by first | exact Or.inl rfl | exact Or.inr rfl) (pe_call ((ok__law_mixed e).mono (by decide)) hr rfl e.g__law_mixed e.f__law_mixed.kp e.b__law_mixed .nil pass0 (pa_cons (pv 0) (pa_cons (pv 3) pa_nil))))
      (pss_one (ps_for PassesOwn.never rfl (pi_zip (by rfl) e.n_zip (pa_cons (pv 4) (pa_cons (pe_op op_cat (pe_slice sl_list (pv 4) (po_some pe_int) po_none) (pe_slice sl_list (pv 4) po_none (po_some pe_int))) pa_nil))) (pg_tup (by rfl) (pgs_cons (pg_name (i := 5) sc__law_order.nd rfl (by first | exact Or.inl rfl | exact Or.inr rfl)) (pgs_cons (pg_name (i := 6) sc__law_order.nd rfl (by first | exact Or.inl rfl | exact Or.inr rfl)) pgs_nil)))
      (pss_one (ps_asg (pv 6) (pg_sub (pv 3) (pv 5) set_list))))))
        pss_nil)
      (pss_cons (ps_if (pt_cmpR op_eq (pv 2) pe_int (nomark _))
        (pss_one (ps_for PassesOwn.never rfl (pi_range3 (by rfl) e.n_range (pa_cons pe_int (pa_cons (pe_op op_sub (pv 1) pe_int) (pa_cons pe_int pa_nil)))) (pg_name (i := 5) sc__law_order.nd rfl (by first | exact Or.inl rfl | exact Or.inr rfl))
      (pss_one (ps_asg (pe_tup (pa_cons (pe_op op_add (pv 5) pe_int) (pa_cons (pv 5) pa_nil))) (pg_tup (by rfl) (pgs_cons (pg_sub (pv 3) (pv 5) set_list) (pgs_cons (pg_sub (pv 3) (pe_op op_add (pv 5) pe_int) set_list) pgs_nil)))))))
        pss_nil)
      (pss_cons (ps_if (pt_cmpR op_eq (pv 2) pe_int (nomark _))
        (pss_one (ps_set (i := 3) sc__law_order.nd rfl (by first | exact Or.inl rfl | exact Or.inr rfl) (pe_revL (pv 3))))
        pss_nil)
      (pss_cons (ps_for PassesOwn.never rfl (pi_range1 (by rfl) e.n_range (pa_cons (pe_op op_mul pe_int (pe_callTy LS.call_int1 (by rfl) e.n_int (by decide +kernel) (pa_cons (pe_cmpR op_eq (pv 2) pe_int (nomark _)) pa_nil))) pa_nil)) (pg_name (i := 7) sc__law_order.nd rfl (by first | exact Or.inl rfl | exact Or.inr rfl))
      (pss_cons (ps_par (i := 8) (j := 9) (by rfl) sc__law_order.nd rfl rfl (by decide) rfl rfl (pa_cons (pe_call ((ok__law_draw e).mono (by decide)) hr rfl e.g__law_draw e.f__law_draw.kp e.b__law_draw .nil pass0 (pa_cons (pv 0) (pa_cons (pv 1) pa_nil))) (pa_cons (pe_call ((ok__law_draw e).mono (by decide)) hr rfl e.g__law_draw e.f__law_draw.kp e.b__law_draw .nil pass0 (pa_cons (pv 0) (pa_cons (pv 1) pa_nil))) pa_nil)) (by rfl))
      (pss_one (ps_asg (pe_tup (pa_cons (pe_ix ix_list (pv 3) (pv 9) (fun _ _ => rfl)) (pa_cons (pe_ix ix_list (pv 3) (pv 8) (fun _ _ => rfl)) pa_nil))) (pg_tup (by rfl) (pgs_cons (pg_sub (pv 3) (pv 8) set_list) (pgs_cons (pg_sub (pv 3) (pv 9) set_list) pgs_nil)))))))
      (pss_one (ps_ret (pv 3))))))))), ?_⟩
    repeat array_get_dec
    refine ⟨b, d, 6, rfl, R, by decide, by decide +kernel, by omega, fun H1 way w0 w1 R1 F1 => ?_⟩
    repeat array_get_dec
    refine LS.k_lr (by omega) fun p H2 np s2 hp => ?_
    rw [rg_map] at hp
    have np0 : H p = none := (by array_mem_dec)
    have npb : p ≠ b := (by array_mem_dec)
    have F2 : Fr H H2 b := (by array_mem_dec)
    repeat array_get_dec
    refine LS.if2 (fun hw => ?_) fun hw2 => ?_
    · repeat array_get_dec
      refine ⟨b, _, p, rangeI n, rfl, (by array_mem_dec), by omega, hp, by rw [rangeI_length]; omega, npb, fun H3 q ys R3 F3 nq pm hq => ?_⟩
      rw [rangeI_length] at R3
      exact k H3 q ys (R3.mono (by omega)) (by array_mem_dec) (by array_mem_dec) ⟨pm⟩ hq
    repeat array_get_dec
    refine LS.if_join (fun σ H' => ∃ (o : List Int) (v4 v5 v6 : Option V), Spring H' b (d + 1 + n) ∧ Fr H H' b ∧ Ord n o ∧ (way ≠ 2 → o = rangeI n) ∧ H' p = some (.lst (o.map V.int)) ∧ σ = [some (.ref b), some (.int n), some (.int way), some (.ref p), v4, v5, v6, none, none, none]) (fun hw D' eD kk => ?_) (fun hw D' eD kk => ?_) ?_
    · repeat array_get_dec
      refine ⟨b, _, p, rangeI n, rfl, (by array_mem_dec), by omega, hp, by rw [rangeI_length]; omega, npb, fun H3 q row R3 F3 nq pm hq => ?_⟩
      rw [rangeI_length] at R3
      have hr : Ord n row := ⟨pm⟩
      have hrl := hr.len
      have hp3 : H3 p = some (.lst ((rangeI n).map V.int)) := (by array_mem_dec)
      have nqp : q ≠ p := (by array_mem_dec)
      repeat array_get_dec
      refine LS.rsll (xs := row.map V.int) (by array_mem_dec) fun c1 H4 n4 s4 h4 => ?_
      rw [show (1 : Int) = ((1 : Nat) : Int) from rfl, LS.cut_from] at h4
      repeat array_get_dec
      refine LS.rsll (xs := row.map V.int) (by array_mem_dec) fun c2 H5 n5 s5 h5 => ?_
      rw [show (1 : Int) = ((1 : Nat) : Int) from rfl, LS.cut_to] at h5
      repeat array_get_dec
      refine LS.rcat (xs := (row.map V.int).drop 1) (zs := (row.map V.int).take 1) (by array_mem_dec) (by array_mem_dec) (LS.sz (by rw [List.length_drop, List.length_take, List.length_map]; omega)) fun ro H6 n6 s6 h6 => ?_
      rw [← List.map_drop, ← List.map_take, ← List.map_append] at h6
      have hrol : (row.drop 1 ++ row.take 1).length = n := by rw [List.length_append, List.length_drop, List.length_take]; omega
      generalize hro : row.drop 1 ++ row.take 1 = rot at h6 hrol
      have nrp : ro ≠ p := (by array_mem_dec)
      have nrb : ro ≠ b := (by array_mem_dec)
      have F6 : Fr H H6 b := (by array_mem_dec)
      have R6 : Spring H6 b (d + 1 + n) := (by array_mem_dec)
      repeat array_get_dec
      refine LS.for_ (walk_zip (n := n) (xs := row.map V.int) (ys := rot.map V.int) (by rw [List.length_map, List.length_map]; omega)) (fun i σ H' => ∃ (B : List Int) (v5 v6 : Option V), Spring H' b (d + 1 + n) ∧ Fr H H' b ∧ B.length = n ∧ (∀ j x, j < i → row[j]? = some x → B[x.toNat]? = rot[j]?) ∧ H' p = some (.lst (B.map V.int)) ∧ H' q = some (.lst (row.map V.int)) ∧ H' ro = some (.lst (rot.map V.int)) ∧ σ = [some (.ref b), some (.int n), some (.int way), some (.ref p), some (.ref q), v5, v6, none, none, none])
        ⟨rangeI n, _, _, R6, F6, rangeI_length n, (fun j x h => by omega), (by array_mem_dec), (by array_mem_dec), (by array_mem_dec), rfl⟩ (fun i σ H' _ ⟨_, _, _, _, _, _, _, _, h1, h2, _⟩ => ⟨SqL.of h1, SqL.of h2⟩) ?_ ?_
      · rintro i x σ H7 H8 hi ⟨B, v5, v6, R7, F7, Bl, hB, h7, hq7, hr7, rfl⟩ y
        obtain ⟨T, y1, y2, rfl, nT, s8, hT, hy1, hy2⟩ := LS.ypair y
        obtain ⟨x1, hx1, rfl⟩ := at_int hy1
        obtain ⟨x2, hx2, rfl⟩ := at_int hy2
        have rg := hr.rg (List.mem_of_getElem? hx1)
        repeat array_get_dec
        refine LS.rset (j := x1.toNat) (by array_mem_dec) (by rw [List.length_map]; exact ixN_int rg.1 (by omega)) fun H9 f9 h9 => ?_
        rw [int_set] at h9
        repeat array_get_dec
        refine ⟨_, _, _, (by array_mem_dec), (by array_mem_dec), by rw [List.length_set]; exact Bl, fun j z hj hz => ?_, h9, (by array_mem_dec), (by array_mem_dec), rfl⟩
        rw [List.getElem?_set]
        by_cases e : j = i
        · subst e
          rw [hx1] at hz; cases hz
          rw [if_pos rfl, if_pos (by omega), hx2]
        · have ne : ¬ x1.toNat = z.toNat := fun q => by
            have rz := hr.rg (List.mem_of_getElem? hz)
            have : x1 = z := by omega
            subst this
            obtain ⟨a1, a2⟩ := List.getElem?_eq_some_iff.mp hx1
            obtain ⟨b1, b2⟩ := List.getElem?_eq_some_iff.mp hz
            have nd : row.Nodup := hr.p.nodup_iff.mpr (rangeI_nodup n)
            exact e ((List.getElem_inj (h₀ := b1) (h₁ := a1) nd).mp (b2.trans a2.symm))
          rw [if_neg ne]
          exact hB j z (by omega) hz
      · rintro σ H7 ⟨B, v5, v6, R7, F7, Bl, hB, h7, hq7, hr7, rfl⟩
        refine kk _ _ ⟨B, _, _, _, R7, F7, ?_, fun h => absurd hw h, h7, rfl⟩
        refine hr.rot Bl fun j x hj => ?_
        rw [hro]
        exact hB j x (by have := (List.getElem?_eq_some_iff.mp hj).1; omega) hj
    · repeat array_get_dec
      exact kk _ _ ⟨rangeI n, _, _, _, (show Spring H2 b (d + 1) from (by array_mem_dec)).mono (by omega), F2, ⟨List.Perm.refl _⟩, fun _ => rfl, hp, rfl⟩
    · rintro σ' H3 ⟨o, v4, v5, v6, R3, F3, ho, hno, hp3, rfl⟩
      repeat array_get_dec
      refine LS.if_join (fun σ H' => ∃ (o : List Int) (v4 v5 v6 : Option V), Spring H' b (d + 1 + n) ∧ Fr H H' b ∧ Ord n o ∧ H' p = some (.lst (o.map V.int)) ∧ σ = [some (.ref b), some (.int n), some (.int way), some (.ref p), v4, v5, v6, none, none, none]) (fun hw D' eD kk => ?_) (fun hw D' eD kk => ?_) ?_
      · have ho2 := hno (by omega)
        subst ho2
        repeat array_get_dec
        refine LS.k_r3 (rgc2 hn1 hn) ?_
        refine LS.for_ (walk_rangeC (lo := 0) (c := 2) (n := n / 2)) (fun i σ H' => ∃ (o : List Int) (v4 v5 v6 : Option V), Spring H' b (d + 1 + n) ∧ Fr H H' b ∧ Ord n o ∧ (∀ j : Nat, 2 * i ≤ j → j < n → o[j]? = some (j : Int)) ∧ H' p = some (.lst (o.map V.int)) ∧ σ = [some (.ref b), some (.int n), some (.int way), some (.ref p), v4, v5, v6, none, none, none])
          ⟨rangeI n, _, _, _, R3, F3, ho, fun j _ hj => rangeI_get hj, hp3, rfl⟩ (fun _ _ _ _ _ => trivial) ?_ ?_
        · rintro i x σ H4 H5 hi ⟨o, v4, v5, v6, R4, F4, ho, hj, hp4, rfl⟩ ⟨rfl, rfl⟩
          have hol := ho.len
          have a1 := hj (2 * i) (Nat.le_refl _) (by omega)
          have a2 := hj (2 * i + 1) (by omega) (by omega)
          repeat array_get_dec
          refine LS.k_tup (by show 2 ≤ sizeLine; decide) fun tt H6 nt s6 ht => ?_
          have ntp : p ≠ tt := (by array_mem_dec)
          repeat array_get_dec
          refine LS.rset (j := 2 * i) (xs := o.map V.int) (by array_mem_dec) (by rw [List.length_map]; exact (congrArg _ (show (0 + (i : Int) * 2) = ((2 * i : Nat) : Int) by omega)).trans (ixN_at (by omega))) fun H7 f7 h7 => ?_
          rw [int_set] at h7
          repeat array_get_dec
          refine LS.rset (j := 2 * i + 1) (by array_mem_dec) (by rw [List.length_map, List.length_set]; exact (congrArg _ (show (0 + (i : Int) * 2 + 1) = ((2 * i + 1 : Nat) : Int) by omega)).trans (ixN_at (by omega))) fun H8 f8 h8 => ?_
          rw [int_set] at h8
          repeat array_get_dec
          refine ⟨_, _, _, _, (by array_mem_dec), (by array_mem_dec), ho.swap a1 a2, fun j h1 h2 => ?_, ?_, rfl⟩
          · rw [List.getElem?_set, if_neg (by omega), List.getElem?_set, if_neg (by omega)]
            exact hj j (by omega) h2
          · rw [h8, show (0 + (i : Int) * 2 + 1) = ((2 * i + 1 : Nat) : Int) by omega, show (0 + (i : Int) * 2) = ((2 * i : Nat) : Int) by omega]
        · rintro σ H4 ⟨o, v4, v5, v6, R4, F4, ho, hj, hp4, rfl⟩
          exact kk _ _ ⟨o, _, _, _, R4, F4, ho, hp4, rfl⟩
      · repeat array_get_dec
        exact kk _ _ ⟨o, _, _, _, R3, F3, ho, hp3, rfl⟩
      · clear hp3 ho hno F3 R3 H3 o v4 v5 v6 
        rintro σ' H3 ⟨o, v4, v5, v6, R3, F3, ho, hp3, rfl⟩
        repeat array_get_dec
        refine LS.if_join (fun σ H' => ∃ (p : Addr) (o : List Int) (v4 v5 v6 : Option V), Spring H' b (d + 1 + n) ∧ Fr H H' b ∧ Ord n o ∧ H p = none ∧ p ≠ b ∧ H' p = some (.lst (o.map V.int)) ∧ σ = [some (.ref b), some (.int n), some (.int way), some (.ref p), v4, v5, v6, none, none, none]) (fun hw D' eD kk => ?_) (fun hw D' eD kk => ?_) ?_
        · repeat array_get_dec
          refine LS.k_rv (xs := o.map V.int) (by array_mem_dec) fun r H4 nr s4 h4 => ?_
          rw [← List.map_reverse] at h4
          repeat array_get_dec
          exact kk _ _ ⟨r, o.reverse, _, _, _, (by array_mem_dec), (by array_mem_dec), ⟨(List.reverse_perm o).trans ho.p⟩, (by array_mem_dec), (by array_mem_dec), h4, rfl⟩
        · repeat array_get_dec
          exact kk _ _ ⟨p, o, _, _, _, R3, F3, ho, np0, npb, hp3, rfl⟩
        · clear hp3 ho F3 R3 H3 o v4 v5 v6 
          rintro σ' H3 ⟨p, o, v4, v5, v6, R3, F3, ho, np, npb, hp3, rfl⟩
          have tw : ∀ (D : Bool), (3 * if D = true then (1 : Int) else 0).toNat ≤ 3 := fun D => by cases D <;> decide
          repeat array_get_dec
          generalize hm : (3 * if decide (way = 5) = true then (1 : Int) else 0).toNat = m
          have hm3 : m ≤ 3 := by rw [← hm]; exact tw _
          refine LS.for_ (walk_range (lo := 0) (n := m)) (fun i σ H' => ∃ (o : List Int) (v4 v5 v6 v7 v8 v9 : Option V), Spring H' b (d + 1 + n + 2 * i) ∧ Fr H H' b ∧ Ord n o ∧ H' p = some (.lst (o.map V.int)) ∧ σ = [some (.ref b), some (.int n), some (.int way), some (.ref p), v4, v5, v6, v7, v8, v9])
            ⟨o, _, _, _, _, _, _, R3, F3, ho, hp3, rfl⟩ (fun _ _ _ _ _ => trivial) ?_ ?_
          · rintro i x σ H4 H5 hi ⟨o, v4, v5, v6, v7, v8, v9, R4, F4, ho, hp4, rfl⟩ ⟨rfl, rfl⟩
            have hol := ho.len
            repeat array_get_dec
            refine ⟨b, _, n, rfl, R4, by omega, log_small (by omega), by omega, fun H6 one a0 a1 R6 F6 => ?_⟩
            repeat array_get_dec
            refine ⟨b, _, n, rfl, R6, by omega, log_small (by omega), by omega, fun H7 oth b0 b1 R7 F7 => ?_⟩
            obtain ⟨y, hy⟩ : ∃ y, o[oth.toNat]? = some y := ⟨_, List.getElem?_eq_getElem (by omega)⟩
            obtain ⟨x, hx⟩ : ∃ x, o[one.toNat]? = some x := ⟨_, List.getElem?_eq_getElem (by omega)⟩
            repeat array_get_dec
            refine LS.rixl_n (j := oth.toNat) (v := .int y) (xs := o.map V.int) (by array_mem_dec) (int_at hy) (by omega) ?_
            repeat array_get_dec
            refine LS.rixl_n (j := one.toNat) (v := .int x) (xs := o.map V.int) (by array_mem_dec) (int_at hx) (by omega) ?_
            repeat array_get_dec
            refine LS.k_tup (by show 2 ≤ sizeLine; decide) fun tt H8 nt s8 ht => ?_
            have ntp : p ≠ tt := (by array_mem_dec)
            repeat array_get_dec
            refine LS.rset (j := one.toNat) (xs := o.map V.int) (by array_mem_dec) (by rw [List.length_map]; exact ixN_int a0 (by omega)) fun H9 f9 h9 => ?_
            rw [int_set] at h9
            repeat array_get_dec
            refine LS.rset (j := oth.toNat) (by array_mem_dec) (by rw [List.length_map, List.length_set]; exact ixN_int b0 (by omega)) fun HA fa ha => ?_
            rw [int_set] at ha
            repeat array_get_dec
            refine ⟨_, _, _, _, _, _, _, (show Spring HA b (d + 1 + n + 2 * i + 1 + 1) from (by array_mem_dec)).mono (by omega), (by array_mem_dec), ho.swap hx hy, ha, rfl⟩
          · rintro σ H4 ⟨o, v4, v5, v6, v7, v8, v9, R4, F4, ho, hp4, rfl⟩
            repeat array_get_dec
            exact k H4 p o (R4.mono (by omega)) F4 np ho hp4
end
end LP

namespace LP
open PySem L2 LT LG LQ LH LC LX LR
local macro_rules | `(tactic| array_mem_dec) => `(tactic| first
  | assumption
  | ((with_reducible apply LS.hp_s); assumption; array_mem_dec)
  | ((with_reducible apply LS.hp_f); assumption; array_mem_dec; array_mem_dec)
  | ((with_reducible apply LS.hp_t); assumption; array_mem_dec; array_mem_dec)
  | ((with_reducible apply LS.hp_l); assumption; array_mem_dec; array_mem_dec)
  | ((with_reducible apply LS.sq_o); array_mem_dec)
  | ((with_reducible apply LS.sq_s); assumption; array_mem_dec)
  | ((with_reducible apply LS.sq_f); assumption; array_mem_dec; array_mem_dec)
  | ((with_reducible apply LS.sq_t); assumption; array_mem_dec; array_mem_dec)
  | ((with_reducible apply LS.sq_l); assumption; array_mem_dec; array_mem_dec)
  | ((with_reducible apply LS.tu_o); array_mem_dec)
  | ((with_reducible apply LS.tu_s); assumption; array_mem_dec)
  | ((with_reducible apply LS.tu_f); assumption; array_mem_dec; array_mem_dec)
  | ((with_reducible apply LS.tu_t); assumption; array_mem_dec; array_mem_dec)
  | ((with_reducible apply LS.tu_l); assumption; array_mem_dec; array_mem_dec)
  | ((with_reducible apply LS.se_l); array_mem_dec)
  | ((with_reducible apply LS.se_t); array_mem_dec)
  | ((with_reducible apply LS.se_s); assumption; array_mem_dec)
  | ((with_reducible apply LS.se_f); assumption; array_mem_dec; array_mem_dec)
  | ((with_reducible apply LS.se_tt); assumption; array_mem_dec; array_mem_dec)
  | ((with_reducible exact Same.refl _))
  | ((with_reducible apply LS.sm_s); assumption; array_mem_dec)
  | ((with_reducible apply LS.sm_f); assumption; array_mem_dec; array_mem_dec)
  | ((with_reducible exact Fr.refl _ _))
  | ((with_reducible apply LS.fr_b); assumption; array_mem_dec)
  | ((with_reducible apply LS.fr_s); assumption; array_mem_dec)
  | ((with_reducible apply LS.fr_n); assumption; array_mem_dec; array_mem_dec)
  | ((with_reducible apply LS.fr_t); assumption; array_mem_dec)
  | ((with_reducible apply LS.no_s); assumption; array_mem_dec)
  | ((with_reducible apply LS.no_f); assumption; array_mem_dec; array_mem_dec)
  | ((with_reducible apply LS.no_t); assumption; array_mem_dec)
  | ((with_reducible apply LS.no_l); assumption; assumption)
  | ((with_reducible apply Ne.symm); assumption)
  | ((with_reducible apply LS.ne_a); assumption; array_mem_dec)
  | ((with_reducible apply LS.ne_b); assumption; array_mem_dec)
  | ((with_reducible apply LS.ne_ap); assumption)
  | ((with_reducible apply LS.ne_il); assumption; array_mem_dec)
  | ((with_reducible apply LS.ne_li); assumption; array_mem_dec)
  | ((with_reducible apply LS.ne_lt); assumption; assumption)
  | ((with_reducible apply LS.ne_tl); assumption; assumption)
  | ((with_reducible apply LS.ne_rl); assumption; array_mem_dec)
  | ((with_reducible apply LS.rl_t); assumption)
  | ((with_reducible apply LS.rl_s); assumption; array_mem_dec)
  | ((with_reducible apply LS.rl_f); assumption; array_mem_dec; array_mem_dec)
  | ((with_reducible apply LS.rl_l); assumption; array_mem_dec; array_mem_dec)
  | ((with_reducible apply LS.ap_new); assumption; assumption; array_mem_dec)
  | ((with_reducible apply LS.ap_t); assumption; array_mem_dec; array_mem_dec)
  | ((with_reducible apply LS.ap_s); assumption; array_mem_dec; array_mem_dec)
  | ((with_reducible apply LS.ap_f); assumption; array_mem_dec; array_mem_dec; array_mem_dec)
  | ((with_reducible apply LS.ap_l); assumption; array_mem_dec; array_mem_dec; array_mem_dec)
  | (with_reducible apply LS.ni_nil)
  | ((with_reducible apply LS.ni_cons); array_mem_dec; array_mem_dec)
  | (with_reducible apply LS.trk_nil)
  | ((with_reducible apply LS.trk_cons); array_mem_dec; array_mem_dec)
  | (with_reducible apply LS.al_nil)
  | ((with_reducible apply LS.al_cons); array_mem_dec; array_mem_dec)
  | (with_reducible apply LS.mem_hd)
  | ((with_reducible apply LS.mem_tl); array_mem_dec)
  | ((with_reducible apply LS.fl_refl); array_mem_dec)
  | ((with_reducible apply LS.fl_l); assumption; array_mem_dec)
  | ((with_reducible apply LS.fl_lm); assumption; array_mem_dec; array_mem_dec)
  | (with_reducible apply LS.sub_nil)
  | ((with_reducible apply LS.sub_cons); array_mem_dec; array_mem_dec)
  | ((with_reducible apply LS.fl_s); assumption; array_mem_dec)
  | ((with_reducible apply LS.fl_m); assumption; array_mem_dec; array_mem_dec; array_mem_dec)
  | ((with_reducible apply LS.fl_n); assumption; array_mem_dec; array_mem_dec; array_mem_dec)
  | ((with_reducible apply LS.rt_refl); array_mem_dec)
  | ((with_reducible apply LS.rt_t); assumption; array_mem_dec)
  | ((with_reducible apply LS.rt_s); assumption; array_mem_dec)
  | ((with_reducible apply LS.rt_f); assumption; array_mem_dec; array_mem_dec; array_mem_dec)
  | ((with_reducible apply LS.sz); (first | decide | (simp only [List.length_append, List.length_map, List.length_cons, List.length_nil, List.length_replicate]; omega)))
  | ((with_reducible apply LS.szl); (first | decide | (simp only [List.length_append, List.length_map, List.length_cons, List.length_nil, List.length_replicate]; omega))))
local macro_rules | `(tactic| array_get_dec) => `(tactic| first
  | ((with_reducible apply LS.var); exact rfl)
  | (with_reducible apply LS.con)
  | (with_reducible apply LS.op)
  | (with_reducible apply LS.ri0)
  | (with_reducible apply LS.tseq)
  | (with_reducible apply LS.tasg)
  | (with_reducible apply LS.gname)
  | (with_reducible apply LS.tcons)
  | (with_reducible apply LS.tnil)
  | (with_reducible apply LS.tcb)
  | (with_reducible apply LS.tcall)
  | (with_reducible apply LS.ttest)
  | (with_reducible apply LS.k_b)
  | (with_reducible apply LS.tb)
  | (with_reducible apply LS.tifs)
  | (with_reducible apply LS.ift)
  | (with_reducible apply LS.iff_)
  | (with_reducible apply LS.ifnt)
  | (with_reducible apply LS.ifnf)
  | (with_reducible apply LS.tnext)
  | (with_reducible apply LS.tdrop)
  | (with_reducible apply LS.tret)
  | (with_reducible apply LS.tretn)
  | (with_reducible apply LS.un)
  | (with_reducible apply LS.ru)
  | (with_reducible apply LS.tyes)
  | (with_reducible apply LS.tand)
  | (with_reducible apply LS.tor)
  | (with_reducible apply LS.tnot)
  | (with_reducible apply LS.tif)
  | (with_reducible apply LS.tandv)
  | (with_reducible apply LS.k_av)
  | (with_reducible apply LS.torv)
  | (with_reducible apply LS.k_ov)
  | (with_reducible apply LS.tnotv)
  | (with_reducible apply LS.k_nv)
  | (with_reducible apply LS.tchain)
  | (with_reducible apply LS.k_ch)
  | (with_reducible apply LS.req_i)
  | (with_reducible apply LS.rne_i)
  | (with_reducible apply LS.req_s)
  | (with_reducible apply LS.rne_s)
  | (with_reducible apply LS.req_b)
  | (with_reducible apply LS.rne_b)
  | ((with_reducible apply LS.rin_i); array_mem_dec)
  | ((with_reducible apply LS.rni_i); array_mem_dec)
  | ((with_reducible apply LS.rlen_li); array_mem_dec)
  | ((with_reducible apply LS.rlen_ls); array_mem_dec)
  | ((with_reducible apply LS.rlen_l); array_mem_dec)
  | ((with_reducible apply LS.rlen_Ei); array_mem_dec)
  | ((with_reducible apply LS.rlen_E); array_mem_dec)
  | ((with_reducible apply LS.rlen_t); array_mem_dec)
  | ((with_reducible apply LS.rixl); array_mem_dec; exact rfl)
  | ((with_reducible apply LS.rixt); array_mem_dec; exact rfl)
  | (with_reducible apply LS.isi_int_int)
  | (with_reducible apply LS.isi_int_bool)
  | (with_reducible apply LS.isi_int_str)
  | (with_reducible apply LS.isi_str_int)
  | (with_reducible apply LS.isi_str_bool)
  | (with_reducible apply LS.isi_str_str)
  | (with_reducible apply LS.isi_bool_int)
  | (with_reducible apply LS.isi_bool_bool)
  | (with_reducible apply LS.isi_bool_str)
  | (with_reducible apply LS.isi_non_int)
  | (with_reducible apply LS.isi_non_bool)
  | (with_reducible apply LS.isi_non_str)
  | ((with_reducible apply LS.isi_list_int); array_mem_dec)
  | ((with_reducible apply LS.isi_list_bool); array_mem_dec)
  | ((with_reducible apply LS.isi_list_str); array_mem_dec)
  | ((with_reducible apply LS.isi_list_list); array_mem_dec)
  | ((with_reducible apply LS.isi_list_tuple); array_mem_dec)
  | ((with_reducible apply LS.isi_tuple_int); array_mem_dec)
  | ((with_reducible apply LS.isi_tuple_bool); array_mem_dec)
  | ((with_reducible apply LS.isi_tuple_str); array_mem_dec)
  | ((with_reducible apply LS.isi_tuple_list); array_mem_dec)
  | ((with_reducible apply LS.isi_tuple_tuple); array_mem_dec)
  | ((with_reducible apply LS.isiT_i); array_mem_dec)
  | ((with_reducible apply LS.isiT_s); array_mem_dec)
  | ((with_reducible apply LS.isiT_E); array_mem_dec; array_mem_dec)
  | (with_reducible apply LS.tfld)
  | ((with_reducible apply LS.k_fl); array_mem_dec; assumption; assumption; exact rfl)
  | (with_reducible apply LS.tmeth)
  | ((with_reducible apply LS.k_me); array_mem_dec; exact rfl)
  | (with_reducible apply LS.tmake)
  | (with_reducible apply LS.tsfld)
  | (with_reducible apply LS.tprop)
  | ((with_reducible apply LS.k_pr); array_mem_dec)
  | ((with_reducible apply LS.rlen_own); array_mem_dec)
  | (with_reducible apply LS.rabs)
  | (with_reducible apply LS.rmin2)
  | (with_reducible apply LS.rmax2)
  | (with_reducible apply LS.tsl)
  | (with_reducible apply LS.tthen)
  | (with_reducible apply LS.tstep)
  | (with_reducible apply LS.tnop)
  | (with_reducible apply LS.tpart)
  | (with_reducible apply LS.k_part)
  | (with_reducible apply LS.ttup)
  | (with_reducible apply LS.tlst)
  | (with_reducible apply LS.tbm)
  | (with_reducible apply LS.tbm0)
  | ((with_reducible apply LS.ty_l); array_mem_dec)
  | (with_reducible apply LS.tpar)
  | (with_reducible apply LS.tfor)
  | (with_reducible apply LS.tlc)
  | (with_reducible apply LS.ilist)
  | ((with_reducible apply LS.k_il); array_mem_dec)
  | (with_reducible apply LS.itup)
  | ((with_reducible apply LS.k_it); array_mem_dec)
  | (with_reducible apply LS.istr)
  | (with_reducible apply LS.k_is)
  | (with_reducible apply LS.irng1)
  | ((with_reducible apply LS.k_r1n); omega)
  | ((with_reducible apply LS.k_r1); (first | omega | decide); (first | omega | decide))
  | (with_reducible apply LS.irng2)
  | ((with_reducible apply LS.k_r2); (first | omega | decide); (first | omega | decide); (first | omega | decide); (first | omega | decide))
  | (with_reducible apply LS.ienum)
  | ((with_reducible apply LS.k_en); array_mem_dec)
  | (with_reducible apply LS.izip)
  | ((with_reducible apply LS.k_zip); array_mem_dec; array_mem_dec)
  | (with_reducible apply LS.tlstrg)
  | (with_reducible apply LS.trg1)
  | (with_reducible apply LS.k_g1)
  | (with_reducible apply LS.risn_i)
  | (with_reducible apply LS.risn_s)
  | (with_reducible apply LS.risn_n)
  | (with_reducible apply LS.rnotn_i)
  | (with_reducible apply LS.rnotn_n)
  | (with_reducible apply LS.rint_b)
  | (with_reducible apply LS.rint_i)
  | (with_reducible apply LS.tm0)
  | (with_reducible apply LS.tm1)
  | (with_reducible apply LS.is_str)
  | (with_reducible apply LS.ex_s0)
  | (with_reducible apply LS.ex_int_b)
  | (with_reducible apply LS.k_par)
  | (with_reducible apply LS.tpar3)
  | (with_reducible apply LS.k_par3)
  | ((with_reducible apply LS.taug); exact rfl)
  | (with_reducible apply LS.ipi)
  | ((with_reducible apply LS.gtup); array_mem_dec; exact rfl)
  | ((with_reducible apply LS.gunl); array_mem_dec; exact rfl)
  | (with_reducible apply LS.gnil)
  | (with_reducible apply LS.gcons)
  | (with_reducible apply LS.gsub)
  | ((with_reducible apply LS.ri); first | omega | decide | assumption | exact ⟨by decide, by decide, by decide⟩ | exact .inl ⟨by decide, by decide⟩ | exact .inr ⟨by decide, by decide⟩ | exact .inl ⟨by omega, by omega⟩ | exact .inr ⟨by omega, by omega⟩)
  | (with_reducible apply LS.ex_ss)
  | (with_reducible apply LS.ex_s1)
  | (with_reducible apply LS.ex_i1)
  | (with_reducible apply LS.and_rfl)
  | (with_reducible apply LS.and_tr)
  | (with_reducible apply LS.is_non))
local macro_rules | `(tactic| array_mem_dec) => `(tactic| first
  | ((with_reducible apply LP.lv_s); assumption; array_mem_dec)
  | ((with_reducible apply LP.lv_l); assumption; array_mem_dec; array_mem_dec; array_mem_dec)
  | ((with_reducible apply LP.lv_f); assumption; array_mem_dec; array_mem_dec; array_mem_dec)
  | ((with_reducible apply LP.lv_t); assumption; array_mem_dec; array_mem_dec; array_mem_dec)
  | ((with_reducible apply LP.ops_s); assumption; array_mem_dec)
  | ((with_reducible apply LP.md_s); assumption; array_mem_dec)
  | ((with_reducible apply LP.md_l); assumption; array_mem_dec; array_mem_dec; array_mem_dec)
  | ((with_reducible apply LP.md_f); assumption; array_mem_dec; array_mem_dec; array_mem_dec)
  | ((with_reducible apply LP.md_t); assumption; array_mem_dec; array_mem_dec; array_mem_dec)
  | ((with_reducible apply LP.al_s); assumption; array_mem_dec; array_mem_dec)
  | ((with_reducible apply LP.al_t); assumption; array_mem_dec; array_mem_dec)
  | ((with_reducible apply LP.al_l); assumption; array_mem_dec; array_mem_dec; array_mem_dec)
  | ((with_reducible apply LP.al_f); assumption; array_mem_dec; array_mem_dec; array_mem_dec)
  | ((with_reducible apply LP.Lv.lists); array_mem_dec)
  | ((with_reducible apply LP.Lv.trk); array_mem_dec)
  | ((with_reducible apply LP.Mdl.trk); array_mem_dec)
  | ((with_reducible apply LP.al_no); assumption; array_mem_dec))
local macro_rules | `(tactic| array_mem_dec) => `(tactic| first
  | ((with_reducible apply LP.sg_s); assumption; array_mem_dec)
  | ((with_reducible apply LP.sg_f); assumption; array_mem_dec; array_mem_dec)
  | ((with_reducible apply LP.sg_l); assumption; array_mem_dec; array_mem_dec)
  | ((with_reducible apply LP.sg_ne); assumption; array_mem_dec)
  | ((with_reducible apply LP.sg_ne'); assumption; array_mem_dec)
  | ((with_reducible apply LS.se_q); array_mem_dec)
  | ((with_reducible apply LS.se_u); array_mem_dec)
  | ((with_reducible apply LP.sg_no); assumption; array_mem_dec; array_mem_dec))
local macro_rules | `(tactic| array_get_dec) => `(tactic| first
  | ((with_reducible apply LS.rne_same); exact rfl)
  | ((with_reducible apply LS.req_same); exact rfl)
  | (with_reducible apply LS.trevl)
  | (with_reducible apply LS.irng3)
  | (with_reducible apply LS.risn_b)
  | ((with_reducible apply LS.isiT_n); array_mem_dec)
  | ((with_reducible apply LS.isiT_b); array_mem_dec))
local macro_rules | `(tactic| array_get_dec) => `(tactic| first
  | (with_reducible apply LS.trg2)
  | (with_reducible apply LS.k_g2))

section
variable {P : Program} {w : World} {K : PySem.W.Frag} {mg : Str → Option Value} {base : Heap}

local macro_rules | `(tactic| array_mem_dec) => `(tactic| first
  | ((with_reducible apply LP.lso_s); assumption; array_mem_dec)
  | ((with_reducible apply LP.lso_f); assumption; array_mem_dec; assumption))
theorem ixN_bef {n i : Nat} (h : i < n) : ixN n ((i : Int) - 1) = some (bef n i) := by
  unfold ixN
  rw [bef_val h]
  by_cases q : i = 0
  · subst q
    rw [if_neg (by omega), if_pos (by omega), if_pos rfl]
    congr 1
    omega
  · rw [if_pos (by omega), if_pos (by omega), if_neg q]
    congr 1
    omega
theorem atI_bef {l : List Int} {n i : Nat} (hn : l.length = n) (h : i < n) : atI (l.map V.int) ((i : Int) - 1) = some (.int ((l[bef n i]?).getD 0)) := by
  have hb : bef n i < n := Nat.mod_lt _ (by omega)
  unfold atI
  rw [List.length_map, hn, ixN_bef h]
  show (l.map V.int)[bef n i]? = _
  rw [List.getElem?_map, List.getElem?_eq_getElem (by omega)]
  rfl
theorem get_D {l : List Int} {i : Nat} (h : i < l.length) : l[i]? = some ((l[i]?).getD 0) := by rw [List.getElem?_eq_getElem h]; rfl
theorem atI_at {c : List Int} {i : Nat} (h : i < c.length) : atI (c.map V.int) ((i : Int) - 1) = some (.int (at_ c (i + (c.length - 1)))) := atI_bef rfl h
def sp__law_ways : Sp := fun vs H Q _ => ∃ (a : Addr) (c : List Int), vs = [.ref a] ∧ H a = some (.lst (c.map V.int)) ∧ 1 ≤ c.length ∧ c.length ≤ 200 ∧ ∀ H', Same H H' → Q (.int (tot c)) H'
theorem ok__law_ways (e : Env K mg) : FnOk P w K mg base CX0 1 e.a__law_ways e.d__law_ways ["cycle"] (sp__law_ways) := by
  refine Fun.ok e.f__law_ways sc__law_ways (fun vs H Q E h => ?_) (fun cdv A outer s H vs Q E hr h => ?_)
  · obtain ⟨a, c, rfl, _⟩ := h; rfl
  · obtain ⟨a, c, rfl, ha, h1, h2, k⟩ := h
    refine ⟨_, (pss_cons (ps_set (i := 1) sc__law_ways.nd rfl (by first | exact Or.inl rfl | exact Or.inr rfl) (pe_callB LS.call_len (by rfl) e.n_len PySem.boot_len (pa_cons (pv 0) pa_nil)))
      (pss_cons (ps_set (i := 2) sc__law_ways.nd rfl (by first | exact Or.inl rfl | exact Or.inr rfl) (pe_op op_rep (pe_lst (pa_cons pe_int pa_nil)) (pv 1)))
      (pss_cons (ps_for PassesOwn.never rfl (pi_range1 (by rfl) e.n_range (pa_cons (pe_op op_sub (pv 1) pe_int) pa_nil)) (pg_name (i := 3) sc__law_ways.nd rfl (by first | exact Or.inl rfl | exact Or.inr rfl))
      (pss_cons (ps_set (i := 4) sc__law_ways.nd rfl (by first | exact Or.inl rfl | exact Or.inr rfl) (pe_op op_rep (pe_lst (pa_cons pe_int pa_nil)) (pv 1)))
      (pss_cons (ps_for PassesOwn.never rfl (pi_range1 (by rfl) e.n_range (pa_cons (pv 1) pa_nil)) (pg_name (i := 5) sc__law_ways.nd rfl (by first | exact Or.inl rfl | exact Or.inr rfl))
      (pss_cons (ps_set (i := 6) sc__law_ways.nd rfl (by first | exact Or.inl rfl | exact Or.inr rfl) (pe_ix ix_list (pv 0) (pe_op op_mod (pe_op op_add (pv 5) (pv 3)) (pv 1)) (fun _ _ => rfl)))
      (pss_cons (ps_set (i := 7) sc__law_ways.nd rfl (by first | exact Or.inl rfl | exact Or.inr rfl) (pe_ix ix_list (pv 0) (pe_op op_mod (pe_op op_add (pe_op op_add (pv 5) (pv 3)) pe_int) (pv 1)) (fun _ _ => rfl)))
      (pss_cons (ps_if (pt_cmpR op_gt (pv 7) (pv 6) (nomark _))
        (pss_one (ps_asg (pe_op op_add (pe_ix ix_list (pv 4) (pv 5) (fun _ _ => rfl)) (pe_ix ix_list (pv 2) (pv 5) (fun _ _ => rfl))) (pg_sub (pv 4) (pv 5) set_list)))
        pss_nil)
      (pss_one (ps_if (pt_cmpR op_lt (pe_ix ix_list (pv 0) (pe_op op_sub (pv 5) pe_int) (fun _ _ => rfl)) (pv 6) (nomark _))
        (pss_one (ps_asg (pe_op op_add (pe_ix ix_list (pv 4) (pe_op op_sub (pv 5) pe_int) (fun _ _ => rfl)) (pe_ix ix_list (pv 2) (pv 5) (fun _ _ => rfl))) (pg_sub (pv 4) (pe_op op_sub (pv 5) pe_int) set_list)))
        pss_nil))))))
      (pss_one (ps_set (i := 2) sc__law_ways.nd rfl (by first | exact Or.inl rfl | exact Or.inr rfl) (pv 4))))))
      (pss_one (ps_ret (pe_callB (cr_sum rfl) (by rfl) e.n_sum (by decide +kernel) (pa_cons (pv 2) pa_nil))))))), ?_⟩
    have c0 : 0 < c.length := by omega
    repeat array_get_dec
    refine LS.k_lst (by array_mem_dec) fun l0 H_l0 n_l0 s_l0 h_l0 => ?_
    repeat array_get_dec
    refine LS.rrep1 (by array_mem_dec) (by omega) fun r0 H2 n2 s2 h2' => ?_
    rw [show List.replicate c.length (V.int 1) = (List.replicate c.length (1 : Int)).map V.int by rw [List.map_replicate]] at h2'
    have s02 : Same H H2 := (by array_mem_dec)
    have nr0 : H r0 = none := (by array_mem_dec)
    repeat array_get_dec
    refine LS.for_ walk_range (fun s σ H' => ∃ (r : Addr) (l : List Int) (v3 v4 v5 v6 v7 : Option V), Same H H' ∧ H r = none ∧ H' r = some (.lst (l.map V.int)) ∧ Fw c s l ∧ σ = [some (.ref a), some (.int (c.length : Nat)), some (.ref r), v3, v4, v5, v6, v7])
      ⟨r0, _, _, _, _, _, _, s02, nr0, h2', Fw.init c, rfl⟩ (fun _ _ _ _ _ => trivial) ?_ ?_
    · rintro s x σ H3 H4 hs ⟨r, l, v3, v4, v5, v6, v7, s3, nr, hr, fw, rfl⟩ ⟨rfl, rfl⟩
      have hs2 : s + 1 < c.length := by omega
      repeat array_get_dec
      refine LS.k_lst (by array_mem_dec) fun l1 H_l1 n_l1 s_l1 h_l1 => ?_
      repeat array_get_dec
      refine LS.rrep1 (by array_mem_dec) (by omega) fun q H5 n5 s5 h5 => ?_
      rw [show List.replicate c.length (V.int 0) = (List.replicate c.length (0 : Int)).map V.int by rw [List.map_replicate]] at h5
      have hr5 : H5 r = some (.lst (l.map V.int)) := (by array_mem_dec)
      have s05 : Same H H5 := (by array_mem_dec)
      have nq : H q = none := (by array_mem_dec)
      have nrq : r ≠ q := ne_of_none (by array_mem_dec) n5
      repeat array_get_dec
      refine LS.for_ walk_range (fun i σ H' => ∃ (m : List Int) (v5 v6 v7 : Option V), Same H H' ∧ H' r = some (.lst (l.map V.int)) ∧ H' q = some (.lst (m.map V.int)) ∧ Fs c s l i m ∧ σ = [some (.ref a), some (.int (c.length : Nat)), some (.ref r), some (.int (0 + (s : Int))), some (.ref q), v5, v6, v7])
        ⟨_, _, _, _, s05, hr5, h5, Fs.init c s l, rfl⟩ (fun _ _ _ _ _ => trivial) ?_ ?_
      · rintro i x σ H6 H7 hi ⟨m, v5, v6, v7, s6, hr6, hq6, fs, rfl⟩ ⟨rfl, rfl⟩
        have ha6 := s6 _ _ ha
        have e1 : (0 + (i : Int) + (0 + (s : Int))) % ((c.length : Nat) : Int) = (((i + s) % c.length : Nat) : Int) := by rw [show 0 + (i : Int) + (0 + (s : Int)) = ((i + s : Nat) : Int) by omega]; exact (Int.natCast_emod _ _).symm
        have e2 : (0 + (i : Int) + (0 + (s : Int)) + 1) % ((c.length : Nat) : Int) = (((i + s + 1) % c.length : Nat) : Int) := by rw [show 0 + (i : Int) + (0 + (s : Int)) + 1 = ((i + s + 1 : Nat) : Int) by omega]; exact (Int.natCast_emod _ _).symm
        have g1 := at_get (c := c) (g := i + s) c0
        have g2 := at_get (c := c) (g := i + s + 1) c0
        have hil : i < l.length := by rw [fw.len]; exact hi
        have him : i < m.length := by rw [fs.len]; exact hi
        have hx := get_D hil
        have hm := get_D him
        repeat array_get_dec
        rw [e1]
        refine LS.rixl_n (SqL.of ha6) (int_at g1) rfl ?_
        repeat array_get_dec
        rw [e2]
        refine LS.rixl_n (SqL.of ha6) (int_at g2) rfl ?_
        repeat array_get_dec
        refine LS.if2 (fun p1 => ?_) fun p1 => ?_
        · repeat array_get_dec
          refine LS.rixl_n (SqL.of hq6) (int_at hm) (by omega) ?_
          repeat array_get_dec
          refine LS.rixl_n (SqL.of hr6) (int_at hx) (by omega) ?_
          repeat array_get_dec
          refine LS.rset (j := i) hq6 (by rw [List.length_map, Int.zero_add]; exact ixN_int (by omega) (by omega)) fun H8 f8 h8 => ?_
          rw [int_set] at h8
          have s8 : Same H H8 := LS.Same.fr_new s6 f8 nq
          have hr8 := f8 _ _ hr6 nrq
          have ha8 := s8 _ _ ha
          have l8 : (m.set i ((m[i]?).getD 0 + (l[i]?).getD 0)).length = c.length := by rw [List.length_set, fs.len]
          repeat array_get_dec
          refine LS.rixl (v := .int (at_ c (i + (c.length - 1)))) (SqL.of ha8) (by rw [Int.zero_add]; exact atI_at hi) ?_
          repeat array_get_dec
          refine LS.if2 (fun p2 => ?_) fun p2 => ?_
          · repeat array_get_dec
            refine LS.rixl (SqL.of h8) (by rw [Int.zero_add]; exact atI_bef l8 hi) ?_
            repeat array_get_dec
            refine LS.rixl_n (SqL.of hr8) (int_at hx) (by omega) ?_
            repeat array_get_dec
            refine LS.rset (j := bef c.length i) h8 (by rw [List.length_map, l8, Int.zero_add]; exact ixN_bef hi) fun H9 f9 h9 => ?_
            rw [int_set] at h9
            repeat array_get_dec
            exact ⟨_, _, _, _, LS.Same.fr_new s8 f9 nq, f9 _ _ hr8 nrq, h9, Fs.step fs fw hx hs2 (m.set i ((m[i]?).getD 0 + (l[i]?).getD 0)) _ (by rw [if_pos p1]) (by rw [if_pos p2]), rfl⟩
          · repeat array_get_dec
            exact ⟨_, _, _, _, s8, hr8, h8, Fs.step fs fw hx hs2 (m.set i ((m[i]?).getD 0 + (l[i]?).getD 0)) _ (by rw [if_pos p1]) (by rw [if_neg p2]), rfl⟩
        · repeat array_get_dec
          refine LS.rixl (v := .int (at_ c (i + (c.length - 1)))) (SqL.of ha6) (by rw [Int.zero_add]; exact atI_at hi) ?_
          repeat array_get_dec
          refine LS.if2 (fun p2 => ?_) fun p2 => ?_
          · repeat array_get_dec
            refine LS.rixl (SqL.of hq6) (by rw [Int.zero_add]; exact atI_bef fs.len hi) ?_
            repeat array_get_dec
            refine LS.rixl_n (SqL.of hr6) (int_at hx) (by omega) ?_
            repeat array_get_dec
            refine LS.rset (j := bef c.length i) hq6 (by rw [List.length_map, fs.len, Int.zero_add]; exact ixN_bef hi) fun H9 f9 h9 => ?_
            rw [int_set] at h9
            repeat array_get_dec
            exact ⟨_, _, _, _, LS.Same.fr_new s6 f9 nq, f9 _ _ hr6 nrq, h9, Fs.step fs fw hx hs2 m _ (by rw [if_neg p1]) (by rw [if_pos p2]), rfl⟩
          · repeat array_get_dec
            exact ⟨_, _, _, _, s6, hr6, hq6, Fs.step fs fw hx hs2 m _ (by rw [if_neg p1]) (by rw [if_neg p2]), rfl⟩
      · rintro σ H6 ⟨m, v5, v6, v7, s6, hr6, hq6, fs, rfl⟩
        repeat array_get_dec
        exact ⟨q, m, _, _, _, _, _, s6, nq, hq6, fs.last fw, rfl⟩
    · rintro σ H3 ⟨r, l, v3, v4, v5, v6, v7, s3, nr, hr, fw, rfl⟩
      repeat array_get_dec
      refine ⟨r, l, rfl, SqL.of hr, ?_⟩
      rw [show ((c.length : Int) - 1).toNat = c.length - 1 by omega] at fw
      rw [fw.last]
      repeat array_get_dec
      exact k H3 s3
end
end LP

namespace LP
open PySem L2 LT LG LQ LH LC LX LR
local macro_rules | `(tactic| array_mem_dec) => `(tactic| first
  | assumption
  | ((with_reducible apply LS.hp_s); assumption; array_mem_dec)
  | ((with_reducible apply LS.hp_f); assumption; array_mem_dec; array_mem_dec)
  | ((with_reducible apply LS.hp_t); assumption; array_mem_dec; array_mem_dec)
  | ((with_reducible apply LS.hp_l); assumption; array_mem_dec; array_mem_dec)
  | ((with_reducible apply LS.sq_o); array_mem_dec)
  | ((with_reducible apply LS.sq_s); assumption; array_mem_dec)
  | ((with_reducible apply LS.sq_f); assumption; array_mem_dec; array_mem_dec)
  | ((with_reducible apply LS.sq_t); assumption; array_mem_dec; array_mem_dec)
  | ((with_reducible apply LS.sq_l); assumption; array_mem_dec; array_mem_dec)
  | ((with_reducible apply LS.tu_o); array_mem_dec)
  | ((with_reducible apply LS.tu_s); assumption; array_mem_dec)
  | ((with_reducible apply LS.tu_f); assumption; array_mem_dec; array_mem_dec)
  | ((with_reducible apply LS.tu_t); assumption; array_mem_dec; array_mem_dec)
  | ((with_reducible apply LS.tu_l); assumption; array_mem_dec; array_mem_dec)
  | ((with_reducible apply LS.se_l); array_mem_dec)
  | ((with_reducible apply LS.se_t); array_mem_dec)
  | ((with_reducible apply LS.se_s); assumption; array_mem_dec)
  | ((with_reducible apply LS.se_f); assumption; array_mem_dec; array_mem_dec)
  | ((with_reducible apply LS.se_tt); assumption; array_mem_dec; array_mem_dec)
  | ((with_reducible exact Same.refl _))
  | ((with_reducible apply LS.sm_s); assumption; array_mem_dec)
  | ((with_reducible apply LS.sm_f); assumption; array_mem_dec; array_mem_dec)
  | ((with_reducible exact Fr.refl _ _))
  | ((with_reducible apply LS.fr_b); assumption; array_mem_dec)
  | ((with_reducible apply LS.fr_s); assumption; array_mem_dec)
  | ((with_reducible apply LS.fr_n); assumption; array_mem_dec; array_mem_dec)
  | ((with_reducible apply LS.fr_t); assumption; array_mem_dec)
  | ((with_reducible apply LS.no_s); assumption; array_mem_dec)
  | ((with_reducible apply LS.no_f); assumption; array_mem_dec; array_mem_dec)
  | ((with_reducible apply LS.no_t); assumption; array_mem_dec)
  | ((with_reducible apply LS.no_l); assumption; assumption)
  | ((with_reducible apply Ne.symm); assumption)
  | ((with_reducible apply LS.ne_a); assumption; array_mem_dec)
  | ((with_reducible apply LS.ne_b); assumption; array_mem_dec)
  | ((with_reducible apply LS.ne_ap); assumption)
  | ((with_reducible apply LS.ne_il); assumption; array_mem_dec)
  | ((with_reducible apply LS.ne_li); assumption; array_mem_dec)
  | ((with_reducible apply LS.ne_lt); assumption; assumption)
  | ((with_reducible apply LS.ne_tl); assumption; assumption)
  | ((with_reducible apply LS.ne_rl); assumption; array_mem_dec)
  | ((with_reducible apply LS.rl_t); assumption)
  | ((with_reducible apply LS.rl_s); assumption; array_mem_dec)
  | ((with_reducible apply LS.rl_f); assumption; array_mem_dec; array_mem_dec)
  | ((with_reducible apply LS.rl_l); assumption; array_mem_dec; array_mem_dec)
  | ((with_reducible apply LS.ap_new); assumption; assumption; array_mem_dec)
  | ((with_reducible apply LS.ap_t); assumption; array_mem_dec; array_mem_dec)
  | ((with_reducible apply LS.ap_s); assumption; array_mem_dec; array_mem_dec)
  | ((with_reducible apply LS.ap_f); assumption; array_mem_dec; array_mem_dec; array_mem_dec)
  | ((with_reducible apply LS.ap_l); assumption; array_mem_dec; array_mem_dec; array_mem_dec)
  | (with_reducible apply LS.ni_nil)
  | ((with_reducible apply LS.ni_cons); array_mem_dec; array_mem_dec)
  | (with_reducible apply LS.trk_nil)
  | ((with_reducible apply LS.trk_cons); array_mem_dec; array_mem_dec)
  | (with_reducible apply LS.al_nil)
  | ((with_reducible apply LS.al_cons); array_mem_dec; array_mem_dec)
  | (with_reducible apply LS.mem_hd)
  | ((with_reducible apply LS.mem_tl); array_mem_dec)
  | ((with_reducible apply LS.fl_refl); array_mem_dec)
  | ((with_reducible apply LS.fl_l); assumption; array_mem_dec)
  | ((with_reducible apply LS.fl_lm); assumption; array_mem_dec; array_mem_dec)
  | (with_reducible apply LS.sub_nil)
  | ((with_reducible apply LS.sub_cons); array_mem_dec; array_mem_dec)
  | ((with_reducible apply LS.fl_s); assumption; array_mem_dec)
  | ((with_reducible apply LS.fl_m); assumption; array_mem_dec; array_mem_dec; array_mem_dec)
  | ((with_reducible apply LS.fl_n); assumption; array_mem_dec; array_mem_dec; array_mem_dec)
  | ((with_reducible apply LS.rt_refl); array_mem_dec)
  | ((with_reducible apply LS.rt_t); assumption; array_mem_dec)
  | ((with_reducible apply LS.rt_s); assumption; array_mem_dec)
  | ((with_reducible apply LS.rt_f); assumption; array_mem_dec; array_mem_dec; array_mem_dec)
  | ((with_reducible apply LS.sz); (first | decide | (simp only [List.length_append, List.length_map, List.length_cons, List.length_nil, List.length_replicate]; omega)))
  | ((with_reducible apply LS.szl); (first | decide | (simp only [List.length_append, List.length_map, List.length_cons, List.length_nil, List.length_replicate]; omega))))
local macro_rules | `(tactic| array_get_dec) => `(tactic| first
  | ((with_reducible apply LS.var); exact rfl)
  | (with_reducible apply LS.con)
  | (with_reducible apply LS.op)
  | (with_reducible apply LS.ri0)
  | (with_reducible apply LS.tseq)
  | (with_reducible apply LS.tasg)
  | (with_reducible apply LS.gname)
  | (with_reducible apply LS.tcons)
  | (with_reducible apply LS.tnil)
  | (with_reducible apply LS.tcb)
  | (with_reducible apply LS.tcall)
  | (with_reducible apply LS.ttest)
  | (with_reducible apply LS.k_b)
  | (with_reducible apply LS.tb)
  | (with_reducible apply LS.tifs)
  | (with_reducible apply LS.ift)
  | (with_reducible apply LS.iff_)
  | (with_reducible apply LS.ifnt)
  | (with_reducible apply LS.ifnf)
  | (with_reducible apply LS.tnext)
  | (with_reducible apply LS.tdrop)
  | (with_reducible apply LS.tret)
  | (with_reducible apply LS.tretn)
  | (with_reducible apply LS.un)
  | (with_reducible apply LS.ru)
  | (with_reducible apply LS.tyes)
  | (with_reducible apply LS.tand)
  | (with_reducible apply LS.tor)
  | (with_reducible apply LS.tnot)
  | (with_reducible apply LS.tif)
  | (with_reducible apply LS.tandv)
  | (with_reducible apply LS.k_av)
  | (with_reducible apply LS.torv)
  | (with_reducible apply LS.k_ov)
  | (with_reducible apply LS.tnotv)
  | (with_reducible apply LS.k_nv)
  | (with_reducible apply LS.tchain)
  | (with_reducible apply LS.k_ch)
  | (with_reducible apply LS.req_i)
  | (with_reducible apply LS.rne_i)
  | (with_reducible apply LS.req_s)
  | (with_reducible apply LS.rne_s)
  | (with_reducible apply LS.req_b)
  | (with_reducible apply LS.rne_b)
  | ((with_reducible apply LS.rin_i); array_mem_dec)
  | ((with_reducible apply LS.rni_i); array_mem_dec)
  | ((with_reducible apply LS.rlen_li); array_mem_dec)
  | ((with_reducible apply LS.rlen_ls); array_mem_dec)
  | ((with_reducible apply LS.rlen_l); array_mem_dec)
  | ((with_reducible apply LS.rlen_Ei); array_mem_dec)
  | ((with_reducible apply LS.rlen_E); array_mem_dec)
  | ((with_reducible apply LS.rlen_t); array_mem_dec)
  | ((with_reducible apply LS.rixl); array_mem_dec; exact rfl)
  | ((with_reducible apply LS.rixt); array_mem_dec; exact rfl)
  | (with_reducible apply LS.isi_int_int)
  | (with_reducible apply LS.isi_int_bool)
  | (with_reducible apply LS.isi_int_str)
  | (with_reducible apply LS.isi_str_int)
  | (with_reducible apply LS.isi_str_bool)
  | (with_reducible apply LS.isi_str_str)
  | (with_reducible apply LS.isi_bool_int)
  | (with_reducible apply LS.isi_bool_bool)
  | (with_reducible apply LS.isi_bool_str)
  | (with_reducible apply LS.isi_non_int)
  | (with_reducible apply LS.isi_non_bool)
  | (with_reducible apply LS.isi_non_str)
  | ((with_reducible apply LS.isi_list_int); array_mem_dec)
  | ((with_reducible apply LS.isi_list_bool); array_mem_dec)
  | ((with_reducible apply LS.isi_list_str); array_mem_dec)
  | ((with_reducible apply LS.isi_list_list); array_mem_dec)
  | ((with_reducible apply LS.isi_list_tuple); array_mem_dec)
  | ((with_reducible apply LS.isi_tuple_int); array_mem_dec)
  | ((with_reducible apply LS.isi_tuple_bool); array_mem_dec)
  | ((with_reducible apply LS.isi_tuple_str); array_mem_dec)
  | ((with_reducible apply LS.isi_tuple_list); array_mem_dec)
  | ((with_reducible apply LS.isi_tuple_tuple); array_mem_dec)
  | ((with_reducible apply LS.isiT_i); array_mem_dec)
  | ((with_reducible apply LS.isiT_s); array_mem_dec)
  | ((with_reducible apply LS.isiT_E); array_mem_dec; array_mem_dec)
  | (with_reducible apply LS.tfld)
  | ((with_reducible apply LS.k_fl); array_mem_dec; assumption; assumption; exact rfl)
  | (with_reducible apply LS.tmeth)
  | ((with_reducible apply LS.k_me); array_mem_dec; exact rfl)
  | (with_reducible apply LS.tmake)
  | (with_reducible apply LS.tsfld)
  | (with_reducible apply LS.tprop)
  | ((with_reducible apply LS.k_pr); array_mem_dec)
  | ((with_reducible apply LS.rlen_own); array_mem_dec)
  | (with_reducible apply LS.rabs)
  | (with_reducible apply LS.rmin2)
  | (with_reducible apply LS.rmax2)
  | (with_reducible apply LS.tsl)
  | (with_reducible apply LS.tthen)
  | (with_reducible apply LS.tstep)
  | (with_reducible apply LS.tnop)
  | (with_reducible apply LS.tpart)
  | (with_reducible apply LS.k_part)
  | (with_reducible apply LS.ttup)
  | (with_reducible apply LS.tlst)
  | (with_reducible apply LS.tbm)
  | (with_reducible apply LS.tbm0)
  | ((with_reducible apply LS.ty_l); array_mem_dec)
  | (with_reducible apply LS.tpar)
  | (with_reducible apply LS.tfor)
  | (with_reducible apply LS.tlc)
  | (with_reducible apply LS.ilist)
  | ((with_reducible apply LS.k_il); array_mem_dec)
  | (with_reducible apply LS.itup)
  | ((with_reducible apply LS.k_it); array_mem_dec)
  | (with_reducible apply LS.istr)
  | (with_reducible apply LS.k_is)
  | (with_reducible apply LS.irng1)
  | ((with_reducible apply LS.k_r1n); omega)
  | ((with_reducible apply LS.k_r1); (first | omega | decide); (first | omega | decide))
  | (with_reducible apply LS.irng2)
  | ((with_reducible apply LS.k_r2); (first | omega | decide); (first | omega | decide); (first | omega | decide); (first | omega | decide))
  | (with_reducible apply LS.ienum)
  | ((with_reducible apply LS.k_en); array_mem_dec)
  | (with_reducible apply LS.izip)
  | ((with_reducible apply LS.k_zip); array_mem_dec; array_mem_dec)
  | (with_reducible apply LS.tlstrg)
  | (with_reducible apply LS.trg1)
  | (with_reducible apply LS.k_g1)
  | (with_reducible apply LS.risn_i)
  | (with_reducible apply LS.risn_s)
  | (with_reducible apply LS.risn_n)
  | (with_reducible apply LS.rnotn_i)
  | (with_reducible apply LS.rnotn_n)
  | (with_reducible apply LS.rint_b)
  | (with_reducible apply LS.rint_i)
  | (with_reducible apply LS.tm0)
  | (with_reducible apply LS.tm1)
  | (with_reducible apply LS.is_str)
  | (with_reducible apply LS.ex_s0)
  | (with_reducible apply LS.ex_int_b)
  | (with_reducible apply LS.k_par)
  | (with_reducible apply LS.tpar3)
  | (with_reducible apply LS.k_par3)
  | ((with_reducible apply LS.taug); exact rfl)
  | (with_reducible apply LS.ipi)
  | ((with_reducible apply LS.gtup); array_mem_dec; exact rfl)
  | ((with_reducible apply LS.gunl); array_mem_dec; exact rfl)
  | (with_reducible apply LS.gnil)
  | (with_reducible apply LS.gcons)
  | (with_reducible apply LS.gsub)
  | ((with_reducible apply LS.ri); first | omega | decide | assumption | exact ⟨by decide, by decide, by decide⟩ | exact .inl ⟨by decide, by decide⟩ | exact .inr ⟨by decide, by decide⟩ | exact .inl ⟨by omega, by omega⟩ | exact .inr ⟨by omega, by omega⟩)
  | (with_reducible apply LS.ex_ss)
  | (with_reducible apply LS.ex_s1)
  | (with_reducible apply LS.ex_i1)
  | (with_reducible apply LS.and_rfl)
  | (with_reducible apply LS.and_tr)
  | (with_reducible apply LS.is_non))
local macro_rules | `(tactic| array_mem_dec) => `(tactic| first
  | ((with_reducible apply LP.lv_s); assumption; array_mem_dec)
  | ((with_reducible apply LP.lv_l); assumption; array_mem_dec; array_mem_dec; array_mem_dec)
  | ((with_reducible apply LP.lv_f); assumption; array_mem_dec; array_mem_dec; array_mem_dec)
  | ((with_reducible apply LP.lv_t); assumption; array_mem_dec; array_mem_dec; array_mem_dec)
  | ((with_reducible apply LP.ops_s); assumption; array_mem_dec)
  | ((with_reducible apply LP.md_s); assumption; array_mem_dec)
  | ((with_reducible apply LP.md_l); assumption; array_mem_dec; array_mem_dec; array_mem_dec)
  | ((with_reducible apply LP.md_f); assumption; array_mem_dec; array_mem_dec; array_mem_dec)
  | ((with_reducible apply LP.md_t); assumption; array_mem_dec; array_mem_dec; array_mem_dec)
  | ((with_reducible apply LP.al_s); assumption; array_mem_dec; array_mem_dec)
  | ((with_reducible apply LP.al_t); assumption; array_mem_dec; array_mem_dec)
  | ((with_reducible apply LP.al_l); assumption; array_mem_dec; array_mem_dec; array_mem_dec)
  | ((with_reducible apply LP.al_f); assumption; array_mem_dec; array_mem_dec; array_mem_dec)
  | ((with_reducible apply LP.Lv.lists); array_mem_dec)
  | ((with_reducible apply LP.Lv.trk); array_mem_dec)
  | ((with_reducible apply LP.Mdl.trk); array_mem_dec)
  | ((with_reducible apply LP.al_no); assumption; array_mem_dec))
local macro_rules | `(tactic| array_mem_dec) => `(tactic| first
  | ((with_reducible apply LP.sg_s); assumption; array_mem_dec)
  | ((with_reducible apply LP.sg_f); assumption; array_mem_dec; array_mem_dec)
  | ((with_reducible apply LP.sg_l); assumption; array_mem_dec; array_mem_dec)
  | ((with_reducible apply LP.sg_ne); assumption; array_mem_dec)
  | ((with_reducible apply LP.sg_ne'); assumption; array_mem_dec)
  | ((with_reducible apply LS.se_q); array_mem_dec)
  | ((with_reducible apply LS.se_u); array_mem_dec)
  | ((with_reducible apply LP.sg_no); assumption; array_mem_dec; array_mem_dec))
local macro_rules | `(tactic| array_get_dec) => `(tactic| first
  | ((with_reducible apply LS.rne_same); exact rfl)
  | ((with_reducible apply LS.req_same); exact rfl)
  | (with_reducible apply LS.trevl)
  | (with_reducible apply LS.irng3)
  | (with_reducible apply LS.risn_b)
  | ((with_reducible apply LS.isiT_n); array_mem_dec)
  | ((with_reducible apply LS.isiT_b); array_mem_dec))
local macro_rules | `(tactic| array_get_dec) => `(tactic| first
  | (with_reducible apply LS.trg2)
  | (with_reducible apply LS.k_g2))

section
variable {P : Program} {w : World} {K : PySem.W.Frag} {mg : Str → Option Value} {base : Heap}

set_option exponentiation.threshold 100000
local macro_rules | `(tactic| array_mem_dec) => `(tactic| first
  | ((with_reducible apply LP.lso_s); assumption; array_mem_dec)
  | ((with_reducible apply LP.lso_f); assumption; array_mem_dec; assumption))
def sp__law_count : Sp := fun vs H Q _ => ∃ (a : Addr) (o : List Int) (n : Nat), vs = [.ref a] ∧ H a = some (.lst (o.map V.int)) ∧ Ord n o ∧ 1 ≤ n ∧ n ≤ 200 ∧ ∀ H', Same H H' → Q (.int (cnt (cycs o))) H'
theorem cntP_next {cs : List (List Int)} {i : Nat} {c : List Int} (h : cs[i]? = some c) : cntP (factI i) cs i * ((i : Int) + 1) * tot c = cntP (factI (i + 1)) cs (i + 1) := by
  rw [cntP_succ h]
  congr 1
  unfold cntP
  rw [fact_succ, Int.mul_right_comm]
theorem ok__law_count (e : Env K mg) : FnOk P w K mg base CX0 2 e.a__law_count e.d__law_count ["order"] (sp__law_count) := by
  refine Fun.ok e.f__law_count sc__law_count (fun vs H Q E h => ?_) (fun cdv A outer s H vs Q E hr h => ?_)
  · obtain ⟨a, o, n, rfl, _⟩ := h; rfl
  · obtain ⟨a, o, n, rfl, ha, ho, h1, h2, k⟩ := h
    refine ⟨_, (pss_cons (ps_set (i := 1) sc__law_count.nd rfl (by first | exact Or.inl rfl | exact Or.inr rfl) pe_int)
      (pss_cons (ps_for PassesOwn.never rfl (pi_enum (by rfl) e.n_enumerate (pa_cons (pe_call ((ok__law_cycles e).mono (by decide)) hr rfl e.g__law_cycles e.f__law_cycles.kp e.b__law_cycles .nil pass0 (pa_cons (pv 0) pa_nil)) pa_nil)) (pg_tup (by rfl) (pgs_cons (pg_name (i := 2) sc__law_count.nd rfl (by first | exact Or.inl rfl | exact Or.inr rfl)) (pgs_cons (pg_name (i := 3) sc__law_count.nd rfl (by first | exact Or.inl rfl | exact Or.inr rfl)) pgs_nil)))
      (pss_one (ps_set (i := 1) sc__law_count.nd rfl (by first | exact Or.inl rfl | exact Or.inr rfl) (pe_op op_mulW (pe_op op_mulW (pv 1) (pe_op op_add (pv 2) pe_int)) (pe_call ((ok__law_ways e).mono (by decide)) hr rfl e.g__law_ways e.f__law_ways.kp e.b__law_ways .nil pass0 (pa_cons (pv 3) pa_nil))))))
      (pss_one (ps_ret (pv 1))))), ?_⟩
    have hol := ho.len
    have ul : (cycs o).length ≤ o.length := upto_len o o.length
    have cl : ∀ c ∈ cycs o, c.length ≤ 200 := fun c hc => by have := cyc_len ho o.length (by omega) c hc; omega
    repeat array_get_dec
    refine ⟨a, o, n, rfl, ha, ho, h1, h2, fun H1 p as s1 np hp ls npa => ?_⟩
    have hlen := ls.1
    repeat array_get_dec
    refine LS.for_ (walk_enum (xs := as.map V.ref)) (fun i σ H' => ∃ (v2 v3 : Option V), Same H1 H' ∧ σ = [some (.ref a), some (.int (cntP (factI i) (cycs o) i)), v2, v3]) ⟨_, _, (by array_mem_dec), rfl⟩ (fun i σ H' hi h => (by obtain ⟨_, _, h, _⟩ := h; exact (by array_mem_dec))) ?_ ?_
    · rintro i x σ H2 H3 hi ⟨v2, v3, s2, rfl⟩ y
      obtain ⟨T, y, z, rfl, nT, s3, hT, hy, hz⟩ := LS.ypair y
      cases hy
      rw [List.length_map] at hi
      obtain ⟨t, ht⟩ : ∃ t, as[i]? = some t := ⟨_, List.getElem?_eq_getElem hi⟩
      rw [List.getElem?_map, ht] at hz
      cases hz
      obtain ⟨c, hc⟩ : ∃ c, (cycs o)[i]? = some c := ⟨_, List.getElem?_eq_getElem (by rw [← hlen]; exact hi)⟩
      have hcm := List.mem_of_getElem? hc
      have l1 := cyc_gt o o.length c hcm
      have l2 := cl c hcm
      have s13 : Same H1 H3 := (by array_mem_dec)
      have ht3 := s13 _ _ (ls.2 i t c ht hc).1
      have b0 := cntP_bd (n := i) (by omega) (cs := cycs o) (by omega) cl i
      have b1 : ((i : Int) + 1).natAbs < 2 ^ 32 := by omega
      repeat array_get_dec
      refine LS.ri (wide_mul (a := 60000) (b := 32) b0 b1 (by decide) (by decide) (by decide)) ?_
      repeat array_get_dec
      refine ⟨t, c, rfl, ht3, by omega, l2, fun H4 s4 => ?_⟩
      refine LS.ri (wide_mul (a := 60032) (b := 208) (by rw [Int.natAbs_mul, show 60032 = 60000 + 32 from rfl, Nat.pow_add]; exact Nat.mul_lt_mul'' b0 b1) (tot_bd l2).2 (by decide) (by decide) (by decide)) ?_
      repeat array_get_dec
      exact ⟨_, _, s13.trans s4, by rw [cntP_next hc]; rfl⟩
    · rintro σ H2 ⟨v2, v3, s2, rfl⟩
      repeat array_get_dec
      rw [List.length_map, hlen]
      exact k H2 (by array_mem_dec)
def sp_law (K : PySem.W.Frag) : Sp := fun vs H Q _ => ∃ (a : Addr) (ns : List Int), vs = [.ref a] ∧ SqL K H a (ns.map V.int) ∧ ns.length ≤ 63 ∧ ∀ H', Q (.bl true) H'
theorem ok_law (e : Env K mg) : LG.FnG P w K mg base CX0 9 e.a_law e.d_law ["script"] (sp_law K) := by
  refine LG.okG e.f_law sc_law (fun vs H Q E h => ?_) (fun cdv A outer s H vs Q E hgd hr h => ?_)
  · obtain ⟨a, ns, rfl, _⟩ := h; rfl
  · obtain ⟨a, ns, rfl, hS, hl, k⟩ := h
    refine ⟨_, (pss_cons (ps_set (i := 1) sc_law.nd rfl (by first | exact Or.inl rfl | exact Or.inr rfl) (pe_call ((ok__law_spring e).mono (by decide)) hr rfl e.g__law_spring e.f__law_spring.kp e.b__law_spring .nil pass0 (pa_cons (pv 0) pa_nil)))
      (pss_cons (ps_for PassesOwn.never rfl (pi_range1 (by rfl) e.n_range (pa_cons (pe_op op_add pe_int (pe_callB (LS.call_min2 rfl) (by rfl) e.n_min (by decide +kernel) (pa_cons (pe_callB LS.call_len (by rfl) e.n_len PySem.boot_len (pa_cons (pv 0) pa_nil)) (pa_cons pe_int pa_nil)))) pa_nil)) (pg_name (i := 2) sc_law.nd rfl (by first | exact Or.inl rfl | exact Or.inr rfl))
      (pss_cons (ps_set (i := 3) sc_law.nd rfl (by first | exact Or.inl rfl | exact Or.inr rfl) (pe_call ((ok__law_order e).mono (by decide)) hr rfl e.g__law_order e.f__law_order.kp e.b__law_order .nil pass0 (pa_cons (pv 1) (pa_cons (pe_op op_add pe_int (pe_call ((ok__law_draw e).mono (by decide)) hr rfl e.g__law_draw e.f__law_draw.kp e.b__law_draw .nil pass0 (pa_cons (pv 1) (pa_cons (pe_ix ix_list (pe_lst (pa_cons pe_int (pa_cons pe_int pa_nil))) (pe_callTy LS.call_int1 (by rfl) e.n_int (by decide +kernel) (pa_cons (pe_cmpR op_gt (pv 2) pe_int (nomark _)) pa_nil)) (fun _ _ => rfl)) pa_nil)))) pa_nil))))
      (pss_cons (ps_set (i := 4) sc_law.nd rfl (by first | exact Or.inl rfl | exact Or.inr rfl) (pe_call ((ok__law_dressed e).mono (by decide)) hr rfl e.g__law_dressed e.f__law_dressed.kp e.b__law_dressed .nil pass0 (pa_cons (pv 1) (pa_cons (pv 3) pa_nil))))
      (pss_cons (ps_set (i := 5) sc_law.nd rfl (by first | exact Or.inl rfl | exact Or.inr rfl) (pe_callB (LX.call_reprN hgd (u66 hr)) (by rfl) e.n_repr (by decide +kernel) (pa_cons (pv 4) pa_nil)))
      (pss_cons (ps_if (PW.pt (pw_or (pt_not (pt_val (pe_call ((ok__law_same e).mono (by decide)) hr rfl e.g__law_same e.f__law_same.kp e.b__law_same .nil pass0 (pa_cons (pe_call ((ok_count_sorting e).mono (by decide)) hr rfl e.g_count_sorting e.f_count_sorting.kp e.b_count_sorting .nil pass0 (pa_cons (pv 4) pa_nil)) (pa_cons (pe_call ((ok__law_count e).mono (by decide)) hr rfl e.g__law_count e.f__law_count.kp e.b__law_count .nil pass0 (pa_cons (pv 3) pa_nil)) pa_nil))))) (pw_or1 (pt_cmpR op_ne (pe_callB (LX.call_reprN hgd (u66 hr)) (by rfl) e.n_repr (by decide +kernel) (pa_cons (pv 4) pa_nil)) (pv 5) (nomark _)))))
        (pss_one (ps_ret pe_bl))
        pss_nil)
      (pss_cons (ps_par (i := 6) (j := 7) (by rfl) sc_law.nd rfl rfl (by decide) rfl rfl (pa_cons (pe_call ((ok__law_draw e).mono (by decide)) hr rfl e.g__law_draw e.f__law_draw.kp e.b__law_draw .nil pass0 (pa_cons (pv 1) (pa_cons (pe_callB LS.call_len (by rfl) e.n_len PySem.boot_len (pa_cons (pv 3) pa_nil)) pa_nil))) (pa_cons (pe_call ((ok__law_draw e).mono (by decide)) hr rfl e.g__law_draw e.f__law_draw.kp e.b__law_draw .nil pass0 (pa_cons (pv 1) (pa_cons (pe_callB LS.call_len (by rfl) e.n_len PySem.boot_len (pa_cons (pv 3) pa_nil)) pa_nil))) pa_nil)) (by rfl))
      (pss_cons (ps_asg (pe_tup (pa_cons (pe_ix ix_list (pv 3) (pv 7) (fun _ _ => rfl)) (pa_cons (pe_ix ix_list (pv 3) (pv 6) (fun _ _ => rfl)) pa_nil))) (pg_tup (by rfl) (pgs_cons (pg_sub (pv 3) (pv 6) set_list) (pgs_cons (pg_sub (pv 3) (pv 7) set_list) pgs_nil))))
      (pss_one (ps_if (pt_not (pt_val (pe_call ((ok__law_same e).mono (by decide)) hr rfl e.g__law_same e.f__law_same.kp e.b__law_same .nil pass0 (pa_cons (pe_call ((ok_count_sorting e).mono (by decide)) hr rfl e.g_count_sorting e.f_count_sorting.kp e.b_count_sorting .nil pass0 (pa_cons (pv 3) pa_nil)) (pa_cons (pe_call ((ok__law_count e).mono (by decide)) hr rfl e.g__law_count e.f__law_count.kp e.b__law_count .nil pass0 (pa_cons (pv 3) pa_nil)) pa_nil)))))
        (pss_one (ps_ret pe_bl))
        pss_nil)))))))))
      (pss_one (ps_ret (pe_cmpR op_eq (pe_call ((ok_count_sorting e).mono (by decide)) hr rfl e.g_count_sorting e.f_count_sorting.kp e.b_count_sorting .nil pass0 (pa_cons (pe_lst (pa_cons pe_int (pa_cons pe_int (pa_cons pe_int (pa_cons pe_int pa_nil))))) pa_nil)) pe_int (nomark _)))))), ?_⟩
    repeat array_get_dec
    refine ⟨a, ns, rfl, hS, hl, fun H1 b s1 nb R => ?_⟩
    repeat array_get_dec
    refine LS.for_ walk_range (fun i σ H2 => ∃ v2 v3 v4 v5 v6 v7 : Option V, Spring H2 b (i * 1000) ∧ σ = [some (.ref a), some (.ref b), v2, v3, v4, v5, v6, v7]) ⟨_, _, _, _, _, _, (by array_mem_dec), rfl⟩ (fun _ _ _ _ _ => trivial) ?_ ?_
    · rintro i x σ H2 H3 hi ⟨v2, v3, v4, v5, v6, v7, R2, rfl⟩ ⟨rfl, rfl⟩
      have hi9 : i < 9 := by omega
      repeat array_get_dec
      refine LS.k_lst (by array_mem_dec) fun l8 H_l8 n_l8 s_l8 h_l8 => ?_
      repeat array_get_dec
      obtain ⟨m, m0, m1, hat⟩ : ∃ m : Int, 1 ≤ m ∧ m ≤ 200 ∧ atI [V.int 200, V.int 30] (if decide ((0 : Int) < 0 + (i : Int)) = true then 1 else 0) = some (.int m) := by
        by_cases q : (0 : Int) < 0 + (i : Int)
        · rw [decide_eq_true q]; exact ⟨30, by decide, by decide, rfl⟩
        · rw [decide_eq_false q]; exact ⟨200, by decide, by decide, rfl⟩
      refine LS.rixl (by array_mem_dec) hat ?_
      repeat array_get_dec
      refine ⟨b, _, m, rfl, (by array_mem_dec), by omega, Nat.lt_trans (log_lt (k := 30) (by omega) (by omega)) (by decide), by omega, fun H4 r r0 r1 R4 F4 => ?_⟩
      obtain ⟨n, hn⟩ : ∃ n : Nat, 1 + r = n := ⟨(1 + r).toNat, by omega⟩
      repeat array_get_dec
      rw [hn]
      refine ⟨b, _, n, rfl, R4, by omega, by omega, by omega, fun H5 q o R5 F5 nq ho hq => ?_⟩
      have nqb : q ≠ b := (by array_mem_dec)
      have hol := ho.len
      repeat array_get_dec
      refine ⟨b, _, q, o, rfl, R5, by omega, hq, by omega, fun H6 d R6 F6 nd hd => ?_⟩
      have hq6 : H6 q = some (.lst (o.map V.int)) := F6 _ _ hq nqb
      obtain ⟨dq, smq, dpq⟩ : ∃ dq, LG.Sm dq 1 (11 * o.length) ∧ ∀ H', Same H6 H' → Dp K H' (.ref d) dq := by
        have sm : ∀ x ∈ o, x.natAbs < 1024 := fun x hx => by have := ho.rg hx; omega
        rcases hd with hd | hd
        · exact ⟨LS.dI o, LS.sm_smalls sm, fun H' s => LS.dp_i (SqL.of (s _ _ hd))⟩
        · exact ⟨_, LS.sm_smallsT sm, fun H' s => LS.dp_it (SqT.of (s _ _ hd))⟩
      have hdE : SqE K H6 d (o.map V.int) := hd.elim (fun h => LS.se_l h) fun h => LS.se_t h
      repeat array_get_dec
      refine LS.rrepr (dpq _ (Same.refl _)) smq (by decide) (by omega) ?_
      repeat array_get_dec
      refine ⟨d, o, n, rfl, hdE, ho, by omega, by omega, fun H7 s7 => ?_⟩
      repeat array_get_dec
      refine ⟨q, o, n, rfl, s7 _ _ hq6, ho, by omega, by omega, fun H8 s8 => ?_⟩
      repeat array_get_dec
      refine ⟨.int _, .int _, .int (cnt (cycs o)), rfl, .int _, .int _, trivial, fun H9 s9 => ?_⟩
      have s69 : Same H6 H9 := s7.trans (s8.trans s9)
      repeat array_get_dec
      refine LS.rrepr (dpq _ s69) smq (by decide) (by omega) ?_
      have R9 := sg_s s69 R6
      have hq9 := s69 _ _ hq6
      clear s7 s8 s9 F4 F5 F6
      repeat array_get_dec
      refine ⟨b, _, _, rfl, R9, by omega, log_small (by omega), by omega, fun HA one a0 a1 RA FA => ?_⟩
      have hqA := FA _ _ hq9 nqb
      repeat array_get_dec
      refine ⟨b, _, _, rfl, RA, by omega, log_small (by omega), by omega, fun HB oth b0 b1 RB FB => ?_⟩
      have hqB := FB _ _ hqA nqb
      obtain ⟨y, hy⟩ : ∃ y, o[oth.toNat]? = some y := ⟨_, List.getElem?_eq_getElem (by omega)⟩
      obtain ⟨x, hx⟩ : ∃ x, o[one.toNat]? = some x := ⟨_, List.getElem?_eq_getElem (by omega)⟩
      repeat array_get_dec
      refine LS.rixl_n (j := oth.toNat) (v := .int y) (xs := o.map V.int) (SqL.of hqB) (int_at hy) (by omega) ?_
      repeat array_get_dec
      refine LS.rixl_n (j := one.toNat) (v := .int x) (xs := o.map V.int) (SqL.of hqB) (int_at hx) (by omega) ?_
      repeat array_get_dec
      refine LS.k_tup (by show 2 ≤ sizeLine; decide) fun tt HC nt sC ht => ?_
      have ntp : q ≠ tt := ne_of_none hqB nt
      repeat array_get_dec
      refine LS.rset (j := one.toNat) (xs := o.map V.int) (sC _ _ hqB) (by rw [List.length_map]; exact ixN_int a0 (by omega)) fun HD fa hA => ?_
      rw [int_set] at hA
      repeat array_get_dec
      refine LS.rset (j := oth.toNat) hA (by rw [List.length_map, List.length_set]; exact ixN_int b0 (by omega)) fun HE fb hB => ?_
      rw [int_set] at hB
      have RE : Spring HE b _ := sg_f fb (sg_f fa (sg_s sC RB) nqb) nqb
      have ho2 := ho.swap hx hy
      repeat array_get_dec
      refine ⟨q, _, n, rfl, LS.se_l hB, ho2, by omega, by omega, fun HF sF => ?_⟩
      repeat array_get_dec
      refine ⟨q, _, n, rfl, sF _ _ hB, ho2, by omega, by omega, fun HG sG => ?_⟩
      repeat array_get_dec
      refine ⟨.int _, .int _, .int (cnt (cycs ((o.set one.toNat y).set oth.toNat x))), rfl, .int _, .int _, trivial, fun HI sI => ?_⟩
      have RI := sg_s (sF.trans (sG.trans sI)) RE
      repeat array_get_dec
      exact ⟨_, _, _, _, _, _, RI.mono (by omega), rfl⟩
    · rintro σ H2 ⟨v2, v3, v4, v5, v6, v7, R2, rfl⟩
      repeat array_get_dec
      refine LS.k_lst (by array_mem_dec) fun x0 H_x0 n_x0 s_x0 h_x0 => ?_
      repeat array_get_dec
      refine ⟨x0, [3, 2, 0, 1], 4, rfl, LS.se_l h_x0, ⟨by decide⟩, by decide, by decide, fun H3 s3 => ?_⟩
      rw [show cnt (cycs [3, 2, 0, 1]) = 2 by decide +kernel]
      repeat array_get_dec
      exact k _
end
end LP

namespace LP
open PySem L2 LT LG LQ LH LC LX
set_option maxHeartbeats 4000000 in
theorem all_mk {l : PySem.W.OpenLaw} {w : World} {K : PySem.W.Frag} {h : Heap} {mg : Str → Option Value} {fa : Addr} (X : K.In h) (G : h.Ns mainGlobals mg) (hfa : mg "law" = some (.ref fa))
    {t_MOST_PLACES : Tok}
    {t_GREATEST_PLACE : Tok}
    {C_Cycle : Addr}
    {a_is_whole : Addr} {od_is_whole an_is_whole : Option Addr} {sl_is_whole : Array (Option Value)} {oc_is_whole kV_is_whole dc_is_whole pm_is_whole cd_is_whole ct_is_whole : Value}
    {a_is_listed : Addr} {od_is_listed an_is_listed : Option Addr} {sl_is_listed : Array (Option Value)} {oc_is_listed kV_is_listed dc_is_listed pm_is_listed cd_is_listed ct_is_listed : Value}
    {a_is_place : Addr} {od_is_place an_is_place : Option Addr} {sl_is_place : Array (Option Value)} {oc_is_place kV_is_place dc_is_place pm_is_place cd_is_place ct_is_place : Value}
    {a_is_place_list : Addr} {od_is_place_list an_is_place_list : Option Addr} {sl_is_place_list : Array (Option Value)} {oc_is_place_list kV_is_place_list dc_is_place_list pm_is_place_list cd_is_place_list ct_is_place_list : Value}
    {a_is_full_list : Addr} {od_is_full_list an_is_full_list : Option Addr} {sl_is_full_list : Array (Option Value)} {oc_is_full_list kV_is_full_list dc_is_full_list pm_is_full_list cd_is_full_list ct_is_full_list : Value}
    {a_check_order : Addr} {od_check_order an_check_order : Option Addr} {sl_check_order : Array (Option Value)} {oc_check_order kV_check_order dc_check_order pm_check_order cd_check_order ct_check_order : Value}
    {a_cycles_of : Addr} {od_cycles_of an_cycles_of : Option Addr} {sl_cycles_of : Array (Option Value)} {oc_cycles_of kV_cycles_of dc_cycles_of pm_cycles_of cd_cycles_of ct_cycles_of : Value}
    {a_next_takes : Addr} {od_next_takes an_next_takes : Option Addr} {sl_next_takes : Array (Option Value)} {oc_next_takes kV_next_takes dc_next_takes pm_next_takes cd_next_takes ct_next_takes : Value}
    {a_ways_to_finish : Addr} {od_ways_to_finish an_ways_to_finish : Option Addr} {sl_ways_to_finish : Array (Option Value)} {oc_ways_to_finish kV_ways_to_finish dc_ways_to_finish pm_ways_to_finish cd_ways_to_finish ct_ways_to_finish : Value}
    {a_Cycle_init : Addr} {od_Cycle_init an_Cycle_init : Option Addr} {sl_Cycle_init : Array (Option Value)} {oc_Cycle_init kV_Cycle_init dc_Cycle_init pm_Cycle_init cd_Cycle_init ct_Cycle_init : Value}
    {a_read_cycles : Addr} {od_read_cycles an_read_cycles : Option Addr} {sl_read_cycles : Array (Option Value)} {oc_read_cycles kV_read_cycles dc_read_cycles pm_read_cycles cd_read_cycles ct_read_cycles : Value}
    {a_count_ways_of : Addr} {od_count_ways_of an_count_ways_of : Option Addr} {sl_count_ways_of : Array (Option Value)} {oc_count_ways_of kV_count_ways_of dc_count_ways_of pm_count_ways_of cd_count_ways_of ct_count_ways_of : Value}
    {a_count_sorting : Addr} {od_count_sorting an_count_sorting : Option Addr} {sl_count_sorting : Array (Option Value)} {oc_count_sorting kV_count_sorting dc_count_sorting pm_count_sorting cd_count_sorting ct_count_sorting : Value}
    {a__law_spring : Addr} {od__law_spring an__law_spring : Option Addr} {sl__law_spring : Array (Option Value)} {oc__law_spring kV__law_spring dc__law_spring pm__law_spring cd__law_spring ct__law_spring : Value}
    {a__law_draw : Addr} {od__law_draw an__law_draw : Option Addr} {sl__law_draw : Array (Option Value)} {oc__law_draw kV__law_draw dc__law_draw pm__law_draw cd__law_draw ct__law_draw : Value}
    {a__law_same : Addr} {od__law_same an__law_same : Option Addr} {sl__law_same : Array (Option Value)} {oc__law_same kV__law_same dc__law_same pm__law_same cd__law_same ct__law_same : Value}
    {a__law_dressed : Addr} {od__law_dressed an__law_dressed : Option Addr} {sl__law_dressed : Array (Option Value)} {oc__law_dressed kV__law_dressed dc__law_dressed pm__law_dressed cd__law_dressed ct__law_dressed : Value}
    {a__law_mixed : Addr} {od__law_mixed an__law_mixed : Option Addr} {sl__law_mixed : Array (Option Value)} {oc__law_mixed kV__law_mixed dc__law_mixed pm__law_mixed cd__law_mixed ct__law_mixed : Value}
    {a__law_order : Addr} {od__law_order an__law_order : Option Addr} {sl__law_order : Array (Option Value)} {oc__law_order kV__law_order dc__law_order pm__law_order cd__law_order ct__law_order : Value}
    {a__law_cycles : Addr} {od__law_cycles an__law_cycles : Option Addr} {sl__law_cycles : Array (Option Value)} {oc__law_cycles kV__law_cycles dc__law_cycles pm__law_cycles cd__law_cycles ct__law_cycles : Value}
    {a__law_ways : Addr} {od__law_ways an__law_ways : Option Addr} {sl__law_ways : Array (Option Value)} {oc__law_ways kV__law_ways dc__law_ways pm__law_ways cd__law_ways ct__law_ways : Value}
    {a__law_count : Addr} {od__law_count an__law_count : Option Addr} {sl__law_count : Array (Option Value)} {oc__law_count kV__law_count dc__law_count pm__law_count cd__law_count ct__law_count : Value}
    {a_law : Addr} {od_law an_law : Option Addr} {sl_law : Array (Option Value)} {oc_law kV_law dc_law pm_law cd_law ct_law : Value}
    (z_len : PySem.W.nsIn K mainGlobals "len" = some none)
    (z_range : PySem.W.nsIn K mainGlobals "range" = some none)
    (z_list : PySem.W.nsIn K mainGlobals "list" = some none)
    (z_tuple : PySem.W.nsIn K mainGlobals "tuple" = some none)
    (z_int : PySem.W.nsIn K mainGlobals "int" = some none)
    (z_bool : PySem.W.nsIn K mainGlobals "bool" = some none)
    (z_str : PySem.W.nsIn K mainGlobals "str" = some none)
    (z_isinstance : PySem.W.nsIn K mainGlobals "isinstance" = some none)
    (z_min : PySem.W.nsIn K mainGlobals "min" = some none)
    (z_max : PySem.W.nsIn K mainGlobals "max" = some none)
    (z_set : PySem.W.nsIn K mainGlobals "set" = some none)
    (z_all : PySem.W.nsIn K mainGlobals "all" = some none)
    (z_repr : PySem.W.nsIn K mainGlobals "repr" = some none)
    (z_zip : PySem.W.nsIn K mainGlobals "zip" = some none)
    (z_abs : PySem.W.nsIn K mainGlobals "abs" = some none)
    (z_enumerate : PySem.W.nsIn K mainGlobals "enumerate" = some none)
    (z_sum : PySem.W.nsIn K mainGlobals "sum" = some none)
    (z_MOST_PLACES : PySem.W.nsIn K mainGlobals "MOST_PLACES" = some (some (.int 200 t_MOST_PLACES)))
    (z_GREATEST_PLACE : PySem.W.nsIn K mainGlobals "GREATEST_PLACE" = some (some (.int 1000000000000000000000000000000 t_GREATEST_PLACE)))
    (z_factorial : PySem.W.nsIn K mainGlobals "factorial" = some (some (.builtin "math.factorial")))
    (z_Cycle : PySem.W.nsIn K mainGlobals "Cycle" = some (some (.ref C_Cycle)))
    (pg_Cycle : PySem.W.plainGet K C_Cycle Str.empty = true)
    (hd_Cycle : PySem.W.hasDictIn K C_Cycle = true)
    (po_Cycle : PySem.W.plainOver K C_Cycle = true)
    (sa_Cycle : PySem.W.findIn K (.ref C_Cycle) "__setattr__" = some (some (.builtin "object.__setattr__")))
    (mk_Cycle : PySem.W.makesIn K C_Cycle = true)
    (kc_Cycle : PySem.W.keepIn K (.ref C_Cycle) = true)
    (nA_Cycle_places : PySem.W.findIn K (.ref C_Cycle) "places" = some none)
    (nA_Cycle_rows : PySem.W.findIn K (.ref C_Cycle) "rows" = some none)
    (nA_Cycle_total : PySem.W.findIn K (.ref C_Cycle) "total" = some none)
    (z_is_whole : PySem.W.nsIn K mainGlobals "is_whole" = some (some (.ref a_is_whole)))
    (l_is_whole : K.lookup a_is_whole = some ⟨oc_is_whole, od_is_whole, .func (PySem.W.fnOf "is_whole" "is_whole" (defArgs s_is_whole) (defBody s_is_whole) (defScope s_is_whole) .none kV_is_whole dc_is_whole pm_is_whole an_is_whole cd_is_whole ct_is_whole), sl_is_whole⟩)
    (c_is_whole : PySem.W.codeIn K cd_is_whole "is_whole" = true)
    (k_is_whole : PySem.W.keepIn K (.ref a_is_whole) = true)
    (z_is_listed : PySem.W.nsIn K mainGlobals "is_listed" = some (some (.ref a_is_listed)))
    (l_is_listed : K.lookup a_is_listed = some ⟨oc_is_listed, od_is_listed, .func (PySem.W.fnOf "is_listed" "is_listed" (defArgs s_is_listed) (defBody s_is_listed) (defScope s_is_listed) .none kV_is_listed dc_is_listed pm_is_listed an_is_listed cd_is_listed ct_is_listed), sl_is_listed⟩)
    (c_is_listed : PySem.W.codeIn K cd_is_listed "is_listed" = true)
    (k_is_listed : PySem.W.keepIn K (.ref a_is_listed) = true)
    (z_is_place : PySem.W.nsIn K mainGlobals "is_place" = some (some (.ref a_is_place)))
    (l_is_place : K.lookup a_is_place = some ⟨oc_is_place, od_is_place, .func (PySem.W.fnOf "is_place" "is_place" (defArgs s_is_place) (defBody s_is_place) (defScope s_is_place) .none kV_is_place dc_is_place pm_is_place an_is_place cd_is_place ct_is_place), sl_is_place⟩)
    (c_is_place : PySem.W.codeIn K cd_is_place "is_place" = true)
    (k_is_place : PySem.W.keepIn K (.ref a_is_place) = true)
    (z_is_place_list : PySem.W.nsIn K mainGlobals "is_place_list" = some (some (.ref a_is_place_list)))
    (l_is_place_list : K.lookup a_is_place_list = some ⟨oc_is_place_list, od_is_place_list, .func (PySem.W.fnOf "is_place_list" "is_place_list" (defArgs s_is_place_list) (defBody s_is_place_list) (defScope s_is_place_list) .none kV_is_place_list dc_is_place_list pm_is_place_list an_is_place_list cd_is_place_list ct_is_place_list), sl_is_place_list⟩)
    (c_is_place_list : PySem.W.codeIn K cd_is_place_list "is_place_list" = true)
    (k_is_place_list : PySem.W.keepIn K (.ref a_is_place_list) = true)
    (z_is_full_list : PySem.W.nsIn K mainGlobals "is_full_list" = some (some (.ref a_is_full_list)))
    (l_is_full_list : K.lookup a_is_full_list = some ⟨oc_is_full_list, od_is_full_list, .func (PySem.W.fnOf "is_full_list" "is_full_list" (defArgs s_is_full_list) (defBody s_is_full_list) (defScope s_is_full_list) .none kV_is_full_list dc_is_full_list pm_is_full_list an_is_full_list cd_is_full_list ct_is_full_list), sl_is_full_list⟩)
    (c_is_full_list : PySem.W.codeIn K cd_is_full_list "is_full_list" = true)
    (k_is_full_list : PySem.W.keepIn K (.ref a_is_full_list) = true)
    (z_check_order : PySem.W.nsIn K mainGlobals "check_order" = some (some (.ref a_check_order)))
    (l_check_order : K.lookup a_check_order = some ⟨oc_check_order, od_check_order, .func (PySem.W.fnOf "check_order" "check_order" (defArgs s_check_order) (defBody s_check_order) (defScope s_check_order) .none kV_check_order dc_check_order pm_check_order an_check_order cd_check_order ct_check_order), sl_check_order⟩)
    (c_check_order : PySem.W.codeIn K cd_check_order "check_order" = true)
    (k_check_order : PySem.W.keepIn K (.ref a_check_order) = true)
    (z_cycles_of : PySem.W.nsIn K mainGlobals "cycles_of" = some (some (.ref a_cycles_of)))
    (l_cycles_of : K.lookup a_cycles_of = some ⟨oc_cycles_of, od_cycles_of, .func (PySem.W.fnOf "cycles_of" "cycles_of" (defArgs s_cycles_of) (defBody s_cycles_of) (defScope s_cycles_of) .none kV_cycles_of dc_cycles_of pm_cycles_of an_cycles_of cd_cycles_of ct_cycles_of), sl_cycles_of⟩)
    (c_cycles_of : PySem.W.codeIn K cd_cycles_of "cycles_of" = true)
    (k_cycles_of : PySem.W.keepIn K (.ref a_cycles_of) = true)
    (z_next_takes : PySem.W.nsIn K mainGlobals "next_takes" = some (some (.ref a_next_takes)))
    (l_next_takes : K.lookup a_next_takes = some ⟨oc_next_takes, od_next_takes, .func (PySem.W.fnOf "next_takes" "next_takes" (defArgs s_next_takes) (defBody s_next_takes) (defScope s_next_takes) .none kV_next_takes dc_next_takes pm_next_takes an_next_takes cd_next_takes ct_next_takes), sl_next_takes⟩)
    (c_next_takes : PySem.W.codeIn K cd_next_takes "next_takes" = true)
    (k_next_takes : PySem.W.keepIn K (.ref a_next_takes) = true)
    (z_ways_to_finish : PySem.W.nsIn K mainGlobals "ways_to_finish" = some (some (.ref a_ways_to_finish)))
    (l_ways_to_finish : K.lookup a_ways_to_finish = some ⟨oc_ways_to_finish, od_ways_to_finish, .func (PySem.W.fnOf "ways_to_finish" "ways_to_finish" (defArgs s_ways_to_finish) (defBody s_ways_to_finish) (defScope s_ways_to_finish) .none kV_ways_to_finish dc_ways_to_finish pm_ways_to_finish an_ways_to_finish cd_ways_to_finish ct_ways_to_finish), sl_ways_to_finish⟩)
    (c_ways_to_finish : PySem.W.codeIn K cd_ways_to_finish "ways_to_finish" = true)
    (k_ways_to_finish : PySem.W.keepIn K (.ref a_ways_to_finish) = true)
    (z_Cycle_init : PySem.W.findIn K (.ref C_Cycle) "__init__" = some (some (.ref a_Cycle_init)))
    (i_Cycle_init : PySem.W.isFn K (.ref a_Cycle_init) = true)
    (l_Cycle_init : K.lookup a_Cycle_init = some ⟨oc_Cycle_init, od_Cycle_init, .func (PySem.W.fnOf "__init__" "Cycle.__init__" (defArgs s_Cycle_init) (defBody s_Cycle_init) (defScope s_Cycle_init) .none kV_Cycle_init dc_Cycle_init pm_Cycle_init an_Cycle_init cd_Cycle_init ct_Cycle_init), sl_Cycle_init⟩)
    (c_Cycle_init : PySem.W.codeIn K cd_Cycle_init "Cycle.__init__" = true)
    (k_Cycle_init : PySem.W.keepIn K (.ref a_Cycle_init) = true)
    (z_read_cycles : PySem.W.nsIn K mainGlobals "read_cycles" = some (some (.ref a_read_cycles)))
    (l_read_cycles : K.lookup a_read_cycles = some ⟨oc_read_cycles, od_read_cycles, .func (PySem.W.fnOf "read_cycles" "read_cycles" (defArgs s_read_cycles) (defBody s_read_cycles) (defScope s_read_cycles) .none kV_read_cycles dc_read_cycles pm_read_cycles an_read_cycles cd_read_cycles ct_read_cycles), sl_read_cycles⟩)
    (c_read_cycles : PySem.W.codeIn K cd_read_cycles "read_cycles" = true)
    (k_read_cycles : PySem.W.keepIn K (.ref a_read_cycles) = true)
    (z_count_ways_of : PySem.W.nsIn K mainGlobals "count_ways_of" = some (some (.ref a_count_ways_of)))
    (l_count_ways_of : K.lookup a_count_ways_of = some ⟨oc_count_ways_of, od_count_ways_of, .func (PySem.W.fnOf "count_ways_of" "count_ways_of" (defArgs s_count_ways_of) (defBody s_count_ways_of) (defScope s_count_ways_of) .none kV_count_ways_of dc_count_ways_of pm_count_ways_of an_count_ways_of cd_count_ways_of ct_count_ways_of), sl_count_ways_of⟩)
    (c_count_ways_of : PySem.W.codeIn K cd_count_ways_of "count_ways_of" = true)
    (k_count_ways_of : PySem.W.keepIn K (.ref a_count_ways_of) = true)
    (z_count_sorting : PySem.W.nsIn K mainGlobals "count_sorting" = some (some (.ref a_count_sorting)))
    (l_count_sorting : K.lookup a_count_sorting = some ⟨oc_count_sorting, od_count_sorting, .func (PySem.W.fnOf "count_sorting" "count_sorting" (defArgs s_count_sorting) (defBody s_count_sorting) (defScope s_count_sorting) .none kV_count_sorting dc_count_sorting pm_count_sorting an_count_sorting cd_count_sorting ct_count_sorting), sl_count_sorting⟩)
    (c_count_sorting : PySem.W.codeIn K cd_count_sorting "count_sorting" = true)
    (k_count_sorting : PySem.W.keepIn K (.ref a_count_sorting) = true)
    (z__law_spring : PySem.W.nsIn K mainGlobals "_law_spring" = some (some (.ref a__law_spring)))
    (l__law_spring : K.lookup a__law_spring = some ⟨oc__law_spring, od__law_spring, .func (PySem.W.fnOf "_law_spring" "_law_spring" (defArgs s__law_spring) (defBody s__law_spring) (defScope s__law_spring) .none kV__law_spring dc__law_spring pm__law_spring an__law_spring cd__law_spring ct__law_spring), sl__law_spring⟩)
    (c__law_spring : PySem.W.codeIn K cd__law_spring "_law_spring" = true)
    (k__law_spring : PySem.W.keepIn K (.ref a__law_spring) = true)
    (z__law_draw : PySem.W.nsIn K mainGlobals "_law_draw" = some (some (.ref a__law_draw)))
    (l__law_draw : K.lookup a__law_draw = some ⟨oc__law_draw, od__law_draw, .func (PySem.W.fnOf "_law_draw" "_law_draw" (defArgs s__law_draw) (defBody s__law_draw) (defScope s__law_draw) .none kV__law_draw dc__law_draw pm__law_draw an__law_draw cd__law_draw ct__law_draw), sl__law_draw⟩)
    (c__law_draw : PySem.W.codeIn K cd__law_draw "_law_draw" = true)
    (k__law_draw : PySem.W.keepIn K (.ref a__law_draw) = true)
    (z__law_same : PySem.W.nsIn K mainGlobals "_law_same" = some (some (.ref a__law_same)))
    (l__law_same : K.lookup a__law_same = some ⟨oc__law_same, od__law_same, .func (PySem.W.fnOf "_law_same" "_law_same" (defArgs s__law_same) (defBody s__law_same) (defScope s__law_same) .none kV__law_same dc__law_same pm__law_same an__law_same cd__law_same ct__law_same), sl__law_same⟩)
    (c__law_same : PySem.W.codeIn K cd__law_same "_law_same" = true)
    (k__law_same : PySem.W.keepIn K (.ref a__law_same) = true)
    (z__law_dressed : PySem.W.nsIn K mainGlobals "_law_dressed" = some (some (.ref a__law_dressed)))
    (l__law_dressed : K.lookup a__law_dressed = some ⟨oc__law_dressed, od__law_dressed, .func (PySem.W.fnOf "_law_dressed" "_law_dressed" (defArgs s__law_dressed) (defBody s__law_dressed) (defScope s__law_dressed) .none kV__law_dressed dc__law_dressed pm__law_dressed an__law_dressed cd__law_dressed ct__law_dressed), sl__law_dressed⟩)
    (c__law_dressed : PySem.W.codeIn K cd__law_dressed "_law_dressed" = true)
    (k__law_dressed : PySem.W.keepIn K (.ref a__law_dressed) = true)
    (z__law_mixed : PySem.W.nsIn K mainGlobals "_law_mixed" = some (some (.ref a__law_mixed)))
    (l__law_mixed : K.lookup a__law_mixed = some ⟨oc__law_mixed, od__law_mixed, .func (PySem.W.fnOf "_law_mixed" "_law_mixed" (defArgs s__law_mixed) (defBody s__law_mixed) (defScope s__law_mixed) .none kV__law_mixed dc__law_mixed pm__law_mixed an__law_mixed cd__law_mixed ct__law_mixed), sl__law_mixed⟩)
    (c__law_mixed : PySem.W.codeIn K cd__law_mixed "_law_mixed" = true)
    (k__law_mixed : PySem.W.keepIn K (.ref a__law_mixed) = true)
    (z__law_order : PySem.W.nsIn K mainGlobals "_law_order" = some (some (.ref a__law_order)))
    (l__law_order : K.lookup a__law_order = some ⟨oc__law_order, od__law_order, .func (PySem.W.fnOf "_law_order" "_law_order" (defArgs s__law_order) (defBody s__law_order) (defScope s__law_order) .none kV__law_order dc__law_order pm__law_order an__law_order cd__law_order ct__law_order), sl__law_order⟩)
    (c__law_order : PySem.W.codeIn K cd__law_order "_law_order" = true)
    (k__law_order : PySem.W.keepIn K (.ref a__law_order) = true)
    (z__law_cycles : PySem.W.nsIn K mainGlobals "_law_cycles" = some (some (.ref a__law_cycles)))
    (l__law_cycles : K.lookup a__law_cycles = some ⟨oc__law_cycles, od__law_cycles, .func (PySem.W.fnOf "_law_cycles" "_law_cycles" (defArgs s__law_cycles) (defBody s__law_cycles) (defScope s__law_cycles) .none kV__law_cycles dc__law_cycles pm__law_cycles an__law_cycles cd__law_cycles ct__law_cycles), sl__law_cycles⟩)
    (c__law_cycles : PySem.W.codeIn K cd__law_cycles "_law_cycles" = true)
    (k__law_cycles : PySem.W.keepIn K (.ref a__law_cycles) = true)
    (z__law_ways : PySem.W.nsIn K mainGlobals "_law_ways" = some (some (.ref a__law_ways)))
    (l__law_ways : K.lookup a__law_ways = some ⟨oc__law_ways, od__law_ways, .func (PySem.W.fnOf "_law_ways" "_law_ways" (defArgs s__law_ways) (defBody s__law_ways) (defScope s__law_ways) .none kV__law_ways dc__law_ways pm__law_ways an__law_ways cd__law_ways ct__law_ways), sl__law_ways⟩)
    (c__law_ways : PySem.W.codeIn K cd__law_ways "_law_ways" = true)
    (k__law_ways : PySem.W.keepIn K (.ref a__law_ways) = true)
    (z__law_count : PySem.W.nsIn K mainGlobals "_law_count" = some (some (.ref a__law_count)))
    (l__law_count : K.lookup a__law_count = some ⟨oc__law_count, od__law_count, .func (PySem.W.fnOf "_law_count" "_law_count" (defArgs s__law_count) (defBody s__law_count) (defScope s__law_count) .none kV__law_count dc__law_count pm__law_count an__law_count cd__law_count ct__law_count), sl__law_count⟩)
    (c__law_count : PySem.W.codeIn K cd__law_count "_law_count" = true)
    (k__law_count : PySem.W.keepIn K (.ref a__law_count) = true)
    (z_law : PySem.W.nsIn K mainGlobals "law" = some (some (.ref a_law)))
    (l_law : K.lookup a_law = some ⟨oc_law, od_law, .func (PySem.W.fnOf "law" "law" (defArgs s_law) (defBody s_law) (defScope s_law) .none kV_law dc_law pm_law an_law cd_law ct_law), sl_law⟩)
    (c_law : PySem.W.codeIn K cd_law "law" = true)
    (k_law : PySem.W.keepIn K (.ref a_law) = true) :
    ∃ fd : FuncData, (∀ (s : Shared) (v : Value), BindsTo s fd ⟨[v], []⟩ [("script", v)]) ∧ ∀ base : Heap, K.In base → base.Ns mainGlobals mg → LG.FnG l.prog w K mg base CX0 9 fa fd ["script"] (sp_law K) := by
  have e0 := hfa.symm.trans (PySem.W.mg_of X G z_law)
  cases e0
  have F_is_whole := fun_mk (st := s_is_whole) l_is_whole c_is_whole k_is_whole
  have B_is_whole := F_is_whole.binds (ps := ["value"]) fun _ _ _ _ _ _ us hl => match us, hl with | [_], _ => rfl
  have F_is_listed := fun_mk (st := s_is_listed) l_is_listed c_is_listed k_is_listed
  have B_is_listed := F_is_listed.binds (ps := ["value"]) fun _ _ _ _ _ _ us hl => match us, hl with | [_], _ => rfl
  have F_is_place := fun_mk (st := s_is_place) l_is_place c_is_place k_is_place
  have B_is_place := F_is_place.binds (ps := ["value"]) fun _ _ _ _ _ _ us hl => match us, hl with | [_], _ => rfl
  have F_is_place_list := fun_mk (st := s_is_place_list) l_is_place_list c_is_place_list k_is_place_list
  have B_is_place_list := F_is_place_list.binds (ps := ["value"]) fun _ _ _ _ _ _ us hl => match us, hl with | [_], _ => rfl
  have F_is_full_list := fun_mk (st := s_is_full_list) l_is_full_list c_is_full_list k_is_full_list
  have B_is_full_list := F_is_full_list.binds (ps := ["value"]) fun _ _ _ _ _ _ us hl => match us, hl with | [_], _ => rfl
  have F_check_order := fun_mk (st := s_check_order) l_check_order c_check_order k_check_order
  have B_check_order := F_check_order.binds (ps := ["value"]) fun _ _ _ _ _ _ us hl => match us, hl with | [_], _ => rfl
  have F_cycles_of := fun_mk (st := s_cycles_of) l_cycles_of c_cycles_of k_cycles_of
  have B_cycles_of := F_cycles_of.binds (ps := ["order"]) fun _ _ _ _ _ _ us hl => match us, hl with | [_], _ => rfl
  have F_next_takes := fun_mk (st := s_next_takes) l_next_takes c_next_takes k_next_takes
  have B_next_takes := F_next_takes.binds (ps := ["places", "gap", "left"]) fun _ _ _ _ _ _ us hl => match us, hl with | [_, _, _], _ => rfl
  have F_ways_to_finish := fun_mk (st := s_ways_to_finish) l_ways_to_finish c_ways_to_finish k_ways_to_finish
  have B_ways_to_finish := F_ways_to_finish.binds (ps := ["places"]) fun _ _ _ _ _ _ us hl => match us, hl with | [_], _ => rfl
  have F_Cycle_init := fun_mk (st := s_Cycle_init) l_Cycle_init c_Cycle_init k_Cycle_init
  have B_Cycle_init := F_Cycle_init.binds (ps := ["self", "places"]) fun _ _ _ _ _ _ us hl => match us, hl with | [_, _], _ => rfl
  have F_read_cycles := fun_mk (st := s_read_cycles) l_read_cycles c_read_cycles k_read_cycles
  have B_read_cycles := F_read_cycles.binds (ps := ["order"]) fun _ _ _ _ _ _ us hl => match us, hl with | [_], _ => rfl
  have F_count_ways_of := fun_mk (st := s_count_ways_of) l_count_ways_of c_count_ways_of k_count_ways_of
  have B_count_ways_of := F_count_ways_of.binds (ps := ["cycles"]) fun _ _ _ _ _ _ us hl => match us, hl with | [_], _ => rfl
  have F_count_sorting := fun_mk (st := s_count_sorting) l_count_sorting c_count_sorting k_count_sorting
  have B_count_sorting := F_count_sorting.binds (ps := ["order"]) fun _ _ _ _ _ _ us hl => match us, hl with | [_], _ => rfl
  have F__law_spring := fun_mk (st := s__law_spring) l__law_spring c__law_spring k__law_spring
  have B__law_spring := F__law_spring.binds (ps := ["script"]) fun _ _ _ _ _ _ us hl => match us, hl with | [_], _ => rfl
  have F__law_draw := fun_mk (st := s__law_draw) l__law_draw c__law_draw k__law_draw
  have B__law_draw := F__law_draw.binds (ps := ["spring", "many"]) fun _ _ _ _ _ _ us hl => match us, hl with | [_, _], _ => rfl
  have F__law_same := fun_mk (st := s__law_same) l__law_same c__law_same k__law_same
  have B__law_same := F__law_same.binds (ps := ["found", "due"]) fun _ _ _ _ _ _ us hl => match us, hl with | [_, _], _ => rfl
  have F__law_dressed := fun_mk (st := s__law_dressed) l__law_dressed c__law_dressed k__law_dressed
  have B__law_dressed := F__law_dressed.binds (ps := ["spring", "value"]) fun _ _ _ _ _ _ us hl => match us, hl with | [_, _], _ => rfl
  have F__law_mixed := fun_mk (st := s__law_mixed) l__law_mixed c__law_mixed k__law_mixed
  have B__law_mixed := F__law_mixed.binds (ps := ["spring", "row"]) fun _ _ _ _ _ _ us hl => match us, hl with | [_, _], _ => rfl
  have F__law_order := fun_mk (st := s__law_order) l__law_order c__law_order k__law_order
  have B__law_order := F__law_order.binds (ps := ["spring", "size"]) fun _ _ _ _ _ _ us hl => match us, hl with | [_, _], _ => rfl
  have F__law_cycles := fun_mk (st := s__law_cycles) l__law_cycles c__law_cycles k__law_cycles
  have B__law_cycles := F__law_cycles.binds (ps := ["order"]) fun _ _ _ _ _ _ us hl => match us, hl with | [_], _ => rfl
  have F__law_ways := fun_mk (st := s__law_ways) l__law_ways c__law_ways k__law_ways
  have B__law_ways := F__law_ways.binds (ps := ["cycle"]) fun _ _ _ _ _ _ us hl => match us, hl with | [_], _ => rfl
  have F__law_count := fun_mk (st := s__law_count) l__law_count c__law_count k__law_count
  have B__law_count := F__law_count.binds (ps := ["order"]) fun _ _ _ _ _ _ us hl => match us, hl with | [_], _ => rfl
  have F_law := fun_mk (st := s_law) l_law c_law k_law
  have B_law := F_law.binds (ps := ["script"]) fun _ _ _ _ _ _ us hl => match us, hl with | [_], _ => rfl
  refine ⟨PySem.W.fnOf "law" "law" (defArgs s_law) (defBody s_law) (defScope s_law) .none kV_law dc_law pm_law an_law cd_law ct_law, fun s v => .of_eq rfl, fun base _ _ => ?_⟩
  exact ok_law (({
    n_len := PySem.W.mg_none_of X G z_len,
    n_range := PySem.W.mg_none_of X G z_range,
    n_list := PySem.W.mg_none_of X G z_list,
    n_tuple := PySem.W.mg_none_of X G z_tuple,
    n_int := PySem.W.mg_none_of X G z_int,
    n_bool := PySem.W.mg_none_of X G z_bool,
    n_str := PySem.W.mg_none_of X G z_str,
    n_isinstance := PySem.W.mg_none_of X G z_isinstance,
    n_min := PySem.W.mg_none_of X G z_min,
    n_max := PySem.W.mg_none_of X G z_max,
    n_set := PySem.W.mg_none_of X G z_set,
    n_all := PySem.W.mg_none_of X G z_all,
    n_repr := PySem.W.mg_none_of X G z_repr,
    n_zip := PySem.W.mg_none_of X G z_zip,
    n_abs := PySem.W.mg_none_of X G z_abs,
    n_enumerate := PySem.W.mg_none_of X G z_enumerate,
    n_sum := PySem.W.mg_none_of X G z_sum,
    t_MOST_PLACES := t_MOST_PLACES, g_MOST_PLACES := PySem.W.mg_of X G z_MOST_PLACES,
    t_GREATEST_PLACE := t_GREATEST_PLACE, g_GREATEST_PLACE := PySem.W.mg_of X G z_GREATEST_PLACE,
    g_factorial := PySem.W.mg_of X G z_factorial,
    nA_Cycle_places := nA_Cycle_places,
    nA_Cycle_rows := nA_Cycle_rows,
    nA_Cycle_total := nA_Cycle_total,
    C_Cycle := C_Cycle, g_Cycle := PySem.W.mg_of X G z_Cycle, cl_Cycle := ⟨pg_Cycle, hd_Cycle, po_Cycle, sa_Cycle⟩,
    a_is_whole := a_is_whole, d_is_whole := _, f_is_whole := F_is_whole, b_is_whole := B_is_whole, g_is_whole := PySem.W.mg_of X G z_is_whole,
    a_is_listed := a_is_listed, d_is_listed := _, f_is_listed := F_is_listed, b_is_listed := B_is_listed, g_is_listed := PySem.W.mg_of X G z_is_listed,
    a_is_place := a_is_place, d_is_place := _, f_is_place := F_is_place, b_is_place := B_is_place, g_is_place := PySem.W.mg_of X G z_is_place,
    a_is_place_list := a_is_place_list, d_is_place_list := _, f_is_place_list := F_is_place_list, b_is_place_list := B_is_place_list, g_is_place_list := PySem.W.mg_of X G z_is_place_list,
    a_is_full_list := a_is_full_list, d_is_full_list := _, f_is_full_list := F_is_full_list, b_is_full_list := B_is_full_list, g_is_full_list := PySem.W.mg_of X G z_is_full_list,
    a_check_order := a_check_order, d_check_order := _, f_check_order := F_check_order, b_check_order := B_check_order, g_check_order := PySem.W.mg_of X G z_check_order,
    a_cycles_of := a_cycles_of, d_cycles_of := _, f_cycles_of := F_cycles_of, b_cycles_of := B_cycles_of, g_cycles_of := PySem.W.mg_of X G z_cycles_of,
    a_next_takes := a_next_takes, d_next_takes := _, f_next_takes := F_next_takes, b_next_takes := B_next_takes, g_next_takes := PySem.W.mg_of X G z_next_takes,
    a_ways_to_finish := a_ways_to_finish, d_ways_to_finish := _, f_ways_to_finish := F_ways_to_finish, b_ways_to_finish := B_ways_to_finish, g_ways_to_finish := PySem.W.mg_of X G z_ways_to_finish,
    a_Cycle_init := a_Cycle_init, d_Cycle_init := _, f_Cycle_init := F_Cycle_init, b_Cycle_init := B_Cycle_init, mk_Cycle := ⟨mk_Cycle, z_Cycle_init, i_Cycle_init, kc_Cycle⟩,
    a_read_cycles := a_read_cycles, d_read_cycles := _, f_read_cycles := F_read_cycles, b_read_cycles := B_read_cycles, g_read_cycles := PySem.W.mg_of X G z_read_cycles,
    a_count_ways_of := a_count_ways_of, d_count_ways_of := _, f_count_ways_of := F_count_ways_of, b_count_ways_of := B_count_ways_of, g_count_ways_of := PySem.W.mg_of X G z_count_ways_of,
    a_count_sorting := a_count_sorting, d_count_sorting := _, f_count_sorting := F_count_sorting, b_count_sorting := B_count_sorting, g_count_sorting := PySem.W.mg_of X G z_count_sorting,
    a__law_spring := a__law_spring, d__law_spring := _, f__law_spring := F__law_spring, b__law_spring := B__law_spring, g__law_spring := PySem.W.mg_of X G z__law_spring,
    a__law_draw := a__law_draw, d__law_draw := _, f__law_draw := F__law_draw, b__law_draw := B__law_draw, g__law_draw := PySem.W.mg_of X G z__law_draw,
    a__law_same := a__law_same, d__law_same := _, f__law_same := F__law_same, b__law_same := B__law_same, g__law_same := PySem.W.mg_of X G z__law_same,
    a__law_dressed := a__law_dressed, d__law_dressed := _, f__law_dressed := F__law_dressed, b__law_dressed := B__law_dressed, g__law_dressed := PySem.W.mg_of X G z__law_dressed,
    a__law_mixed := a__law_mixed, d__law_mixed := _, f__law_mixed := F__law_mixed, b__law_mixed := B__law_mixed, g__law_mixed := PySem.W.mg_of X G z__law_mixed,
    a__law_order := a__law_order, d__law_order := _, f__law_order := F__law_order, b__law_order := B__law_order, g__law_order := PySem.W.mg_of X G z__law_order,
    a__law_cycles := a__law_cycles, d__law_cycles := _, f__law_cycles := F__law_cycles, b__law_cycles := B__law_cycles, g__law_cycles := PySem.W.mg_of X G z__law_cycles,
    a__law_ways := a__law_ways, d__law_ways := _, f__law_ways := F__law_ways, b__law_ways := B__law_ways, g__law_ways := PySem.W.mg_of X G z__law_ways,
    a__law_count := a__law_count, d__law_count := _, f__law_count := F__law_count, b__law_count := B__law_count, g__law_count := PySem.W.mg_of X G z__law_count,
    a_law := fa, d_law := _, f_law := F_law, b_law := B_law, g_law := PySem.W.mg_of X G z_law } : Env K mg))
theorem walk {l : PySem.W.OpenLaw} {q : Program} {loose : List Str} {XP : (Str → Option Value) → Heap → Prop} {YP : World → Heap → Prop} {d : DefRec} {K : Params → PySem.W.Frag} (hn : l.most = some 63) (hdf : d.params.defaults = [])
    (hY : ∀ (w : World) (h : Heap), YP w h → (K w.params).In h)
    (F : ∀ (w : World) (mg : Str → Option Value) (fa : Addr) (h : Heap), (K w.params).In h → h.Ns mainGlobals mg → mg d.name = some (.ref fa) →
      ∃ fd : FuncData, (∀ (s : Shared) (u : Value), BindsTo s fd ⟨[u], []⟩ [("script", u)]) ∧ ∀ base : Heap, (K w.params).In base → base.Ns mainGlobals mg → LG.FnG l.prog w (K w.params) mg base CX0 9 fa fd ["script"] (sp_law (K w.params))) :
    PySem.W.WalkO q loose XP YP l.row.toRowW d [] (fun f vs => PySem.call f vs) :=
  LG.walk_ofG (n := 63) (k := 9) (x := "script") (sp := sp_law) hn (by decide) hdf ⟨rfl, by decide, by decide⟩ hY F (fun _ _ a ns hl _ hS => ⟨a, ns, rfl, hS, hl, fun _ => rfl⟩)
end LP
open PySem PySem.W PyProof.Rows
set_option maxRecDepth 100000 in
set_option maxHeartbeats 0 in
theorem PySem.Challenge.cw_leftreturn_k42_sorting_schedules_counted_holds : PySem.Challenge.rw_leftreturn_k42_sorting_schedules_counted.Holds := by
  w_on; o_law; k_head; (case hw => w_witness2)
  k_fill
  refine LP.walk (l := PySem.Challenge.rw_leftreturn_k42_sorting_schedules_counted) rfl rfl (fun w h Y => PySem.W.kIn_of Y) ?F
  case F =>
    intro w mg fa h KX G hmg
    refine' LP.all_mk KX G hmg ?z_len ?z_range ?z_list ?z_tuple ?z_int ?z_bool ?z_str ?z_isinstance ?z_min ?z_max ?z_set ?z_all ?z_repr ?z_zip ?z_abs ?z_enumerate ?z_sum ?z_MOST_PLACES ?z_GREATEST_PLACE ?z_factorial ?z_Cycle ?pg_Cycle ?hd_Cycle ?po_Cycle ?sa_Cycle ?mk_Cycle ?kc_Cycle ?nA_Cycle_places ?nA_Cycle_rows ?nA_Cycle_total ?z_is_whole ?l_is_whole ?c_is_whole ?k_is_whole ?z_is_listed ?l_is_listed ?c_is_listed ?k_is_listed ?z_is_place ?l_is_place ?c_is_place ?k_is_place ?z_is_place_list ?l_is_place_list ?c_is_place_list ?k_is_place_list ?z_is_full_list ?l_is_full_list ?c_is_full_list ?k_is_full_list ?z_check_order ?l_check_order ?c_check_order ?k_check_order ?z_cycles_of ?l_cycles_of ?c_cycles_of ?k_cycles_of ?z_next_takes ?l_next_takes ?c_next_takes ?k_next_takes ?z_ways_to_finish ?l_ways_to_finish ?c_ways_to_finish ?k_ways_to_finish ?z_Cycle_init ?i_Cycle_init ?l_Cycle_init ?c_Cycle_init ?k_Cycle_init ?z_read_cycles ?l_read_cycles ?c_read_cycles ?k_read_cycles ?z_count_ways_of ?l_count_ways_of ?c_count_ways_of ?k_count_ways_of ?z_count_sorting ?l_count_sorting ?c_count_sorting ?k_count_sorting ?z__law_spring ?l__law_spring ?c__law_spring ?k__law_spring ?z__law_draw ?l__law_draw ?c__law_draw ?k__law_draw ?z__law_same ?l__law_same ?c__law_same ?k__law_same ?z__law_dressed ?l__law_dressed ?c__law_dressed ?k__law_dressed ?z__law_mixed ?l__law_mixed ?c__law_mixed ?k__law_mixed ?z__law_order ?l__law_order ?c__law_order ?k__law_order ?z__law_cycles ?l__law_cycles ?c__law_cycles ?k__law_cycles ?z__law_ways ?l__law_ways ?c__law_ways ?k__law_ways ?z__law_count ?l__law_count ?c__law_count ?k__law_count ?z_law ?l_law ?c_law ?k_law
    (case z_len => k_is)
    (case z_range => k_is)
    (case z_list => k_is)
    (case z_tuple => k_is)
    (case z_int => k_is)
    (case z_bool => k_is)
    (case z_str => k_is)
    (case z_isinstance => k_is)
    (case z_min => k_is)
    (case z_max => k_is)
    (case z_set => k_is)
    (case z_all => k_is)
    (case z_repr => k_is)
    (case z_zip => k_is)
    (case z_abs => k_is)
    (case z_enumerate => k_is)
    (case z_sum => k_is)
    (case z_MOST_PLACES => k_is)
    (case z_GREATEST_PLACE => k_is)
    (case z_factorial => k_is)
    (case z_Cycle => k_is)
    (case pg_Cycle => k_is)
    (case hd_Cycle => k_is)
    (case po_Cycle => k_is)
    (case sa_Cycle => k_is)
    (case mk_Cycle => k_is)
    (case kc_Cycle => k_is)
    (case nA_Cycle_places => k_is)
    (case nA_Cycle_rows => k_is)
    (case nA_Cycle_total => k_is)
    (case z_is_whole => k_is)
    (case l_is_whole => k_is)
    (case c_is_whole => k_is)
    (case k_is_whole => k_is)
    (case z_is_listed => k_is)
    (case l_is_listed => k_is)
    (case c_is_listed => k_is)
    (case k_is_listed => k_is)
    (case z_is_place => k_is)
    (case l_is_place => k_is)
    (case c_is_place => k_is)
    (case k_is_place => k_is)
    (case z_is_place_list => k_is)
    (case l_is_place_list => k_is)
    (case c_is_place_list => k_is)
    (case k_is_place_list => k_is)
    (case z_is_full_list => k_is)
    (case l_is_full_list => k_is)
    (case c_is_full_list => k_is)
    (case k_is_full_list => k_is)
    (case z_check_order => k_is)
    (case l_check_order => k_is)
    (case c_check_order => k_is)
    (case k_check_order => k_is)
    (case z_cycles_of => k_is)
    (case l_cycles_of => k_is)
    (case c_cycles_of => k_is)
    (case k_cycles_of => k_is)
    (case z_next_takes => k_is)
    (case l_next_takes => k_is)
    (case c_next_takes => k_is)
    (case k_next_takes => k_is)
    (case z_ways_to_finish => k_is)
    (case l_ways_to_finish => k_is)
    (case c_ways_to_finish => k_is)
    (case k_ways_to_finish => k_is)
    (case z_Cycle_init => k_is)
    (case i_Cycle_init => k_is)
    (case l_Cycle_init => k_is)
    (case c_Cycle_init => k_is)
    (case k_Cycle_init => k_is)
    (case z_read_cycles => k_is)
    (case l_read_cycles => k_is)
    (case c_read_cycles => k_is)
    (case k_read_cycles => k_is)
    (case z_count_ways_of => k_is)
    (case l_count_ways_of => k_is)
    (case c_count_ways_of => k_is)
    (case k_count_ways_of => k_is)
    (case z_count_sorting => k_is)
    (case l_count_sorting => k_is)
    (case c_count_sorting => k_is)
    (case k_count_sorting => k_is)
    (case z__law_spring => k_is)
    (case l__law_spring => k_is)
    (case c__law_spring => k_is)
    (case k__law_spring => k_is)
    (case z__law_draw => k_is)
    (case l__law_draw => k_is)
    (case c__law_draw => k_is)
    (case k__law_draw => k_is)
    (case z__law_same => k_is)
    (case l__law_same => k_is)
    (case c__law_same => k_is)
    (case k__law_same => k_is)
    (case z__law_dressed => k_is)
    (case l__law_dressed => k_is)
    (case c__law_dressed => k_is)
    (case k__law_dressed => k_is)
    (case z__law_mixed => k_is)
    (case l__law_mixed => k_is)
    (case c__law_mixed => k_is)
    (case k__law_mixed => k_is)
    (case z__law_order => k_is)
    (case l__law_order => k_is)
    (case c__law_order => k_is)
    (case k__law_order => k_is)
    (case z__law_cycles => k_is)
    (case l__law_cycles => k_is)
    (case c__law_cycles => k_is)
    (case k__law_cycles => k_is)
    (case z__law_ways => k_is)
    (case l__law_ways => k_is)
    (case c__law_ways => k_is)
    (case k__law_ways => k_is)
    (case z__law_count => k_is)
    (case l__law_count => k_is)
    (case c__law_count => k_is)
    (case k__law_count => k_is)
    (case z_law => k_is)
    (case l_law => k_is)
    (case c_law => k_is)
    (case k_law => k_is)
