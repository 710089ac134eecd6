import PyProof.Rows.All
import Wide.All
import OpenK.AllK
import Wide.FinOn
import HandS.ForMost
import HandS.IsInst
import HandS.Conv
import HandS.Style
import HandS.Wide
import HandS.SortInts
import HandS.ForExc
import HandS.SetFor
import HandS.Walk
import HandS.Gcd
import HandS.SortKw
import HandS.Dict
import HandS.NoneIn
import HandS.List
import HandS.StrMore
import HandS.RaiseMore
import PyProof.ReprRoads
import PyProof.ReprLen
import HandS.Zip
import HandS.DictComp
import PyProof.TupleOfSeq
import KE.GoesMore
import KE.GoesZip
import HandS.Text
import HandS.More
import HandS.SlotsOwn
import HandS.Property
import HandS.ClsMeth
import KE.DataMinMax
import KE.KDictZip
import PyProof.StrOps2
import HandS.Comp
import HandS.CallLocal
import KE.GoesEnum
import PySem.Challenge.RW_leftreturn_k01_schedules_performed
set_option Elab.async false
set_option linter.all false
set_option maxRecDepth 100000
set_option maxHeartbeats 4000000
/-! defs that may be run only where no repr is under way: the promise FnG beside FnOk; repr of data -/
namespace LG
open PySem PySem.Spec PyProof.Rows L2
structure FnG (P : Program) (w : World) (K : PySem.W.Frag) (mg : Str → Option Value) (base : Heap) (CX : CXT) (k : Nat) (f : Addr) (fd : FuncData) (ps : List Str) (sp : Sp) : Prop where
  arity : ∀ vs H Q E, sp vs H Q E → vs.length = ps.length
  does : ∀ (A : Around) (out : List Env) (s : Shared) (H : Hp) (ar : Args) (us : List Value) (vs : List V) (Q : VK) (E : XK), A.guards = some [] →
    Room k A → Env0 P w K mg base A out s H → BindsTo s fd ar (ps.zip us) → Vals vs us → sp vs H Q E → codeAny (model P w) A (.call (.ref f) ar) (CR CX out P w H s Q E) s
section
variable {P : Program} {w : World} {K : PySem.W.Frag} {mg : Str → Option Value} {base : Heap} {CX : CXT}
theorem FnG.up {j k : Nat} {f : Addr} {fd : FuncData} {ps : List Str} {sp : Sp} (F : FnG P w K mg base CX j f fd ps sp) (h : j ≤ k) : FnG P w K mg base CX k f fd ps sp :=
  ⟨F.arity, fun A out s H ar us vs Q E hg hr => F.does A out s H ar us vs Q E hg (hr.mono h)⟩
theorem fnG_of {k : Nat} {f : Addr} {name qual : Str} {params : Arguments} {body : List Stmt} {scope : Scope} {dV kV doc pm cdv ct oc : Value} {an od : Option Addr} {osl : Array (Option Value)} {N ps : List Str} {sp : Sp}
    (lk : K.lookup f = some ⟨oc, od, .func (PySem.W.fnOf name qual params body scope dV kV doc pm an cdv ct), osl⟩) (cd : PySem.W.codeIn K cdv qual = true) (S : FnScope N ps scope) (ar : ∀ vs H Q E, sp vs H Q E → vs.length = ps.length)
    (hb : ∀ (A : Around) (out : List Env) (s : Shared) (H : Hp) (vs : List V) (Q : VK) (E : XK), A.guards = some [] → Room k (A.deeper (envOfC qual scope s.heap.objs.size f cdv)) → sp vs H Q E →
      ∃ t, PSs (cxOf CX P w K mg base N qual scope f cdv A out s H E) body t ∧ t ⟨fun _ H1 => Q .non H1, Q, fun _ _ => False, fun _ _ => False⟩ (start N vs) H) :
    FnG P w K mg base CX (k + 1) f (PySem.W.fnOf name qual params body scope dV kV doc pm an cdv ct) ps sp := by
  constructor
  · exact ar
  intro A out s H args us vs Q E hgd hr e0 bnd rel want
  obtain ⟨t, der, wish⟩ := hb A out s H vs Q E hgd (hr.deeper _) want
  have old := fun b o (e : base.get? b = some o) => (e0.bs b o e).1
  have kin : K.In s.heap := e0.mod.kin.keeps old
  have slots : ∀ y ∈ ps.zip us, scope.names.lookup y.1 = some .local ∨ scope.names.lookup y.1 = some .cell ∧ ((cellsFrom (s.heap.objs.size + 1) scope.names []).lookup y.1).isSome = true := by
    rintro ⟨nm, v⟩ mem
    have z := S.par nm (List.of_mem_zip mem).1
    exact z.imp id fun c => ⟨c, PySem.W.cellsFrom_some _ _ _ (Or.inl c)⟩
  apply codeAny_call_function hr.depth (kin _ _ lk) rfl S.co S.gen rfl (PySem.W.codeRec_of kin cd)
  apply bnd
  apply wpAny_newFunctionEnv_cells S.kind slots
  rintro env rfl s1 inC
  refine ⟨(e0.mod.nolimit.keeps old).keeps inC.toInCall.keep, ?_⟩
  apply codeAny_func
  have J := inv_start (CX := CX) (E := E) S hr.hd e0 (ar _ _ _ _ want) rel inC
  apply wpAny_mono (der.run [] s1 (start N vs) H _ J wish)
  · intro fl s2 got
    cases fl with
    | next => obtain ⟨σ2, H2, J2, q⟩ := got; exact ⟨V.non, H2, J2.os, J2.bare, J2.base, J2.hok, rfl, q⟩
    | ret u => obtain ⟨v, σ2, H2, J2, rv, q⟩ := got; exact ⟨v, H2, J2.os, J2.bare, J2.base, J2.hok, rv, q⟩
    | brk => obtain ⟨_, _, _, q⟩ := got; exact q.elim
    | cont => obtain ⟨_, _, _, q⟩ := got; exact q.elim
  · exact fun _ _ z => z
/-- a def of the text by its body, where nothing is raised -/
theorem okG {x qual : Str} {st : Stmt} {f : Addr} {fd : FuncData} {N ps : List Str} {k : Nat} {sp : Sp} (F : Fun K x qual st f fd) (S : FnScope N ps (defScope st)) (ar : ∀ vs H Q E, sp vs H Q E → vs.length = ps.length)
    (hb : ∀ (cdv : Value) (A : Around) (out : List Env) (s : Shared) (H : Hp) (vs : List V) (Q : VK) (E : XK), A.guards = some [] → Room k (A.deeper (envOfC qual (defScope st) s.heap.objs.size f cdv)) → sp vs H Q E →
      ∃ t, PSs (cxOf CX0 P w K mg base N qual (defScope st) f cdv A out s H E).nox (defBody st) t ∧ t ⟨fun _ H1 => Q .non H1, Q, fun _ _ => False, fun _ _ => False⟩ (start N vs) H) : FnG P w K mg base CX0 (k + 1) f fd ps sp := by
  obtain ⟨oc, od, kV, doc, pm, an, cdv, ct, osl, rfl, lk, cd⟩ := F.ex
  refine fnG_of lk cd S ar fun A out s H vs Q E hgd hr want => ?_
  obtain ⟨t, der, wish⟩ := hb cdv A out s H vs Q E hgd hr want
  exact ⟨t, der.nox, wish⟩
theorem of_ok {k : Nat} {f : Addr} {fd : FuncData} {ps : List Str} {sp : Sp} (F : FnOk P w K mg base CX k f fd ps sp) : FnG P w K mg base CX k f fd ps sp :=
  ⟨F.len, fun A out s H ar us vs Q E _ hr => F.run A out s H ar us vs Q E hr⟩
end
section
variable {X : Cx} {CX : CXT} {k : Nat} {f : Addr} {fd : FuncData} {ps : List Str} {sp : Sp} {dvs : List V} {ds : List Value} {E : XK} {x : Str} {p pos : Pos} {e : Expr} {es : List Expr} {t : TA}
/-- f(e, ..), f such a def -/
theorem pe_callG (F : FnG X.prog X.w X.K X.mg X.base CX k f fd ps sp) (hgd : X.A.guards = some []) (hr : Room k X.A) (hg : Gl X x) (hm : X.mg x = some (.ref f)) (hk : PySem.W.keepIn X.K (.ref f) = true) (hb : Binds X.K fd ps ds) (hd : Vals dvs ds) (hx : Passes CX X E)
    (ha : PA X (e :: es) t) (hdb : (x == ("__debug__" : Str)) = false := by decide) (he : starEach (e :: es) X.env = (false, eval e X.env) :: starEach es X.env := by rfl) (hpl : (backTo pos (starEach es X.env)).any (·.1) = false := by rfl) :
    PE X (.Call (.Name x p) (e :: es) [] pos) (tCall sp dvs E t) := by
  constructor
  intro pins s σ H Q I want
  apply wpAny_Call_Name_kw (ld_glob I hg hm _ hdb)
  apply PySem.W.callWith_K (h₀ := X.base) I.ok.mod.kin hk (thn (ha.run pos pins s σ H _ I want) _) he hpl
  rintro us s1 ⟨vs, H1, J, rel, q⟩
  have rel2 : Vals (vs ++ dvs) (us ++ ds) := rel.append hd
  have len : (us ++ ds).length = ps.length := rel2.length.symm.trans (F.arity _ _ _ _ q)
  refine ⟨J.kIn, wpAny_call (codeAny_mono (F.does X.A X.stack s1 H1 ⟨us, []⟩ _ _ Q E hgd hr J.env0 (hb s1 us J.kIn len) rel2 q) ?_)⟩
  intro r s2 got
  match r, got with
  | .error err, got => exact hx pins σ H1 s1 err s2 J got
  | .ok (.ret u), got => exact J.after got
  | .ok .next, got => exact got.elim
  | .ok .brk, got => exact got.elim
  | .ok .cont, got => exact got.elim
/-- repr of a list or a tuple of data -/
def rRepr (K : PySem.W.Frag) : List V → Hp → VK → Prop := fun xs H Q => ∃ (a : Addr) (d : PyData), xs = [.ref a] ∧ Dp K H (.ref a) d ∧ d.showable = true ∧ SeqAt.shaped d = true ∧ d.shown.length ≤ sizeLine ∧ Q (.str d.shown) H
theorem call_repr (hgd : X.A.guards = some []) (hu : X.A.units + 66 < cLine) : CallR X (.builtin "repr") (rRepr X.K) := by
  rintro pins s σ H xs us Q I rel ⟨a, d, rfl, hd, sh, sp, len, q⟩
  obtain ⟨u, rfl, ru⟩ := vals1 rel
  obtain ⟨as, rd⟩ := Dp.reads I d (.ref a) u hd ru
  cases ru
  have dep := SeqAt.depth_of_shaped sp
  refine repr_of_reads' rd sh (PyData.noDict_hsm (PyData.hasDict_of_canLay d (SeqAt.canLay_of_shaped sp))) hgd (by omega) (fun _ _ z => z) (fun h1 u1 tk keep => ?_) len
  exact ⟨.str d.shown, H, I.kept keep, ⟨_, rfl⟩, q⟩
end
/-! the end of a law's row -/
theorem law_callG {P : Program} {w : World} {K : PySem.W.Frag} {mg mb : Str → Option Value} {k : Nat} {fa a : Addr} {fd : FuncData} {x : Str} {sp : Sp} {s : Shared} {vs : List Value} {ns : List Int}
    (kin : K.In s.heap) (gns : s.heap.Ns mainGlobals mg) (bns : s.heap.Ns builtinsNs mb) (hbb : ∀ x : Str, x ≠ "__name__" → mb x = bootBuiltins x) (lim : s.heap.NoLimit) (gens : s.gens = #[])
    (obj : s.heap.get? a = some { cls := .type "list", data := .seq vs.toArray }) (hin : IntsAre vs ns) (len : ns.length ≤ sizeLine) (hr : Room k callerA)
    (F : ∀ base : Heap, K.In base → base.Ns mainGlobals mg → FnG P w K mg base CX0 k fa fd [x] sp) (bnd : ∀ (s : Shared) (u : Value), BindsTo s fd ⟨[u], []⟩ [(x, u)])
    (want : ∀ H : Hp, Only H → SqL K H a (ns.map V.int) → sp [.ref a] H (fun v _ => v = .bl true) fun _ _ _ => False) :
    codeAny (model P w) callerA (.call (.ref fa) ⟨[.ref a], []⟩) (fun r s1 => r = .ok (.ret (.bool true)) ∧ OldK s.heap s1.heap ∧ s1.os = s.os ∧ AllBare s1.gens) s := by
  have rel := vals_ints hin
  have nlen := hin.length
  obtain ⟨H, hH⟩ : ∃ H : Hp, ∀ b, H b = if b = a ∧ K.lookup a = none then some (.frz { cls := .type "list", data := .seq vs.toArray } (.lst (ns.map V.int))) else none := ⟨_, fun b => rfl⟩
  have off : ∀ {b o}, s.heap.get? b = some o → (b = a → K.lookup a ≠ none) → H b = none := fun {b o} _ hne => by
    rw [hH, if_neg fun z => hne z.1 z.2]
  have at_ : ∀ b u, H b = some u → b = a ∧ K.lookup a = none ∧ u = .frz { cls := .type "list", data := .seq vs.toArray } (.lst (ns.map V.int)) := fun b u z => by
    rw [hH] at z
    by_cases c : b = a ∧ K.lookup a = none
    · rw [if_pos c] at z; exact ⟨c.1, c.2, (Option.some.inj z).symm⟩
    · rw [if_neg c] at z; cases z
  have only : Only H := fun b => by
    cases z : H b with
    | none => exact Or.inl rfl
    | some u => obtain ⟨_, _, rfl⟩ := at_ b u z; exact Or.inr ⟨_, _, rfl⟩
  have seq : SqL K H a (ns.map V.int) := by
    cases z : K.lookup a with
    | none => exact Or.inl (Or.inr ⟨_, by rw [hH, if_pos ⟨rfl, z⟩]⟩)
    | some o =>
      have e := kin a o z
      rw [obj] at e
      cases e
      exact Or.inr ⟨_, vs.toArray, _, z, rfl, rfl, rfl, by rw [List.size_toArray, nlen]; exact len, by simpa using rel⟩
  have hok : HOk P w H s.heap := fun b u z => by
    obtain ⟨rfl, _, rfl⟩ := at_ b u z
    exact ⟨obj, by rw [List.length_map]; exact len, vs, _, rel, obj⟩
  have kept : ∀ {b o}, s.heap.get? b = some o → H b = none → (hidT s.heap H).get? b = some o := fun e z => hidT_get e z
  have dicts : ∀ {b o es n}, s.heap.get? b = some o → o.data = .dict es n → H b = none := fun {b o es n} e d => off e fun q => by
    rw [q, obj] at e
    cases e
    have d2 : Data.seq vs.toArray _ = Data.dict es n := d
    cases d2
  have names : ∀ {b m}, s.heap.Ns b m → (hidT s.heap H).Ns b m := fun ⟨o, es, n, e, d, r⟩ => ⟨o, es, n, kept e (dicts e d), d, r⟩
  have kin2 : K.In (hidT s.heap H) := fun b o e => kept (kin b o e) (off (kin b o e) fun q => by rw [← q, e]; exact fun z => nomatch z)
  have lim2 : (hidT s.heap H).NoLimit := let ⟨mc, l1, l2⟩ := lim; ⟨mc, names l1, l2⟩
  have e0 : Env0 P w K mg (hidT s.heap H) callerA [] s H := ⟨rfl, ⟨kin2, names gns, ⟨mb, names bns, hbb⟩, lim2⟩, fun b o e => of_hidT e, Nat.le_of_eq (hidT_size _ _), trivial, fun b m => (by cases (show b ∈ ([] : List Addr) from m)), hok, .of_eq gens⟩
  refine codeAny_mono ((F _ kin2 (names gns)).does callerA [] s H ⟨[.ref a], []⟩ [.ref a] [.ref a] _ _ rfl hr e0 (bnd s (.ref a)) (.cons rfl .nil) (want H only seq)) ?_
  intro r s1 got
  match r, got with
  | .error _, got => exact got.elim
  | .ok .next, got => exact got.elim
  | .ok .brk, got => exact got.elim
  | .ok .cont, got => exact got.elim
  | .ok (.ret u), got =>
    obtain ⟨v, H1, os, bare, un, hok1, ru, q⟩ := got
    cases (show v = .bl true from q)
    cases (show u = Value.bool true from ru)
    refine ⟨rfl, OldK.of_keep fun b o e => ?_, os, bare⟩
    cases z : H b with
    | none => exact un.keep b o e z (by intro y; cases (show b ∈ ([] : List Addr) from y)) (by simp)
    | some u =>
      obtain ⟨rfl, _, rfl⟩ := at_ b u z
      have y := un.frzs b _ _ z
      rw [obj] at e
      cases e
      exact (hok1 b _ y).1
theorem walk_ofG {l : PySem.W.OpenLaw} {n k : Nat} {q : Program} {loose : List Str} {XP : (Str → Option Value) → Heap → Prop} {YP : World → Heap → Prop} {d : DefRec} {K : Params → PySem.W.Frag} {sp : PySem.W.Frag → Sp} {x : Str}
    (hn : l.most = some n) (hn2 : n ≤ sizeLine) (hdf : d.params.defaults = []) (hr : Room k callerA) (hY : ∀ (w : World) (h : Heap), YP w h → (K w.params).In h)
    (F : ∀ (w : World) (mg : Str → Option Value) (fa : Addr) (h : Heap), (K w.params).In h → h.Ns mainGlobals mg → mg d.name = some (.ref fa) →
      ∃ fd : FuncData, (∀ (s : Shared) (u : Value), BindsTo s fd ⟨[u], []⟩ [(x, u)]) ∧ ∀ base : Heap, (K w.params).In base → base.Ns mainGlobals mg → FnG l.prog w (K w.params) mg base CX0 k fa fd [x] (sp (K w.params)))
    (want : ∀ (K : PySem.W.Frag) (H : Hp) (a : Addr) (ns : List Int), ns.length ≤ n → Only H → SqL K H a (ns.map V.int) → sp K [.ref a] H (fun v _ => v = .bl true) fun _ _ _ => False) :
    PySem.W.WalkO q loose XP YP l.row.toRowW d [] (fun f vs => PySem.call f vs) := by
  apply Att.attach_call hn hdf
  intro w s0 s1 mg mb fa o pm cd doc a vs ns G Y ho hd hcd hmg obj hin len gens
  have kin := hY w _ Y
  obtain ⟨fd, bnd, does⟩ := F w mg fa _ kin G.T.g hmg
  exact law_callG kin G.T.g G.T.b G.T.builtins G.T.nolimit gens obj hin (Nat.le_trans len hn2) hr does bnd fun H o q => want _ H a ns len o q
end LG

namespace LT
open PySem PySem.Spec PyProof.Rows L2
section
variable {prog : Program} {w : World} {A : Around} {E : Value → Shared → Prop} {s : Shared}
/-- what is to be iterated is gathered into a new list; the heap does not get shorter -/
theorem gather {Q : List Value → Shared → Prop} (l : Addr) {T : String} {o : Obj} {its : Array Value} {n : Nat} (hT : T = "list" ∨ T = "tuple") (ho : s.heap.get? l = some o) (hc : o.cls = .type T) (hd : o.data = .seq its n) (hz : its.size ≤ sizeLine)
    (fin : ∀ h1 : Heap, s.heap.objs.size ≤ h1.objs.size → (∀ b u, s.heap.get? b = some u → h1.get? b = some u) → Q its.toList { s with heap := h1 }) : wpAny (model prog w) A (collect (.ref l)) Q E s := by
  unfold collect
  refine wpAny_bind (wpAny_runValue (codeAny_builtin PySem.F.entry_proto_collect ?_))
  rw [Around.under_plainId PySem.F.plain_proto_collect _]
  refine wpAny_bind (m := newList []) (wpAny_newObj_type ?_)
  refine wpAny_pure ⟨plainId_quiet PySem.F.plain_list_iadd _, codeAny_builtin PySem.F.entry_list_iadd ?_⟩
  rw [Around.under_plainId PySem.F.plain_list_iadd _]
  generalize hp : s.heap.push { cls := .type "list", data := .seq ([] : List Value).toArray } = h0
  have e0 : h0.get? s.heap.objs.size = some { cls := .type "list", data := .seq #[] 0 } := by rw [← hp]; exact Heap.get?_push_size _ rfl
  have k0 : ∀ b u, s.heap.get? b = some u → h0.get? b = some u := fun b u q => by rw [← hp]; exact Heap.get?_push_of_some _ q
  have z0 : s.heap.objs.size ≤ h0.objs.size := by rw [← hp, Heap.size_push]; exact Nat.le_succ _
  have e1 := Heap.get?_update_self (Obj.mapSeq (· ++ its)) e0 rfl
  have last : Q its.toList { s with heap := h0.update s.heap.objs.size (Obj.mapSeq (· ++ its)) } :=
    fin _ (by rw [Heap.size_update]; exact z0) fun b u q => (Heap.get?_update_other _ _ (Nat.ne_of_gt (Heap.lt_size q))).trans (k0 b u q)
  have tail : wpAny (model prog w) A (do match (← load s.heap.objs.size).data with
      | Data.seq xs _ => pure xs.toList
      | _ => unsupported "internal:collect") Q E { s with heap := h0.update s.heap.objs.size (Obj.mapSeq (· ++ its)) } := by
    refine wpAny_bind (wpAny_load e1 (wpAny_pure ?_))
    show Q ((#[] : Array Value) ++ its).toList _
    rw [show ((#[] : Array Value) ++ its).toList = its.toList by simp]
    exact last
  refine wpAny_mono (wpAny_extend_seq (hsz := hz) (A := A) (R := fun r t => r = .ok (.ret (.ref s.heap.objs.size)) ∧ t = { s with heap := h0.update s.heap.objs.size (Obj.mapSeq (· ++ its)) })
    (s := { s with heap := h0 }) _ l _ 0 hT e0 (k0 _ _ ho) hc hd ⟨rfl, rfl⟩) (fun r t q => ?_) fun _ t q => absurd q.1 (by simp)
  cases r with
  | done f =>
    obtain ⟨e, rfl⟩ := q
    cases e
    exact tail
  | again c => exact ⟨q.1, codeAny_mono q.2 fun r u hr => by obtain ⟨rfl, rfl⟩ := hr; exact tail⟩
open Srt SrtO in
/-- sorted(x), x a list or a tuple: a new list -/
theorem sorted_seq {l : Addr} {T : String} {o : Obj} {vs : List Value} {n : Nat} {ltv : Value → Value → Bool} {Q : Value → Shared → Prop} (O : Swo ltv) (hT : T = "list" ∨ T = "tuple") (ho : s.heap.get? l = some o) (hc : o.cls = .type T) (hd : o.data = .seq vs.toArray n) (hz : vs.length ≤ sizeLine)
    (hS : 2 ≤ vs.length → ∀ (h₁ : Heap) (a : Addr), h₁.get? a = some (seqObj "list" vs.toArray 0) → (∀ b o, s.heap.get? b = some o → b ≠ a ∧ h₁.get? b = some o) → SortableO prog w A.in1.in1 { s with heap := h₁ } a vs ltv)
    (h : ∀ (out : List Value) (p : Addr) (h' : Heap), Srtd ltv out → Stb ltv out vs → s.heap.objs.size ≤ p → (∃ e, h'.get? p = some (seqObj "list" out.toArray e)) → (∀ b o, s.heap.get? b = some o → h'.get? b = some o) → Q (.ref p) { s with heap := h' }) :
    wpAny (model prog w) A (call (.builtin "sorted") [.ref l]) Q E s := by
  refine Calls.call_function_entry kind_sorted plain_sorted entry_sorted (args_sorted1 _) ?_
  unfold Builtin.«sorted»
  refine wpAny_bind (m := checkCount "sorted" 1 1 _) (wpAny_pure ?_)
  refine wpAny_bind (gather l hT ho hc hd (by rw [List.size_toArray]; exact hz) fun h1 hz2 k1 => ?_)
  refine wpAny_bind (wpAny_newList ?_ (by simpa using hz))
  have hoL : (h1.push (seqObj "list" vs.toArray 0)).get? h1.objs.size = some (seqObj "list" vs.toArray 0) := Heap.get?_push_size _ rfl
  have keep : ∀ b o, s.heap.get? b = some o → b ≠ h1.objs.size ∧ (h1.push (seqObj "list" vs.toArray 0)).get? b = some o := fun b o q =>
    ⟨Nat.ne_of_lt (Heap.lt_size (k1 b o q)), Heap.get?_push_of_some _ (k1 b o q)⟩
  show wpAny _ _ _ _ _ { s with heap := h1.push (seqObj "list" vs.toArray 0) }
  refine wpAny_bind (wpAny_holding (wpAny_call_entry slot_list_sort ⟨_, hoL, rfl⟩ entry_list_sort (list_sort_ord O hoL hz (fun h2 => hS h2 _ _ hoL keep) fun out hs hb => ⟨_, rfl, ?_⟩) (args_list_sort _)))
  refine wpAny_pure ⟨_, rfl, h out _ _ hs hb hz2 (sortedHeap_at hoL) fun b o q => ?_⟩
  obtain ⟨ne, q1⟩ := keep b o q
  rw [sortedHeap_old ne (Heap.lt_size q1)]
  exact q1
end
/-- sorted(xs), xs a list or a tuple of ints -/
def rSortedE (K : PySem.W.Frag) : List V → Hp → VK → Prop := fun vs H Q => ∃ (a : Addr) (ns : List Int), vs = [V.ref a] ∧ (SqL K H a (ns.map V.int) ∨ SqT K H a (ns.map V.int)) ∧
  ∀ (ns' : List Int) (p : Addr), ns'.Perm ns → ns'.Pairwise (· ≤ ·) → H p = none → Q (.ref p) (upd H p (.lst (ns'.map V.int)))
theorem cr_sortedE {X : Cx} : CallR X (.builtin "sorted") (rSortedE X.K) := by
  intro pins s σ H vs us Q I r h
  obtain ⟨a, ns, rfl, hs, q⟩ := h
  rcases hs with hs | hs
  · exact cr_sortedI pins s σ H _ us Q I r ⟨a, ns, rfl, hs, q⟩
  obtain ⟨its, rv, ⟨o, ho, hc, n, hd⟩, hz⟩ := I.tuple hs
  rw [Vals.ref1 r]
  have hi := rv.ints
  refine sorted_seq SrtO.swo_int (.inr rfl) ho hc hd (by rw [← rv.length]; exact hz) (fun h2 h₁ a' _ _ => SrtO.ints_sortable hi h2) fun out p h' h1 h2 le at_ keep => ?_
  obtain ⟨k1, k2, k3⟩ := SrtO.ints_out hi h1 h2
  obtain ⟨ep, he'⟩ := at_
  have hlen : ((out.map SrtO.iv).map V.int).length ≤ sizeLine := by
    rw [List.length_map, k2.length_eq]
    rw [List.length_map] at hz
    exact hz
  exact ⟨.ref p, upd H p (.lst ((out.map SrtO.iv).map V.int)), I.laid (t' := s.toks) keep le ⟨hlen, out, ep, vals_of_ints k1, he'⟩, rfl, q _ _ k2 k3 (I.hok.fresh le)⟩
/-- len(set(xs)), xs a list or a tuple of ints, each once -/
def tLenSetS (K : PySem.W.Frag) (ta : TE) : TE := fun σ H Q => ta σ H fun x H1 => ∃ (l : Addr) (ns : List Int), x = .ref l ∧ (SqL K H1 l (ns.map V.int) ∨ SqT K H1 l (ns.map V.int)) ∧ ns.Nodup ∧ ns.length ≤ 4000 ∧ Q (.int (ns.length : Nat)) H1
theorem pe_lenSetS {X : Cx} {a : Expr} {ta : TE} {p p2 q pos : Pos} (hg : Gl X "len") (hm : X.mg "len" = none) (hg2 : Gl X "set") (hm2 : X.mg "set" = none) (ha : PE X a ta) (hc : X.calm = true := by rfl)
    (na : starEach [a] X.env = (false, eval a X.env) :: starEach [] X.env := by rfl) : PE X (.Call (.Name "len" p) [.Call (.Name "set" p2) [a] [] q] [] pos) (tLenSetS X.K ta) := by
  refine ⟨fun pins s σ H Q I h => ?_⟩
  refine Call_ (ld_blt I hg hm boot_len ?_)
  refine PyProof.Rows.callWith_builtin1 (PyProof.Rows.args_cons ?_ rfl) rfl rfl
  refine Call_ (ld_blt I hg2 hm2 boot_set ?_)
  refine PyProof.Rows.callWith_type1 (PyProof.Rows.args_cons (thn (ha.run pins s σ H _ I h) fun v s1 ⟨x, H1, I1, r1, q1⟩ => PyProof.Rows.args_nil ?_) na) na rfl
  obtain ⟨l, ns, rfl, hq, hnd, hl, q1⟩ := q1
  cases r1
  rcases hq with hq | hq
  · obtain ⟨its, r, pl, hz⟩ := I1.list hq
    have hlen : its.toArray.size = ns.length := by rw [List.size_toArray, ← r.length, List.length_map]
    refine call_set_list (I1.ok.hd hc) pl.isList (by simpa using RZ.intsAre_vals r) (by rw [hlen]; unfold scanBound; omega) fun h' tk hS hk => ?_
    refine PyProof.Rows.args_nil ?_
    rw [hlen, RZ.firstMet_nodup hnd ns.length (Nat.le_refl _), List.take_length] at hS
    obtain ⟨o, es, ep, t, ho, hex, hd, _, _, _, hf, hn⟩ := hS
    have I2 : Inv X pins σ H1 { s1 with heap := h', toks := tk } := I1.kept fun b o e => hk b o (Heap.lt_size e) e
    exact call_len_set ho hex hd hf (by rw [hn] <;> omega) ⟨.int ns.length, H1, I2.tok _, ⟨_, by rw [hn]⟩, q1⟩
  · obtain ⟨its, r, pl, hz⟩ := I1.tuple hq
    refine call_set_tupI ns (I1.ok.hd hc) (show s1.heap.IsTuple l its.toArray from pl) (by simpa using r.ints) (by unfold scanBound; omega) fun h' tk c R hcn hk => ?_
    refine PyProof.Rows.args_nil ?_
    obtain ⟨o, es, ep, t, ho, hex, hd, g, nd, mem, _, hf, hn, _⟩ := R
    have I2 : Inv X pins σ H1 { s1 with heap := h', toks := tk } := I1.kept fun b o e => hk b o e
    have hperm : (es.toList.map keyOf).Perm ns := (List.perm_ext_iff_of_nodup nd hnd).mpr fun k => by rw [← mem k, decide_eq_true_iff]
    have hes : es.size = ns.length := by have := hperm.length_eq; simpa using this
    exact call_len_set ho hex hd hf (by omega) ⟨.int ns.length, H1, I2.tok _, ⟨_, by rw [hes]⟩, q1⟩
/-- a dict comprehension over it: Pv by the turn and the heap (the new dict at D within) -/
theorem dc_it {J : It} {n : Nat} {G : Hp → Prop} {Y : Nat → Hp → V → Hp → Prop} (w : Walk J n G Y) {g : TG} {tt : TT} {tk tv : TE} {vs : List Nat} {σ : L2.St} {H1 : Hp} {D : Addr} {Qd : Hp → Prop} (Pv : Nat → Hp → Prop) (h0 : Pv 0 (upd H1 D (.dK []))) (hG : ∀ i H, i ≤ n → Pv i H → G H)
    (hs : ∀ i x H H', i < n → Pv i H → Y i H x H' → g x (wipe σ vs) H' fun σ2 H2 => wipe σ2 vs = wipe σ vs ∧ tt σ2 H2 fun b H3 =>
      if b = true then tk σ2 H3 fun y H4 => tv σ2 H4 fun z H5 => ∃ kvs k, y = kV k ∧ H5 D = some (.dK kvs) ∧ kvs.length < sizeLine ∧ Pv (i + 1) (upd H5 D (.dK (putK kvs k z))) else Pv (i + 1) H3) (hd : ∀ H, Pv n H → Qd H) :
    ∃ W : Nat → Nat → Hp → Prop, (∃ m, W 0 m (upd H1 D (.dK []))) ∧ ∀ i m H, W i m H →
      (J.stop i H ∧ Qd H) ∨ (J.go i H ∧ ∃ Nx : Hp → Prop, (∀ H', Nx H' → ∃ m', m' < m ∧ W (i + 1) m' H') ∧ ∀ x H', J.yld i H x H' → g x (wipe σ vs) H' fun σ2 H2 => wipe σ2 vs = wipe σ vs ∧ tt σ2 H2 fun b H3 =>
        if b = true then tk σ2 H3 fun y H4 => tv σ2 H4 fun z H5 => ∃ kvs k, y = kV k ∧ H5 D = some (.dK kvs) ∧ kvs.length < sizeLine ∧ Nx (upd H5 D (.dK (putK kvs k z))) else Nx H3) := by
  refine ⟨fun i m H => m = n - i ∧ i ≤ n ∧ Pv i H, ⟨n, by simp, Nat.zero_le _, h0⟩, ?_⟩
  rintro i m H ⟨rfl, hi, p⟩
  have q := hG i H hi p
  by_cases hlt : i < n
  · refine .inr ⟨w.goes i H hlt q, Pv (i + 1), fun H' p' => ⟨n - (i + 1), by omega, rfl, hlt, p'⟩, fun x H' y => hs i x H H' hlt p (w.yields i H x H' hlt q y)⟩
  · obtain rfl : i = n := by omega
    exact .inl ⟨w.stops H q, hd H p⟩
end LT

namespace LT
open PySem PySem.Spec PyProof.Rows L2
open Sem (wp)
open AutoSeq1 (wpAny_loadPart')
theorem meets_enum_tup (l : Addr) (items : Array Value) (n : Nat) (dct : Option Addr) (sl : Array (Option Value)) :
    Meets (Builtin.«enumerate.__new__» ⟨[.type "enumerate", .ref l], []⟩) (fun _ R s => s.heap.get? l = some { cls := .type "tuple", dict := dct, data := .seq items n, slots := sl } ∧
      R (.ok (.ret (.ref (s.heap.objs.size + 1))))
        { s with heap := (s.heap.push { cls := .type "tuple_iterator", data := .fields #[.ref l, .int 0 0] }).push { cls := .type "enumerate", data := .fields #[.none, .bool false, .ref s.heap.objs.size, rawInt 0, .none, .none] } }) :=
  .of_wp fun prog w A R s h => by
    obtain ⟨hp, g, d, tk, os⟩ := s
    obtain ⟨hl, h⟩ := h
    have sub := sub_enumerate
    have tup : Heap.IsTuple (Shared.heap ⟨hp, g, d, tk, os⟩) l items := ⟨_, hl, rfl, n, rfl⟩
    wp_walk using wpAny_loadPart' hl
    refine wpAny_stack_any fun st => wpAny_pure ?_
    have z : (hp.push { cls := .type "tuple_iterator", data := .fields #[.ref l, .int 0 0] }).objs.size = hp.objs.size + 1 := Heap.size_push ..
    split
    · rename_i c _ _ _ _ _
      cases (c == Value.type "enumerate")
      · wp_walk using wpAny_loadPart' hl, wpAny_pyIter_tuple tup
        exact ⟨_, rfl, by rw [z]; exact h⟩
      · wp_walk using wpAny_loadPart' hl, wpAny_pyIter_tuple tup
        exact ⟨_, rfl, by rw [z]; exact h⟩
    · wp_walk using wpAny_loadPart' hl, wpAny_pyIter_tuple tup
      exact ⟨_, rfl, by rw [z]; exact h⟩
section
variable {prog : Program} {w : World} {A : Around} {E : Value → Shared → Prop} {s : Shared}
theorem call_enum_tup {l : Addr} {items : Array Value} {Q : Value → Shared → Prop} (hl : s.heap.IsTuple l items)
    (h : ∀ h', IsEnum h' (s.heap.objs.size + 1) s.heap.objs.size 0 .none → h'.IsTupleIter s.heap.objs.size l 0 →
      (∀ b o, s.heap.get? b = some o → h'.get? b = some o) → Q (.ref (s.heap.objs.size + 1)) { s with heap := h' }) :
    wpAny (model prog w) A (call (.type "enumerate") [.ref l]) Q E s := by
  obtain ⟨⟨c, dct, dt, sl⟩, get, hc, n, hd⟩ := hl
  cases (show c = .type "tuple" from hc)
  cases (show dt = .seq items n from hd)
  refine callType_new F.called_enumerate (by decide) (F.typeCall_enumerate_1 _) (F.newCall_enumerate_1 _) (fun obj => F.args_object_init_2 obj _) F.entry_enumerate_new (meets_enum_tup l items n dct sl) ⟨get, ?_⟩
  have z : (s.heap.push { cls := .type "tuple_iterator", data := .fields #[.ref l, .int 0 0] }).objs.size = s.heap.objs.size + 1 := Heap.size_push ..
  have he := Heap.get?_push_size (s.heap.push { cls := .type "tuple_iterator", data := .fields #[.ref l, .int 0 0] }) (o := { cls := .type "enumerate", data := .fields #[.none, .bool false, .ref s.heap.objs.size, rawInt 0, .none, .none] }) rfl
  rw [z] at he
  exact ⟨⟨_, he, rfl⟩, h _ he ⟨_, Heap.get?_push_of_some _ (Heap.get?_push_size _ rfl), rfl, rfl⟩ fun b o x => Heap.get?_push_of_some _ (Heap.get?_push_of_some _ x)⟩
end
/-- the tuple at a, each item in a new pair with its place -/
def IteT (K : PySem.W.Frag) (a : Addr) : It :=
  ⟨fun i H => ∃ (xs : List V) (x : V), SqT K H a xs ∧ xs[i]? = some x, fun i H v H' => ∃ T x, v = .ref T ∧ H T = none ∧ H' = upd H T (.tup [.int (i : Nat), x]) ∧ ∀ xs, SqT K H a xs → xs[i]? = some x, fun i H => ∃ xs : List V, SqT K H a xs ∧ xs.length = i⟩
theorem apart_it {h : Heap} {it a : Addr} {i : Nat} {items : Array Value} (x : h.IsTupleIter it a i) (p : h.IsTuple a items) : a ≠ it := by
  rintro rfl
  obtain ⟨o, g, c, _⟩ := x
  obtain ⟨o2, g2, c2, _⟩ := p
  rw [g] at g2
  cases g2
  rw [c] at c2
  exact absurd c2 (by decide)
theorem turn_enumT {P : Program} {w : World} {K : PySem.W.Frag} {elts : List Expr} {kk : Nat} {tpos : Pos} (a e it : Addr) :
    Turn P w K (.Tuple elts kk tpos) (IteT K a) [e, it] e (fun i h => (∃ old, IsEnum h e it ((i : Nat) : Int) old) ∧ h.IsTupleIter it a i ∧ e ≠ it) where
  mem := List.mem_cons_self
  obj := fun i h ⟨⟨old, he⟩, ⟨o, ho, _, hd⟩, _⟩ b hb => by
    rcases List.mem_cons.mp hb with rfl | hb
    · exact ⟨_, he, fun v q => by cases q⟩
    · rw [List.mem_singleton.mp hb]; exact ⟨o, ho, fun v q => by rw [hd] at q; cases q⟩
  keep := fun i h h' ⟨⟨old, he⟩, hi, ne⟩ k => ⟨⟨old, k e List.mem_cons_self _ he⟩, hi.at fun o q => k it (List.mem_cons_of_mem _ List.mem_cons_self) o q, ne⟩
  item := by
    intro X hP hw hK hc i pins s σ H E I hf ⟨⟨old, he⟩, hit, ne⟩ ⟨xs, x, hq, hx⟩
    subst hP hw hK
    obtain ⟨its, rv, p, hz⟩ := I.tuple hq
    have tup : s.heap.IsTuple a its.toArray := p
    obtain ⟨u, hu, ru⟩ := rv.get hx
    have hi : i < its.toArray.size := by
      have := (List.getElem?_eq_some_iff.mp hu).1
      simpa using this
    have nai := apart_it hit tup
    have nea : e ≠ a := by
      rintro rfl
      obtain ⟨o2, g2, c2, _⟩ := tup
      rw [show s.heap.get? e = _ from he] at g2
      cases g2
      have c3 : Value.type "enumerate" = Value.type "tuple" := c2
      exact absurd c3 (by decide)
    have lte : e < s.heap.objs.size := Heap.lt_size he
    have lti : it < s.heap.objs.size := let ⟨_, q, _⟩ := hit; Heap.lt_size q
    refine wpAny_pyNext_enum_itemD (Draws.tuple (A := X.A.in1) (show X.A.in1.handled = none from I.ok.hd hc) it a nai its.toArray) he ⟨hit, tup⟩ hi ne (by simp [ne, nea]) fun y h1 tk hy out st new sz kept => ?_
    have ey : y = u := by
      have q : its.toArray[i]? = some u := by simpa using hu
      rw [q] at hy; exact (Option.some.inj hy).symm
    subst ey
    refine ⟨_, rfl, wpAny_letOwnedTupleGo_enum (s := { s with heap := h1, toks := tk + 1 }) out fun h2 he2 sb => ?_⟩
    have new2 := (sb.2 _ (Nat.ne_of_gt lte)).trans new
    have ob : ObjOk X.prog X.w (upd H s.heap.objs.size (.tup [.int (i : Nat), x])) h2 s.heap.objs.size (.tup [.int (i : Nat), x]) :=
      ⟨by show 2 ≤ sizeLine; decide, [.int i tk, y], .cons ⟨_, rfl⟩ (.cons ru .nil), ⟨_, new2, rfl, _, rfl⟩⟩
    have J : Inv X pins σ (upd H s.heap.objs.size (.tup [.int (i : Nat), x])) { s with heap := h2, toks := tk + 1 } :=
      I.turnedNew (ch := [e, it]) (fun b o nb q => (sb.2 b fun z => nb (by simp [z])).trans (kept b o (fun z => nb (by simp [z])) (fun z => nb (by simp [z])) q)) hf (Nat.le_refl _) ob
    refine ⟨.ref s.heap.objs.size, _, J, rfl, ⟨_, x, rfl, I.hok.fresh (Nat.le_refl _), rfl, fun ys hy => by rw [I.tuple_inj hy hq]; exact hx⟩, ⟨⟨y, ?_⟩, st.1.at fun o q => (sb.2 it ne.symm).trans q, ne⟩, fun b hb => ?_⟩
    · rw [show ((i + 1 : Nat) : Int) = (i : Int) + 1 by omega]; exact he2
    · have lt : b < s.heap.objs.size := by
        rcases List.mem_cons.mp hb with rfl | hb
        · exact lte
        · rw [List.mem_singleton.mp hb]; exact lti
      rw [upd_ne (Nat.ne_of_lt lt)]
      exact (hf b hb).1
  done := by
    intro X hP hw hK hc i pins s σ H E I hf ⟨⟨old, he⟩, hit, ne⟩ ⟨xs, hq, hx⟩
    subst hP hw hK
    obtain ⟨its, rv, p, hz⟩ := I.tuple hq
    have tup : s.heap.IsTuple a its.toArray := p
    have nai := apart_it hit tup
    have hl := rv.length
    have ei : i = its.toArray.size := by rw [List.size_toArray, ← hl]; exact hx.symm
    subst ei
    obtain ⟨f0, f1, f2, f3, f4, f5⟩ := hf it (by simp)
    exact wpAny_pyNext_enum_endD (Draws.tuple (A := X.A.in1) (show X.A.in1.handled = none from I.ok.hd hc) it a nai its.toArray) he ⟨hit, tup⟩ fun h1 eb => ⟨rfl, I.turned (t' := s.toks) (fun b o nb q => eb b o nb q) f0 f1 f3 f4 f5⟩
  self := fun A i s Q E ⟨⟨_, he⟩, _⟩ h => wpAny_pyIter_enum he h
def iEnumT (K : PySem.W.Frag) (ta : TA) : TI := fun σ H R => ta σ H fun vs H1 => ∃ a xs, vs = [.ref a] ∧ SqT K H1 a xs ∧ R (IteT K a) H1
/-- enumerate(t), t a tuple -/
theorem pi_enumT {X : Cx} {e : Expr} {ta : TA} {p pos tpos : Pos} {elts : List Expr} {kk : Nat} (hg : Gl X "enumerate") (hm : X.mg "enumerate" = none) (ha : PA X [e] ta) (hs : starEach [e] X.env = [(false, eval e X.env)] := by rfl) :
    PI X (.Tuple elts kk tpos) (.Call (.Name "enumerate" p) [e] [] pos) (iEnumT X.K ta) := by
  constructor
  intro pins s σ H R I want
  refine Call_ (ld_blt I hg hm boot_enumerate (PyProof.Rows.callWith_type1 (thn (ha.run pos pins s σ H _ I want) ?_) hs rfl))
  rintro us s1 ⟨vs, H1, J, rel, a, xs, rfl, hq, q⟩
  obtain ⟨u, rfl, ru⟩ := vals1 rel
  cases ru
  obtain ⟨its, rv, p2, hz⟩ := J.tuple hq
  refine call_enum_tup p2 fun h1 he hit keep => wpAny_pyIter_enum he ?_
  have J2 : Inv X pins σ H1 { s1 with heap := h1 } := J.kept (t' := s1.toks) keep
  refine ⟨s1.heap.objs.size + 1, [s1.heap.objs.size + 1, s1.heap.objs.size], _, _, H1, rfl, J2, turn_enumT a _ _, ⟨⟨.none, he⟩, hit, Nat.succ_ne_self _⟩, fun b hb => ?_, q⟩
  have le : s1.heap.objs.size ≤ b := by
    rcases List.mem_cons.mp hb with rfl | hb
    · exact Nat.le_add_right _ _
    · rw [List.mem_singleton.mp hb]; exact Nat.le_refl _
  exact J.fpOk le (J.hok.fresh le)
theorem walk_enumT {K : PySem.W.Frag} {a : Addr} {xs : List V} : Walk (IteT K a) xs.length (fun H => SqT K H a xs) (YPair (fun i => some (.int (i : Nat))) (fun i => xs[i]?)) := by
  refine ⟨fun i _ hi q => ⟨xs, xs[i], q, by simp [hi]⟩, fun _ q => ⟨xs, q, rfl⟩, fun i H v H' _ q y => ?_⟩
  obtain ⟨T, x, h1, h2, h3, h4⟩ := y
  exact ⟨T, .int (i : Nat), x, h1, h2, h3, rfl, h4 xs q⟩
/-- two derivations of one expression: either reading serves -/
theorem PE.or {X : Cx} {e : Expr} {t u : TE} (h1 : PE X e t) (h2 : PE X e u) : PE X e (fun σ H Q => t σ H Q ∨ u σ H Q) :=
  ⟨fun pins s σ H Q I w => w.elim (h1.run pins s σ H Q I) (h2.run pins s σ H Q I)⟩
theorem PI.or {X : Cx} {tg e : Expr} {t u : TI} (h1 : PI X tg e t) (h2 : PI X tg e u) : PI X tg e (fun σ H R => t σ H R ∨ u σ H R) :=
  ⟨fun pins s σ H R I w => w.elim (h1.run pins s σ H R I) (h2.run pins s σ H R I)⟩
end LT

namespace LT
open PySem PySem.Spec PyProof.Rows L2
/-- zip of the tuple at a and the list at b, as many turns as both have -/
def ItzTL (K : PySem.W.Frag) (a b : Addr) : It :=
  ⟨fun i H => ∃ (xs ys : List V) (x y : V), SqT K H a xs ∧ SqL K H b ys ∧ xs[i]? = some x ∧ ys[i]? = some y,
    fun i H v H' => ∃ T x y, v = .ref T ∧ H T = none ∧ H' = upd H T (.tup [x, y]) ∧ (∀ xs, SqT K H a xs → xs[i]? = some x) ∧ ∀ ys, SqL K H b ys → ys[i]? = some y,
    fun i H => ∃ xs ys : List V, SqT K H a xs ∧ SqL K H b ys ∧ xs.length = i ∧ ys.length = i⟩
theorem sep_tl {z TI TO i1 i2 a b : Addr} (D : ZipApart z TI TO i1 i2 a b) : ZipSep2 z TI TO i1 i2 [i1, a] [i2, b] where
  TIz := D.TIz
  TOz := D.TOz
  TITO := D.TITO
  TIi1 := D.TIi1
  mem1 := List.mem_cons_self
  zf1 := by simp [D.i1z.symm, D.l1z.symm]
  Tf1 := by simp [D.TOi1, D.l1TO.symm]
  TIi2 := D.TIi2
  mem2 := List.mem_cons_self
  zf2 := by simp [D.i2z.symm, D.l2z.symm]
  Tf2 := by simp [D.TOi2, D.l2TO.symm]
  sep1_2 := by simp [D.i12, D.l2i1.symm]
  sep2_1 := by simp [D.i12.symm, D.l1i2.symm]
theorem turn_zipTL {P : Program} {w : World} {K : PySem.W.Frag} {elts : List Expr} {kk : Nat} {tpos : Pos} {a b z TI TO i1 i2 : Addr} (D : ZipApart z TI TO i1 i2 a b) :
    Turn P w K (.Tuple elts kk tpos) (ItzTL K a b) [z, TI, TO, i1, i2] z (fun i h => IsZip h z TI TO .none ∧ IsTupOf2 h TI (.ref i1) (.ref i2) ∧ (∃ x y, IsTupOf2 h TO x y) ∧ h.IsTupleIter i1 a i ∧ h.IsListIter i2 b i) where
  mem := List.mem_cons_self
  obj := fun i h ⟨hz, hTI, ⟨x, y, hTO⟩, ⟨o1, e1, _, d1⟩, ⟨o2, e2, _, d2⟩⟩ c hc => by
    simp only [List.mem_cons, List.not_mem_nil, or_false] at hc
    rcases hc with rfl | rfl | rfl | rfl | rfl
    · exact ⟨_, hz, fun v q => by cases q⟩
    · exact ⟨_, hTI, fun v q => by cases q⟩
    · exact ⟨_, hTO, fun v q => by cases q⟩
    · exact ⟨o1, e1, fun v q => by rw [d1] at q; cases q⟩
    · exact ⟨o2, e2, fun v q => by rw [d2] at q; cases q⟩
  keep := fun i h h' ⟨hz, hTI, ⟨x, y, hTO⟩, h1, h2⟩ k =>
    ⟨k z (by simp) _ hz, k TI (by simp) _ hTI, ⟨x, y, k TO (by simp) _ hTO⟩, h1.at fun o q => k i1 (by simp) o q, h2.at fun o q => k i2 (by simp) o q⟩
  item := by
    intro X hP hw hK hc i pins s σ H E I hf ⟨hz, hTI, ⟨x0, y0, hTO⟩, h1, h2⟩ ⟨xs, ys, x, y, qx, qy, hx, hy⟩
    subst hP hw hK
    obtain ⟨its, rv, p, _⟩ := I.tuple qx
    obtain ⟨its2, rv2, p2, _⟩ := I.list qy
    have tup : s.heap.IsTuple a its.toArray := p
    obtain ⟨u, hu, ru⟩ := rv.get hx
    obtain ⟨u2, hu2, ru2⟩ := rv2.get hy
    have li : i < its.toArray.size := by have := (List.getElem?_eq_some_iff.mp hu).1; simpa using this
    have li2 : i < its2.toArray.size := by have := (List.getElem?_eq_some_iff.mp hu2).1; simpa using this
    have hh : X.A.in1.handled = none := I.ok.hd hc
    have ltz : z < s.heap.objs.size := Heap.lt_size hz
    refine wpAny_pyNext_zipD2_item (sep_tl D) (Draws.tuple hh i1 a D.l1i1 its.toArray) (Draws.list hh i2 b D.l2i2 its2.toArray) hz hTI hTO ⟨h1, tup⟩ ⟨h2, p2.isList⟩ li li2 fun v1 v2 h3 tk y1 y2 z3 TO3 st1 st2 new sz kept => ?_
    have ev1 : v1 = u := by
      have q : its.toArray[i]? = some u := by simpa using hu
      rw [q] at y1; exact (Option.some.inj y1).symm
    have ev2 : v2 = u2 := by
      have q : its2.toArray[i]? = some u2 := by simpa using hu2
      rw [q] at y2; exact (Option.some.inj y2).symm
    subst ev1 ev2
    refine ⟨_, rfl, wpAny_letOwnedTupleGo_zip (s := { s with heap := h3, toks := tk }) z3 fun h4 z4 sb => ?_⟩
    have new4 := (sb.2 _ (Nat.ne_of_gt ltz)).trans new
    have ob : ObjOk X.prog X.w (upd H s.heap.objs.size (.tup [x, y])) h4 s.heap.objs.size (.tup [x, y]) :=
      ⟨by show 2 ≤ sizeLine; decide, [v1, v2], .cons ru (.cons ru2 .nil), ⟨_, new4, rfl, _, rfl⟩⟩
    have J : Inv X pins σ (upd H s.heap.objs.size (.tup [x, y])) { s with heap := h4, toks := tk } :=
      I.turnedNew (ch := [z, TI, TO, i1, i2]) (fun c o nb q => (sb.2 c fun e => nb (by simp [e])).trans (kept c o (fun e => nb (by simp [e])) (fun e => nb (by simp [e])) (fun e => nb (by simp [e])) (fun e => nb (by simp [e])) q)) hf (Nat.le_refl _) ob
    refine ⟨.ref s.heap.objs.size, _, J, rfl, ⟨_, x, y, rfl, I.hok.fresh (Nat.le_refl _), rfl, fun l hl => by rw [I.tuple_inj hl qx]; exact hx, fun l hl => by rw [I.list_inj hl qy]; exact hy⟩, ⟨z4, ?_, ⟨v1, v2, ?_⟩, ?_, ?_⟩, fun c hm => ?_⟩
    · exact (sb.2 _ D.TIz).trans (kept _ _ D.TIz D.TITO D.TIi1 D.TIi2 hTI)
    · exact (sb.2 _ D.TOz).trans TO3
    · exact st1.1.at fun o q => (sb.2 _ D.i1z).trans q
    · exact st2.1.at fun o q => (sb.2 _ D.i2z).trans q
    · have lt : c < s.heap.objs.size := by
        have hm2 := hm
        simp only [List.mem_cons, List.not_mem_nil, or_false] at hm2
        rcases hm2 with rfl | rfl | rfl | rfl | rfl
        · exact ltz
        · exact Heap.lt_size hTI
        · exact Heap.lt_size hTO
        · obtain ⟨_, e1, _⟩ := h1; exact Heap.lt_size e1
        · obtain ⟨_, e2, _⟩ := h2; exact Heap.lt_size e2
      rw [upd_ne (Nat.ne_of_lt lt)]
      exact (hf c hm).1
  done := by
    intro X hP hw hK hc i pins s σ H E I hf ⟨hz, hTI, ⟨x0, y0, hTO⟩, h1, h2⟩ ⟨xs, ys, qx, qy, e1, e2⟩
    subst hP hw hK
    obtain ⟨its, rv, p, _⟩ := I.tuple qx
    obtain ⟨its2, rv2, p2, _⟩ := I.list qy
    have tup : s.heap.IsTuple a its.toArray := p
    have n1 : i = its.toArray.size := by rw [List.size_toArray, ← rv.length]; exact e1.symm
    have n2 : i = its2.toArray.size := by rw [List.size_toArray, ← rv2.length]; exact e2.symm
    have hh : X.A.in1.handled = none := I.ok.hd hc
    exact wpAny_pyNext_zipD2_end (sep_tl D) (Draws.tuple hh i1 a D.l1i1 its.toArray) (Draws.list hh i2 b D.l2i2 its2.toArray) hz hTI hTO ⟨h1, tup⟩ ⟨h2, p2.isList⟩ (Nat.le_of_eq n1) (Nat.le_of_eq n2) (.inl n1) fun h3 tk kept =>
      ⟨rfl, I.turnedL (ch := [z, TI, TO, i1, i2]) (fun c o nb q => kept c o (fun e => nb (by simp [e])) (fun e => nb (by simp [e])) (fun e => nb (by simp [e])) (fun e => nb (by simp [e])) q) hf⟩
  self := fun A i s Q E st h => wpAny_pyIter_zip st.1 h
def iZipTL (K : PySem.W.Frag) (ta : TA) : TI := fun σ H R => ta σ H fun vs H1 => ∃ a b xs ys, vs = [.ref a, .ref b] ∧ SqT K H1 a xs ∧ SqL K H1 b ys ∧ R (ItzTL K a b) H1
theorem pi_zipTL {X : Cx} {e e2 : Expr} {ta : TA} {p pos tpos : Pos} {elts : List Expr} {kk : Nat} (hg : Gl X "zip") (hm : X.mg "zip" = none) (ha : PA X [e, e2] ta)
    (hs : starEach [e, e2] X.env = (false, eval e X.env) :: starEach [e2] X.env := by rfl) (hpl : (backTo pos (starEach [e2] X.env)).any (·.1) = false := by rfl) :
    PI X (.Tuple elts kk tpos) (.Call (.Name "zip" p) [e, e2] [] pos) (iZipTL X.K ta) := by
  constructor
  intro pins s σ H R I want
  refine Call_ (ld_blt I hg hm PyProof.Rows.boot_zip (PyProof.Rows.callWith_type1 (thn (ha.run pos pins s σ H _ I want) ?_) hs hpl))
  rintro us s1 ⟨vs, H1, J, rel, a, b, xs, ys, rfl, qx, qy, q⟩
  obtain ⟨u1, u2, rfl, r1, r2⟩ := vals2 rel
  cases r1
  cases r2
  obtain ⟨its, rv, p1, _⟩ := J.tuple qx
  obtain ⟨its2, rv2, p2, _⟩ := J.list qy
  have la : a < s1.heap.objs.size := let ⟨_, g, _⟩ := p1; Heap.lt_size g
  refine zip_begins2 (begins_tuple a its.toArray) (begins_list b its2.toArray) p1 p2.isList fun h' hz hTI hTO g1 g2 sz keep => wpAny_pyIter_zip hz ?_
  have J2 : Inv X pins σ H1 { s1 with heap := h' } := J.kept (t' := s1.toks) keep
  refine ⟨s1.heap.objs.size + 4, [s1.heap.objs.size + 4, s1.heap.objs.size + 2, s1.heap.objs.size + 3, s1.heap.objs.size, s1.heap.objs.size + 1], _, _, H1, rfl, J2, turn_zipTL (PySem.W.ktu_apart s1.heap.objs.size a b la p2.lt),
    ⟨hz, hTI, ⟨_, _, hTO⟩, ⟨_, g1, rfl, rfl⟩, ⟨_, g2, rfl, rfl⟩⟩, fun c hc => ?_, q⟩
  have le : s1.heap.objs.size ≤ c := by
    simp only [List.mem_cons, List.not_mem_nil, or_false] at hc
    rcases hc with rfl | rfl | rfl | rfl | rfl <;> first | exact Nat.le_add_right _ _ | exact Nat.le_refl _
  exact J.fpOk le (J.hok.fresh le)
theorem walk_zipTL {K : PySem.W.Frag} {a b : Addr} {xs ys : List V} (hl : xs.length = ys.length) : Walk (ItzTL K a b) xs.length (fun H => SqT K H a xs ∧ SqL K H b ys) (YPair (fun i => xs[i]?) (fun i => ys[i]?)) := by
  refine ⟨fun i _ hi q => ⟨xs, ys, xs[i], ys[i]'(by omega), q.1, q.2, by simp [hi], by simp [show i < ys.length by omega]⟩, fun _ q => ⟨xs, ys, q.1, q.2, rfl, hl.symm⟩, fun i H v H' _ q y => ?_⟩
  obtain ⟨T, x, y2, h1, h2, h3, h4, h5⟩ := y
  exact ⟨T, x, y2, h1, h2, h3, h4 xs q.1, h5 ys q.2⟩
end LT

namespace LG
open PySem PySem.Spec PyProof.Rows L2
section
variable {X : Cx}
/-- repr of a bool -/
theorem call_repr_bl : CallR X (.builtin "repr") (fun xs H Q => ∃ b : Bool, xs = [.bl b] ∧ Q (.str (if b then "True" else "False")) H) := by
  intro pins s σ H xs us Q I r h
  obtain ⟨b, rfl, q⟩ := h
  obtain ⟨u, rfl, ru⟩ := vals1 r
  cases ru
  exact PySem.P.repr_of_bool ⟨.str _, H, I.tok _, ⟨_, rfl⟩, q⟩
/-- repr of data: lists, tuples, ints, bools -/
def rReprA (K : PySem.W.Frag) : List V → Hp → VK → Prop := fun xs H Q => (∃ b : Bool, xs = [.bl b] ∧ Q (.str (if b then "True" else "False")) H) ∨ (∃ i : Int, xs = [.int i] ∧ i.natAbs.log2 < 1920 ∧ Q (.str (toString i)) H) ∨ rRepr K xs H Q
theorem call_reprA (hgd : X.A.guards = some []) (hu : X.A.units + 66 < cLine) : CallR X (.builtin "repr") (rReprA X.K) := by
  intro pins s σ H xs us Q I r h
  rcases h with h | h | h
  · exact call_repr_bl pins s σ H xs us Q I r h
  · exact SkE.call_repr_int pins s σ H xs us Q I r h
  · exact call_repr hgd hu pins s σ H xs us Q I r h
end
end LG

/-! what the laws share: tests, values, the bag, lists or tuples -/
namespace LP
open PySem L2 LT LG
theorem iteD {c A B : Prop} [Decidable c] (hc : c) (h : A) : if decide c = true then A else B := by
  rw [if_pos (decide_eq_true hc)]; exact h
theorem iteX {c A B : Prop} [Decidable c] (hc : ¬ c) (h : B) : if decide c = true then A else B := by
  rw [if_neg (by rw [decide_eq_false hc]; exact Bool.false_ne_true)]; exact h
theorem iteNX {c A B : Prop} [Decidable c] (hc : ¬ c) (h : A) : if (!decide c) = true then A else B := by
  rw [decide_eq_false hc]; exact iteT h
theorem ite2d {c A B : Prop} [Decidable c] (h1 : c → A) (h2 : ¬ c → B) : if decide c = true then A else B := by
  by_cases h : c
  · exact iteD h (h1 h)
  · exact iteX h (h2 h)
theorem iteNB {b : Bool} {A B : Prop} (hb : b = true) (h : B) : if (!b) = true then A else B := by
  subst hb; exact iteF h
theorem iteNF {b : Bool} {A B : Prop} (hb : b = false) (h : A) : if (!b) = true then A else B := by
  subst hb; exact iteT h
theorem iteB {b : Bool} {A B : Prop} (hb : b = true) (h : A) : if b = true then A else B := by
  subst hb; exact iteT h
theorem iteBF {b : Bool} {A B : Prop} (hb : b = false) (h : B) : if b = true then A else B := by
  subst hb; exact iteF h
theorem idx_before {α : Type} [BEq α] [LawfulBEq α] {a : α} : ∀ {l : List α} {m : Nat}, m < l.idxOf a → l[m]? ≠ some a
  | [], m, h => by simp at h
  | b :: r, 0, h => by
    intro e
    have e1 : b = a := Option.some.inj e
    subst e1
    rw [List.idxOf_cons] at h
    simp at h
  | b :: r, m + 1, h => by
    rw [List.idxOf_cons] at h
    by_cases q : (b == a) = true
    · simp [q] at h
    · rw [Bool.not_eq_true] at q
      rw [q] at h
      have h' : m + 1 < r.idxOf a + 1 := h
      exact idx_before (l := r) (m := m) (by omega)
theorem idx_get {α : Type} [BEq α] [LawfulBEq α] {a : α} {l : List α} (h : a ∈ l) : l[l.idxOf a]? = some a := by
  have h1 := List.idxOf_lt_length_iff.mpr h
  rw [List.getElem?_eq_getElem h1]
  have h2 := List.findIdx_getElem (p := (· == a)) (xs := l) (w := h1)
  exact congrArg some (eq_of_beq h2)

theorem same_upd {H : Hp} {p : Addr} {o : HO} (h : H p = Option.none) : Same H (upd H p o) := fun b x e => by rw [upd_ne (ne_of_none e h)]; exact e
/-- all but the bag at b is as it was -/
def Fr (H H' : Hp) (b : Addr) : Prop := ∀ a o, H a = some o → a ≠ b → H' a = some o
theorem Fr.refl (H : Hp) (b : Addr) : Fr H H b := fun _ _ h _ => h
theorem Fr.trans {H H1 H2 : Hp} {b : Addr} (a : Fr H H1 b) (c : Fr H1 H2 b) : Fr H H2 b := fun x o h n => c x o (a x o h n) n
theorem Fr.of {H H' : Hp} {b : Addr} (s : Same H H') : Fr H H' b := fun a o h _ => s a o h
theorem Fr.free {H H' : Hp} {b l : Addr} (e : Fr H H' b) (hb : ∃ o, H b = some o) (h : H' l = Option.none) (h' : ∃ o, H' b = some o) : H l = Option.none := by
  cases q : H l with
  | none => rfl
  | some o =>
    by_cases hl : l = b
    · subst hl; obtain ⟨o', h'⟩ := h'; rw [h'] at h; cases h
    · rw [e l o q hl] at h; cases h
abbrev M61 : Int := 2305843009213693951
/-- the bag: the script's copy at l, the place in it, the rest of a large cell, the number of draws (at most d), the script's sum -/
structure Bag (H : Hp) (b l : Addr) (ns : List Int) (d : Nat) : Prop where
  ex : ∃ i c k t : Int, H b = some (.lst [.ref l, .int i, .int c, .int k, .int t]) ∧ 0 ≤ i ∧ i ≤ ns.length ∧ 0 ≤ k ∧ k ≤ d ∧ 0 ≤ t ∧ t < M61
  ls : H l = some (.lst (ns.map V.int))
  ne : l ≠ b
theorem Bag.mono {H : Hp} {b l : Addr} {ns : List Int} {d d' : Nat} (g : Bag H b l ns d) (h : d ≤ d') : Bag H b l ns d' := by
  obtain ⟨⟨i, c, k, t, h1, h2, h3, h4, h5, h6⟩, ls, ne⟩ := g
  exact ⟨⟨i, c, k, t, h1, h2, h3, h4, by omega, h6⟩, ls, ne⟩
theorem Bag.same {H H' : Hp} {b l : Addr} {ns : List Int} {d : Nat} (g : Bag H b l ns d) (s : Same H H') : Bag H' b l ns d := by
  obtain ⟨⟨i, c, k, t, h1, h2⟩, ls, ne⟩ := g
  exact ⟨⟨i, c, k, t, s _ _ h1, h2⟩, s _ _ ls, ne⟩

theorem flat_ints (l : List Int) : (l.map V.int).all flatV = true := by
  rw [List.all_eq_true]; intro v hv; obtain ⟨i, _, rfl⟩ := List.mem_map.mp hv; rfl
theorem in_ints {p : Int} {l : List Int} : inV (.int p) (l.map V.int) = decide (p ∈ l) := by
  induction l with
  | nil => rfl
  | cons a r ih =>
    show (eqV (.int a) (.int p) || inV (.int p) (r.map V.int)) = _
    rw [ih]
    show ((a == p) || decide (p ∈ r)) = _
    by_cases h : a = p
    · subst h; simp
    · have h2 : ¬ p = a := fun q => h q.symm
      simp [h, h2]

theorem Bag.nb {H : Hp} {b l : Addr} {ns : List Int} {d : Nat} (g : Bag H b l ns d) : ∃ o, H b = some o := let ⟨⟨_, _, _, _, h, _⟩, _, _⟩ := g; ⟨_, h⟩
theorem Bag.ne_new {H : Hp} {b l p : Addr} {ns : List Int} {d : Nat} (g : Bag H b l ns d) (hp : H p = none) : p ≠ b := by
  obtain ⟨o, h⟩ := g.nb
  exact (ne_of_none h hp).symm
theorem Bag.l_ne {H : Hp} {b l p : Addr} {ns : List Int} {d : Nat} (g : Bag H b l ns d) (hp : H p = none) : l ≠ p := ne_of_none g.ls hp

section
variable (K : PySem.W.Frag)
def sp__law_bag : Sp := fun vs H Q _ => ∃ (a : Addr) (ns : List Int), vs = [.ref a] ∧ SqL K H a (ns.map V.int) ∧ ns.length ≤ 63 ∧ ∀ (H' : Hp) (b l : Addr), Same H H' → H b = none → H l = none → Bag H' b l ns 0 → Q (.ref b) H'
def sp__law_stir : Sp := fun vs H Q _ => ∃ x y : Int, vs = [.int x, .int y] ∧ 0 ≤ x ∧ x < M61 ∧ 0 ≤ y ∧ y < 2 ^ 40 ∧ ∀ r : Int, Q (.int r) H
def sp__law_draw : Sp := fun vs H Q _ => ∃ (b l : Addr) (ns : List Int) (d : Nat) (n : Int), vs = [.ref b, .int n] ∧ Bag H b l ns d ∧ 0 < n ∧ n.natAbs.log2 < 9000 ∧ d < 1000000 ∧ ns.length ≤ 63 ∧
  ∀ (H' : Hp) (r : Int), 0 ≤ r → r < n → Bag H' b l ns (d + 1) → Fr H H' b → Q (.int r) H'


end
/-- what len asks of a list or a tuple -/
def rLenS (K : PySem.W.Frag) : List V → Hp → VK → Prop := fun vs H Q => ∃ a xs, vs = [.ref a] ∧ (SqL K H a xs ∨ SqT K H a xs) ∧ Q (.int xs.length) H
theorem u1 {k : Nat} {A : Around} (r : Room k A) : A.units + 1 < cLine := by have := r.un; omega
theorem u66 {k : Nat} {A : Around} (r : Room k A) : A.units + 66 < cLine := by have := r.un; omega
theorem ixN_at {n j : Nat} (h : j < n) : ixN n (j : Int) = some j := by
  unfold ixN; rw [if_pos (by omega), if_pos (by omega)]; congr 1
/-- a list or a tuple -/
def SqE (K : PySem.W.Frag) (H : Hp) (a : Addr) (xs : List V) : Prop := SqL K H a xs ∨ SqT K H a xs
theorem same_tup {K : PySem.W.Frag} {H H' : Hp} {a : Addr} {xs : List V} (e : Same H H') (h : SqT K H a xs) : SqT K H' a xs := by
  rcases h with (h | ⟨o, h⟩) | h
  · exact .inl (.inl (e _ _ h))
  · exact .inl (.inr ⟨o, e _ _ h⟩)
  · exact .inr h
theorem SqE.same {K : PySem.W.Frag} {H H' : Hp} {a : Addr} {xs : List V} (h : SqE K H a xs) (e : Same H H') : SqE K H' a xs := h.imp e.seq (same_tup e)
theorem SqE.l {K : PySem.W.Frag} {H : Hp} {a : Addr} {xs : List V} (h : H a = some (.lst xs)) : SqE K H a xs := .inl (SqL.of h)
theorem SqE.t {K : PySem.W.Frag} {H : Hp} {a : Addr} {xs : List V} (h : H a = some (.tup xs)) : SqE K H a xs := .inr (SqT.of h)
theorem rd_ix {K : PySem.W.Frag} {H : Hp} {a : Addr} {Q : VK} {xs : List V} {j : Nat} {v : V} {z : Int} (h : SqL K H a xs) (e : xs[j]? = some v) (hz : z = (j : Int)) (q : Q v H) : rIxL K (.ref a) (.int z) H Q :=
  ⟨a, xs, z, v, rfl, rfl, h, at_of hz e, q⟩
theorem int_at {ns : List Int} {j : Nat} {x : Int} (h : ns[j]? = some x) : (ns.map V.int)[j]? = some (V.int x) := by rw [List.getElem?_map, h]; rfl
theorem at_int {ns : List Int} {j : Nat} {v : V} (h : (ns.map V.int)[j]? = some v) : ∃ x, ns[j]? = some x ∧ v = .int x := by
  rw [List.getElem?_map] at h
  cases q : ns[j]? with
  | none => rw [q] at h; cases h
  | some x => rw [q] at h; cases h; exact ⟨x, rfl, rfl⟩
/-! a walk over a list or a tuple: one turn for both -/
theorem or_E {K : PySem.W.Frag} {H : Hp} {a : Addr} {xs : List V} {σ : St} {i : Nat} {R : It → Hp → Prop} (hE : SqE K H a xs) (hv : σ[i]? = some (some (.ref a))) (k : ∀ (J : It) (G : Hp → Prop), Walk J xs.length G (YAt xs) → (∀ H', Same H H' → G H') → R J H) :
    iList K (tVar i) σ H R ∨ iTup K (tVar i) σ H R := by
  rcases hE with h | h
  · exact .inl ⟨_, hv, a, rfl, ⟨_, h⟩, k _ _ walk_list fun H' s => s.seq h⟩
  · exact .inr ⟨_, hv, a, rfl, ⟨_, h⟩, k _ _ walk_tup fun H' s => same_tup s h⟩
theorem or_enumE {K : PySem.W.Frag} {H : Hp} {a : Addr} {xs : List V} {σ : St} {R : It → Hp → Prop} {ta : TA} (hE : SqE K H a xs) (hv : ∀ Q : List V → Hp → Prop, Q [.ref a] H → ta σ H Q)
    (k : ∀ (J : It) (G : Hp → Prop), Walk J xs.length G (YPair (fun i => some (.int (i : Nat))) (fun i => xs[i]?)) → (∀ H', Same H H' → G H') → R J H) :
    iEnum K ta σ H R ∨ iEnumT K ta σ H R := by
  rcases hE with h | h
  · exact .inl (hv _ ⟨a, xs, rfl, h, k _ _ walk_enum fun H' s => s.seq h⟩)
  · exact .inr (hv _ ⟨a, xs, rfl, h, k _ _ walk_enumT fun H' s => same_tup s h⟩)
theorem or_zipE {K : PySem.W.Frag} {H : Hp} {a : Addr} {xs ys : List V} {σ : St} {R : It → Hp → Prop} {ta : TA} (hE : SqE K H a xs) (hl : xs.length = ys.length)
    (hv : ∀ Q : List V → Hp → Prop, (∀ H1 p, Same H H1 → H p = none → H1 p = some (.lst ys) → Q [.ref a, .ref p] H1) → ta σ H Q)
    (k : ∀ (H1 : Hp) (p : Addr) (J : It) (G : Hp → Prop), Same H H1 → H p = none → H1 p = some (.lst ys) → Walk J xs.length G (YPair (fun i => xs[i]?) (fun i => ys[i]?)) → (∀ H', Same H1 H' → G H') → R J H1) :
    iZip K ta σ H R ∨ iZipTL K ta σ H R := by
  rcases hE with h | h
  · exact .inl (hv _ fun H1 p s np hp => ⟨a, p, xs, ys, rfl, s.seq h, SqL.of hp, k _ p _ _ s np hp (walk_zip (by omega)) fun H' t => ⟨t.seq (s.seq h), SqL.of (t _ _ hp)⟩⟩)
  · exact .inr (hv _ fun H1 p s np hp => ⟨a, p, xs, ys, rfl, same_tup s h, SqL.of hp, k _ p _ _ s np hp (walk_zipTL hl) fun H' t => ⟨same_tup t (same_tup s h), SqL.of (t _ _ hp)⟩⟩)
theorem ty_E {K : PySem.W.Frag} {H : Hp} {a : Addr} {xs : List V} (h : SqE K H a xs) : TyX K H (.ref a) (.type "list") ∨ TyX K H (.ref a) (.type "tuple") := by
  rcases h with ((h | ⟨o, h⟩) | ⟨dd, its, n, h1, h2⟩) | ((h | ⟨o, h⟩) | ⟨dd, its, n, h1, h2⟩)
  · exact .inl (.base (.lst h))
  · exact .inl (.base (.frz h))
  · exact .inl (.kList h1 h2.1)
  · exact .inr (.base (.tup h))
  · exact .inr (.fTuple h)
  · exact .inr (.kTuple h1 h2.1)
theorem kit_lt {K : PySem.W.Frag} : PySem.W.kitAny K (.type "list") [.type "list", .type "tuple"] = some true := kitAny_cons (b := true) (kit_ty (by decide +kernel)) (fun z => nomatch z) fun _ => rfl
theorem kit_tt {K : PySem.W.Frag} : PySem.W.kitAny K (.type "tuple") [.type "list", .type "tuple"] = some true := kitAny_cons (b := false) (kit_ty (by decide +kernel)) (fun _ => kitAny_cons (b := true) (kit_ty (by decide +kernel)) (fun z => nomatch z) fun _ => rfl) fun z => nomatch z
/-! patterns as texts -/
def sgn (b : Bool) : Nat := if b = true then 84 else 82
def pstr (l : List Bool) : Str := ⟨(l.map sgn).toArray⟩
theorem pstr_nil : pstr [] = ("" : Str) := by decide +kernel
theorem pstr_T (l : List Bool) : pstr l ++ ("T" : Str) = pstr (l ++ [true]) := by
  show (⟨(l.map sgn).toArray ++ ("T" : Str).cps⟩ : Str) = _
  rw [show ("T" : Str).cps = #[84] by decide +kernel]
  simp [pstr, sgn]
theorem pstr_R (l : List Bool) : pstr l ++ ("R" : Str) = pstr (l ++ [false]) := by
  show (⟨(l.map sgn).toArray ++ ("R" : Str).cps⟩ : Str) = _
  rw [show ("R" : Str).cps = #[82] by decide +kernel]
  simp [pstr, sgn]
theorem pstr_size (l : List Bool) : (pstr l).cps.size = l.length := by simp [pstr]
theorem pstr_at {l : List Bool} {i c : Nat} (h : (pstr l).cps[i]? = some c) : ∃ b, l[i]? = some b ∧ c = sgn b := by
  simp only [pstr, List.getElem?_toArray, List.getElem?_map] at h
  cases q : l[i]? with
  | none => rw [q] at h; cases h
  | some b => rw [q] at h; cases h; exact ⟨b, rfl, rfl⟩
theorem sgnT : (⟨#[sgn true]⟩ : Str) = ("T" : Str) := by decide +kernel
theorem sgnR : (⟨#[sgn false]⟩ : Str) = ("R" : Str) := by decide +kernel
theorem R_ne_T : ¬ ((⟨#[sgn false]⟩ : Str) = ("T" : Str)) := by decide +kernel
theorem vsT : V.str ⟨#[sgn true]⟩ = V.str "T" := congrArg V.str sgnT
theorem vsR : ¬ (V.str ⟨#[sgn false]⟩ = V.str "T") := fun h => R_ne_T (V.str.inj h)
theorem vsRR : V.str ⟨#[sgn false]⟩ = V.str "R" := congrArg V.str sgnR
theorem count_T (l : List Bool) : Txt.count (pstr l) ("T" : Str) = ((l.count true : Nat) : Int) := by
  rw [show ("T" : Str) = ⟨#[84]⟩ by decide +kernel, PyProof.Rows.count_cnt]
  show PyProof.Rows.cnt 84 (l.map sgn).toArray.toList = _
  rw [List.toList_toArray]
  induction l with
  | nil => rfl
  | cons b r ih =>
    rw [List.map_cons, PyProof.Rows.cnt_cons, ih]
    cases b with
    | true => rw [if_pos (by decide)]; simp; omega
    | false => rw [if_neg (by decide)]; simp
/-! dicts by place -/
def numK (ns : List Int) : List (Key × V) := ns.zipIdx.map fun p => (.inl p.1, .int (p.2 : Nat))
theorem numK_len (ns : List Int) : (numK ns).length = ns.length := by simp [numK]
theorem putK_new {kvs : List (Key × V)} {k : Key} {v : V} (h : ∀ q ∈ kvs, q.1 ≠ k) : putK kvs k v = kvs ++ [(k, v)] := by
  unfold putK
  rw [if_neg]
  intro q
  obtain ⟨x, hx, e⟩ := List.any_eq_true.mp q
  exact h x hx (of_decide_eq_true e)
theorem numK_snoc (ns : List Int) (x : Int) : numK (ns ++ [x]) = numK ns ++ [(.inl x, .int (ns.length : Nat))] := by
  unfold numK
  rw [List.zipIdx_append]
  simp
theorem numK_put {ns : List Int} {x : Int} (h : x ∉ ns) : putK (numK ns) (.inl x) (.int (ns.length : Nat)) = numK (ns ++ [x]) := by
  rw [numK_snoc, putK_new]
  intro q hq e
  obtain ⟨⟨a, i⟩, hp, rfl⟩ := List.mem_map.mp hq
  cases e
  exact h (List.mem_of_getElem? (List.mem_zipIdx_iff_getElem?.mp hp))
theorem numK_val {ns : List Int} (nd : ns.Nodup) {j : Nat} {x : Int} (h : ns[j]? = some x) : valV (numK ns) (.inl x) = some (.int (j : Nat)) := by
  unfold valV
  have key : (numK ns).find? (fun kv => decide (kv.1 = Sum.inl x)) = some (.inl x, .int (j : Nat)) := by
    obtain ⟨hj, e⟩ := List.getElem?_eq_some_iff.mp h
    rw [List.find?_eq_some_iff_getElem]
    refine ⟨decide_eq_true rfl, j, by rw [numK_len]; exact hj, ?_, fun m hm => ?_⟩
    · simp [numK, e]
    · have hm2 : m < ns.length := by omega
      have e2 : ((numK ns)[m]'(by rw [numK_len]; omega)).1 = Sum.inl ns[m] := by simp [numK]
      rw [e2, decide_eq_false]
      · rfl
      · intro z
        cases z
        exact Nat.ne_of_lt hm ((List.getElem_inj nd).mp e.symm)
  rw [key]; rfl

theorem seq_int {n : Nat} {z : Int} (h0 : 0 ≤ z) (h : z.toNat < n) : seqIndex? z n = some z.toNat := by
  unfold seqIndex?
  have e : (if z < 0 then z + (n : Int) else z) = z := if_neg (by omega)
  simp only [e]
  rw [if_pos (by rw [Bool.and_eq_true, decide_eq_true_iff, decide_eq_true_iff]; omega)]
theorem ixN_int {n : Nat} {z : Int} (h0 : 0 ≤ z) (h : z.toNat < n) : ixN n z = some z.toNat := by
  unfold ixN
  rw [if_pos h0, if_pos (by omega)]
theorem log_small {n : Nat} (h : n < 1024) : ((n : Int)).natAbs.log2 < 9000 := by
  rw [Int.natAbs_natCast]
  by_cases h0 : n = 0
  · subst h0; decide
  · exact Nat.lt_trans ((Nat.log2_lt h0).mpr (show n < 2 ^ 10 from h)) (by decide)
theorem erase_map {α β : Type} (f : α → β) : ∀ (l : List α) (k : Nat), (l.map f).eraseIdx k = (l.eraseIdx k).map f
  | [], _ => rfl
  | _ :: _, 0 => rfl
  | a :: r, k + 1 => by
    show f a :: (r.map f).eraseIdx k = f a :: (r.eraseIdx k).map f
    rw [erase_map f r k]
end LP

/-! the draws of the laws with a reel -/
namespace LP
open PySem L2
abbrev M127 : Int := 2 ^ 140
theorem log_m {t : Int} (h0 : 0 ≤ t) (h1 : t < 2 ^ 140) : t.natAbs.log2 < 200 := by
  by_cases z : t.natAbs = 0
  · rw [z]; decide
  · exact Nat.lt_trans ((Nat.log2_lt z).mpr (show t.natAbs < 2 ^ 140 by omega)) (by decide)
structure Reel (H : Hp) (b : Addr) (d : Nat) : Prop where
  ex : ∃ (g c : Addr) (gs cs : List Int) (k t : Int), H b = some (.lst [.ref g, .ref c, .int k, .int t]) ∧ H g = some (.lst (gs.map V.int)) ∧ H c = some (.lst (cs.map V.int)) ∧ g ≠ b ∧ c ≠ b ∧ 0 < cs.length ∧ cs.length ≤ 64 ∧ gs.length ≤ 63 ∧ (∀ x ∈ cs, 0 ≤ x ∧ x < 1000003) ∧ 0 ≤ k ∧ k ≤ d ∧ 0 ≤ t ∧ t < M127
theorem Reel.mono {H : Hp} {b : Addr} {d d' : Nat} (r : Reel H b d) (h : d ≤ d') : Reel H b d' := by
  obtain ⟨g, c, gs, cs, k, t, a1, a2, a3, a4, a5, a6, a7, a8, a9, a10, a11, a12⟩ := r.ex
  exact ⟨⟨g, c, gs, cs, k, t, a1, a2, a3, a4, a5, a6, a7, a8, a9, a10, by omega, a12⟩⟩
theorem Reel.same {H H' : Hp} {b : Addr} {d : Nat} (r : Reel H b d) (s : Same H H') : Reel H' b d := by
  obtain ⟨g, c, gs, cs, k, t, a1, a2, a3, a4⟩ := r.ex
  exact ⟨⟨g, c, gs, cs, k, t, s _ _ a1, s _ _ a2, s _ _ a3, a4⟩⟩
theorem Reel.nb {H : Hp} {b : Addr} {d : Nat} (r : Reel H b d) : ∃ o, H b = some o := let ⟨_, _, _, _, _, _, h, _⟩ := r.ex; ⟨_, h⟩
theorem Reel.ne_new {H : Hp} {b p : Addr} {d : Nat} (r : Reel H b d) (hp : H p = none) : p ≠ b := by
  obtain ⟨o, h⟩ := r.nb
  exact (ne_of_none h hp).symm
/-- an address that is no part of the reel at b -/
def Apart (H : Hp) (b a : Addr) : Prop := a ≠ b ∧ ∀ xs, H b = some (.lst xs) → V.ref a ∉ xs
theorem Reel.new {H : Hp} {b p : Addr} {d : Nat} (r : Reel H b d) (hp : H p = none) : Apart H b p := by
  refine ⟨r.ne_new hp, fun xs hx hm => ?_⟩
  obtain ⟨g, c, gs, cs, k, t, a1, a2, a3, _⟩ := r.ex
  rw [a1] at hx; cases hx
  simp at hm
  rcases hm with rfl | rfl
  · rw [hp] at a2; cases a2
  · rw [hp] at a3; cases a3
theorem Reel.upd {H : Hp} {b a : Addr} {d : Nat} {o : HO} (r : Reel H b d) (h : Apart H b a) : Reel (L2.upd H a o) b d := by
  obtain ⟨g, c, gs, cs, k, t, a1, a2, a3, a4⟩ := r.ex
  have n := h.2 _ a1
  have n1 : g ≠ a := fun e => n (by rw [e]; simp)
  have n2 : c ≠ a := fun e => n (by rw [e]; simp)
  exact ⟨⟨g, c, gs, cs, k, t, by rw [upd_ne (Ne.symm h.1)]; exact a1, by rw [upd_ne n1]; exact a2, by rw [upd_ne n2]; exact a3, a4⟩⟩
theorem Apart.upd {H : Hp} {b a c : Addr} {o : HO} (h : Apart H b a) (hc : c ≠ b) : Apart (L2.upd H c o) b a := ⟨h.1, fun xs hx => h.2 xs (by rw [upd_ne (Ne.symm hc)] at hx; exact hx)⟩
section
variable (K : PySem.W.Frag)
def sp__law_reel : Sp := fun vs H Q _ => ∃ (a : Addr) (ns : List Int), vs = [.ref a] ∧ SqL K H a (ns.map V.int) ∧ ns.length ≤ 63 ∧ ∀ (H' : Hp) (b : Addr), Same H H' → H b = none → Reel H' b 0 → Q (.ref b) H'
def sp__law_draw_r : Sp := fun vs H Q _ => ∃ (b : Addr) (d : Nat) (n : Int), vs = [.ref b, .int n] ∧ Reel H b d ∧ 0 < n ∧ n.natAbs.log2 < 9000 ∧ d < 1000000 ∧
  ∀ (H' : Hp) (r : Int), 0 ≤ r → r < n → Reel H' b (d + 1) → Fr H H' b → (∀ a, Apart H b a → H a ≠ none → Apart H' b a) → Q (.int r) H'
def sp__law_shuffled_r : Sp := fun vs H Q _ => ∃ (b : Addr) (d : Nat) (p : Addr) (xs : List Int), vs = [.ref b, .ref p] ∧ Reel H b d ∧ d < 900000 ∧ H p = some (.lst (xs.map V.int)) ∧ xs.length ≤ 400 ∧ p ≠ b ∧
  ∀ (H' : Hp) (q : Addr) (ys : List Int), Reel H' b (d + xs.length) → Fr H H' b → (∀ a, Apart H b a → H a ≠ none → Apart H' b a) → H q = none → ys.Perm xs → H' q = some (.lst (ys.map V.int)) → Apart H' b q → Q (.ref q) H'
end
end LP

namespace LX
open PySem PySem.Spec PyProof.Rows L2 LG
/-- repr, of None too -/
def rReprN (K : PySem.W.Frag) : List V → Hp → VK → Prop := fun xs H Q => (xs = [.non] ∧ Q (.str "None") H) ∨ rReprA K xs H Q
theorem call_reprN {X : Cx} (hgd : X.A.guards = some []) (hu : X.A.units + 66 < cLine) : CallR X (.builtin "repr") (rReprN X.K) := by
  intro pins s σ H xs us Q I r h
  rcases h with h | h
  · obtain ⟨rfl, q⟩ := h
    obtain ⟨u, rfl, ru⟩ := vals1 r
    cases ru
    exact PySem.P.repr_of_none ⟨.str _, H, I.tok _, ⟨_, rfl⟩, q⟩
  · exact call_reprA hgd hu pins s σ H xs us Q I r h
end LX

/-! xs[::e], e of 1 or -1 -/
namespace LX
open PySem PySem.Spec PyProof.Rows L2
section
variable {X : Cx}
def kStep (K : PySem.W.Frag) (x : V) (Q : VK) : Option Int → Hp → Prop := fun o H2 => ∃ a xs, x = .ref a ∧ (o = some 1 ∨ o = some (-1)) ∧ SqL K H2 a xs ∧ ∀ p, H2 p = none → Q (.ref p) (upd H2 p (.lst (if o = some 1 then xs else xs.reverse)))
def tStepL (K : PySem.W.Frag) (te tk : TE) : TE := fun σ H Q => te σ H fun x H1 => tPart tk σ H1 (kStep K x Q)
theorem pick_one (its : List Value) : slicePick its.toArray none none (some 1) = its.toArray := by
  have e : slicePick its.toArray none none (some 1) = slicePick its.toArray none none none := rfl
  rw [e, slicePick_cut, HT.sIx_none, HT.sIx_none]
  simp
theorem pe_stepL {e st : Expr} {te tk : TE} {p3 pos : Pos} (he : PE X e te) (hk : PE X st tk) : PE X (.Subscript e (.Slice none none (some st) p3) pos) (tStepL X.K te tk) := by
  refine ⟨fun pins s σ H Q I h => ?_⟩
  refine Subscript_ (thn (he.run pins s σ H _ I h) fun v s1 ⟨x, H1, I1, r1, q1⟩ => ?_)
  have hst : PO X (some st) (tPart tk) := po_some hk
  refine wpAny_Slice (thn (po_none.run pins s1 σ H1 (fun o H2 => o = none ∧ H2 = H1) I1 ⟨rfl, rfl⟩) fun vl s2 ⟨l, H2, I2, pl, el, e2⟩ => ?_)
  subst el e2
  refine thn (po_none.run pins s2 σ H2 (fun o H3 => o = none ∧ H3 = H2) I2 ⟨rfl, rfl⟩) fun vu s3 ⟨u, H3, I3, pu, eu, e3⟩ => ?_
  subst eu e3
  refine thn (hst.run pins s3 σ H3 _ I3 q1) fun vs s4 ⟨o, H4, I4, ps, a, xs, ex, eo, hx, q⟩ => ?_
  subst ex
  cases r1
  have I5 : Inv X pins σ H4 { s4 with heap := s4.heap.push { cls := .type "slice", data := .fields #[vl, vu, vs] } } := I4.kept (t' := s4.toks) fun b ob q => Heap.get?_push_of_some _ q
  obtain ⟨its, r, ht, hz⟩ := I5.list hx
  have hlen := r.length
  show wpAny (model X.prog X.w) X.A (subscriptTail e (.Slice none none (some st) p3) (.ref a) (.ref s4.heap.objs.size)) (EP X pins σ Q) X.xe { s4 with heap := s4.heap.push { cls := .type "slice", data := .fields #[vl, vu, vs] } }
  refine tail_any (ops := [.ref a, .ref s4.heap.objs.size]) ht.isList.typeIs (PySem.slot_list_getitem.lookup) ?_ (by with_unfolding_all rfl)
  rcases eo with rfl | rfl
  · refine wpAny_getItem_list_slice ht.isList (Heap.IsSliceOf.new _ vl vu vs) pl pu ps (by decide) ?_ (by rw [List.size_toArray]; omega)
    rw [pick_one]
    refine ⟨.ref _, _, I5.laid (t' := s4.toks) (o := .lst (if (some 1 : Option Int) = some 1 then xs else xs.reverse)) (fun b ob q => Heap.get?_push_of_some _ q) (Nat.le_refl _) ?_, rfl, q _ (I5.hok.fresh (Nat.le_refl _))⟩
    rw [if_pos rfl]
    exact ⟨hz, _, 0, r, Heap.get?_push_size _ rfl⟩
  · refine wpAny_getItem_list_slice ht.isList (Heap.IsSliceOf.new _ vl vu vs) pl pu ps (by decide) ?_ (by rw [List.size_toArray]; omega)
    rw [PySem.W.krv_pick]
    refine ⟨.ref _, _, I5.laid (t' := s4.toks) (o := .lst (if (some (-1) : Option Int) = some 1 then xs else xs.reverse)) (fun b ob q => Heap.get?_push_of_some _ q) (Nat.le_refl _) ?_, rfl, q _ (I5.hok.fresh (Nat.le_refl _))⟩
    rw [if_neg (by decide)]
    exact ⟨by rw [List.length_reverse]; exact hz, _, 0, r.reverse, Heap.get?_push_size _ rfl⟩
end
end LX

/-! own __len__ and own == of instances -/
namespace LX
open PySem PySem.Spec PyProof.Rows L2
section
variable {X : Cx} {CX : CXT} {k : Nat} {C g : Addr} {fd : FuncData} {ps : List Str} {sp : Sp} {E : XK}
/-- len(x), x an instance whose class has its own __len__ -/
def rLenOwn (C : Addr) (sp : Sp) (E : XK) : List V → Hp → VK → Prop := fun xs H Q => ∃ a dx fs, xs = [.ref a] ∧ H a = some (.ins C dx fs) ∧ sp [.ref a] H (fun z H' => ∃ i, z = .int i ∧ 0 ≤ i ∧ i < 2 ^ 63 ∧ Q z H') E
theorem call_lenOwn (M : Meth X.K C "__len__" g) (F : FnOk X.prog X.w X.K X.mg X.base CX k g fd ps sp) (hr : Room (k + 1) X.A) (hb : Binds X.K fd ps []) (hx : Passes CX X E) : CallR X (.builtin "len") (rLenOwn C sp E) := by
  intro pins s σ H xs us Q I r h
  obtain ⟨a, dx, fs, rfl, ha, q⟩ := h
  obtain ⟨u, rfl, ru⟩ := r.one
  cases (show u = Value.ref a from ru)
  obtain ⟨mA, J, _⟩ := ins_get I.hok ha
  obtain ⟨od, J, _⟩ := J.look
  obtain ⟨m, hF⟩ := I.fr
  have G := F.raw hb (.nil)
  have run := wpAny_call (SlX.run_at (Q := fun z H' => ∃ i, z = .int i ∧ 0 ≤ i ∧ i < 2 ^ 63 ∧ Q z H') (us := [.ref a]) (ws := [.ref a]) G hr.in1 I.env0.in1 hx I (.cons rfl .nil) q)
  refine PySem.W.len_K hF I.ok.mod.kin J M.at_ M.fn (wpAny_mono run (fun w s' z => ?_) fun _ _ x => x)
  obtain ⟨z', H', I', rz, i, ei, i0, i1, qz⟩ := z
  subst ei
  obtain ⟨t, e⟩ := (show ∃ t, w = Value.int i t from rz)
  cases e
  exact ⟨⟨i0, i1⟩, .int i, H', I'.tok _, ⟨_, rfl⟩, qz⟩
/-- x == y, x an instance whose class has its own ==, y no instance of a class below -/
def rEqOwn (K : PySem.W.Frag) (C : Addr) (sp : Sp) (E : XK) : R2 := fun x y H Q => ∃ a dx fs b dy gs, x = .ref a ∧ y = .ref b ∧ H a = some (.ins C dx fs) ∧ H b = some (.ins C dy gs) ∧ sp [x, y] H Q E
theorem op_eqOwn (M : Meth X.K C "__eq__" g) (F : FnOk X.prog X.w X.K X.mg X.base CX k g fd ps sp) (hr : Room k X.A) (hb : Binds X.K fd ps []) (hx : Passes CX X E) : OpR X (compareOp .Eq) (rEqOwn X.K C sp E) := by
  intro pins s σ H x y v u Q I rx ry h
  obtain ⟨a, dx, fs, b, dy, gs, rfl, rfl, ha, hb', q⟩ := h
  cases (show v = Value.ref a from rx)
  cases (show u = Value.ref b from ry)
  obtain ⟨mA, J, _⟩ := ins_get I.hok ha
  obtain ⟨mB, J', _⟩ := ins_get I.hok hb'
  obtain ⟨od, J, _⟩ := J.look
  obtain ⟨od', J', _⟩ := J'.look
  obtain ⟨m, hF⟩ := I.fr
  have G := F.raw hb (.nil)
  show wpAny (model X.prog X.w) X.A (richCompare .Eq (.ref a) (.ref b)) (EP X pins σ Q) X.xe s
  refine PySem.W.cmp_K (op := .Eq) (tb := .ref C) hr.units0 hF I.ok.mod.kin J J'.type (by simp [PySem.W.notFirst]) M.at_ M.fn ?_
  have run := wpAny_call (run_fnR (Q := Q) (us := [.ref a, .ref b]) (vs := [.ref a, .ref b]) G hr hx I (.cons rfl (.cons rfl .nil)) q)
  refine wpAny_mono run (fun w s' z => ?_) fun _ _ x => x
  obtain ⟨z', H', I', rz, qz⟩ := z
  exact SlX.cmpback rz ⟨z', H', I', rz, qz⟩
end
end LX

namespace LX
open PySem PySem.Spec PyProof.Rows L2
/-! ### a sign, n times -/
def repS (c : Nat) (n : Int) : Str := ⟨Array.replicate n.toNat c⟩
theorem rep_fold (c : Nat) : ∀ (k : Nat) (a : Array Nat), (List.replicate k #[c]).foldl (· ++ ·) a = a ++ Array.replicate k c
  | 0, a => by simp
  | k + 1, a => by
    rw [List.replicate_succ, List.foldl_cons, rep_fold c k]
    apply Array.toList_inj.mp
    simp [List.replicate_succ]
theorem op_mulS {X : Cx} : OpR X (binaryOp .Mult) (fun x y H Q => ∃ (c : Nat) (n : Int), x = .str ⟨#[c]⟩ ∧ y = .int n ∧ -1000 ≤ n ∧ n ≤ 1000 ∧ Q (.str (repS c n)) H) := by
  intro pins s σ H x y v u Q I rx ry h
  obtain ⟨c, n, rfl, rfl, h0, h1, q⟩ := h
  obtain ⟨t, rfl⟩ := rx
  obtain ⟨t', rfl⟩ := ry
  have el : (⟨#[c]⟩ : Str).length = 1 := rfl
  refine P.mul_str (by
      have a1 : ¬ n < -(2 ^ 63 : Int) := by omega
      have a2 : ¬ n ≥ 2 ^ 63 := by omega
      rw [decide_eq_false a1, decide_eq_false a2]; rfl) (fun g1 _ g3 => ?_) (fun g1 _ => ?_) ?_
  · rw [el] at g3
    have : (1 : Int) ≤ (2 ^ 63 - 1) / n := by
      rw [Int.le_ediv_iff_mul_le (by omega)]; omega
    have g4 : ((1 : Nat) : Int) > (2 ^ 63 - 1) / n := g3
    omega
  · rw [el]
    refine decide_eq_false ?_
    have : n.toNat ≤ 1000 := by omega
    intro q2
    have q3 : 1 * n.toNat > 1000 := Nat.lt_of_lt_of_le (by decide +kernel) (Nat.le_of_lt q2)
    omega
  · by_cases g1 : n < 1
    · rw [if_pos g1]
      have e : repS c n = Str.empty := by
        unfold repS
        rw [show n.toNat = 0 by omega]; rfl
      rw [e] at q
      exact ⟨by decide, ⟨.str Str.empty, H, I.tok _, ⟨_, rfl⟩, q⟩⟩
    · rw [if_neg g1]
      by_cases g2 : n = 1
      · subst g2
        rw [if_pos (by rfl)]
        exact ⟨.str ⟨#[c]⟩, H, I, ⟨_, rfl⟩, q⟩
      · rw [if_neg (by
          rw [el]
          have : (n == 1) = false := by rw [beq_eq_false_iff_ne]; exact g2
          rw [this]; decide)]
        have e : (⟨(List.replicate n.toNat (⟨#[c]⟩ : Str).cps).foldl (· ++ ·) #[]⟩ : Str) = repS c n := by
          unfold repS
          rw [show (⟨#[c]⟩ : Str).cps = #[c] from rfl, rep_fold]
          simp
        rw [e]
        refine ⟨?_, ⟨.str _, H, I.tok _, ⟨_, rfl⟩, q⟩⟩
        show (repS c n).length ≤ sizeLine
        show (Array.replicate n.toNat c).size ≤ sizeLine
        rw [Array.size_replicate]
        exact Nat.le_trans (show n.toNat ≤ 1000 by omega) (by decide +kernel)
end LX

namespace LX
open PySem PySem.Spec PyProof.Rows L2
/-! ### t[::-1] of a tuple -/
theorem applied_rev {prog : Program} {w : World} {A : Around} {E : Value → Shared → Prop} {s : Shared} {sl : Addr} {vl vu vs : Value} {n : Nat} {Q : Int × Int × Nat → Shared → Prop} (hs : s.heap.IsSliceOf sl vl vu vs) (pl : IsPart vl none) (pu : IsPart vu none) (ps : IsPart vs (some (-1)))
    (h : Q ((n : Int) - 1, -1, n) s) : wpAny (model prog w) A (Builtin.Slice.sliceApplied (.ref sl) (pure (n : Int))) Q E s := by
  obtain ⟨os, hos, hcs, hds⟩ := id hs
  unfold Builtin.Slice.sliceApplied Builtin.Slice.sliceFields
  refine wpAny_bind (wpAny_bind (wpAny_field hos hds (x := vl) rfl (wpAny_bind (wpAny_field hos hds (x := vu) rfl (wpAny_bind (wpAny_field hos hds (x := vs) rfl (wpAny_pure ?_)))))))
  refine wpAny_bind (HT.slicePart_ ps ?_)
  show wpAny _ _ (if ((-1 : Int) == 0) = true then _ else _) _ _ s
  rw [if_neg (by decide)]
  refine wpAny_bind (HT.slicePart_ pl (wpAny_bind (HT.slicePart_ pu (wpAny_bind (wpAny_pure ?_)))))
  show wpAny _ _ (match Builtin.Slice.sliceAdjust none none (-1) (n : Int) with | (lo, hi) => pure (lo, (-1 : Int), Builtin.Slice.slicePlaces lo hi (-1))) _ _ s
  have e : Builtin.Slice.sliceAdjust none none (-1) (n : Int) = ((n : Int) - 1, -1) := by
    unfold Builtin.Slice.sliceAdjust
    simp
  rw [e]
  have e2 : Builtin.Slice.slicePlaces ((n : Int) - 1) (-1) (-1) = n := by
    unfold Builtin.Slice.slicePlaces
    by_cases z : n = 0
    · subst z; rfl
    · rw [if_neg (by decide), if_pos (by omega), show (n : Int) - 1 - -1 - 1 = (n : Int) - 1 by omega, show (- -1 : Int) = 1 by decide, Int.ediv_one]
      omega
  show wpAny _ _ (pure ((n : Int) - 1, (-1 : Int), Builtin.Slice.slicePlaces ((n : Int) - 1) (-1) (-1))) _ _ s
  rw [e2]
  exact wpAny_pure h
theorem fmc {α β : Type} {f g : α → Option β} : ∀ {l : List α}, (∀ a ∈ l, f a = g a) → l.filterMap f = l.filterMap g
  | [], _ => rfl
  | a :: r, h => by rw [List.filterMap_cons, List.filterMap_cons, h a List.mem_cons_self, fmc fun b hb => h b (List.mem_cons_of_mem _ hb)]
theorem pick_rev (xs : Array Value) : ((List.range xs.size).filterMap fun (m : Nat) => xs[((xs.size : Int) - 1 + (m : Int) * (-1)).toNat]?).toArray = xs.toList.reverse.toArray := by
  have e := PySem.W.krv_pick xs
  unfold slicePick at e
  rw [PySem.W.krv_bounds] at e
  rw [← e]
  show _ = ((sliceRange ((xs.size : Int) - 1) (-1) (-1)).filterMap (xs[·]?)).toArray
  rw [PySem.W.krv_sliceRange, List.filterMap_map]
  congr 1
  refine fmc fun m hm => ?_
  have := List.mem_range.mp hm
  show _ = xs[xs.size - 1 - m]?
  congr 1
  omega
theorem getItem_tuple_rev {prog : Program} {w : World} {A : Around} {E : Value → Shared → Prop} {s : Shared} {t sl : Addr} {items : Array Value} {vl vu vs : Value} {Q : Value → Shared → Prop} (ht : IsTup s.heap t items) (hs : s.heap.IsSliceOf sl vl vu vs) (pl : IsPart vl none) (pu : IsPart vu none) (ps : IsPart vs (some (-1)))
    (h : Q (.ref s.heap.objs.size) { s with heap := s.heap.push { cls := .type "tuple", data := .seq items.toList.reverse.toArray } })
    (hsz : items.size ≤ sizeLine) : wpAny (model prog w) A (getItem (.ref t) (.ref sl)) Q E s := by
  have htake : sizeOk (.seq items.toList.reverse.toArray) := by
    show items.toList.reverse.toArray.size ≤ sizeLine
    rw [List.size_toArray, List.length_reverse, Array.length_toList]
    exact hsz
  obtain ⟨os, hos, hcs, hds⟩ := id hs
  have hTs : s.TypeIs (.ref sl) "slice" := ⟨os, hos, hcs⟩
  unfold getItem
  try with_reducible refine wpAny_holding ?_
  first | refine wpAny_bind (wpAny_pure ?_) | skip
  refine wpAny_bind (wpAny_sequenceKey ht.typeIs (by decide) ?_)
  refine wpAny_bind (wpAny_callSpecial?_slot (name := Str.ofString "__getitem__") ht.typeIs PyProof.Rows.slot_tuple_getitem
    (wpAny_call_entry PyProof.Rows.slot_tuple_getitem ht.typeIs PyProof.Rows.entry_tuple_getitem ?_ (PyProof.Rows.args_tuple_getitem _ _)))
  show wpAny _ _ (Builtin.Tuple.tupleItemsOf (.ref t) >>= _) _ _ s
  refine wpAny_bind (tupleItemsOf_ ht ?_)
  refine wpAny_bind (wpAny_typeOf hTs ?_)
  rw [if_pos (by decide)]
  refine wpAny_bind (applied_rev hs pl pu ps ?_)
  have hno : ¬ ((((items.size : Int) - 1) == 0 && (-1 : Int) == 1 && items.size == items.size) = true) := by
    intro q
    rw [Bool.and_eq_true, Bool.and_eq_true] at q
    exact absurd q.1.2 (by decide)
  show wpAny _ _ (if (((items.size : Int) - 1) == 0 && (-1 : Int) == 1 && items.size == items.size) = true then _ else _) _ _ s
  rw [if_neg hno, pick_rev]
  first
    | exact wpAny_bind (m := Builtin.Tuple.tupleExact _) (wpAny_newObj_type (wpAny_pure ⟨_, rfl, wpAny_pure h⟩) htake)
    | exact wpAny_bind (m := Builtin.Tuple.tupleExact _) (wpAny_newObj_type (wpAny_bind (wpAny_pure (wpAny_pure ⟨_, rfl, wpAny_pure h⟩))) htake)
    | exact wpAny_bind (wpAny_bind (m := Builtin.Tuple.tupleExact _) (wpAny_newObj_type (wpAny_pure (wpAny_pure ⟨_, rfl, wpAny_pure h⟩)) htake))
    | exact wpAny_bind (wpAny_bind (m := Builtin.Tuple.tupleExact _) (wpAny_newObj_type (wpAny_pure ⟨_, rfl, wpAny_pure h⟩) htake))
def tRevT (K : PySem.W.Frag) (te : TE) : TE := fun σ H Q => te σ H fun x H1 => ∃ a xs, x = .ref a ∧ SqT K H1 a xs ∧ ∀ p, H1 p = none → Q (.ref p) (upd H1 p (.tup xs.reverse))
theorem pe_revT {X : Cx} {e : Expr} {te : TE} {k : Nat} {p1 p2 p3 pos : Pos} (he : PE X e te) : PE X (.Subscript e (.Slice none none (some (.UnaryOp .USub (.Constant (.int 1) k p1) p2)) p3) pos) (tRevT X.K te) := by
  refine ⟨fun pins s σ H Q I h => ?_⟩
  refine Subscript_ (thn (he.run pins s σ H _ I h) fun v s1 ⟨x, H1, I1, r1, q1⟩ => ?_)
  obtain ⟨a, xs, ex, hx, q⟩ := q1
  subst ex
  cases r1
  have hst : PO X (some (.UnaryOp .USub (.Constant (.int 1) k p1) p2)) (tPart (tUn (rU fun i => .int (-i)) (tC (.int 1)))) := po_some (pe_un un_neg pe_int)
  refine wpAny_Slice (thn (po_none.run pins s1 σ H1 (fun o H2 => o = none ∧ H2 = H1) I1 ⟨rfl, rfl⟩) fun vl s2 ⟨l, H2, I2, pl, el, e2⟩ => ?_)
  subst el e2
  refine thn (po_none.run pins s2 σ H2 (fun o H3 => o = none ∧ H3 = H2) I2 ⟨rfl, rfl⟩) fun vu s3 ⟨u, H3, I3, pu, eu, e3⟩ => ?_
  subst eu e3
  refine thn (hst.run pins s3 σ H3 (fun o H4 => o = some (-1) ∧ H4 = H3) I3 ⟨1, rfl, -1, rfl, rfl, rfl⟩) fun vs s4 ⟨o, H4, I4, ps, eo, e4⟩ => ?_
  subst eo e4
  have I5 : Inv X pins σ H4 { s4 with heap := s4.heap.push { cls := .type "slice", data := .fields #[vl, vu, vs] } } := I4.kept (t' := s4.toks) fun b ob q => Heap.get?_push_of_some _ q
  obtain ⟨its, r, ht, hz⟩ := I5.tuple hx
  have hlen := r.length
  show wpAny (model X.prog X.w) X.A (subscriptTail e (.Slice none none (some (.UnaryOp .USub (.Constant (.int 1) k p1) p2)) p3) (.ref a) (.ref s4.heap.objs.size)) (EP X pins σ Q) X.xe { s4 with heap := s4.heap.push { cls := .type "slice", data := .fields #[vl, vu, vs] } }
  refine tail_any (ops := [.ref a, .ref s4.heap.objs.size]) ht.typeIs (PyProof.Rows.slot_tuple_getitem.lookup) ?_ (by with_unfolding_all rfl)
  refine getItem_tuple_rev ht (Heap.IsSliceOf.new _ vl vu vs) pl pu ps ?_ (by rw [List.size_toArray]; omega)
  refine ⟨.ref _, _, I5.laid (t' := s4.toks) (o := .tup xs.reverse) (fun b ob q => Heap.get?_push_of_some _ q) (Nat.le_refl _) ?_, rfl, q _ (I5.hok.fresh (Nat.le_refl _))⟩
  exact ⟨by rw [List.length_reverse]; exact hz, _, r.reverse, IsTup.new _ _⟩
/-! ### max(xs, default=d) of a list of ints -/
def rMaxDef (K : PySem.W.Frag) : List V → List V → Hp → VK → Prop := fun vs zs H Q => ∃ (a : Addr) (ns : List Int) (d : V), vs = [.ref a] ∧ zs = [d] ∧ SqL K H a (ns.map V.int) ∧ (ns = [] → Q d H) ∧ (ns ≠ [] → ∀ m, m ∈ ns → (∀ y ∈ ns, y ≤ m) → Q (.int m) H)
theorem cr_maxDef {X : Cx} (hc : X.calm = true) : CallRK X (.builtin "max") [Str.ofString "default"] (rMaxDef X.K) := by
  intro pins s σ H vs zs us ws Q I r rz h
  obtain ⟨a, ns, d, rfl, rfl, hs, q0, q1⟩ := h
  obtain rfl := Vals.ref1 r
  obtain ⟨w1, rfl, e1⟩ := vals1 rz
  obtain ⟨its, rv, hl, _⟩ := I.list hs
  have hi := rv.ints
  have hh : X.A.handled = none := I.ok.hd hc
  obtain ⟨xs, e⟩ := hi.allInts.items
  have hn : numsOf (intItems xs).toList = ns := by rw [← e]; exact hi.numsOf
  rw [nums_intItems] at hn
  have hl2 := hl.isList
  rw [e] at hl2
  refine PySem.call_max_walkD (PySem.W.iter_listW (A := X.A.in1) hh hl2 fun s₂ e2 W st hfp hw hk => ?_)
  refine ⟨_, _, _, _, _, _, _, s.heap, (fun i j => decide (numAt xs i > numAt xs j)), rfl, W, st, hfp, hw, hk, fun hz s' m => ?_, fun hp => ⟨fun i j vi vj s3 Q3 E3 _ hi hj h3 => CmpOf.ints_gt (numAt xs) (fun _ _ => intItems_at) i j vi vj s3 Q3 E3 hi hj h3, fun v s' hP m => ?_⟩⟩
  · obtain ⟨h', tk, rfl, hk'⟩ := PySem.W.moved_old e2 rfl m
    refine ⟨d, H, I.kept hk', e1, q0 ?_⟩
    rw [← hn]
    have : xs.size = 0 := by simpa [intItems] using hz
    rw [Array.eq_empty_of_size_eq_zero this]; rfl
  · obtain ⟨h', tk, rfl, hk'⟩ := PySem.W.moved_old e2 rfl m
    have hp2 : 0 < xs.size := by simpa [intItems] using hp
    have hsz : (intItems xs).size = xs.size := by simp [intItems]
    rw [hsz] at hP
    obtain ⟨t, rfl⟩ := intItems_at hP
    obtain ⟨h1, h2⟩ := argBest_gt (numAt xs) (xs.size - 1)
    refine ⟨.int _, H, I.kept hk', ⟨_, rfl⟩, q1 ?_ _ ?_ fun y hy => ?_⟩
    · intro z
      rw [← hn] at z
      have := congrArg List.length z
      rw [List.length_map, Array.length_toList, List.length_nil] at this
      omega
    · rw [← hn, numAt_eq]; exact PySem.getD_mem (by rw [List.length_map, Array.length_toList]; omega)
    · rw [← hn] at hy
      obtain ⟨j, hj, rfl⟩ := mem_getD hy
      rw [List.length_map, Array.length_toList] at hj
      rw [← numAt_eq]; exact h2 j (by omega)
end LX

namespace LX
open PySem PySem.Spec PyProof.Rows L2
/-! ### list(zip(xs, ys)) of two lists -/
theorem nolen_zip : typeLookup (.type "zip") "__len__" = pure none := by rw [typeLookup_type, builtinLookup_eq_fast]; kernel_rfl
theorem nohint_zip : typeLookup (.type "zip") "__length_hint__" = pure none := by rw [typeLookup_type, builtinLookup_eq_fast]; kernel_rfl
def ZSt (z TI TO i1 i2 l1 l2 S : Addr) (h : Heap) (j : Nat) : Prop := IsPair h TI (.ref i1) (.ref i2) ∧ h.IsListIter i1 l1 j ∧ h.IsListIter i2 l2 j ∧
  ((IsZip h z TI TO .none ∧ ∃ a b, IsPair h TO a b) ∨ ∃ T f oT, IsZipHeld h z TI TO T f ∧ h.get? T = some oT ∧ T ≠ z ∧ T ≠ i1 ∧ T ≠ i2 ∧ T ≠ S)
theorem ZSt.at {z TI TO i1 i2 l1 l2 S : Addr} {h h' : Heap} {j : Nat} (x : ZSt z TI TO i1 i2 l1 l2 S h j) (hS : S ≠ z ∧ S ≠ TI ∧ S ≠ TO ∧ S ≠ i1 ∧ S ≠ i2) (k : ∀ b o, b ≠ S → h.get? b = some o → h'.get? b = some o) : ZSt z TI TO i1 i2 l1 l2 S h' j := by
  obtain ⟨a, b, c, d⟩ := x
  refine ⟨k _ _ hS.2.1.symm a, b.at fun o e => k _ o hS.2.2.2.1.symm e, c.at fun o e => k _ o hS.2.2.2.2.symm e, ?_⟩
  rcases d with ⟨d, u, v, e⟩ | ⟨T, f, oT, d, e, n1, n2, n3, n4⟩
  · exact .inl ⟨k _ _ hS.1.symm d, u, v, k _ _ hS.2.2.1.symm e⟩
  · exact .inr ⟨T, f, oT, k _ _ hS.1.symm d, k _ _ n4 e, n1, n2, n3, n4⟩
/-- the tuples made so far -/
def Zd (H1 H : Hp) (xs ys : List V) (Ts : List Addr) : Prop := ∀ (i : Nat) T x y, Ts[i]? = some T → xs[i]? = some x → ys[i]? = some y → H1 T = none ∧ H T = some (.tup [x, y])
section
variable {X : Cx} {pins : List (Addr × Obj)} {σ : L2.St} {z TI TO i1 i2 l1 l2 S : Addr} {H1 : Hp} {xs ys : List V} {A : Around} {R : Result → Shared → Prop} {res : Value}
theorem zip_loop (hh : A.handled = none) (D : ZipApart z TI TO i1 i2 l1 l2) (hS : S ≠ z ∧ S ≠ TI ∧ S ≠ TO ∧ S ≠ i1 ∧ S ≠ i2) (hl : xs.length = ys.length) (hz : xs.length ≤ 1000) (q1 : SqL X.K H1 l1 xs) (q2 : SqL X.K H1 l2 ys) (hS0 : H1 S = none) :
    ∀ (k j : Nat) (s : Shared) (H : Hp) (Ts : List Addr), xs.length - j = k → j ≤ xs.length → Inv X pins σ H s → (∀ b ∈ [z, TI, TO, i1, i2], FpOk X pins H b) → ZSt z TI TO i1 i2 l1 l2 S s.heap j → (∀ b ∈ [z, TI, TO, i1, i2], b < s.heap.objs.size) →
    Same H1 H → H S = some (.lst (Ts.map V.ref)) → Ts.length = j → Zd H1 H xs ys Ts →
    (∀ (s' : Shared) (H' : Hp) (Us : List Addr), Inv X pins σ H' s' → Same H1 H' → H' S = some (.lst (Us.map V.ref)) → Us.length = xs.length → Zd H1 H' xs ys Us → R (.ok (.ret res)) s') →
    codeAny (model X.prog X.w) A (.builtin "list.extend.loop" ⟨[.ref S, .ref z, res], []⟩) R s := by
  intro k
  induction k with
  | zero =>
    intro j s H Ts hk hj I hf st lt sm hHS hT zd fin
    have hj2 : j = xs.length := by omega
    obtain ⟨its, rv, p1, _⟩ := I.list (sm.seq q1)
    obtain ⟨its2, rv2, p2, _⟩ := I.list (sm.seq q2)
    have e1 := rv.length
    have hend : its.toArray[j]? = none ∨ its2.toArray[j]? = none := .inl (Array.getElem?_eq_none (by rw [List.size_toArray]; omega))
    refine codeAny_builtin F.entry_extend_loop ?_
    rw [Around.under_plainId F.plain_extend_loop _]
    show wpAny _ A.in1 (pyNext (.ref z) >>= _) _ _ s
    obtain ⟨s1, s2, s3, s4⟩ := st
    rcases s4 with ⟨g1, a, b, g2⟩ | ⟨T, f, oT, g1, g2, n1, n2, n3, n4⟩
    · refine wpAny_bind (wpAny_pyNext_zip_end (A := A.in1) hh D g1 s1 g2 s2 s3 p1.isList p2.isList hend fun h' hk' => ?_)
      refine wpAny_pure (fin _ H Ts (I.turnedL (ch := [z, TI, TO, i1, i2]) (t' := s.toks) (fun c o nb q => hk' c o (fun e => nb (by simp [e])) (fun e => nb (by simp [e])) (fun e => nb (by simp [e])) (fun e => nb (by simp [e])) q) hf) sm hHS (by omega) zd)
    · refine wpAny_bind (wpAny_pyNext_zip_end_held (A := A.in1) hh D g1 g2 s1 s2 s3 p1.isList p2.isList hend fun h' hk' => ?_)
      refine wpAny_pure (fin _ H Ts (I.turnedL (ch := [z, TI, TO, i1, i2]) (t' := s.toks) (fun c o nb q => hk' c o (fun e => nb (by simp [e])) (fun e => nb (by simp [e])) (fun e => nb (by simp [e])) q) hf) sm hHS (by omega) zd)
  | succ k ih =>
    intro j s H Ts hk hj I hf st lt sm hHS hT zd fin
    have hlt : j < xs.length := by omega
    obtain ⟨its, rv, p1, _⟩ := I.list (sm.seq q1)
    obtain ⟨its2, rv2, p2, _⟩ := I.list (sm.seq q2)
    have ex := List.getElem?_eq_getElem hlt
    have ey := List.getElem?_eq_getElem (l := ys) (i := j) (by omega)
    generalize xs[j] = x at ex
    generalize ys[j]'(by omega) = y at ey
    obtain ⟨u, hu, ru⟩ := rv.get ex
    obtain ⟨u2, hu2, ru2⟩ := rv2.get ey
    have hu' : its.toArray[j]? = some u := by simpa using hu
    have hu2' : its2.toArray[j]? = some u2 := by simpa using hu2
    refine codeAny_builtin F.entry_extend_loop ?_
    rw [Around.under_plainId F.plain_extend_loop _]
    show wpAny _ A.in1 (pyNext (.ref z) >>= _) _ _ s
    have hTn : H s.heap.objs.size = none := I.hok.fresh (Nat.le_refl _)
    have tail : ∀ (h' : Heap), IsPair h' s.heap.objs.size u u2 → h'.objs.size = s.heap.objs.size + 1 → ZSt z TI TO i1 i2 l1 l2 S h' (j + 1) → (∀ c o, c ∉ [z, TI, TO, i1, i2] → s.heap.get? c = some o → h'.get? c = some o) →
        wpAny (model X.prog X.w) A.in1 (do let x ← pure (some (Value.ref s.heap.objs.size)); match x with
          | none => ret res
          | some x => do Builtin.List.listUpdate (.ref S) (·.push x); again (.builtin "list.extend.loop" ⟨[.ref S, .ref z, res], []⟩)) (fun fin s' => match fin with | .done f => R (.ok f) s' | .again c' => c'.quiet = true ∧ codeAny (model X.prog X.w) A c' R s') (fun e s' => R (.error e) s') { s with heap := h' } := by
      intro h' pr sz st' kp
      have ob : ObjOk X.prog X.w (upd H s.heap.objs.size (.tup [x, y])) h' s.heap.objs.size (.tup [x, y]) :=
        ⟨by show 2 ≤ sizeLine; decide, [u, u2], .cons ru (.cons ru2 .nil), ⟨_, pr, rfl, _, rfl⟩⟩
      have J : Inv X pins σ (upd H s.heap.objs.size (.tup [x, y])) { s with heap := h', toks := s.toks } := I.turnedNew (ch := [z, TI, TO, i1, i2]) kp hf (Nat.le_refl _) ob
      have hST : S ≠ s.heap.objs.size := ne_of_none hHS hTn
      have hH2 : (upd H s.heap.objs.size (.tup [x, y])) S = some (.lst (Ts.map V.ref)) := by rw [upd_ne hST]; exact hHS
      obtain ⟨z0, itS, n, rS, lS, eS⟩ := J.lstM hH2
      rw [List.length_map] at lS
      have J2 := J.lset (its' := itS ++ [.ref s.heap.objs.size]) (ys := Ts.map V.ref ++ [V.ref s.heap.objs.size]) (f := fun a => a.push (.ref s.heap.objs.size)) (t' := s.toks) hH2 eS (by simp) (rS.append (.cons (show L2.RelV (V.ref s.heap.objs.size) (.ref s.heap.objs.size) from rfl) .nil)) (by
        rw [List.length_append, List.length_map]
        exact Nat.le_of_lt (small1000 (by show Ts.length + 1 ≤ 1000; omega)))
      refine wpAny_bind (wpAny_pure ?_)
      show wpAny _ A.in1 (updateSeq S (·.push (.ref s.heap.objs.size)) >>= _) _ _ _
      refine wpAny_bind (wpAny_updateSeq eS rfl (wpAny_pure ⟨plainId_quiet F.plain_extend_loop _, ?_⟩) (by rw [List.size_toArray]; exact Nat.le_of_lt (small1000 (by omega))) (by
        rw [Array.size_push, List.size_toArray]
        exact Nat.le_succ_of_le (Nat.le_of_lt (small1000 (by omega)))))
      refine ih (j + 1) _ _ (Ts ++ [s.heap.objs.size]) (by omega) hlt J2 (fun b hb => ?_) (st'.at hS fun b o hb e => (Heap.get?_update_other _ _ (Ne.symm hb)).trans e) (fun b hb => ?_) ?_ (by rw [upd_same, List.map_append]; rfl) (by rw [List.length_append, hT]; rfl) ?_ fin
      · have q := hf b hb
        refine ⟨?_, q.2⟩
        have nb : b ≠ S := fun e => by
          have q0 := q.1
          rw [e, hHS] at q0; cases q0
        rw [upd_ne nb, upd_ne (Nat.ne_of_lt (lt b hb))]
        exact q.1
      · have l0 := lt b hb
        show b < (h'.update S _).objs.size
        rw [Heap.size_update, sz]
        exact Nat.lt_succ_of_lt l0
      · intro b o hb
        rw [upd_ne (ne_of_none hb hS0), upd_ne (ne_of_none (sm _ _ hb) hTn)]
        exact sm _ _ hb
      · intro i T a b e1 e2 e3
        by_cases c : i < Ts.length
        · rw [List.getElem?_append_left c] at e1
          obtain ⟨w1, w2⟩ := zd i T a b e1 e2 e3
          have nT : T ≠ S := fun e => by rw [e, hHS] at w2; cases w2
          exact ⟨w1, by rw [upd_ne nT, upd_ne (ne_of_none w2 hTn)]; exact w2⟩
        · rw [List.getElem?_append_right (by omega)] at e1
          cases w : i - Ts.length with
          | zero =>
            rw [w] at e1
            cases e1
            have ij : i = j := by
              have c2 : Ts.length ≤ i := Nat.le_of_not_lt c
              have w2 : i - Ts.length = 0 := w
              omega
            subst ij
            rw [ex] at e2
            rw [ey] at e3
            cases e2; cases e3
            exact ⟨sm.free hTn, by rw [upd_ne hST.symm, upd_same]⟩
          | succ m => rw [w] at e1; simp at e1
    obtain ⟨s1, s2, s3, s4⟩ := st
    rcases s4 with ⟨g1, a, b, g2⟩ | ⟨T, f, oT, g1, g2, n1, n2, n3, n4⟩
    · refine wpAny_bind (wpAny_pyNext_zip_item (A := A.in1) D g1 s1 g2 s2 s3 p1.isList p2.isList hu' hu2' fun h' a1 a2 a3 a4 a5 a6 hk' => ?_)
      have n0 : s.heap.objs.size ≠ S := (ne_of_none hHS hTn).symm
      refine tail h' a5 a6 ⟨hk' _ _ D.TIz D.TITO D.TIi1 D.TIi2 s1, a3, a4, .inr ⟨_, false, _, a1, a5, Nat.ne_of_gt (lt z (by simp)), Nat.ne_of_gt (lt i1 (by simp)), Nat.ne_of_gt (lt i2 (by simp)), n0⟩⟩ fun c o nb q => hk' c o (fun e => nb (by simp [e])) (fun e => nb (by simp [e])) (fun e => nb (by simp [e])) (fun e => nb (by simp [e])) q
    · refine wpAny_bind (wpAny_pyNext_zip_item_held (A := A.in1) D g1 g2 s1 s2 s3 p1.isList p2.isList hu' hu2' fun h' a1 a3 a4 a5 a6 hk' => ?_)
      refine tail h' a5 a6 ⟨hk' _ _ D.TIz D.TIi1 D.TIi2 s1, a3, a4, .inr ⟨T, true, oT, a1, hk' _ _ n1 n2 n3 g2, n1, n2, n3, n4⟩⟩ fun c o nb q => hk' c o (fun e => nb (by simp [e])) (fun e => nb (by simp [e])) (fun e => nb (by simp [e])) q
theorem list_zip_call (hh : A.handled = none) {s : Shared} {H : Hp} {Q : Value → Shared → Prop} {E : Value → Shared → Prop} (I : Inv X pins σ H s) (D : ZipApart z TI TO i1 i2 l1 l2) (hl : xs.length = ys.length) (hz : xs.length ≤ 1000) (q1 : SqL X.K H l1 xs) (q2 : SqL X.K H l2 ys)
    (hf : ∀ b ∈ [z, TI, TO, i1, i2], FpOk X pins H b) (hZ : IsZip s.heap z TI TO .none) (hTI : IsPair s.heap TI (.ref i1) (.ref i2)) (hTO : ∃ a b, IsPair s.heap TO a b) (h1 : s.heap.IsListIter i1 l1 0) (h2 : s.heap.IsListIter i2 l2 0)
    (fin : ∀ (s' : Shared) (H' : Hp) (S : Addr) (Us : List Addr), Inv X pins σ H' s' → Same H H' → H S = none → H' S = some (.lst (Us.map V.ref)) → Us.length = xs.length → Zd H H' xs ys Us → Q (.ref S) s') :
    wpAny (model X.prog X.w) A (call (.type "list") [.ref z]) Q E s := by
  refine callType_codes (Q₁ := fun obj s₁ => obj = .ref s.heap.objs.size ∧ s₁ = { s with heap := s.heap.push { cls := .type "list", data := .seq #[] } }) PySem.F.called_list (PySem.F.typeCall_list_1 _) PySem.F.entry_list_init
    (code_list_new _ ⟨rfl, rfl⟩) fun obj s₁ h₁ => ?_
  obtain ⟨rfl, rfl⟩ := h₁
  have hS : (s.heap.push { cls := .type "list", data := .seq #[] }).get? s.heap.objs.size = some { cls := .type "list", data := .seq #[] } := Heap.get?_push_size _ rfl
  refine ⟨⟨_, hS, rfl⟩, PySem.F.args_list_init_2 _ _, ?_⟩
  have sz0 : (s.heap.push { cls := .type "list", data := .seq #[] }).objs.size = s.heap.objs.size + 1 := Heap.size_push ..
  have hSn : H s.heap.objs.size = none := I.hok.fresh (Nat.le_refl _)
  have ltz : z < s.heap.objs.size := Heap.lt_size hZ
  have lTI : TI < s.heap.objs.size := Heap.lt_size hTI
  have lTO : TO < s.heap.objs.size := let ⟨_, _, q⟩ := hTO; Heap.lt_size q
  have li1 : i1 < s.heap.objs.size := let ⟨_, q, _⟩ := h1; Heap.lt_size q
  have li2 : i2 < s.heap.objs.size := let ⟨_, q, _⟩ := h2; Heap.lt_size q
  have I1 : Inv X pins σ (upd H s.heap.objs.size (.lst [])) { s with heap := s.heap.push { cls := .type "list", data := .seq #[] }, toks := s.toks } := I.lnew (its := []) .nil (by decide)
  have hHS : (upd H s.heap.objs.size (.lst [])) s.heap.objs.size = some (.lst []) := upd_same
  show wpAny _ _ (do let old ← Builtin.List.listItems (.ref s.heap.objs.size); Builtin.List.listUpdate (.ref s.heap.objs.size) (fun _ => #[]); letGo old.toList.reverse; Builtin.List.listExtendWith (.ref s.heap.objs.size) (.ref z) .none) _ _ _
  refine wpAny_bind ?_
  unfold Builtin.List.listItems
  refine wpAny_bind (wpAny_seqItems hS rfl (wpAny_pure ?_))
  show wpAny _ _ (updateSeq s.heap.objs.size (fun _ => #[]) >>= fun _ => letGo (#[] : Array Value).toList.reverse >>= fun _ => Builtin.List.listExtendWith (.ref s.heap.objs.size) (.ref z) .none) _ _ _
  refine wpAny_bind (wpAny_updateSeq hS rfl ?_)
  have hS₂ := Heap.get?_update_self (Obj.mapSeq (fun _ => (#[] : Array Value))) hS rfl
  have I2 := I1.lset (its' := []) (ys := []) (f := fun _ => #[]) (t' := s.toks) hHS hS rfl .nil (by decide)
  rw [upd_upd] at I2
  have k2 : ∀ b o, b ≠ s.heap.objs.size → s.heap.get? b = some o → ((s.heap.push { cls := .type "list", data := .seq #[] }).update s.heap.objs.size (Obj.mapSeq (fun _ => (#[] : Array Value)))).get? b = some o := fun b o hb e => (Heap.get?_update_other _ _ (Ne.symm hb)).trans (Heap.get?_push_of_some _ e)
  have sz2 : ((s.heap.push { cls := .type "list", data := .seq #[] }).update s.heap.objs.size (Obj.mapSeq (fun _ => (#[] : Array Value)))).objs.size = s.heap.objs.size + 1 := by rw [Heap.size_update, sz0]
  generalize ((s.heap.push { cls := .type "list", data := .seq #[] }).update s.heap.objs.size (Obj.mapSeq (fun _ => (#[] : Array Value)))) = h2' at hS₂ I2 k2 sz2
  refine wpAny_bind (wpAny_letGo ?_)
  unfold Builtin.List.listExtendWith
  have hT2 : Shared.TypeIs { s with heap := h2' } (.ref z) "zip" := ⟨_, k2 _ _ (Nat.ne_of_lt ltz) hZ, rfl⟩
  refine wpAny_bind (wpAny_typeOf hT2 ?_)
  have e1 : Builtin.List.listSameRef (.ref s.heap.objs.size) (.ref z) = false := by simp [Builtin.List.listSameRef, Nat.ne_of_gt ltz]
  simp only [e1, show (Value.type "zip" == Value.type "list") = false by decide, show (Value.type "zip" == Value.type "tuple") = false by decide, Bool.or_false, Bool.false_eq_true, if_false]
  refine wpAny_bind (wpAny_pyIter_zip (k2 _ _ (Nat.ne_of_lt ltz) hZ) ?_)
  refine wpAny_bind (wpAny_holding ?_)
  unfold Builtin.List.listLengthHint
  refine wpAny_bind (wpAny_specialOf hT2 nolen_zip ?_)
  show wpAny _ _ (specialOf (Value.ref z) (Str.ofString "__length_hint__") >>= _) _ _ _
  refine wpAny_bind (wpAny_specialOf hT2 nohint_zip ?_)
  refine wpAny_pure ?_
  show wpAny _ _ (rule "list.extend.makes-room" >>= fun _ => Builtin.List.listTouch (.ref s.heap.objs.size) >>= fun _ =>
    again (.builtin "list.extend.loop" ⟨[.ref s.heap.objs.size, .ref z, .none], []⟩)) _ _ _
  refine wpAny_bind (wpAny_rule ?_)
  refine wpAny_bind ?_
  show wpAny _ _ (updateSeq s.heap.objs.size (·.push .none) >>= fun _ => updateSeq s.heap.objs.size (·.pop)) _ _ _
  refine wpAny_bind (wpAny_updateSeq hS₂ rfl ?_)
  have hS₃ := Heap.get?_update_self (Obj.mapSeq (·.push Value.none)) hS₂ rfl
  refine wpAny_updateSeq hS₃ rfl ?_
  have I4 := I2.lset (its' := []) (ys := []) (f := fun a => (a.push Value.none).pop) (t' := s.toks) upd_same hS₂ rfl .nil (by decide)
  have eqU : (h2'.update s.heap.objs.size (Obj.mapSeq (·.push Value.none))).update s.heap.objs.size (Obj.mapSeq (·.pop)) = (h2'.update s.heap.objs.size (Obj.mapSeq (·.push Value.none))).update s.heap.objs.size (Obj.mapSeq (·.pop)) := rfl
  have J4 : Inv X pins σ (upd H s.heap.objs.size (.lst [])) { s with heap := (h2'.update s.heap.objs.size (Obj.mapSeq (·.push Value.none))).update s.heap.objs.size (Obj.mapSeq (·.pop)), toks := s.toks } := by
    have z := I2.write (x := s.heap.objs.size) (e := s.heap.objs.size) (o := .lst []) (h' := (h2'.update s.heap.objs.size (Obj.mapSeq (·.push Value.none))).update s.heap.objs.size (Obj.mapSeq (·.pop))) (t' := s.toks) (by rw [upd_same]; exact trivial) (.inl rfl)
      (fun b u hb hu => (Heap.get?_update_other _ _ (Ne.symm hb)).trans ((Heap.get?_update_other _ _ (Ne.symm hb)).trans hu)) ⟨_, Heap.get?_update_self _ hS₃ rfl⟩ ⟨by decide, [], _, .nil, Heap.get?_update_self _ hS₃ rfl⟩
    rw [upd_upd] at z
    exact z
  have sm : Same H (upd H s.heap.objs.size (.lst [])) := fun b x e => by rw [upd_ne (ne_of_none e hSn)]; exact e
  have k4 : ∀ b o, b ≠ s.heap.objs.size → s.heap.get? b = some o → ((h2'.update s.heap.objs.size (Obj.mapSeq (·.push Value.none))).update s.heap.objs.size (Obj.mapSeq (·.pop))).get? b = some o := fun b o hb e => (Heap.get?_update_other _ _ (Ne.symm hb)).trans ((Heap.get?_update_other _ _ (Ne.symm hb)).trans (k2 b o hb e))
  refine wpAny_pure ⟨plainId_quiet F.plain_extend_loop _, zip_loop (A := A.in1) (S := s.heap.objs.size) hh D ⟨Nat.ne_of_gt ltz, Nat.ne_of_gt lTI, Nat.ne_of_gt lTO, Nat.ne_of_gt li1, Nat.ne_of_gt li2⟩ hl hz q1 q2 hSn _ 0 _ _ [] rfl (Nat.zero_le _) J4 (fun b hb => ?_) ?_ (fun b hb => ?_) sm upd_same rfl (fun i T x y e => by simp at e) fun s' H' Us J sm2 hU lU zd => ?_⟩
  · have q := hf b hb
    refine ⟨?_, q.2⟩
    have nb : b ≠ s.heap.objs.size := by
      simp only [List.mem_cons, List.not_mem_nil, or_false] at hb
      rcases hb with rfl | rfl | rfl | rfl | rfl
      · exact Nat.ne_of_lt ltz
      · exact Nat.ne_of_lt lTI
      · exact Nat.ne_of_lt lTO
      · exact Nat.ne_of_lt li1
      · exact Nat.ne_of_lt li2
    rw [upd_ne nb]
    exact q.1
  · obtain ⟨a, b, hTO⟩ := hTO
    exact ⟨k4 _ _ (Nat.ne_of_lt lTI) hTI, h1.at fun o e => k4 _ o (Nat.ne_of_lt li1) e, h2.at fun o e => k4 _ o (Nat.ne_of_lt li2) e, .inl ⟨k4 _ _ (Nat.ne_of_lt ltz) hZ, a, b, k4 _ _ (Nat.ne_of_lt lTO) hTO⟩⟩
  · have lt2 : b < s.heap.objs.size := by
      simp only [List.mem_cons, List.not_mem_nil, or_false] at hb
      rcases hb with rfl | rfl | rfl | rfl | rfl <;> assumption
    show b < ((h2'.update s.heap.objs.size (Obj.mapSeq (·.push Value.none))).update s.heap.objs.size (Obj.mapSeq (·.pop))).objs.size
    rw [Heap.size_update, Heap.size_update, sz2]
    exact Nat.lt_succ_of_lt lt2
  · exact ⟨rfl, fin s' H' _ Us J sm2 hSn hU lU zd⟩
end
/-- what list(zip(e, f)) asks: two lists of one length; behind it a new list of new pairs -/
def tListZip (K : PySem.W.Frag) (ta : TA) : TE := fun σ H Q => ta σ H fun vs H1 => ∃ (a b : Addr) (xs ys : List V), vs = [.ref a, .ref b] ∧ SqL K H1 a xs ∧ SqL K H1 b ys ∧ xs.length = ys.length ∧ xs.length ≤ 1000 ∧
  ∀ (H2 : Hp) (p : Addr) (Us : List Addr), Same H1 H2 → H1 p = none → H2 p = some (.lst (Us.map V.ref)) → Us.length = xs.length → Zd H1 H2 xs ys Us → Q (.ref p) H2
theorem pe_listZip {X : Cx} {e e2 : Expr} {ta : TA} {p p2 pos pos2 : Pos} (hc : X.calm = true) (hg : Gl X "list") (hm : X.mg "list" = none) (hg2 : Gl X "zip") (hm2 : X.mg "zip" = none) (ha : PA X [e, e2] ta)
    (hs : starEach [e, e2] X.env = (false, eval e X.env) :: starEach [e2] X.env := by rfl) (hpl : (backTo pos2 (starEach [e2] X.env)).any (·.1) = false := by rfl)
    (na : starEach [.Call (.Name "zip" p2) [e, e2] [] pos2] X.env = (false, eval (.Call (.Name "zip" p2) [e, e2] [] pos2) X.env) :: starEach [] X.env := by rfl) :
    PE X (.Call (.Name "list" p) [.Call (.Name "zip" p2) [e, e2] [] pos2] [] pos) (tListZip X.K ta) := by
  refine ⟨fun pins s σ H Q I want => ?_⟩
  refine Call_ (ld_blt I hg hm boot_list (PyProof.Rows.callWith_type1 (args_cons (Q := fun us s1 => wpAny (model X.prog X.w) X.A (call (.type "list") us) (EP X pins σ Q) X.xe s1) ?_ na) na))
  refine Call_ (ld_blt I hg2 hm2 PyProof.Rows.boot_zip (PyProof.Rows.callWith_type1 (thn (ha.run pos2 pins s σ H _ I want) ?_) hs hpl))
  rintro us s1 ⟨vs, H1, J, rel, a, b, xs, ys, rfl, qx, qy, hl, hz, q⟩
  obtain ⟨u1, u2, rfl, r1, r2⟩ := vals2 rel
  cases r1
  cases r2
  obtain ⟨its, rv, p1, _⟩ := J.list qx
  obtain ⟨its2, rv2, p3, _⟩ := J.list qy
  have la : a < s1.heap.objs.size := p1.lt
  refine zip_begins2 (begins_list a its.toArray) (begins_list b its2.toArray) p1.isList p3.isList fun h' hz2 hTI hTO g1 g2 sz keep => args_nil ?_
  have J2 : Inv X pins σ H1 { s1 with heap := h' } := J.kept (t' := s1.toks) keep
  refine list_zip_call (J.ok.hd hc) J2 (PySem.W.ktu_apart s1.heap.objs.size a b la p3.lt) hl hz qx qy (fun c hc2 => ?_) hz2 hTI ⟨_, _, hTO⟩ ⟨_, g1, rfl, rfl⟩ ⟨_, g2, rfl, rfl⟩ fun s' H' S Us I' sm n0 hU lU zd => ⟨.ref S, H', I', rfl, q H' S Us sm n0 hU lU zd⟩
  have le : s1.heap.objs.size ≤ c := by
    simp only [List.mem_cons, List.not_mem_nil, or_false] at hc2
    rcases hc2 with rfl | rfl | rfl | rfl | rfl <;> omega
  exact J.fpOk le (J.hok.fresh le)
end LX

namespace LX
open PySem PySem.Spec PyProof.Rows L2
variable {X : Cx}
/-- name = {k: v for ..} on one line, the name a local -/
theorem ps_setDc {i : Nat} {y : Str} {py : Pos} {kx vx tg iter : Expr} {ifs : List Expr} {scope : Scope} {own : List (Str × Nat)} {pos spos : Pos} {wi : TI} {g : TG} {tt : TT} {tk tv : TE} (hc : X.calm = true) (hN : X.N.Nodup) (hy : X.N[i]? = some y) (hyl : X.env.scope.names.lookup y = some .local)
    (hsw : swapsWith (.DictComp kx vx [⟨tg, iter, ifs, 0⟩] scope pos) (some (.Name y py)) spos.line X.env = pure true) (hi : PI X tg iter wi) (ok : BlkOk X.N X.env.scope scope own)
    (hg : ∀ (s : Shared) (H : Hp) (C : Addr) (cl : List (Str × Addr)) (fp : List Addr), PG (X.blk s H scope (compEnvC scope cl C X.env) fp) tg g) (ht : ∀ (s : Shared) (H : Hp) (C : Addr) (cl : List (Str × Addr)) (fp : List Addr), PTs (X.blk s H scope (compEnvC scope cl C X.env) fp) ifs tt)
    (hk : ∀ (s : Shared) (H : Hp) (C : Addr) (cl : List (Str × Addr)) (fp : List Addr), PE (X.blk s H scope (compEnvC scope cl C X.env) fp) kx tk)
    (he : ∀ (s : Shared) (H : Hp) (C : Addr) (cl : List (Str × Addr)) (fp : List Addr), PE (X.blk s H scope (compEnvC scope cl C X.env) fp) vx tv) (hs : ∀ x, foldedSetIterable iter X.env x = pure x := by intro _; rfl) :
    PS X (.Assign [.Name y py] (.DictComp kx vx [⟨tg, iter, ifs, 0⟩] scope pos) spos) (tAsg (tDc wi g tt tk tv (own.map (·.2))) (gName i)) := by
  refine ⟨fun pins s σ H D I h => ?_⟩
  rw [exec_Assign_Name_used _ _ _ _ hsw]
  refine wpAny_bind (wpAny_standAt (wpAny_bind ?_))
  show wpAny _ X.A (do let _ ← comprehension (.DictComp kx vx [⟨tg, iter, ifs, 0⟩] scope pos) scope X.env (firstIterPos [⟨tg, iter, ifs, 0⟩] pos) newDict false (eval iter X.env) (some (assign (.Name y py) X.env))) _ _ s
  have h : tDc wi g tt tk tv (own.map (·.2)) σ H (fun x H1 => gName i x σ H1 D.nx) := h
  refine wpAny_bind (thn (dc_core (Qf := fun _ s' => SP X pins D .next s') hc hN I hi ok hg ht hk he hs h fun L C s' m H' I' q hn f => ?_) fun _ s' hq => wpAny_pure (wpAny_pure hq))
  show wpAny _ _ (assign (.Name y py) X.env (.ref L)) _ _ _
  refine wpAny_assign_Name (store_ok2 (v := V.ref L) I' hN hy (.inl hyl) rfl (fun s2 I2 ⟨a, sb, ha⟩ => ?_) (.inr hyl))
  obtain ⟨f0, f1, f2, f3, f4, f5⟩ := f
  have haC : C ≠ a := by
    rcases ha with z | z
    · rw [z]; exact f1
    · exact fun e => f4 y a z e.symm
  refine ⟨m, hn.sameBut sb haC, fun h3 sb3 => ?_⟩
  exact ⟨_, H', I2.turned (t' := s2.toks) (fun b o hb e => (sb3.2 b hb).trans e) f0 f1 f3 f4 f5, q⟩
theorem sw_trueD {kx vx : Expr} {gs : List Comprehension} {scope : Scope} {pos py : Pos} {y : Str} {l : Nat} {env : Env} (hk : env.scope.kind = .function) (hy : env.scope.names.lookup y = some .local) (hl : (py.line == pos.line) = true)
    (ha : (scope.names.any fun (n, k) => n == y && (k == .local || k == .cell)) = false) : swapsWith (.DictComp kx vx gs scope pos) (some (.Name y py)) l env = pure true := by
  have ky : env.kindOf y = some .local := hy
  have hb : env.blockKind = .function := by unfold Env.blockKind; rw [hk]; rfl
  unfold swapsWith
  simp only [hb, ky, ha, Expr.pos, hl]
  rfl
end LX

/-! max of a list or a tuple of ints -/
namespace LX
open PySem PySem.Spec PyProof.Rows L2 LP
def rMaxE (K : PySem.W.Frag) : List V → Hp → VK → Prop := fun vs H Q => ∃ (a : Addr) (ns : List Int), vs = [.ref a] ∧ SqE K H a (ns.map V.int) ∧ ns ≠ [] ∧ ∀ m, m ∈ ns → (∀ y ∈ ns, y ≤ m) → Q (.int m) H
theorem cr_maxE {X : Cx} (hc : X.calm = true) : CallR X (.builtin "max") (rMaxE X.K) := by
  intro pins s σ H vs us Q I r h
  obtain ⟨a, ns, rfl, hs, hne, q1⟩ := h
  rcases hs with hs | hs
  · exact cr_max hc pins s σ H [.ref a] us Q I r ⟨a, ns, rfl, hs, List.length_pos_iff.mpr hne, fun m hm hy => q1 m hm hy⟩
  obtain rfl := Vals.ref1 r
  obtain ⟨its, rv, hl, _⟩ := I.tuple hs
  have hi := rv.ints
  have hh : X.A.handled = none := I.ok.hd hc
  obtain ⟨xs, e⟩ := hi.allInts.items
  have hn : numsOf (intItems xs).toList = ns := by rw [← e]; exact hi.numsOf
  rw [nums_intItems] at hn
  have hl2 : s.heap.IsTuple a its.toArray := by
    obtain ⟨o, h1, h2, n, h3⟩ := hl
    first | exact ⟨o, h1, h2, n, h3⟩ | exact ⟨o, h1, h2, ⟨n, h3⟩⟩ | exact ⟨o, n, h1, h2, h3⟩
  rw [e] at hl2
  have hp2 : 0 < xs.size := by
    rcases Nat.eq_zero_or_pos xs.size with z | z
    · exfalso; apply hne; rw [← hn, Array.eq_empty_of_size_eq_zero z]; rfl
    · exact z
  refine PySem.call_max_walkH (PySem.W.iter_tupleW (A := X.A.in1) hh hl2 fun s₂ e2 W st hfp hw hk => ?_)
  refine ⟨_, _, _, _, _, _, _, s.heap, (fun i j => decide (numAt xs i > numAt xs j)), rfl, W, st, hfp, by simpa [intItems] using hp2, hw, hk, fun i j vi vj s3 Q3 E3 _ hi hj h3 => CmpOf.ints_gt (numAt xs) (fun _ _ => intItems_at) i j vi vj s3 Q3 E3 hi hj h3, fun v s' hP m => ?_⟩
  obtain ⟨h', tk, rfl, hk'⟩ := PySem.W.moved_old e2 rfl m
  have hsz : (intItems xs).size = xs.size := by simp [intItems]
  rw [hsz] at hP
  obtain ⟨t, rfl⟩ := intItems_at hP
  obtain ⟨h1, h2⟩ := argBest_gt (numAt xs) (xs.size - 1)
  refine ⟨.int _, H, I.kept hk', ⟨_, rfl⟩, q1 _ ?_ fun y hy => ?_⟩
  · rw [← hn, numAt_eq]; exact PySem.getD_mem (by rw [List.length_map, Array.length_toList]; omega)
  · rw [← hn] at hy
    obtain ⟨j, hj, rfl⟩ := mem_getD hy
    rw [List.length_map, Array.length_toList] at hj
    rw [← numAt_eq]; exact h2 j (by omega)
end LX

/-! steps: one lemma a reading, by its head; heaps are told apart by names, not by what they are made of -/
namespace LS
open PySem L2 LT LG LP LX
/-! ## frames -/
theorem Same.fr_new {H0 H H' : Hp} {p : Addr} (s : Same H0 H) (f : Fr H H' p) (n : H0 p = none) : Same H0 H' := fun a o h => f a o (s a o h) (ne_of_none h n)
theorem Fr.same {H0 H H' : Hp} {b : Addr} (f : Fr H0 H b) (s : Same H H') : Fr H0 H' b := fun a o h n => s a o (f a o h n)
theorem Fr.fr_new {H0 H H' : Hp} {b p : Addr} (s : Fr H0 H b) (f : Fr H H' p) (n : H0 p = none) : Fr H0 H' b := fun a o h nb => f a o (s a o h nb) (ne_of_none h n)
theorem Fr.upd {H : Hp} {p : Addr} {o : HO} : Fr H (upd H p o) p := fun a u h n => by rw [upd_ne n]; exact h
theorem fr_seq {K : PySem.W.Frag} {H H' : Hp} {a p : Addr} {xs : List V} (f : Fr H H' p) (h : SqL K H a xs) (n : a ≠ p) : SqL K H' a xs := by
  rcases h with (h | ⟨o, h⟩) | h
  · exact .inl (.inl (f _ _ h n))
  · exact .inl (.inr ⟨o, f _ _ h n⟩)
  · exact .inr h
theorem fr_tup {K : PySem.W.Frag} {H H' : Hp} {a p : Addr} {xs : List V} (f : Fr H H' p) (h : SqT K H a xs) (n : a ≠ p) : SqT K H' a xs := by
  rcases h with (h | ⟨o, h⟩) | h
  · exact .inl (.inl (f _ _ h n))
  · exact .inl (.inr ⟨o, f _ _ h n⟩)
  · exact .inr h
theorem free_same {H H' : Hp} {p : Addr} (s : Same H H') (h : H' p = none) : H p = none := s.free h
theorem free_fr {H H' : Hp} {b p : Addr} {o : HO} (f : Fr H H' b) (hb : H' b = some o) (h : H' p = none) : H p = none := by
  cases q : H p with
  | none => rfl
  | some u =>
    by_cases e : p = b
    · subst e; rw [hb] at h; cases h
    · rw [f p u q e] at h; cases h
theorem ne_il {H : Hp} {a b C dx : Addr} {fs : List (Str × V)} {ys : List V} (h : H a = some (.ins C dx fs)) (h' : H b = some (.lst ys)) : a ≠ b := ne_of h h' (by intro z; cases z)
theorem ne_li {H : Hp} {a b C dx : Addr} {fs : List (Str × V)} {ys : List V} (h' : H b = some (.ins C dx fs)) (h : H a = some (.lst ys)) : a ≠ b := ne_of h h' (by intro z; cases z)
theorem ne_lt {H : Hp} {a b : Addr} {xs ys : List V} (h : H a = some (.lst xs)) (h' : H b = some (.tup ys)) : a ≠ b := ne_of h h' (by intro z; cases z)
theorem ne_tl {H : Hp} {a b : Addr} {xs ys : List V} (h : H a = some (.tup xs)) (h' : H b = some (.lst ys)) : a ≠ b := ne_of h h' (by intro z; cases z)
/-! ## what the search for facts about heaps goes by -/
theorem hp_s {H H' : Hp} {p : Addr} {o : HO} (s : Same H H') (h : H p = some o) : H' p = some o := s p o h
theorem hp_f {H H' : Hp} {b p : Addr} {o : HO} (f : Fr H H' b) (h : H p = some o) (n : p ≠ b) : H' p = some o := f p o h n
theorem sq_o {K : PySem.W.Frag} {H : Hp} {p : Addr} {xs : List V} (h : H p = some (.lst xs)) : SqL K H p xs := SqL.of h
theorem sq_s {K : PySem.W.Frag} {H H' : Hp} {p : Addr} {xs : List V} (s : Same H H') (h : SqL K H p xs) : SqL K H' p xs := s.seq h
theorem sq_f {K : PySem.W.Frag} {H H' : Hp} {b p : Addr} {xs : List V} (f : Fr H H' b) (h : SqL K H p xs) (n : p ≠ b) : SqL K H' p xs := fr_seq f h n
theorem tu_o {K : PySem.W.Frag} {H : Hp} {p : Addr} {xs : List V} (h : H p = some (.tup xs)) : SqT K H p xs := SqT.of h
theorem tu_s {K : PySem.W.Frag} {H H' : Hp} {p : Addr} {xs : List V} (s : Same H H') (h : SqT K H p xs) : SqT K H' p xs := same_tup s h
theorem tu_f {K : PySem.W.Frag} {H H' : Hp} {b p : Addr} {xs : List V} (f : Fr H H' b) (h : SqT K H p xs) (n : p ≠ b) : SqT K H' p xs := fr_tup f h n
theorem se_l {K : PySem.W.Frag} {H : Hp} {p : Addr} {xs : List V} (h : H p = some (.lst xs)) : SqE K H p xs := .inl (SqL.of h)
theorem se_t {K : PySem.W.Frag} {H : Hp} {p : Addr} {xs : List V} (h : H p = some (.tup xs)) : SqE K H p xs := .inr (SqT.of h)
theorem se_q {K : PySem.W.Frag} {H : Hp} {p : Addr} {xs : List V} (h : SqL K H p xs) : SqE K H p xs := .inl h
theorem se_u {K : PySem.W.Frag} {H : Hp} {p : Addr} {xs : List V} (h : SqT K H p xs) : SqE K H p xs := .inr h
theorem se_s {K : PySem.W.Frag} {H H' : Hp} {p : Addr} {xs : List V} (s : Same H H') (h : SqE K H p xs) : SqE K H' p xs := h.same s
theorem se_f {K : PySem.W.Frag} {H H' : Hp} {b p : Addr} {xs : List V} (f : Fr H H' b) (h : SqE K H p xs) (n : p ≠ b) : SqE K H' p xs := h.imp (fun h => fr_seq f h n) fun h => fr_tup f h n
theorem sm_s {H0 H H' : Hp} (s : Same H H') (h : Same H0 H) : Same H0 H' := h.trans s
theorem sm_f {H0 H H' : Hp} {p : Addr} (f : Fr H H' p) (h : Same H0 H) (n : H0 p = none) : Same H0 H' := Same.fr_new h f n
theorem fr_s {H0 H H' : Hp} {b : Addr} (s : Same H H') (h : Fr H0 H b) : Fr H0 H' b := Fr.same h s
theorem fr_b {H0 H H' : Hp} {b : Addr} (f : Fr H H' b) (h : Fr H0 H b) : Fr H0 H' b := h.trans f
theorem fr_n {H0 H H' : Hp} {b p : Addr} (f : Fr H H' p) (h : Fr H0 H b) (n : H0 p = none) : Fr H0 H' b := Fr.fr_new h f n
theorem ne_a {H : Hp} {a b : Addr} {o : HO} (h' : H b = none) (h : H a = some o) : a ≠ b := ne_of_none h h'
theorem ne_b {H : Hp} {a b : Addr} {o : HO} (h' : H a = none) (h : H b = some o) : a ≠ b := (ne_of_none h h').symm
theorem no_s {H H' : Hp} {p : Addr} (h : H' p = none) (s : Same H H') : H p = none := s.free h
theorem no_f {H H' : Hp} {b p : Addr} {o : HO} (h : H' p = none) (f : Fr H H' b) (hb : H' b = some o) : H p = none := free_fr f hb h
theorem sz {n : Nat} (h : n ≤ 100000) : n ≤ sizeLine := Nat.le_trans h (by decide)
theorem szl {n : Nat} (h : n < 100000) : n < sizeLine := Nat.lt_of_lt_of_le h (by decide)
theorem at_g {α : Type} {xs : List α} {j : Nat} {v : α} {z : Int} (hz : z = (j : Int)) (e : xs[j]? = some v) : atI xs z = some v := by
  subst hz
  unfold atI
  rw [ixN_at (List.getElem?_eq_some_iff.mp e).1]
  exact e
theorem cut_to (xs : List V) (i : Nat) : cutV xs none (some (i : Int)) = xs.take i := by
  unfold cutV
  rw [HT.sIx_none, HT.sIx_nat, List.drop_zero, Nat.sub_zero]
  rcases Nat.lt_or_ge i xs.length with h | h
  · rw [Nat.min_eq_left (by omega)]
  · rw [Nat.min_eq_right (by omega), List.take_of_length_le (Nat.le_refl _), List.take_of_length_le h]
theorem cut_from (xs : List V) (i : Nat) : cutV xs (some (i : Int)) none = xs.drop i := by
  unfold cutV
  rw [HT.sIx_none, HT.sIx_nat]
  rcases Nat.lt_or_ge i xs.length with h | h
  · rw [Nat.min_eq_left (by omega), List.take_of_length_le (by rw [List.length_drop]; omega)]
  · rw [Nat.min_eq_right (by omega), List.drop_of_length_le (Nat.le_refl _), List.drop_of_length_le h, List.take_nil]
theorem flat_rep {α : Type} (n : Nat) (x : α) : (List.replicate n [x]).flatten = List.replicate n x := by
  induction n with
  | zero => rfl
  | succ m ih => rw [List.replicate_succ, List.flatten_cons, List.replicate_succ, ih]; rfl
/-! ## rules by name -/
def rListOf (K : PySem.W.Frag) : List V → Hp → VK → Prop := fun xs H Q => ∃ p ys, xs = [.ref p] ∧ (SqL K H p ys ∨ SqT K H p ys) ∧ ∀ l, H l = none → Q (.ref l) (upd H l (.lst ys))
def rIsN : R2 := fun x y H Q => y = .non ∧ Q (.bl (decide (x = .non))) H
def rNotN : R2 := fun x y H Q => y = .non ∧ Q (.bl (!decide (x = .non))) H
def rInt1 : List V → Hp → VK → Prop := fun xs H Q => (∃ i, xs = [.int i] ∧ Q (.int i) H) ∨ ∃ k, xs = [.bl k] ∧ Q (.int (if k then 1 else 0)) H
def rStrI : List V → Hp → VK → Prop := fun xs H Q => ∃ i, xs = [.int i] ∧ i.natAbs.log2 < 1920 ∧ Q (.str (toString i)) H
def rIntS : List V → Hp → VK → Prop := fun xs H Q => ∃ a n, xs = [.str a] ∧ PySem.intText? a = some n ∧ a.length ≤ 640 ∧ Q (.int n) H
def rAddS : R2 := fun x y H Q => ∃ i j, x = .str i ∧ y = .str j ∧ i.length + j.length ≤ sizeLine ∧ Q (.str (i ++ j)) H
def rSplit : V → List V → Hp → VK → Prop := fun x xs H Q => ∃ a b, x = .str a ∧ xs = [.str b] ∧ (b.length == 0) = false ∧ a.length + 2 ≤ sizeLine ∧ rNewStrs (Txt.split a b) H Q
def rJoin (K : PySem.W.Frag) : V → List V → Hp → VK → Prop := fun x xs H Q => ∃ a p, ∃ ys : List Str, x = .str a ∧ xs = [.ref p] ∧ (SqL K H p (ys.map V.str) ∨ SqT K H p (ys.map V.str)) ∧
    (ys.map (·.length)).sum + ys.length * a.length ≤ 16777216 ∧ Q (.str (Txt.join a ys)) H
def rLenT : List V → Hp → VK → Prop := fun xs H Q => ∃ z, xs = [.str z] ∧ z.length ≤ sizeLine ∧ Q (.int z.length) H
def rAbs : List V → Hp → VK → Prop := fun xs H Q => ∃ i, xs = [.int i] ∧ Q (.int (if i < 0 then -i else i)) H
def rMin2 : List V → Hp → VK → Prop := fun xs H Q => ∃ i j, xs = [.int i, .int j] ∧ Q (.int (if j < i then j else i)) H
def rMax2 : List V → Hp → VK → Prop := fun xs H Q => ∃ i j, xs = [.int i, .int j] ∧ Q (.int (if j > i then j else i)) H
section
variable {X : Cx}
theorem call_abs : CallR X (.builtin "abs") rAbs := L2.call_abs
theorem call_min2 (hc : X.calm = true) : CallR X (.builtin "min") rMin2 := L2.call_min2 hc
theorem call_max2 (hc : X.calm = true) : CallR X (.builtin "max") rMax2 := L2.call_max2 hc
theorem call_len : CallR X (.builtin "len") (rLenS X.K) := call_len_seq
theorem call_lenT : CallR X (.builtin "len") rLenT := call_len_str
theorem call_list : CallR X (.type "list") (rListOf X.K) := call_list_of
theorem op_isN : OpR X (compareOp .Is) rIsN := L2.op_isN
theorem op_notN : OpR X (compareOp .IsNot) rNotN := L2.op_notN
theorem call_int1 : CallR X (.type "int") rInt1 := L2.call_int1
theorem call_strI : CallR X (.type "str") rStrI := L2.call_str_int
theorem call_intS : CallR X (.type "int") rIntS := L2.call_int_str
theorem op_addS : OpR X (binaryOp .Add) rAddS := L2.op_add_str
theorem mt_split : MtR X "str.split" rSplit := L2.mt_split
theorem mt_join : MtR X "str.join" (rJoin X.K) := L2.mt_join
end
/-! ## the reel -/
/-- from H to H' by draws, new objects and stores to what was new -/
structure RT (H H' : Hp) (b : Addr) (d : Nat) : Prop where
  r : Reel H' b d
  f : Fr H H' b
  a : ∀ a, Apart H b a → H a ≠ none → Apart H' b a
theorem Reel.up {H : Hp} {b : Addr} {d d' : Nat} (r : Reel H b d) (h : d ≤ d') : Reel H b d' := r.mono h
theorem reel_fr {H H' : Hp} {b p : Addr} {d : Nat} (r : Reel H b d) (f : Fr H H' p) (ap : Apart H b p) : Reel H' b d := by
  obtain ⟨g, c, gs, cs, k, t, a1, a2, a3, a4⟩ := r.ex
  have n := ap.2 _ a1
  exact ⟨⟨g, c, gs, cs, k, t, f _ _ a1 (Ne.symm ap.1), f _ _ a2 fun e => n (by rw [e]; simp), f _ _ a3 fun e => n (by rw [e]; simp), a4⟩⟩
theorem ap_same {H H' : Hp} {b a : Addr} {d : Nat} (s : Same H H') (r : Reel H b d) (h : Apart H b a) : Apart H' b a := by
  obtain ⟨g, c, gs, cs, k, t, a1, _⟩ := r.ex
  exact ⟨h.1, fun xs hx => by rw [s _ _ a1] at hx; cases hx; exact h.2 _ a1⟩
theorem ap_fr {H H' : Hp} {b a p : Addr} {d : Nat} (f : Fr H H' p) (ap : Apart H b p) (r : Reel H b d) (h : Apart H b a) : Apart H' b a := by
  obtain ⟨g, c, gs, cs, k, t, a1, _⟩ := r.ex
  exact ⟨h.1, fun xs hx => by rw [f _ _ a1 (Ne.symm ap.1)] at hx; cases hx; exact h.2 _ a1⟩
theorem rt_refl {H : Hp} {b : Addr} {d : Nat} (r : Reel H b d) : RT H H b d := ⟨r, Fr.refl _ _, fun _ h _ => h⟩
theorem rt_s {H H1 H' : Hp} {b : Addr} {d : Nat} (s : Same H1 H') (t : RT H H1 b d) : RT H H' b d := ⟨t.r.same s, Fr.same t.f s, fun a h n => ap_same s t.r (t.a a h n)⟩
theorem rt_t {H H1 H' : Hp} {b : Addr} {d d' : Nat} (u : RT H1 H' b d') (t : RT H H1 b d) : RT H H' b d' := ⟨u.r, t.f.trans u.f, fun a h n => u.a a (t.a a h n) (by
  obtain ⟨o, ho⟩ := Option.ne_none_iff_exists'.mp n
  rw [t.f _ _ ho h.1]; simp)⟩
theorem rt_f {H H1 H' : Hp} {b p : Addr} {d : Nat} (f : Fr H1 H' p) (t : RT H H1 b d) (n : H p = none) (ap : Apart H1 b p) : RT H H' b d := ⟨reel_fr t.r f ap, Fr.fr_new t.f f n, fun a h n => ap_fr f ap t.r (t.a a h n)⟩
theorem rt_mono {H H' : Hp} {b : Addr} {d d' : Nat} (t : RT H H' b d) (h : d ≤ d') : RT H H' b d' := ⟨t.r.mono h, t.f, t.a⟩
theorem rl_t {H H' : Hp} {b : Addr} {d : Nat} (t : RT H H' b d) : Reel H' b d := t.r
theorem rl_s {H H' : Hp} {b : Addr} {d : Nat} (s : Same H H') (r : Reel H b d) : Reel H' b d := r.same s
theorem rl_f {H H' : Hp} {b p : Addr} {d : Nat} (f : Fr H H' p) (r : Reel H b d) (ap : Apart H b p) : Reel H' b d := reel_fr r f ap
theorem ap_new {H H' : Hp} {b p : Addr} {d : Nat} (n : H p = none) (s : Same H H') (r : Reel H b d) : Apart H' b p := ap_same s r (r.new n)
theorem ap_s {H H' : Hp} {b a : Addr} {d : Nat} (s : Same H H') (h : Apart H b a) (r : Reel H b d) : Apart H' b a := ap_same s r h
theorem ap_t {H H' : Hp} {b a : Addr} {d : Nat} {o : HO} (t : RT H H' b d) (h : Apart H b a) (e : H a = some o) : Apart H' b a := t.a a h (by rw [e]; simp)
theorem ap_f {H H' : Hp} {b a p : Addr} {d : Nat} (f : Fr H H' p) (h : Apart H b a) (ap : Apart H b p) (r : Reel H b d) : Apart H' b a := ap_fr f ap r h
theorem ne_ap {H : Hp} {b a : Addr} (h : Apart H b a) : a ≠ b := h.1
theorem ne_rl {H : Hp} {b p : Addr} {d : Nat} (n : H p = none) (r : Reel H b d) : p ≠ b := r.ne_new n
theorem hp_t {H H' : Hp} {b p : Addr} {d : Nat} {o : HO} (t : RT H H' b d) (h : H p = some o) (n : p ≠ b) : H' p = some o := t.f p o h n
theorem sq_t {K : PySem.W.Frag} {H H' : Hp} {b p : Addr} {d : Nat} {xs : List V} (t : RT H H' b d) (h : SqL K H p xs) (n : p ≠ b) : SqL K H' p xs := fr_seq t.f h n
theorem tu_t {K : PySem.W.Frag} {H H' : Hp} {b p : Addr} {d : Nat} {xs : List V} (t : RT H H' b d) (h : SqT K H p xs) (n : p ≠ b) : SqT K H' p xs := fr_tup t.f h n
theorem se_tt {K : PySem.W.Frag} {H H' : Hp} {b p : Addr} {d : Nat} {xs : List V} (t : RT H H' b d) (h : SqE K H p xs) (n : p ≠ b) : SqE K H' p xs := se_f t.f h n
theorem no_t {H H' : Hp} {b p : Addr} {d : Nat} (h : H' p = none) (t : RT H H' b d) : H p = none := by
  obtain ⟨o, ho⟩ := t.r.nb
  exact free_fr t.f ho h
theorem fr_t {H0 H H' : Hp} {b : Addr} {d : Nat} (t : RT H H' b d) (h : Fr H0 H b) : Fr H0 H' b := h.trans t.f
/-! ## frames about some objects -/
structure FrL (H H' : Hp) (L : List Addr) : Prop where
  k : ∀ a o, H a = some o → a ∉ L → H' a = some o
  l : ∀ a ∈ L, H' a ≠ none
def Trk (H : Hp) (L : List Addr) : Prop := ∀ a ∈ L, H a ≠ none
theorem trk_nil {H : Hp} : Trk H [] := fun a h => by cases h
theorem trk_cons {H : Hp} {a : Addr} {o : HO} {L : List Addr} (h : H a = some o) (t : Trk H L) : Trk H (a :: L) := fun b hb => by
  rcases List.mem_cons.mp hb with rfl | hb
  · rw [h]; simp
  · exact t b hb
theorem ni_nil {a : Addr} : a ∉ ([] : List Addr) := by simp
theorem ni_cons {a b : Addr} {L : List Addr} (h : a ≠ b) (t : a ∉ L) : a ∉ b :: L := fun q => by
  rcases List.mem_cons.mp q with e | e
  · exact h e
  · exact t e
theorem mem_hd {a : Addr} {L : List Addr} : a ∈ a :: L := List.mem_cons_self ..
theorem mem_tl {a b : Addr} {L : List Addr} (h : a ∈ L) : a ∈ b :: L := List.mem_cons_of_mem _ h
theorem fl_refl {H : Hp} {L : List Addr} (t : Trk H L) : FrL H H L := ⟨fun _ _ h _ => h, t⟩
theorem fl_s {H H1 H' : Hp} {L : List Addr} (s : Same H1 H') (f : FrL H H1 L) : FrL H H' L := ⟨fun a o h n => s a o (f.k a o h n), fun a ha => by
  obtain ⟨o, ho⟩ := Option.ne_none_iff_exists'.mp (f.l a ha)
  rw [s _ _ ho]; simp⟩
theorem fl_m {H H1 H' : Hp} {L : List Addr} {p : Addr} {o : HO} (g : Fr H1 H' p) (f : FrL H H1 L) (hp : p ∈ L) (e : H' p = some o) : FrL H H' L := ⟨fun a u h n => g a u (f.k a u h n) fun z => n (z ▸ hp), fun a ha => by
  by_cases z : a = p
  · rw [z, e]; simp
  · obtain ⟨u, hu⟩ := Option.ne_none_iff_exists'.mp (f.l a ha)
    rw [g _ _ hu z]; simp⟩
theorem fl_n {H H1 H' : Hp} {L : List Addr} {p : Addr} {o : HO} (g : Fr H1 H' p) (f : FrL H H1 L) (n : H p = none) (e : H' p = some o) : FrL H H' L := ⟨fun a u h m => g a u (f.k a u h m) (ne_of_none h n), fun a ha => by
  by_cases z : a = p
  · rw [z, e]; simp
  · obtain ⟨u, hu⟩ := Option.ne_none_iff_exists'.mp (f.l a ha)
    rw [g _ _ hu z]; simp⟩
theorem fl_l {H H1 H' : Hp} {L : List Addr} (g : FrL H1 H' L) (f : FrL H H1 L) : FrL H H' L := ⟨fun a u h n => g.k a u (f.k a u h n) n, g.l⟩
theorem fl_lm {H H1 H' : Hp} {L M : List Addr} (g : FrL H1 H' M) (f : FrL H H1 L) (hs : ∀ a ∈ M, a ∈ L) : FrL H H' L := ⟨fun a u h n => g.k a u (f.k a u h n) fun q => n (hs a q), fun a ha => by
  by_cases q : a ∈ M
  · exact g.l a q
  · obtain ⟨u, hu⟩ := Option.ne_none_iff_exists'.mp (f.l a ha)
    rw [g.k _ _ hu q]; simp⟩
theorem sub_nil {L : List Addr} : ∀ a ∈ ([] : List Addr), a ∈ L := fun a h => by cases h
theorem sub_cons {a : Addr} {L M : List Addr} (h : a ∈ L) (t : ∀ b ∈ M, b ∈ L) : ∀ b ∈ a :: M, b ∈ L := fun b hb => by
  rcases List.mem_cons.mp hb with rfl | hb
  · exact h
  · exact t b hb
theorem sm_l {H0 H H' : Hp} {L : List Addr} (f : FrL H H' L) (s : Same H0 H) (n : ∀ a ∈ L, H0 a = none) : Same H0 H' := fun a o h => f.k a o (s a o h) fun q => by rw [n a q] at h; cases h
theorem hp_l {H H' : Hp} {L : List Addr} {p : Addr} {o : HO} (f : FrL H H' L) (h : H p = some o) (n : p ∉ L) : H' p = some o := f.k p o h n
theorem sq_l {K : PySem.W.Frag} {H H' : Hp} {L : List Addr} {p : Addr} {xs : List V} (f : FrL H H' L) (h : SqL K H p xs) (n : p ∉ L) : SqL K H' p xs := by
  rcases h with (h | ⟨o, h⟩) | h
  · exact .inl (.inl (f.k _ _ h n))
  · exact .inl (.inr ⟨o, f.k _ _ h n⟩)
  · exact .inr h
theorem tu_l {K : PySem.W.Frag} {H H' : Hp} {L : List Addr} {p : Addr} {xs : List V} (f : FrL H H' L) (h : SqT K H p xs) (n : p ∉ L) : SqT K H' p xs := by
  rcases h with (h | ⟨o, h⟩) | h
  · exact .inl (.inl (f.k _ _ h n))
  · exact .inl (.inr ⟨o, f.k _ _ h n⟩)
  · exact .inr h
theorem no_l {H H' : Hp} {L : List Addr} {p : Addr} (h : H' p = none) (f : FrL H H' L) : H p = none := by
  cases q : H p with
  | none => rfl
  | some u =>
    by_cases e : p ∈ L
    · exact absurd h (f.l p e)
    · rw [f.k p u q e] at h; cases h
def ApL (H : Hp) (b : Addr) (L : List Addr) : Prop := ∀ a ∈ L, Apart H b a
theorem al_nil {H : Hp} {b : Addr} : ApL H b [] := fun a h => by cases h
theorem al_cons {H : Hp} {b a : Addr} {L : List Addr} (h : Apart H b a) (t : ApL H b L) : ApL H b (a :: L) := fun c hc => by
  rcases List.mem_cons.mp hc with rfl | hc
  · exact h
  · exact t c hc
theorem rl_l {H H' : Hp} {b : Addr} {d : Nat} {L : List Addr} (f : FrL H H' L) (r : Reel H b d) (al : ApL H b L) : Reel H' b d := by
  obtain ⟨g, c, gs, cs, k, t, a1, a2, a3, a4⟩ := r.ex
  have n : ∀ x, V.ref x ∈ [V.ref g, .ref c, .int k, .int t] → x ∉ L := fun x hx hl => (al x hl).2 _ a1 hx
  exact ⟨⟨g, c, gs, cs, k, t, f.k _ _ a1 fun q => (al b q).1 rfl, f.k _ _ a2 (n g (by simp)), f.k _ _ a3 (n c (by simp)), a4⟩⟩
theorem ap_l {H H' : Hp} {b a : Addr} {d : Nat} {L : List Addr} (f : FrL H H' L) (h : Apart H b a) (al : ApL H b L) (r : Reel H b d) : Apart H' b a := by
  obtain ⟨g, c, gs, cs, k, t, a1, _⟩ := r.ex
  exact ⟨h.1, fun xs hx => by rw [f.k _ _ a1 fun q => (al b q).1 rfl] at hx; cases hx; exact h.2 _ a1⟩
section
variable {K : PySem.W.Frag} {σ : L2.St} {H : Hp} {Q : VK} {D : Ends} {QA : List V → Hp → Prop} {QB : Bool → Hp → Prop}
/-! ## expressions -/
theorem var {i : Nat} {v : V} (h : σ[i]? = some (some v)) (q : Q v H) : tVar i σ H Q := ⟨v, h, q⟩
theorem con {v : V} (q : Q v H) : tC v σ H Q := q
theorem op {r : R2} {ta tb : TE} (h : ta σ H fun x H1 => tb σ H1 fun y H2 => r x y H2 Q) : tOp r ta tb σ H Q := h
theorem un {r : V → Hp → VK → Prop} {ta : TE} (h : ta σ H fun x H1 => r x H1 Q) : tUn r ta σ H Q := h
theorem tcons {ta : TE} {tr : TA} (h : ta σ H fun x H1 => tr σ H1 fun xs H2 => QA (x :: xs) H2) : tCons ta tr σ H QA := h
theorem tnil (h : QA [] H) : tNil σ H QA := h
theorem tcb {r : List V → Hp → VK → Prop} {t : TA} (h : t σ H fun vs H1 => r vs H1 Q) : tCB r t σ H Q := h
theorem tcall {sp : Sp} {dvs : List V} {E : XK} {t : TA} (h : t σ H fun vs H1 => sp (vs ++ dvs) H1 Q E) : tCall sp dvs E t σ H Q := h
theorem tsl {r : V → Option Int → Option Int → Hp → VK → Prop} {te : TE} {tl th : TO} (h : te σ H fun x H1 => tl σ H1 fun l H2 => th σ H2 fun u H3 => r x l u H3 Q) : tSl r te tl th σ H Q := h
theorem tnop {QO : Option Int → Hp → Prop} (h : QO none H) : tNoPart σ H QO := h
def kPart (QO : Option Int → Hp → Prop) : VK := fun x H1 => ∃ i, x = .int i ∧ QO (some i) H1
theorem tpart {te : TE} {QO : Option Int → Hp → Prop} (h : te σ H (kPart QO)) : tPart te σ H QO := h
theorem k_part {i : Int} {QO : Option Int → Hp → Prop} (q : QO (some i) H) : kPart QO (.int i) H := ⟨i, rfl, q⟩
def kB (QB : Bool → Hp → Prop) : VK := fun x H1 => ∃ k, x = .bl k ∧ QB k H1
theorem k_b {b : Bool} (q : QB b H) : kB QB (.bl b) H := ⟨b, rfl, q⟩
theorem ttest {te : TE} (h : te σ H (kB QB)) : tTest te σ H QB := h
theorem tb {te : TE} (h : te σ H (kB QB)) : tB te σ H QB := h
theorem tyes (h : QB true H) : tYes σ H QB := h
theorem tand {t u : TT} (h : t σ H fun c H1 => if c = true then u σ H1 QB else QB false H1) : tAnd t u σ H QB := h
theorem tor {t u : TT} (h : t σ H fun c H1 => if c = true then QB true H1 else u σ H1 QB) : tOr t u σ H QB := h
theorem tnot {t : TT} (h : t σ H fun c H1 => QB (!c) H1) : tNot t σ H QB := h
theorem tif {t : TT} {ta tb : TE} (h : t σ H fun c H1 => if c = true then ta σ H1 Q else tb σ H1 Q) : tIf t ta tb σ H Q := h
def kAV (tb : TE) (σ : L2.St) (Q : VK) : VK := fun x H1 => ∃ c, x = .bl c ∧ if c = true then tb σ H1 Q else Q (.bl false) H1
theorem tandv {ta tb : TE} (h : ta σ H (kAV tb σ Q)) : tAndV ta tb σ H Q := h
theorem k_av {tb : TE} {c : Bool} (h : if c = true then tb σ H Q else Q (.bl false) H) : kAV tb σ Q (.bl c) H := ⟨c, rfl, h⟩
def kOV (tb : TE) (σ : L2.St) (Q : VK) : VK := fun x H1 => ∃ c, x = .bl c ∧ if c = true then Q (.bl true) H1 else tb σ H1 Q
theorem torv {ta tb : TE} (h : ta σ H (kOV tb σ Q)) : tOrV ta tb σ H Q := h
theorem k_ov {tb : TE} {c : Bool} (h : if c = true then Q (.bl true) H else tb σ H Q) : kOV tb σ Q (.bl c) H := ⟨c, rfl, h⟩
def kNV (Q : VK) : VK := fun x H1 => ∃ c, x = .bl c ∧ Q (.bl (!c)) H1
theorem tnotv {ta : TE} (h : ta σ H (kNV Q)) : tNotV ta σ H Q := h
theorem k_nv {c : Bool} (h : Q (.bl (!c)) H) : kNV Q (.bl c) H := ⟨c, rfl, h⟩
def kCh (r r' : R2) (tc : TE) (σ : L2.St) (y : V) (Q : VK) : VK := fun z H3 => ∃ k, z = .bl k ∧ if k = true then tc σ H3 fun x H4 => r' y x H4 Q else Q (.bl false) H3
theorem tchain {r r' : R2} {ta tb tc : TE} (h : ta σ H fun x H1 => tb σ H1 fun y H2 => r x y H2 (kCh r r' tc σ y Q)) : tChain r r' ta tb tc σ H Q := h
theorem k_ch {r r' : R2} {tc : TE} {y : V} {k : Bool} (h : if k = true then tc σ H fun x H4 => r' y x H4 Q else Q (.bl false) H) : kCh r r' tc σ y Q (.bl k) H := ⟨k, rfl, h⟩
theorem ift {A B : Prop} (h : A) : if true = true then A else B := by rw [if_pos rfl]; exact h
theorem iff_ {A B : Prop} (h : B) : if false = true then A else B := by rw [if_neg Bool.false_ne_true]; exact h
theorem ifnt {A B : Prop} (h : B) : if (!true) = true then A else B := by rw [if_neg (by decide)]; exact h
theorem ifnf {A B : Prop} (h : A) : if (!false) = true then A else B := by rw [if_pos (by decide)]; exact h
theorem if2 {c A B : Prop} [Decidable c] (h1 : c → A) (h2 : ¬ c → B) : if decide c = true then A else B := ite2d h1 h2
theorem ifn2 {c A B : Prop} [Decidable c] (h1 : ¬ c → A) (h2 : c → B) : if (!decide c) = true then A else B := by
  by_cases h : c
  · rw [decide_eq_true h]; exact ifnt (h2 h)
  · rw [decide_eq_false h]; exact ifnf (h1 h)
theorem of_iff {A B : Prop} (h : if false = true then A else B) : B := by rw [if_neg Bool.false_ne_true] at h; exact h
/-- two ways that go on alike -/
theorem tail_t {c A X : Prop} [Decidable c] (h : c → X → A) (x : X) : if decide c = true then A else X := ite2d (fun hc => h hc x) fun _ => x
theorem tail_e {c A X : Prop} [Decidable c] (h : ¬ c → X → A) (x : X) : if decide c = true then X else A := ite2d (fun _ => x) fun hc => h hc x
/-! ## values -/
theorem ri0 {g : Int → Int → V} {i j : Int} (q : Q (g i j) H) : rI0 g (.int i) (.int j) H Q := ⟨i, j, rfl, rfl, q⟩
theorem ri {C : Int → Int → Prop} {g : Int → Int → V} {i j : Int} (c : C i j) (q : Q (g i j) H) : rI C g (.int i) (.int j) H Q := ⟨i, j, rfl, rfl, c, q⟩
theorem ru {g : Int → V} {i : Int} (q : Q (g i) H) : rU g (.int i) H Q := ⟨i, rfl, q⟩
theorem req_i {x y : Int} (q : Q (.bl (decide (x = y))) H) : rEq (.int x) (.int y) H Q := ⟨rfl, by rw [show decide (V.int x = V.int y) = decide (x = y) from decide_eq_decide.mpr ⟨V.int.inj, congrArg _⟩]; exact q⟩
theorem rne_i {x y : Int} (q : Q (.bl (!decide (x = y))) H) : rNe (.int x) (.int y) H Q := ⟨rfl, by rw [show decide (V.int x = V.int y) = decide (x = y) from decide_eq_decide.mpr ⟨V.int.inj, congrArg _⟩]; exact q⟩
theorem req_s {x y : Str} (q : Q (.bl (decide (x = y))) H) : rEq (.str x) (.str y) H Q := ⟨rfl, by rw [show decide (V.str x = V.str y) = decide (x = y) from decide_eq_decide.mpr ⟨V.str.inj, congrArg _⟩]; exact q⟩
theorem rne_s {x y : Str} (q : Q (.bl (!decide (x = y))) H) : rNe (.str x) (.str y) H Q := ⟨rfl, by rw [show decide (V.str x = V.str y) = decide (x = y) from decide_eq_decide.mpr ⟨V.str.inj, congrArg _⟩]; exact q⟩
theorem req_b {x y : Bool} (q : Q (.bl (decide (x = y))) H) : rEq (.bl x) (.bl y) H Q := ⟨rfl, by rw [show decide (V.bl x = V.bl y) = decide (x = y) from decide_eq_decide.mpr ⟨V.bl.inj, congrArg _⟩]; exact q⟩
theorem rne_b {x y : Bool} (q : Q (.bl (!decide (x = y))) H) : rNe (.bl x) (.bl y) H Q := ⟨rfl, by rw [show decide (V.bl x = V.bl y) = decide (x = y) from decide_eq_decide.mpr ⟨V.bl.inj, congrArg _⟩]; exact q⟩
theorem rne_same {x : V} (h : scal x x = true) (q : Q (.bl false) H) : rNe x x H Q := ⟨h, by rw [decide_eq_true rfl]; exact q⟩
theorem req_same {x : V} (h : scal x x = true) (q : Q (.bl true) H) : rEq x x H Q := ⟨h, by rw [decide_eq_true rfl]; exact q⟩
theorem req {x y : V} (h : scal x y = true) (q : Q (.bl (decide (x = y))) H) : rEq x y H Q := ⟨h, q⟩
theorem rne {x y : V} (h : scal x y = true) (q : Q (.bl (!decide (x = y))) H) : rNe x y H Q := ⟨h, q⟩
theorem rixl {p : Addr} {xs : List V} {i : Int} {v : V} (h : SqL K H p xs) (e : atI xs i = some v) (q : Q v H) : rIxL K (.ref p) (.int i) H Q := ⟨p, xs, i, v, rfl, rfl, h, e, q⟩
theorem rixt {p : Addr} {xs : List V} {i : Int} {v : V} (h : SqT K H p xs) (e : atI xs i = some v) (q : Q v H) : rIxT K (.ref p) (.int i) H Q := ⟨p, xs, i, v, rfl, rfl, h, e, q⟩
theorem rixl_n {p : Addr} {xs : List V} {j : Nat} {i : Int} {v : V} (h : SqL K H p xs) (e : xs[j]? = some v) (hz : i = (j : Int)) (q : Q v H) : rIxL K (.ref p) (.int i) H Q := ⟨p, xs, i, v, rfl, rfl, h, at_of hz e, q⟩
theorem rixt_n {p : Addr} {xs : List V} {j : Nat} {i : Int} {v : V} (h : SqT K H p xs) (e : xs[j]? = some v) (hz : i = (j : Int)) (q : Q v H) : rIxT K (.ref p) (.int i) H Q := ⟨p, xs, i, v, rfl, rfl, h, at_of hz e, q⟩
theorem rixs {z : Str} {i : Int} {j c : Nat} (hz : z.length ≤ 100000) (e : z.cps.toList[j]? = some c) (hi : i = (j : Int)) (q : Q (.str ⟨#[c]⟩) H) : rIxS (.str z) (.int i) H Q := ⟨z, i, c, rfl, rfl, sz hz, at_g hi e, q⟩
theorem rin_l {neg : Bool} {x : V} {p : Addr} {xs : List V} (h : SqL K H p xs) (hx : flatV x = true) (ha : xs.all flatV = true) (q : Q (.bl (if neg then !inV x xs else inV x xs)) H) : rIn K neg x (.ref p) H Q := ⟨p, xs, rfl, .inl h, hx, ha, q⟩
theorem rin_i {n : Int} {p : Addr} {xs : List Int} (h : SqL K H p (xs.map V.int)) (q : Q (.bl (decide (n ∈ xs))) H) : rIn K false (.int n) (.ref p) H Q := rin_l h rfl (flat_ints _) (by rw [in_ints]; exact q)
theorem rni_i {n : Int} {p : Addr} {xs : List Int} (h : SqL K H p (xs.map V.int)) (q : Q (.bl (!decide (n ∈ xs))) H) : rIn K true (.int n) (.ref p) H Q := rin_l h rfl (flat_ints _) (by rw [in_ints]; exact q)
theorem rlen_l {p : Addr} {xs : List V} (h : SqL K H p xs) (q : Q (.int (xs.length : Nat)) H) : rLenS K [.ref p] H Q := ⟨p, xs, rfl, .inl h, q⟩
theorem rlen_t {p : Addr} {xs : List V} (h : SqT K H p xs) (q : Q (.int (xs.length : Nat)) H) : rLenS K [.ref p] H Q := ⟨p, xs, rfl, .inr h, q⟩
theorem rlen_li {p : Addr} {xs : List Int} (h : SqL K H p (xs.map V.int)) (q : Q (.int (xs.length : Nat)) H) : rLenS K [.ref p] H Q := ⟨p, _, rfl, .inl h, by rw [List.length_map]; exact q⟩
theorem rlen_ls {p : Addr} {xs : List Str} (h : SqL K H p (xs.map V.str)) (q : Q (.int (xs.length : Nat)) H) : rLenS K [.ref p] H Q := ⟨p, _, rfl, .inl h, by rw [List.length_map]; exact q⟩
theorem rlen_E {p : Addr} {xs : List V} (h : SqE K H p xs) (q : Q (.int (xs.length : Nat)) H) : rLenS K [.ref p] H Q := ⟨p, xs, rfl, h, q⟩
theorem rlen_Ei {p : Addr} {xs : List Int} (h : SqE K H p (xs.map V.int)) (q : Q (.int (xs.length : Nat)) H) : rLenS K [.ref p] H Q := ⟨p, _, rfl, h, by rw [List.length_map]; exact q⟩
/-! ## new objects -/
def kTup (Q : VK) : List V → Hp → Prop := fun xs H1 => xs.length ≤ sizeLine ∧ ∀ p, H1 p = none → Q (.ref p) (upd H1 p (.tup xs))
theorem ttup {t : TA} (h : t σ H (kTup Q)) : tTup t σ H Q := h
theorem k_tup {xs : List V} (hz : xs.length ≤ sizeLine) (k : ∀ (p : Addr) (H' : Hp), H p = none → Same H H' → H' p = some (.tup xs) → Q (.ref p) H') : kTup Q xs H := ⟨hz, fun p np => k p _ np (same_upd np) upd_same⟩
def kLst (Q : VK) : List V → Hp → Prop := fun xs H1 => xs.length ≤ sizeLine ∧ ∀ p, H1 p = none → Q (.ref p) (upd H1 p (.lst xs))
theorem tlst {t : TA} (h : t σ H (kLst Q)) : tLst t σ H Q := h
theorem k_lst {xs : List V} (hz : xs.length ≤ sizeLine) (k : ∀ (p : Addr) (H' : Hp), H p = none → Same H H' → H' p = some (.lst xs) → Q (.ref p) H') : kLst Q xs H := ⟨hz, fun p np => k p _ np (same_upd np) upd_same⟩
theorem rsll {a : Addr} {xs : List V} {lo hi : Option Int} (h : SqL K H a xs) (k : ∀ (p : Addr) (H' : Hp), H p = none → Same H H' → H' p = some (.lst (cutV xs lo hi)) → Q (.ref p) H') : rSlL K (.ref a) lo hi H Q := ⟨a, xs, rfl, h, fun p np => k p _ np (same_upd np) upd_same⟩
theorem rcat {l b : Addr} {xs zs : List V} (h1 : H l = some (.lst xs)) (h2 : H b = some (.lst zs)) (hz : xs.length + zs.length ≤ sizeLine) (k : ∀ (p : Addr) (H' : Hp), H p = none → Same H H' → H' p = some (.lst (xs ++ zs)) → Q (.ref p) H') : rCat (.ref l) (.ref b) H Q := ⟨l, b, xs, zs, rfl, rfl, h1, h2, hz, fun p np => k p _ np (same_upd np) upd_same⟩
theorem list_l {r : List V → Hp → VK → Prop} (hr : r = fun xs H Q => ∃ p ys, xs = [.ref p] ∧ (SqL K H p ys ∨ SqT K H p ys) ∧ ∀ l, H l = none → Q (.ref l) (upd H l (.lst ys))) {a : Addr} {xs : List V} (h : SqL K H a xs)
    (k : ∀ (p : Addr) (H' : Hp), H p = none → Same H H' → H' p = some (.lst xs) → Q (.ref p) H') : r [.ref a] H Q := by
  subst hr; exact ⟨a, xs, rfl, .inl h, fun p np => k p _ np (same_upd np) upd_same⟩
theorem new_strs {ys : List Str} (k : ∀ (p : Addr) (H' : Hp), H p = none → Same H H' → H' p = some (.lst (ys.map V.str)) → Q (.ref p) H') : rNewStrs ys H Q := fun p np => k p _ np (same_upd np) upd_same
theorem rlist_l {a : Addr} {xs : List V} (h : SqL K H a xs) (k : ∀ (p : Addr) (H' : Hp), H p = none → Same H H' → H' p = some (.lst xs) → Q (.ref p) H') : rListOf K [.ref a] H Q := ⟨a, xs, rfl, .inl h, fun p np => k p _ np (same_upd np) upd_same⟩
theorem risn_i {i : Int} (q : Q (.bl false) H) : rIsN (.int i) .non H Q := ⟨rfl, q⟩
theorem risn_b {i : Bool} (q : Q (.bl false) H) : rIsN (.bl i) .non H Q := ⟨rfl, q⟩
theorem risn_s {i : Str} (q : Q (.bl false) H) : rIsN (.str i) .non H Q := ⟨rfl, q⟩
theorem risn_n (q : Q (.bl true) H) : rIsN .non .non H Q := ⟨rfl, q⟩
theorem rnotn_i {i : Int} (q : Q (.bl true) H) : rNotN (.int i) .non H Q := ⟨rfl, q⟩
theorem rnotn_n (q : Q (.bl false) H) : rNotN .non .non H Q := ⟨rfl, q⟩
theorem rint_b {b : Bool} (q : Q (.int (if b then 1 else 0)) H) : rInt1 [.bl b] H Q := .inr ⟨b, rfl, q⟩
theorem rint_i {i : Int} (q : Q (.int i) H) : rInt1 [.int i] H Q := .inl ⟨i, rfl, q⟩
theorem rstr_i {i : Int} (h : i.natAbs.log2 < 1920) (q : Q (.str (toString i)) H) : rStrI [.int i] H Q := ⟨i, rfl, h, q⟩
theorem rint_s {a : Str} {n : Int} (h : PySem.intText? a = some n) (hl : a.length ≤ 640) (q : Q (.int n) H) : rIntS [.str a] H Q := ⟨a, n, rfl, h, hl, q⟩
theorem radds {a b : Str} (h : a.length + b.length ≤ 100000) (q : Q (.str (a ++ b)) H) : rAddS (.str a) (.str b) H Q := ⟨a, b, rfl, rfl, sz h, q⟩
theorem rsplit {a b : Str} (hb : (b.length == 0) = false) (hl : a.length ≤ 99998) (k : ∀ (p : Addr) (H' : Hp), H p = none → Same H H' → H' p = some (.lst ((Txt.split a b).map V.str)) → Q (.ref p) H') : rSplit (.str a) [.str b] H Q := ⟨a, b, rfl, rfl, hb, sz (by omega), new_strs k⟩
theorem rjoin {a : Str} {p : Addr} {ys : List Str} (h : SqL K H p (ys.map V.str)) (hz : (ys.map (·.length)).sum + ys.length * a.length ≤ 16777216) (q : Q (.str (Txt.join a ys)) H) : rJoin K (.str a) [.ref p] H Q := ⟨a, p, ys, rfl, rfl, .inl h, hz, q⟩
theorem tstep {te tk : TE} (h : te σ H fun x H1 => tPart tk σ H1 (kStep K x Q)) : tStepL K te tk σ H Q := h
theorem k_step {a : Addr} {xs : List V} {z : Int} (hz : z = 1 ∨ z = -1) (h : SqL K H a xs) (k : ∀ (p : Addr) (H' : Hp), H p = none → Same H H' → H' p = some (.lst (if z = 1 then xs else xs.reverse)) → Q (.ref p) H') : kStep K (.ref a) Q (some z) H :=
  ⟨a, xs, rfl, hz.imp (congrArg _) (congrArg _), h, fun p np => by
    have e : (if (some z : Option Int) = some 1 then xs else xs.reverse) = (if z = 1 then xs else xs.reverse) := by
      by_cases q : z = 1
      · rw [if_pos q, if_pos (by rw [q])]
      · rw [if_neg q, if_neg (fun w => q (Option.some.inj w))]
    rw [e]
    exact k p _ np (same_upd np) upd_same⟩
/-! ## isinstance -/
theorem isi {x : V} {c : String} {a : String} {b : Bool} (ty : TyX K H x (.type a)) (h : kitB a c = some b) (q : Q (.bl b) H) : rIsi K [x, .ty c] H Q := ⟨x, .ty c, .type a, .type c, b, rfl, .ty c, ty, kit_ty h, q⟩
theorem isi_i {n : Int} {c : String} {b : Bool} (h : kitB "int" c = some b) (q : Q (.bl b) H) : rIsi K [.int n, .ty c] H Q := isi (.base (.int n)) h q
theorem isi_s {n : Str} {c : String} {b : Bool} (h : kitB "str" c = some b) (q : Q (.bl b) H) : rIsi K [.str n, .ty c] H Q := isi (.base (.str n)) h q
theorem isi_l {a : Addr} {xs : List V} {c : String} {b : Bool} (s : SqL K H a xs) (h : kitB "list" c = some b) (q : Q (.bl b) H) : rIsi K [.ref a, .ty c] H Q := by
  refine isi (a := "list") ?_ h q
  rcases s with (s | ⟨o, s⟩) | ⟨dd, its, n, h1, h2⟩
  · exact .base (.lst s)
  · exact .base (.frz s)
  · exact .kList h1 h2.1
theorem isi_t {a : Addr} {xs : List V} {c : String} {b : Bool} (s : SqT K H a xs) (h : kitB "tuple" c = some b) (q : Q (.bl b) H) : rIsi K [.ref a, .ty c] H Q := by
  refine isi (a := "tuple") ?_ h q
  rcases s with (s | ⟨o, s⟩) | ⟨dd, its, n, h1, h2⟩
  · exact .base (.tup s)
  · exact .fTuple s
  · exact .kTuple h1 h2.1
theorem kit_no (a : String) (h1 : kitB a "list" = some false) (h2 : kitB a "tuple" = some false) : PySem.W.kitAny K (.type a) [.type "list", .type "tuple"] = some false :=
  kitAny_cons (b := false) (kit_ty h1) (fun _ => kitAny_cons (b := false) (kit_ty h2) (fun _ => kitAny_nil) fun z => nomatch z) fun z => nomatch z
theorem isi_int_int {n : Int} (q : Q (.bl true) H) : rIsi K [.int n, .ty "int"] H Q := isi (a := "int") (b := true) (.base (.int n)) (by decide +kernel) q
theorem isi_int_bool {n : Int} (q : Q (.bl false) H) : rIsi K [.int n, .ty "bool"] H Q := isi (a := "int") (b := false) (.base (.int n)) (by decide +kernel) q
theorem isi_int_str {n : Int} (q : Q (.bl false) H) : rIsi K [.int n, .ty "str"] H Q := isi (a := "int") (b := false) (.base (.int n)) (by decide +kernel) q
theorem isi_str_int {n : Str} (q : Q (.bl false) H) : rIsi K [.str n, .ty "int"] H Q := isi (a := "str") (b := false) (.base (.str n)) (by decide +kernel) q
theorem isi_str_bool {n : Str} (q : Q (.bl false) H) : rIsi K [.str n, .ty "bool"] H Q := isi (a := "str") (b := false) (.base (.str n)) (by decide +kernel) q
theorem isi_str_str {n : Str} (q : Q (.bl true) H) : rIsi K [.str n, .ty "str"] H Q := isi (a := "str") (b := true) (.base (.str n)) (by decide +kernel) q
theorem isi_bool_int {n : Bool} (q : Q (.bl true) H) : rIsi K [.bl n, .ty "int"] H Q := isi (a := "bool") (b := true) (.base (.bl n)) (by decide +kernel) q
theorem isi_bool_bool {n : Bool} (q : Q (.bl true) H) : rIsi K [.bl n, .ty "bool"] H Q := isi (a := "bool") (b := true) (.base (.bl n)) (by decide +kernel) q
theorem isi_bool_str {n : Bool} (q : Q (.bl false) H) : rIsi K [.bl n, .ty "str"] H Q := isi (a := "bool") (b := false) (.base (.bl n)) (by decide +kernel) q
theorem isi_non_int (q : Q (.bl false) H) : rIsi K [.non, .ty "int"] H Q := isi (a := "NoneType") (b := false) (.base .non) (by decide +kernel) q
theorem isi_non_bool (q : Q (.bl false) H) : rIsi K [.non, .ty "bool"] H Q := isi (a := "NoneType") (b := false) (.base .non) (by decide +kernel) q
theorem isi_non_str (q : Q (.bl false) H) : rIsi K [.non, .ty "str"] H Q := isi (a := "NoneType") (b := false) (.base .non) (by decide +kernel) q
theorem isi_list_int {a : Addr} {xs : List V} (s : SqL K H a xs) (q : Q (.bl false) H) : rIsi K [.ref a, .ty "int"] H Q := isi_l (b := false) s (by decide +kernel) q
theorem isi_list_bool {a : Addr} {xs : List V} (s : SqL K H a xs) (q : Q (.bl false) H) : rIsi K [.ref a, .ty "bool"] H Q := isi_l (b := false) s (by decide +kernel) q
theorem isi_list_str {a : Addr} {xs : List V} (s : SqL K H a xs) (q : Q (.bl false) H) : rIsi K [.ref a, .ty "str"] H Q := isi_l (b := false) s (by decide +kernel) q
theorem isi_list_list {a : Addr} {xs : List V} (s : SqL K H a xs) (q : Q (.bl true) H) : rIsi K [.ref a, .ty "list"] H Q := isi_l (b := true) s (by decide +kernel) q
theorem isi_list_tuple {a : Addr} {xs : List V} (s : SqL K H a xs) (q : Q (.bl false) H) : rIsi K [.ref a, .ty "tuple"] H Q := isi_l (b := false) s (by decide +kernel) q
theorem isi_tuple_int {a : Addr} {xs : List V} (s : SqT K H a xs) (q : Q (.bl false) H) : rIsi K [.ref a, .ty "int"] H Q := isi_t (b := false) s (by decide +kernel) q
theorem isi_tuple_bool {a : Addr} {xs : List V} (s : SqT K H a xs) (q : Q (.bl false) H) : rIsi K [.ref a, .ty "bool"] H Q := isi_t (b := false) s (by decide +kernel) q
theorem isi_tuple_str {a : Addr} {xs : List V} (s : SqT K H a xs) (q : Q (.bl false) H) : rIsi K [.ref a, .ty "str"] H Q := isi_t (b := false) s (by decide +kernel) q
theorem isi_tuple_list {a : Addr} {xs : List V} (s : SqT K H a xs) (q : Q (.bl false) H) : rIsi K [.ref a, .ty "list"] H Q := isi_t (b := false) s (by decide +kernel) q
theorem isi_tuple_tuple {a : Addr} {xs : List V} (s : SqT K H a xs) (q : Q (.bl true) H) : rIsi K [.ref a, .ty "tuple"] H Q := isi_t (b := true) s (by decide +kernel) q
/-- (list, tuple) made on the way -/
theorem isiT_i {n : Int} {p : Addr} (h : H p = some (.tup [.ty "list", .ty "tuple"])) (q : Q (.bl false) H) : rIsiT K [.int n, .ref p] H Q :=
  ⟨_, p, _, .type "int", [.type "list", .type "tuple"], false, rfl, h, .cons (.ty _) (.cons (.ty _) .nil), .base (.int n), kit_no "int" (by decide +kernel) (by decide +kernel), q⟩
theorem isiT_s {n : Str} {p : Addr} (h : H p = some (.tup [.ty "list", .ty "tuple"])) (q : Q (.bl false) H) : rIsiT K [.str n, .ref p] H Q :=
  ⟨_, p, _, .type "str", [.type "list", .type "tuple"], false, rfl, h, .cons (.ty _) (.cons (.ty _) .nil), .base (.str n), kit_no "str" (by decide +kernel) (by decide +kernel), q⟩
theorem isiT_b {n : Bool} {p : Addr} (h : H p = some (.tup [.ty "list", .ty "tuple"])) (q : Q (.bl false) H) : rIsiT K [.bl n, .ref p] H Q :=
  ⟨_, p, _, .type "bool", [.type "list", .type "tuple"], false, rfl, h, .cons (.ty _) (.cons (.ty _) .nil), .base (.bl n), kit_no "bool" (by decide +kernel) (by decide +kernel), q⟩
theorem isiT_n {p : Addr} (h : H p = some (.tup [.ty "list", .ty "tuple"])) (q : Q (.bl false) H) : rIsiT K [.non, .ref p] H Q :=
  ⟨_, p, _, .type "NoneType", [.type "list", .type "tuple"], false, rfl, h, .cons (.ty _) (.cons (.ty _) .nil), .base .non, kit_no "NoneType" (by decide +kernel) (by decide +kernel), q⟩
theorem isiT_E {a : Addr} {xs : List V} {p : Addr} (s : SqE K H a xs) (h : H p = some (.tup [.ty "list", .ty "tuple"])) (q : Q (.bl true) H) : rIsiT K [.ref a, .ref p] H Q := by
  rcases ty_E s with hx | hx
  · exact ⟨_, p, _, .type "list", [.type "list", .type "tuple"], true, rfl, h, .cons (.ty _) (.cons (.ty _) .nil), hx, kit_lt, q⟩
  · exact ⟨_, p, _, .type "tuple", [.type "list", .type "tuple"], true, rfl, h, .cons (.ty _) (.cons (.ty _) .nil), hx, kit_tt, q⟩
theorem tthen {te : TE} {k : V → Hp → VK → Prop} (h : te σ H fun x H1 => k x H1 Q) : tThen te k σ H Q := h
theorem tup_l {p : Addr} {xs : List V} (h : SqL K H p xs) (k : ∀ (q : Addr) (H' : Hp), H q = none → Same H H' → H' q = some (.tup xs) → Q (.ref q) H') : L2.kTup K (.ref p) H Q := .inl ⟨p, xs, rfl, h, fun q nq => k q _ nq (same_upd nq) upd_same⟩
theorem tup_t {p : Addr} {xs : List V} (h : SqT K H p xs) (q : Q (.ref p) H) : L2.kTup K (.ref p) H Q := .inr ⟨p, xs, rfl, h, q⟩
theorem rabs {i : Int} (q : Q (.int (i.natAbs : Nat)) H) : rAbs [.int i] H Q := ⟨i, rfl, by
  rw [show (if i < 0 then -i else i) = ((i.natAbs : Nat) : Int) by split <;> omega]; exact q⟩
theorem ixe {i j : Nat} {p : Addr} {z : Int} {m : Nat} {xs : List V} {v : V} (h1 : σ[i]? = some (some (.ref p))) (h2 : σ[j]? = some (some (.int z))) (h : SqE K H p xs) (e : xs[m]? = some v) (hz : z = (m : Int)) (q : Q v H) : tOp (rIxL K) (tVar i) (tVar j) σ H Q ∨ tOp (rIxT K) (tVar i) (tVar j) σ H Q := by
  rcases h with h | h
  · exact .inl ⟨_, h1, _, h2, p, xs, z, v, rfl, rfl, h, at_of hz e, q⟩
  · exact .inr ⟨_, h1, _, h2, p, xs, z, v, rfl, rfl, h, at_of hz e, q⟩
theorem rrep1 {p : Addr} {x : V} {n : Nat} (h : H p = some (.lst [x])) (hn : n ≤ 100000) (k : ∀ (q : Addr) (H' : Hp), H q = none → Same H H' → H' q = some (.lst (List.replicate n x)) → Q (.ref q) H') : rRep (.ref p) (.int n) H Q := ⟨p, n, [x], rfl, rfl, h, by omega, by omega, sz (by simp; exact hn), fun q nq => by
  have e : (List.replicate ((n : Nat) : Int).toNat [x]).flatten = List.replicate n x := by
    rw [show ((n : Nat) : Int).toNat = n by omega]
    exact flat_rep n x
  show Q (.ref q) (upd H q (.lst (List.replicate ((n : Nat) : Int).toNat [x]).flatten))
  rw [e]
  exact k q _ nq (same_upd nq) upd_same⟩
/-- while -/
def kWc (W : Nat → L2.St → Hp → Prop) (m : Nat) (tb : TS) (D : Ends) (σ : L2.St) : Bool → Hp → Prop := fun b H1 => if b = true then ∃ N : L2.St → Hp → Prop, (∀ σ' H', N σ' H' → ∃ m', m' < m ∧ W m' σ' H') ∧ tb { D with nx := N, ct := N, bk := D.nx } σ H1 else D.nx σ H1
theorem while_ {c : TT} {tb : TS} (W : Nat → L2.St → Hp → Prop) (m : Nat) (h0 : W m σ H) (hs : ∀ m σ H, W m σ H → c σ H (kWc W m tb D σ)) : tWhile c tb D σ H := ⟨W, ⟨m, h0⟩, hs⟩
theorem k_wt {W : Nat → L2.St → Hp → Prop} {m : Nat} {tb : TS} (h : tb { D with nx := fun σ' H' => ∃ m', m' < m ∧ W m' σ' H', ct := fun σ' H' => ∃ m', m' < m ∧ W m' σ' H', bk := D.nx } σ H) : kWc W m tb D σ true H := ⟨_, fun _ _ z => z, h⟩
theorem k_wf {W : Nat → L2.St → Hp → Prop} {m : Nat} {tb : TS} (h : D.nx σ H) : kWc W m tb D σ false H := h
theorem rmin2 {i j : Int} (q : Q (.int (min i j)) H) : rMin2 [.int i, .int j] H Q := ⟨i, j, rfl, by
  rw [show (if j < i then j else i) = min i j by rw [Int.min_def]; split <;> split <;> omega]; exact q⟩
theorem rmax2 {i j : Int} (q : Q (.int (max i j)) H) : rMax2 [.int i, .int j] H Q := ⟨i, j, rfl, by
  rw [show (if j > i then j else i) = max i j by rw [Int.max_def]; split <;> split <;> omega]; exact q⟩
/-! ## instances -/
def kFl (K : PySem.W.Frag) (f : Str) (Q : VK) : VK := fun x H1 => ∃ a C dx fs v, x = .ref a ∧ H1 a = some (.ins C dx fs) ∧ Cls K C ∧ NoAttr K C f ∧ fs.lookup f = some v ∧ Q v H1
theorem tfld {ta : TE} {f : Str} (h : ta σ H (kFl K f Q)) : tFld K ta f σ H Q := h
theorem k_fl {a C dx : Addr} {fs : List (Str × V)} {f : Str} {v : V} (h : H a = some (.ins C dx fs)) (c : Cls K C) (n : NoAttr K C f) (e : fs.lookup f = some v) (q : Q v H) : kFl K f Q (.ref a) H := ⟨a, C, dx, fs, v, rfl, h, c, n, e, q⟩
def kMe (C : Addr) (m : Str) (t : TA) (σ : L2.St) (R : List V → Hp → Prop) : VK := fun x H1 => ∃ a dx fs, x = .ref a ∧ H1 a = some (.ins C dx fs) ∧ fs.lookup m = none ∧ t σ H1 fun vs H2 => R (x :: vs) H2
theorem tmeth {C : Addr} {m : Str} {sp : Sp} {dvs : List V} {E : XK} {ta : TE} {t : TA} (h : ta σ H (kMe C m t σ fun vs H2 => sp (vs ++ dvs) H2 Q E)) : tMeth C m sp dvs E ta t σ H Q := h
theorem k_me {a C dx : Addr} {m : Str} {fs : List (Str × V)} {t : TA} {R : List V → Hp → Prop} (h : H a = some (.ins C dx fs)) (e : fs.lookup m = none) (q : t σ H fun vs H2 => R (.ref a :: vs) H2) : kMe C m t σ R (.ref a) H := ⟨a, dx, fs, rfl, h, e, q⟩
def kMk (C : Addr) (sp : Sp) (dvs : List V) (E : XK) (Q : VK) : List V → Hp → Prop := fun vs H1 => ∀ x dx, H1 x = none → H1 dx = none → dx ≠ x → sp (.ref x :: (vs ++ dvs)) (upd (upd H1 dx (.own x)) x (.ins C dx [])) (fun v H2 => v = .non ∧ Q (.ref x) H2) E
theorem tmake {C : Addr} {sp : Sp} {dvs : List V} {E : XK} {t : TA} (h : t σ H (kMk C sp dvs E Q)) : tMake C sp dvs E t σ H Q := h
theorem k_mk {C : Addr} {sp : Sp} {dvs : List V} {E : XK} {vs : List V} (k : ∀ (x dx : Addr) (H' : Hp), H x = none → H dx = none → Same H H' → H' x = some (.ins C dx []) → sp (.ref x :: (vs ++ dvs)) H' (fun v H2 => v = .non ∧ Q (.ref x) H2) E) : kMk C sp dvs E Q vs H :=
  fun x dx nx nd ne => k x dx _ nx nd (fun a o h => by rw [upd_ne (ne_of_none h nx), upd_ne (ne_of_none h nd)]; exact h) upd_same
def kSf (K : PySem.W.Frag) (f : Str) (y : V) (D : Ends) (σ : L2.St) : VK := fun x H2 => ∃ a C dx fs, x = .ref a ∧ H2 a = some (.ins C dx fs) ∧ Cls K C ∧ NoAttr K C f ∧ fs.length < 1000 ∧ D.nx σ (upd H2 a (.ins C dx (putF f y fs)))
theorem tsfld {ta tv : TE} {f : Str} (h : tv σ H fun y H1 => ta σ H1 (kSf K f y D σ)) : sFld K ta tv f D σ H := h
theorem k_sf {a C dx : Addr} {f : Str} {y : V} {fs gs : List (Str × V)} (h : H a = some (.ins C dx fs)) (c : Cls K C) (n : NoAttr K C f) (hl : fs.length < 1000) (e : putF f y fs = gs) (q : ∀ H' : Hp, Fr H H' a → H' a = some (.ins C dx gs) → D.nx σ H') : kSf K f y D σ (.ref a) H := ⟨a, C, dx, fs, rfl, h, c, n, hl, by
  subst e
  exact q _ Fr.upd upd_same⟩
def kPr (C : Addr) (sp : Sp) (dvs : List V) (E : XK) (Q : VK) : VK := fun x H1 => ∃ a dx fs, x = .ref a ∧ H1 a = some (.ins C dx fs) ∧ sp (.ref a :: dvs) H1 Q E
theorem tprop {C : Addr} {sp : Sp} {dvs : List V} {E : XK} {ta : TE} (h : ta σ H (kPr C sp dvs E Q)) : tProp C sp dvs E ta σ H Q := h
theorem k_pr {a C dx : Addr} {sp : Sp} {dvs : List V} {E : XK} {fs : List (Str × V)} (h : H a = some (.ins C dx fs)) (q : sp (.ref a :: dvs) H Q E) : kPr C sp dvs E Q (.ref a) H := ⟨a, dx, fs, rfl, h, q⟩
theorem rlen_own {a C dx : Addr} {fs : List (Str × V)} {sp : Sp} {E : XK} (h : H a = some (.ins C dx fs)) (q : sp [.ref a] H (fun z H' => ∃ i, z = .int i ∧ 0 ≤ i ∧ i < 2 ^ 63 ∧ Q z H') E) : LX.rLenOwn C sp E [.ref a] H Q := ⟨a, dx, fs, rfl, h, q⟩
theorem rmaxe {a : Addr} {ns : List Int} (h : SqE K H a (ns.map V.int)) (hne : ns ≠ []) (k : ∀ m, m ∈ ns → (∀ y ∈ ns, y ≤ m) → Q (.int m) H) : LX.rMaxE K [.ref a] H Q := ⟨a, ns, rfl, h, hne, k⟩
theorem rall {a : Addr} {bs : List Bool} (h : SqL K H a (bs.map V.bl)) (q : Q (.bl (bs.all id)) H) : rAll K [.ref a] H Q := ⟨a, bs, rfl, h, q⟩
def kRv (K : PySem.W.Frag) (Q : VK) : VK := fun x H1 => ∃ a xs, x = .ref a ∧ SqL K H1 a xs ∧ ∀ p, H1 p = none → Q (.ref p) (upd H1 p (.lst xs.reverse))
theorem trevl {te : TE} (h : te σ H (kRv K Q)) : tRevL K te σ H Q := h
theorem k_rv {a : Addr} {xs : List V} (h : SqL K H a xs) (k : ∀ (p : Addr) (H' : Hp), H p = none → Same H H' → H' p = some (.lst xs.reverse) → Q (.ref p) H') : kRv K Q (.ref a) H := ⟨a, xs, rfl, h, fun p np => k p _ np (same_upd np) upd_same⟩
def kR3 (R : It → Hp → Prop) : List V → Hp → Prop := fun vs H1 => ∃ (i j c : Int) (n : Nat), vs = [.int i, .int j, .int c] ∧ RgC i j c n ∧ R (Itc i c n) H1
theorem irng3 {ta : TA} {R : It → Hp → Prop} (h : ta σ H (kR3 R)) : iRng3 ta σ H R := h
theorem k_r3 {i j c : Int} {n : Nat} {R : It → Hp → Prop} (h : RgC i j c n) (q : R (Itc i c n) H) : kR3 R [.int i, .int j, .int c] H := ⟨i, j, c, n, rfl, h, q⟩
/-! ## stores -/
theorem rset {p : Addr} {xs : List V} {k : Int} {j : Nat} {v : V} {QH : Hp → Prop} (h : H p = some (.lst xs)) (e : ixN xs.length k = some j) (q : ∀ H' : Hp, Fr H H' p → H' p = some (.lst (xs.set j v)) → QH H') : rSetL (.ref p) (.int k) v H QH := ⟨p, xs, k, j, rfl, rfl, h, e, q _ Fr.upd upd_same⟩
theorem rapp {p : Addr} {xs : List V} {y : V} (h : H p = some (.lst xs)) (hz : xs.length < sizeLine) (q : ∀ H' : Hp, Fr H H' p → H' p = some (.lst (xs ++ [y])) → Q .non H') : rAppend (.ref p) [y] H Q := ⟨p, xs, y, rfl, rfl, h, hz, q _ Fr.upd upd_same⟩
theorem rpopi {p : Addr} {xs : List V} {i : Int} {k : Nat} {y : V} (h : H p = some (.lst xs)) (h1 : -(2 ^ 63) ≤ i) (h2 : i < 2 ^ 63) (e : seqIndex? i xs.length = some k) (hx : xs[k]? = some y) (q : ∀ H' : Hp, Fr H H' p → H' p = some (.lst (xs.eraseIdx k)) → Q y H') : rPopAt (.ref p) [.int i] H Q := ⟨p, xs, i, k, y, rfl, rfl, h, h1, h2, e, hx, q _ Fr.upd upd_same⟩
theorem rrem {p : Addr} {ns : List Int} {n : Int} {k : Nat} (h : H p = some (.lst (ns.map V.int))) (e : ns[k]? = some n) (hm : ∀ m : Nat, m < k → ns[m]? ≠ some n) (q : ∀ H' : Hp, Fr H H' p → H' p = some (.lst ((ns.eraseIdx k).map V.int)) → Q .non H') : rRemI (.ref p) [.int n] H Q := ⟨p, ns, n, k, rfl, rfl, h, e, hm, q _ Fr.upd upd_same⟩
theorem rindex {p : Addr} {ys : List V} {y z : V} {j : Nat} (h : SqL K H p ys) (fy : flatV y = true) (fl : ys.all flatV = true) (e : ys[j]? = some z) (ez : eqV z y = true) (hm : ∀ (m : Nat) (z' : V), m < j → ys[m]? = some z' → eqV z' y = false) (q : Q (.int (j : Nat)) H) : rIndex K (.ref p) [y] H Q := ⟨p, ys, y, j, z, rfl, rfl, h, fy, fl, e, ez, hm, q⟩
theorem rpop {p : Addr} {xs : List V} {y : V} (h : H p = some (.lst (xs ++ [y]))) (q : ∀ H' : Hp, Fr H H' p → H' p = some (.lst xs) → Q y H') : rPop (.ref p) [] H Q := ⟨p, xs ++ [y], y, rfl, rfl, h, by simp, by rw [List.dropLast_concat]; exact q _ Fr.upd upd_same⟩
theorem rrev {p : Addr} {xs : List V} (h : H p = some (.lst xs)) (q : ∀ H' : Hp, Fr H H' p → H' p = some (.lst xs.reverse) → Q .non H') : rReverse (.ref p) [] H Q := ⟨p, xs, rfl, rfl, h, q _ Fr.upd upd_same⟩
theorem tbm {T : String} {r : V → List V → Hp → VK → Prop} {to : TE} {t : TA} (h : to σ H fun x H1 => tyV K T x H1 ∧ t σ H1 fun xs H2 => r x xs H2 Q) : tBM K T r to t σ H Q := h
theorem tbm0 {T : String} {r : V → List V → Hp → VK → Prop} {to : TE} (h : to σ H fun x H1 => tyV K T x H1 ∧ r x [] H1 Q) : tBM0 K T r to σ H Q := h
theorem ty_l {p : Addr} {xs : List V} {P : Prop} (h : SqL K H p xs) (q : P) : tyV K "list" (.ref p) H ∧ P := ⟨.inl ⟨rfl, xs, h⟩, q⟩
theorem tm0 {r : V → List V → Hp → VK → Prop} {to : TE} (h : to σ H fun x H1 => (∃ a, x = .str a) ∧ r x [] H1 Q) : tM0 r to σ H Q := h
theorem tm1 {r : V → List V → Hp → VK → Prop} {to te : TE} (h : to σ H fun x H1 => (∃ a, x = .str a) ∧ te σ H1 fun y H2 => r x [y] H2 Q) : tM1 r to te σ H Q := h
theorem is_str {a : Str} {P : Prop} (h : P) : (∃ z, V.str a = V.str z) ∧ P := ⟨⟨a, rfl⟩, h⟩
theorem ex_s0 {P : Str → Prop} {a : Str} (h : P a) : ∃ z, V.str a = V.str z ∧ ([] : List V) = [] ∧ True ∧ P z := ⟨a, rfl, rfl, trivial, h⟩
/-! ## ways that meet -/
theorem if_join {c : Prop} [Decidable c] {t u : TS} (A : L2.St → Hp → Prop)
    (h1 : c → ∀ D' : Ends, D'.rt = D.rt → (∀ σ' H', A σ' H' → D'.nx σ' H') → t D' σ H) (h2 : ¬ c → ∀ D' : Ends, D'.rt = D.rt → (∀ σ' H', A σ' H' → D'.nx σ' H') → u D' σ H)
    (k : ∀ σ' H', A σ' H' → D.nx σ' H') : if decide c = true then t D σ H else u D σ H := ite2d (fun hc => h1 hc D rfl k) fun hc => h2 hc D rfl k
theorem ifn_join {c : Prop} [Decidable c] {t u : TS} (A : L2.St → Hp → Prop)
    (h1 : ¬ c → ∀ D' : Ends, D'.rt = D.rt → (∀ σ' H', A σ' H' → D'.nx σ' H') → t D' σ H) (h2 : c → ∀ D' : Ends, D'.rt = D.rt → (∀ σ' H', A σ' H' → D'.nx σ' H') → u D' σ H)
    (k : ∀ σ' H', A σ' H' → D.nx σ' H') : if (!decide c) = true then t D σ H else u D σ H := ifn2 (fun hc => h1 hc D rfl k) fun hc => h2 hc D rfl k
theorem ifb_join {b : Bool} {t u : TS} (A : L2.St → Hp → Prop)
    (h1 : b = true → ∀ D' : Ends, D'.rt = D.rt → (∀ σ' H', A σ' H' → D'.nx σ' H') → t D' σ H) (h2 : b = false → ∀ D' : Ends, D'.rt = D.rt → (∀ σ' H', A σ' H' → D'.nx σ' H') → u D' σ H)
    (k : ∀ σ' H', A σ' H' → D.nx σ' H') : if b = true then t D σ H else u D σ H := by
  cases b with
  | true => exact ift (h1 rfl D rfl k)
  | false => exact iff_ (h2 rfl D rfl k)
theorem exp_join {c : Prop} [Decidable c] {ta tb : TE} (A : V → Hp → Prop) (h1 : c → ∀ Q' : VK, (∀ v H', A v H' → Q' v H') → ta σ H Q') (h2 : ¬ c → ∀ Q' : VK, (∀ v H', A v H' → Q' v H') → tb σ H Q')
    (k : ∀ v H', A v H' → Q v H') : if decide c = true then ta σ H Q else tb σ H Q := ite2d (fun hc => h1 hc Q k) fun hc => h2 hc Q k
theorem seq_cut {t u : TS} (A : L2.St → Hp → Prop) (h1 : ∀ D' : Ends, D'.rt = D.rt → (∀ σ' H', A σ' H' → D'.nx σ' H') → t D' σ H) (h2 : ∀ σ' H', A σ' H' → u D σ' H') : tSeq t u D σ H := h1 { D with nx := u D } rfl h2
/-! ## statements -/
theorem tseq {t u : TS} (h : t { D with nx := u D } σ H) : tSeq t u D σ H := h
theorem tnext (h : D.nx σ H) : tNext D σ H := h
theorem tdrop {te : TE} (h : te σ H fun _ H1 => D.nx σ H1) : tDrop te D σ H := h
theorem tret {te : TE} (h : te σ H D.rt) : tRet te D σ H := h
theorem tretn (h : D.rt .non H) : tRetN D σ H := h
theorem tifs {c : TT} {t u : TS} (h : c σ H fun b H1 => if b = true then t D σ H1 else u D σ H1) : tIfS c t u D σ H := h
theorem tasg {te : TE} {g : TG} (h : te σ H fun x H1 => g x σ H1 D.nx) : tAsg te g D σ H := h
theorem gname {i : Nat} {v : V} {QG : L2.St → Hp → Prop} (h : QG (σ.set i (some v)) H) : gName i v σ H QG := h
theorem gtup {n : Nat} {t : TGs} {a : Addr} {xs : List V} {QG : L2.St → Hp → Prop} (h : SqT K H a xs) (hn : xs.length = n) (q : t xs σ H QG) : gTup K n t (.ref a) σ H QG := ⟨a, xs, rfl, h, hn, q⟩
theorem gunl {n : Nat} {t : TGs} {a : Addr} {xs : List V} {QG : L2.St → Hp → Prop} (h : SqL K H a xs) (hn : xs.length = n) (q : t xs σ H QG) : gUnl K n t (.ref a) σ H QG := ⟨a, xs, rfl, h, hn, q⟩
theorem gnil {QG : L2.St → Hp → Prop} (h : QG σ H) : gNil [] σ H QG := ⟨rfl, h⟩
theorem gcons {t : TG} {u : TGs} {v : V} {r : List V} {QG : L2.St → Hp → Prop} (h : t v σ H fun σ' H' => u r σ' H' QG) : gCons t u (v :: r) σ H QG := ⟨v, r, rfl, h⟩
theorem gsub {to ti : TE} {t : TSet} {v : V} {QG : L2.St → Hp → Prop} (h : to σ H fun o H1 => ti σ H1 fun i H2 => t o i v H2 fun H3 => QG σ H3) : gSub to ti t v σ H QG := h
def kPar (i j : Nat) (D : Ends) (σ : L2.St) : List V → Hp → Prop := fun vs H1 => ∃ v w, vs = [v, w] ∧ D.nx ((σ.set i (some v)).set j (some w)) H1
theorem tpar {i j : Nat} {ta : TA} (h : ta σ H (kPar i j D σ)) : tPar i j ta D σ H := h
theorem k_par {i j : Nat} {v w : V} (h : D.nx ((σ.set i (some v)).set j (some w)) H) : kPar i j D σ [v, w] H := ⟨v, w, rfl, h⟩
def kPar3 (i j l : Nat) (D : Ends) (σ : L2.St) : List V → Hp → Prop := fun vs H1 => ∃ u v w, vs = [u, v, w] ∧ D.nx (((σ.set i (some u)).set j (some v)).set l (some w)) H1
theorem tpar3 {i j l : Nat} {ta : TA} (h : ta σ H (kPar3 i j l D σ)) : tPar3 i j l ta D σ H := h
theorem k_par3 {i j l : Nat} {u v w : V} (h : D.nx (((σ.set i (some u)).set j (some v)).set l (some w)) H) : kPar3 i j l D σ [u, v, w] H := ⟨u, v, w, rfl, h⟩
theorem taug {i : Nat} {x : V} {te : TE} {ti : TIp} (e : σ[i]? = some (some x)) (h : te σ H fun y H1 => ti x y H1 fun z H2 => D.nx (σ.set i (some z)) H2) : tAug i te ti D σ H := ⟨x, e, h⟩
theorem ipi {f : Int → Int → Int} {i j : Int} (q : Q (.int (f i j)) H) : ipI f (.int i) (.int j) H Q := ⟨i, j, rfl, rfl, q⟩
/-! ## shapes of rules without a name -/
theorem ex_ss {P : Str → Str → Prop} {a b : Str} (h : P a b) : ∃ i j, V.str a = V.str i ∧ V.str b = V.str j ∧ P i j := ⟨a, b, rfl, rfl, h⟩
theorem ex_s1 {P : Str → Prop} {a : Str} (h : P a) : ∃ z, [V.str a] = [V.str z] ∧ P z := ⟨a, rfl, h⟩
theorem ex_i1 {P : Int → Prop} {a : Int} (h : P a) : ∃ z, [V.int a] = [V.int z] ∧ P z := ⟨a, rfl, h⟩
theorem ex_int_b {P R : Int → Prop} {b : Bool} (h : R (if b then 1 else 0)) : (∃ i, [V.bl b] = [V.int i] ∧ P i) ∨ ∃ k, [V.bl b] = [V.bl k] ∧ R (if k then 1 else 0) := .inr ⟨b, rfl, h⟩
theorem and_rfl {α : Type} {a : α} {P : Prop} (h : P) : a = a ∧ P := ⟨rfl, h⟩
theorem and_tr {P : Prop} (h : P) : True ∧ P := ⟨trivial, h⟩
theorem is_non {Q : Bool → Prop} (h : Q true) : Q (decide (V.non = V.non)) := by rw [decide_eq_true rfl]; exact h
end
/-! ## loops -/
section
variable {J : It} {n : Nat} {G : Hp → Prop} {Y : Nat → Hp → V → Hp → Prop} {K : PySem.W.Frag}
/-- what a comprehension has made so far stands at D -/
def lcP (D : Addr) (Pv : Nat → List V → Hp → Prop) (i : Nat) (H : Hp) : Prop := ∃ acc, H D = some (.lst acc) ∧ acc.length ≤ i ∧ Pv i acc H
def kLc (D : Addr) (Nx : Hp → Prop) : VK := fun y H4 => ∃ acc, H4 D = some (.lst acc) ∧ acc.length < sizeLine ∧ Nx (upd H4 D (.lst (acc ++ [y])))
theorem k_lc {D : Addr} {Pv : Nat → List V → Hp → Prop} {i : Nat} {y : V} {H : Hp} {acc : List V} (h : H D = some (.lst acc)) (hl : acc.length ≤ i) (hz : i ≤ 99999) (q : ∀ H5 : Hp, Fr H H5 D → H5 D = some (.lst (acc ++ [y])) → Pv (i + 1) (acc ++ [y]) H5) : kLc D (lcP D Pv (i + 1)) y H :=
  ⟨acc, h, Nat.lt_of_lt_of_le (Nat.lt_of_le_of_lt (Nat.le_trans hl hz) (by decide : 99999 < 100000)) (by decide), acc ++ [y], upd_same, by rw [List.length_append]; exact Nat.succ_le_succ hl, q _ Fr.upd upd_same⟩
theorem k_lc0 {D : Addr} {Pv : Nat → List V → Hp → Prop} {i : Nat} {H : Hp} {acc : List V} (h : H D = some (.lst acc)) (hl : acc.length ≤ i) (q : Pv (i + 1) acc H) : lcP D Pv (i + 1) H := ⟨acc, h, Nat.le_succ_of_le hl, q⟩
/-- a comprehension: Pv by the turn, what is made so far and the heap; the new list D is told apart -/
theorem lc_gen (w : Walk J n G Y) {g : TG} {tt : TT} {te : TE} {vs : List Nat} {σ : L2.St} {H1 : Hp} {D : Addr} {Qd : Hp → Prop} (hD : H1 D = none) (Pv : Nat → List V → Hp → Prop)
    (h0 : ∀ H', Same H1 H' → H' D = some (.lst []) → Pv 0 [] H') (hG : ∀ i acc H, i ≤ n → H D = some (.lst acc) → Pv i acc H → G H)
    (hs : ∀ i acc x H H', i < n → acc.length ≤ i → H D = some (.lst acc) → Pv i acc H → Y i H x H' → g x (wipe σ vs) H' fun σ2 H2 => wipe σ2 vs = wipe σ vs ∧ tt σ2 H2 fun b H3 =>
      if b = true then te σ2 H3 (kLc D (lcP D Pv (i + 1))) else lcP D Pv (i + 1) H3)
    (hd : ∀ acc H, H D = some (.lst acc) → acc.length ≤ n → Pv n acc H → Qd H) :
    ∃ W : Nat → Nat → Hp → Prop, (∃ m, W 0 m (upd H1 D (.lst []))) ∧ ∀ i m H, W i m H →
      (J.stop i H ∧ Qd H) ∨ (J.go i H ∧ ∃ Nx : Hp → Prop, (∀ H', Nx H' → ∃ m', m' < m ∧ W (i + 1) m' H') ∧ ∀ x H', J.yld i H x H' → g x (wipe σ vs) H' fun σ2 H2 => wipe σ2 vs = wipe σ vs ∧ tt σ2 H2 fun b H3 =>
        if b = true then te σ2 H3 fun y H4 => ∃ acc, H4 D = some (.lst acc) ∧ acc.length < sizeLine ∧ Nx (upd H4 D (.lst (acc ++ [y]))) else Nx H3) :=
  lc_it w (lcP D Pv) ⟨[], upd_same, Nat.le_refl _, h0 _ (same_upd hD) upd_same⟩ (fun i H hi ⟨acc, h1, _, h2⟩ => hG i acc H hi h1 h2) (fun i x H H' hi ⟨acc, h1, hl, h2⟩ y => hs i acc x H H' hi hl h1 h2 y) fun H ⟨acc, h1, hl, h2⟩ => hd acc H h1 hl h2
/-- a comprehension that makes one value of each item and changes nothing -/
theorem lc_map {xs : List V} (w : Walk J xs.length G (YAt xs)) (hz : xs.length ≤ 99999) {g : TG} {tt : TT} {te : TE} {vs : List Nat} {σ : L2.St} {H1 : Hp} {D : Addr} {Qd : Hp → Prop} (hD : H1 D = none) (F : V → V)
    (hG : ∀ H', Same H1 H' → G H')
    (hs : ∀ x Hq, x ∈ xs → Same H1 Hq → ∀ (KK : VK) (KN : Hp → Prop), (∀ H5, Same Hq H5 → KK (F x) H5) → g x (wipe σ vs) Hq fun σ2 H2 => wipe σ2 vs = wipe σ vs ∧ tt σ2 H2 fun b H3 => if b = true then te σ2 H3 KK else KN H3)
    (hd : ∀ H, Same H1 H → H D = some (.lst (xs.map F)) → Qd H) :
    ∃ W : Nat → Nat → Hp → Prop, (∃ m, W 0 m (upd H1 D (.lst []))) ∧ ∀ i m H, W i m H →
      (J.stop i H ∧ Qd H) ∨ (J.go i H ∧ ∃ Nx : Hp → Prop, (∀ H', Nx H' → ∃ m', m' < m ∧ W (i + 1) m' H') ∧ ∀ x H', J.yld i H x H' → g x (wipe σ vs) H' fun σ2 H2 => wipe σ2 vs = wipe σ vs ∧ tt σ2 H2 fun b H3 =>
        if b = true then te σ2 H3 fun y H4 => ∃ acc, H4 D = some (.lst acc) ∧ acc.length < sizeLine ∧ Nx (upd H4 D (.lst (acc ++ [y]))) else Nx H3) :=
  lc_gen w hD (fun i acc H => Same H1 H ∧ acc = (xs.take i).map F) (fun H' s _ => ⟨s, by rw [List.take_zero]; rfl⟩) (fun i acc H _ _ h => hG H h.1)
    (fun i acc x H H' hi hl hH ⟨s, ha⟩ ⟨e, hx⟩ => by
      subst e
      refine hs x H' (List.mem_of_getElem? hx) s _ _ fun H5 s5 => k_lc (s5 _ _ hH) hl (by omega) fun H6 f h6 => ⟨Same.fr_new (s.trans s5) f hD, ?_⟩
      rw [ha, List.take_add_one, hx, List.map_append]; rfl)
    fun acc H hH _ ⟨s, ha⟩ => hd H s (by rw [hH, ha, List.take_length])
end
theorem ypair {xs ys : Nat → Option V} {i : Nat} {H H' : Hp} {v : V} (h : YPair xs ys i H v H') : ∃ T x y, v = .ref T ∧ H T = none ∧ Same H H' ∧ H' T = some (.tup [x, y]) ∧ xs i = some x ∧ ys i = some y := by
  obtain ⟨T, x, y, e, nT, rfl, h1, h2⟩ := h
  exact ⟨T, x, y, e, nT, same_upd nT, upd_same, h1, h2⟩
/-! ## loops by name -/
section
variable {K : PySem.W.Frag} {σ : L2.St} {H : Hp} {Q : VK} {D : Ends} {R : It → Hp → Prop}
def kFor (g : TG) (tb : TS) (D : Ends) (σ : L2.St) : It → Hp → Prop := fun J H1 => ∃ W : Nat → Nat → L2.St → Hp → Prop, (∃ m, W 0 m σ H1) ∧ ∀ i m σ H, W i m σ H →
  (J.stop i H ∧ D.nx σ H) ∨ (J.go i H ∧ ∃ N : L2.St → Hp → Prop, (∀ σ' H', N σ' H' → ∃ m', m' < m ∧ W (i + 1) m' σ' H') ∧ ∀ x H', J.yld i H x H' → g x σ H' fun σ2 H2 => tb { D with nx := N, ct := N, bk := D.nx } σ2 H2)
theorem tfor {wi : TI} {g : TG} {tb : TS} (h : wi σ H (kFor g tb D σ)) : tFor wi g tb D σ H := h
def kLcS (g : TG) (tt : TT) (te : TE) (vs : List Nat) (σ : L2.St) (Q : VK) : It → Hp → Prop := fun J H1 => ∀ D, H1 D = none → ∃ W : Nat → Nat → Hp → Prop, (∃ m, W 0 m (upd H1 D (.lst []))) ∧ ∀ i m H, W i m H →
  (J.stop i H ∧ Q (.ref D) H) ∨ (J.go i H ∧ ∃ Nx : Hp → Prop, (∀ H', Nx H' → ∃ m', m' < m ∧ W (i + 1) m' H') ∧ ∀ x H', J.yld i H x H' → g x (wipe σ vs) H' fun σ2 H2 => wipe σ2 vs = wipe σ vs ∧ tt σ2 H2 fun b H3 =>
    if b = true then te σ2 H3 fun y H4 => ∃ acc, H4 D = some (.lst acc) ∧ acc.length < sizeLine ∧ Nx (upd H4 D (.lst (acc ++ [y]))) else Nx H3)
theorem tlc {wi : TI} {g : TG} {tt : TT} {te : TE} {vs : List Nat} (h : wi σ H (kLcS g tt te vs σ Q)) : tLc wi g tt te vs σ H Q := h
def kIL (K : PySem.W.Frag) (R : It → Hp → Prop) : VK := fun x H1 => ∃ a, x = .ref a ∧ (∃ xs, SqL K H1 a xs) ∧ R (Itl K a) H1
theorem ilist {tl : TE} (h : tl σ H (kIL K R)) : iList K tl σ H R := h
theorem k_il {a : Addr} {xs : List V} (h : SqL K H a xs) (q : R (Itl K a) H) : kIL K R (.ref a) H := ⟨a, rfl, ⟨xs, h⟩, q⟩
def kIT (K : PySem.W.Frag) (R : It → Hp → Prop) : VK := fun x H1 => ∃ a, x = .ref a ∧ (∃ xs, SqT K H1 a xs) ∧ R (Itt K a) H1
theorem itup {tl : TE} (h : tl σ H (kIT K R)) : iTup K tl σ H R := h
theorem k_it {a : Addr} {xs : List V} (h : SqT K H a xs) (q : R (Itt K a) H) : kIT K R (.ref a) H := ⟨a, rfl, ⟨xs, h⟩, q⟩
def kIS (R : It → Hp → Prop) : VK := fun v H1 => ∃ x, v = .str x ∧ R (Its x) H1
theorem istr {te : TE} (h : te σ H (kIS R)) : iStr te σ H R := h
theorem k_is {x : Str} (q : R (Its x) H) : kIS R (.str x) H := ⟨x, rfl, q⟩
def kR1 (R : It → Hp → Prop) : List V → Hp → Prop := fun vs H1 => ∃ j : Int, vs = [.int j] ∧ -(2 ^ 62) ≤ j ∧ j < 2 ^ 62 ∧ R (Itr 0 j.toNat) H1
theorem irng1 {ta : TA} (h : ta σ H (kR1 R)) : iRng1 ta σ H R := h
theorem k_r1 {j : Int} (h1 : -(2 ^ 62) ≤ j) (h2 : j < 2 ^ 62) (q : R (Itr 0 j.toNat) H) : kR1 R [.int j] H := ⟨j, rfl, h1, h2, q⟩
theorem k_r1n {n : Nat} (h2 : n < 2 ^ 62) (q : R (Itr 0 n) H) : kR1 R [.int n] H := ⟨n, rfl, by omega, by omega, q⟩
def kR2 (R : It → Hp → Prop) : List V → Hp → Prop := fun vs H1 => ∃ i j : Int, vs = [.int i, .int j] ∧ (-(2 ^ 62) ≤ i ∧ i < 2 ^ 62 ∧ -(2 ^ 62) ≤ j ∧ j < 2 ^ 62) ∧ R (Itr i (j - i).toNat) H1
theorem irng2 {ta : TA} (h : ta σ H (kR2 R)) : iRng2 ta σ H R := h
theorem k_r2 {i j : Int} (h1 : -(2 ^ 62) ≤ i) (h2 : i < 2 ^ 62) (h3 : -(2 ^ 62) ≤ j) (h4 : j < 2 ^ 62) (q : R (Itr i (j - i).toNat) H) : kR2 R [.int i, .int j] H := ⟨i, j, rfl, ⟨h1, h2, h3, h4⟩, q⟩
def kEn (K : PySem.W.Frag) (R : It → Hp → Prop) : List V → Hp → Prop := fun vs H1 => ∃ a xs, vs = [.ref a] ∧ SqL K H1 a xs ∧ R (Ite K a) H1
theorem ienum {ta : TA} (h : ta σ H (kEn K R)) : iEnum K ta σ H R := h
theorem k_en {a : Addr} {xs : List V} (h : SqL K H a xs) (q : R (Ite K a) H) : kEn K R [.ref a] H := ⟨a, xs, rfl, h, q⟩
def kZip (K : PySem.W.Frag) (R : It → Hp → Prop) : List V → Hp → Prop := fun vs H1 => ∃ a b xs ys, vs = [.ref a, .ref b] ∧ SqL K H1 a xs ∧ SqL K H1 b ys ∧ R (Itz K a b) H1
theorem izip {ta : TA} (h : ta σ H (kZip K R)) : iZip K ta σ H R := h
theorem k_zip {a b : Addr} {xs ys : List V} (h : SqL K H a xs) (h' : SqL K H b ys) (q : R (Itz K a b) H) : kZip K R [.ref a, .ref b] H := ⟨a, b, xs, ys, rfl, h, h', q⟩
/-- list(range(..)) -/
def kLR (Q : VK) : Int → Int → Hp → Prop := fun a b H1 => RgOk a b ∧ ∀ q, H1 q = none → Q (.ref q) (upd H1 q (.lst (rgV a b)))
theorem tlstrg {te : L2.St → Hp → (Int → Int → Hp → Prop) → Prop} (h : te σ H (kLR Q)) : tLstRg te σ H Q := h
theorem k_lr {n : Nat} (hn : n ≤ 100000) (k : ∀ (p : Addr) (H' : Hp), H p = none → Same H H' → H' p = some (.lst (rgV 0 n)) → Q (.ref p) H') : kLR Q 0 n H :=
  ⟨RgOk.of_le (by decide) (by omega) (by decide) (by omega), fun p np => k p _ np (same_upd np) upd_same⟩
def kG1 (QR : Int → Int → Hp → Prop) : VK := fun x H1 => ∃ n, x = .int n ∧ QR 0 n H1
theorem trg1 {ta : TE} {QR : Int → Int → Hp → Prop} (h : ta σ H (kG1 QR)) : tRg1 ta σ H QR := h
theorem k_g1 {n : Int} {QR : Int → Int → Hp → Prop} (q : QR 0 n H) : kG1 QR (.int n) H := ⟨n, rfl, q⟩
end
section
variable {J : It} {n : Nat} {G : Hp → Prop} {Y : Nat → Hp → V → Hp → Prop} {K : PySem.W.Frag}
theorem for_ (w : Walk J n G Y) {g : TG} {tb : TS} {D : Ends} {σ : L2.St} {H : Hp} (Pv : Nat → L2.St → Hp → Prop) (h0 : Pv 0 σ H) (hG : ∀ i σ H, i ≤ n → Pv i σ H → G H)
    (hs : ∀ i x σ H H', i < n → Pv i σ H → Y i H x H' → g x σ H' fun σ2 H2 => tb { D with nx := Pv (i + 1), ct := Pv (i + 1), bk := D.nx } σ2 H2) (hd : ∀ σ H, Pv n σ H → D.nx σ H) : kFor g tb D σ J H := for_it w Pv h0 hG hs hd
theorem comp (w : Walk J n G Y) {g : TG} {tt : TT} {te : TE} {vs : List Nat} {σ : L2.St} {H1 : Hp} {Q : VK} (Pv : Addr → Nat → List V → Hp → Prop)
    (h0 : ∀ D H', H1 D = none → Same H1 H' → H' D = some (.lst []) → Pv D 0 [] H') (hG : ∀ D i acc H, i ≤ n → H1 D = none → H D = some (.lst acc) → Pv D i acc H → G H)
    (hs : ∀ D i acc x H H', H1 D = none → i < n → acc.length ≤ i → H D = some (.lst acc) → Pv D i acc H → Y i H x H' → g x (wipe σ vs) H' fun σ2 H2 => wipe σ2 vs = wipe σ vs ∧ tt σ2 H2 fun b H3 =>
      if b = true then te σ2 H3 (kLc D (lcP D (Pv D) (i + 1))) else lcP D (Pv D) (i + 1) H3)
    (hd : ∀ D acc H, H1 D = none → H D = some (.lst acc) → acc.length ≤ n → Pv D n acc H → Q (.ref D) H) : kLcS g tt te vs σ Q J H1 :=
  fun D hD => lc_gen w hD (Pv D) (fun H' => h0 D H' hD) (fun i acc H hi => hG D i acc H hi hD) (fun i acc x H H' => hs D i acc x H H' hD) fun acc H => hd D acc H hD
theorem map_ {xs : List V} (w : Walk J xs.length G (YAt xs)) (hz : xs.length ≤ 99999) {g : TG} {tt : TT} {te : TE} {vs : List Nat} {σ : L2.St} {H1 : Hp} {Q : VK} (F : V → V)
    (hG : ∀ H', Same H1 H' → G H')
    (hs : ∀ x Hq, x ∈ xs → Same H1 Hq → ∀ (KK : VK) (KN : Hp → Prop), (∀ H5, Same Hq H5 → KK (F x) H5) → g x (wipe σ vs) Hq fun σ2 H2 => wipe σ2 vs = wipe σ vs ∧ tt σ2 H2 fun b H3 => if b = true then te σ2 H3 KK else KN H3)
    (hd : ∀ D H, H1 D = none → Same H1 H → H D = some (.lst (xs.map F)) → Q (.ref D) H) : kLcS g tt te vs σ Q J H1 :=
  fun D hD => lc_map w hz hD F hG hs fun H => hd D H hD
end
section
variable {P : Program} {w : World} {K : PySem.W.Frag} {mg : Str → Option Value} {base : Heap} {CX : CXT} {k : Nat} {f : Addr} {fd : FuncData} {ps : List Str} {sp sp' : Sp}
theorem fn_imp (F : FnOk P w K mg base CX k f fd ps sp) (h : ∀ vs H Q E, sp' vs H Q E → sp vs H Q E) : FnOk P w K mg base CX k f fd ps sp' :=
  ⟨fun vs H Q E x => F.len _ _ _ _ (h _ _ _ _ x), fun A out s H ar us vs Q E hr e b r x => F.run A out s H ar us vs Q E hr e b r (h _ _ _ _ x)⟩
theorem fn_no : FnOk P w K mg base CX 0 f fd ps (fun _ _ _ _ => False) := ⟨fun _ _ _ _ x => x.elim, fun _ _ _ _ _ _ _ _ _ _ _ _ _ x => x.elim⟩
end
end LS
namespace LP
open PySem L2 LT LG LX
def sp__law_draw_t : Sp := fun vs H Q _ => ∃ (b : Addr) (d : Nat) (n : Int), vs = [.ref b, .int n] ∧ Reel H b d ∧ 0 < n ∧ n.natAbs.log2 < 9000 ∧ d < 1000000 ∧
  ∀ (H' : Hp) (r : Int), 0 ≤ r → r < n → LS.RT H H' b (d + 1) → Q (.int r) H'
def sp__law_shuffled_t : Sp := fun vs H Q _ => ∃ (b : Addr) (d : Nat) (p : Addr) (xs : List Int), vs = [.ref b, .ref p] ∧ Reel H b d ∧ d < 900000 ∧ H p = some (.lst (xs.map V.int)) ∧ xs.length ≤ 400 ∧ p ≠ b ∧
  ∀ (H' : Hp) (q : Addr) (ys : List Int), LS.RT H H' b (d + xs.length) → H q = none → ys.Perm xs → H' q = some (.lst (ys.map V.int)) → Apart H' b q → Q (.ref q) H'
theorem draw_t {vs : List V} {H : Hp} {Q : VK} {E : XK} (h : sp__law_draw_t vs H Q E) : sp__law_draw_r vs H Q E := by
  obtain ⟨b, d, n, rfl, R, h1, h2, h3, k⟩ := h
  exact ⟨b, d, n, rfl, R, h1, h2, h3, fun H' r r0 r1 R' F A => k H' r r0 r1 ⟨R', F, A⟩⟩
end LP

/-! small data: what repr and == ask of it -/
namespace LG
open PySem L2
structure Sm (d : PyData) (k w : Nat) : Prop where
  sh : d.showable = true
  ls : d.leavesShort 40 = true
  cl : d.canLay0 = true
  dp : d.depth ≤ k
  wt : d.weight ≤ w
theorem Sm.mono {d : PyData} {k w k' w' : Nat} (h : Sm d k w) (hk : k ≤ k') (hw : w ≤ w') : Sm d k' w' := ⟨h.sh, h.ls, h.cl, Nat.le_trans h.dp hk, Nat.le_trans h.wt hw⟩
theorem Sm.int {i : Int} (hb : i.natAbs < 10 ^ 31) : Sm (.int i) 0 121 := by
  have hlog : i.natAbs.log2 < 1920 := by
    by_cases z : i.natAbs = 0
    · rw [z]; decide
    · exact Nat.lt_trans ((Nat.log2_lt z).mpr (show i.natAbs < 2 ^ 120 from Nat.lt_trans hb (by decide))) (by decide)
  have hlen : (PyData.shown (.int i)).length ≤ 40 := by
    have e := int_text_length_le10 (k := 31) (by decide) hb
    show (Str.ofString (toString i)).length ≤ 40
    rw [ofString_length]; omega
  refine ⟨?_, ?_, rfl, Nat.le_refl _, ?_⟩
  · simp only [PyData.showable, decide_eq_true_eq]; exact hlog
  · simp only [PyData.leavesShort, decide_eq_true_eq]; exact hlen
  · simp only [PyData.weight]
    split
    · omega
    · rename_i z
      have z2 : i.natAbs ≠ 0 := fun q => z (by simp [Int.natAbs_eq_zero.mp q])
      have := (Nat.log2_lt z2).mpr (show i.natAbs < 2 ^ 120 from Nat.lt_trans hb (by decide))
      omega
theorem Sm.non : Sm .none 0 0 := ⟨rfl, rfl, rfl, Nat.le_refl _, Nat.le_refl _⟩
theorem Sm.bl (b : Bool) : Sm (.bool b) 0 0 := ⟨rfl, rfl, rfl, Nat.le_refl _, Nat.le_refl _⟩
theorem Sm.all {k w : Nat} : ∀ {l : List PyData}, (∀ d ∈ l, Sm d k w) → PyData.showableAll l = true ∧ PyData.leavesShortAll 40 l = true ∧ PyData.canLayAll0 l = true ∧ PyData.depthAll l ≤ k ∧ PyData.weightAll l ≤ (w + 1) * l.length
  | [], _ => ⟨rfl, rfl, rfl, Nat.zero_le _, Nat.zero_le _⟩
  | d :: r, h => by
    obtain ⟨a, b, c, e, f⟩ := Sm.all (l := r) fun x hx => h x (List.mem_cons_of_mem _ hx)
    have g := h d List.mem_cons_self
    refine ⟨?_, ?_, ?_, ?_, ?_⟩
    · simp only [PyData.showableAll, Bool.and_eq_true]; exact ⟨g.sh, a⟩
    · simp only [PyData.leavesShortAll, Bool.and_eq_true]; exact ⟨g.ls, b⟩
    · simp only [PyData.canLayAll0, Bool.and_eq_true]; exact ⟨g.cl, c⟩
    · simp only [PyData.depthAll]
      have := g.dp
      omega
    · simp only [PyData.weightAll, List.length_cons]
      have := g.wt
      rw [Nat.mul_succ]
      omega
theorem Sm.list {k w : Nat} {l : List PyData} (h : ∀ d ∈ l, Sm d k w) : Sm (.list l) (k + 1) ((w + 1) * l.length) := by
  obtain ⟨a, b, c, e, f⟩ := Sm.all h
  exact ⟨by simp only [PyData.showable]; exact a, by simp only [PyData.leavesShort]; exact b, by simp only [PyData.canLay0]; exact c, by simp only [PyData.depth]; omega, by simp only [PyData.weight]; exact f⟩
theorem Sm.tup {k w : Nat} {l : List PyData} (h : ∀ d ∈ l, Sm d k w) : Sm (.tuple l) (k + 1) ((w + 1) * l.length) := by
  obtain ⟨a, b, c, e, f⟩ := Sm.all h
  exact ⟨by simp only [PyData.showable]; exact a, by simp only [PyData.leavesShort]; exact b, by simp only [PyData.canLay0]; exact c, by simp only [PyData.depth]; omega, by simp only [PyData.weight]; exact f⟩
theorem Sm.ok {d : PyData} {k w : Nat} (h : Sm d k w) (hk : k ≤ 64) (hw : w ≤ 200000) : d.showable = true ∧ SeqAt.shaped d = true ∧ d.shown.length ≤ sizeLine := by
  refine ⟨h.sh, ?_, ?_⟩
  · unfold SeqAt.shaped
    rw [Bool.and_eq_true, decide_eq_true_iff]
    exact ⟨h.cl, Nat.le_trans h.dp hk⟩
  · have := PyData.shown_le 40 (by decide) _ h.ls
    have e : (40 + 2) * d.weight ≤ 42 * 200000 := Nat.mul_le_mul_left _ (Nat.le_trans h.wt hw)
    exact Nat.le_trans this (Nat.le_trans (show _ ≤ 9000000 by omega) (by decide))
theorem dpAll_of {K : PySem.W.Frag} {H : Hp} : ∀ {vs : List V} {ds : List PyData}, vs.length = ds.length → (∀ (i : Nat) v d, vs[i]? = some v → ds[i]? = some d → Dp K H v d) → DpAll K H vs ds
  | [], [], _, _ => .nil
  | v :: vs, d :: ds, h, g => .cons (g 0 v d rfl rfl) (dpAll_of (by simpa using h) fun i x y h1 h2 => g (i + 1) x y h1 h2)
  | [], _ :: _, h, _ => by simp at h
  | _ :: _, [], h, _ => by simp at h
end LG

/-! data of lists and tuples: repr and == -/
namespace LS
open PySem L2 LT LG LP LX
section
variable {K : PySem.W.Frag} {H : Hp} {Q : VK}
def dI (ns : List Int) : PyData := .list (ns.map PyData.int)
def dS (ns : List Str) : PyData := .list (ns.map PyData.str)
theorem dpA_i : ∀ l : List Int, DpAll K H (l.map V.int) (l.map PyData.int)
  | [] => .nil
  | i :: r => .cons (.int i) (dpA_i r)
theorem dpA_s : ∀ l : List Str, DpAll K H (l.map V.str) (l.map PyData.str)
  | [] => .nil
  | i :: r => .cons (.str i) (dpA_s r)
theorem dp_i {p : Addr} {ns : List Int} (h : SqL K H p (ns.map V.int)) : Dp K H (.ref p) (dI ns) := .lst h (dpA_i _)
theorem dp_s {p : Addr} {ns : List Str} (h : SqL K H p (ns.map V.str)) : Dp K H (.ref p) (dS ns) := .lst h (dpA_s _)
theorem dp_it {p : Addr} {ns : List Int} (h : SqT K H p (ns.map V.int)) : Dp K H (.ref p) (.tuple (ns.map PyData.int)) := .tup h (dpA_i _)
theorem dp_E {p : Addr} {ns : List Int} (h : SqE K H p (ns.map V.int)) : ∃ d, (d = dI ns ∨ d = .tuple (ns.map PyData.int)) ∧ ∀ H', SqE K H' p (ns.map V.int) → True := ⟨_, .inl rfl, fun _ _ => trivial⟩
mutual
theorem dp_same {H' : Hp} (s : Same H H') : ∀ {v : V} {d : PyData}, Dp K H v d → Dp K H' v d
  | _, _, .non => .non
  | _, _, .bl b => .bl b
  | _, _, .int i => .int i
  | _, _, .str x => .str x
  | _, _, .lst h a => .lst (s.seq h) (dpA_same s a)
  | _, _, .tup h a => .tup (same_tup s h) (dpA_same s a)
theorem dpA_same {H' : Hp} (s : Same H H') : ∀ {vs : List V} {ds : List PyData}, DpAll K H vs ds → DpAll K H' vs ds
  | _, _, .nil => .nil
  | _, _, .cons h t => .cons (dp_same s h) (dpA_same s t)
end
theorem dpA_len : ∀ {vs : List V} {ds : List PyData}, DpAll K H vs ds → vs.length = ds.length
  | _, _, .nil => rfl
  | _, _, .cons _ t => by rw [List.length_cons, List.length_cons, dpA_len t]
theorem dpA_get : ∀ {vs : List V} {ds : List PyData} {i : Nat} {d : PyData}, DpAll K H vs ds → ds[i]? = some d → ∃ v, vs[i]? = some v ∧ Dp K H v d
  | _, _, _, _, .nil, e => by simp at e
  | _, _, 0, d, .cons h _, e => by simp at e; subst e; exact ⟨_, rfl, h⟩
  | _, _, i + 1, d, .cons _ t, e => by
    obtain ⟨v, h1, h2⟩ := dpA_get (i := i) (d := d) t (by simpa using e)
    exact ⟨v, by simpa using h1, h2⟩
theorem clA_i (l : List Int) : PyData.canLayAll0 (l.map PyData.int) = true := by
  induction l with
  | nil => rfl
  | cons i r ih => simp [PyData.canLayAll0, PyData.canLay0, ih]
theorem dpthA_i (l : List Int) : PyData.depthAll (l.map PyData.int) = 0 := by
  induction l with
  | nil => rfl
  | cons i r ih => simp [PyData.depthAll, PyData.depth, ih]
theorem clA_s (l : List Str) (h : ∀ x ∈ l, PyData.strOk x = true) : PyData.canLayAll0 (l.map PyData.str) = true := by
  induction l with
  | nil => rfl
  | cons i r ih => simp [PyData.canLayAll0, PyData.canLay0, ih fun x hx => h x (List.mem_cons_of_mem _ hx), h i (List.mem_cons_self ..)]
theorem dpthA_s (l : List Str) : PyData.depthAll (l.map PyData.str) = 0 := by
  induction l with
  | nil => rfl
  | cons i r ih => simp [PyData.depthAll, PyData.depth, ih]
theorem sh_i (l : List Int) : SeqAt.shaped (dI l) = true := by simp [SeqAt.shaped, dI, PyData.canLay0, PyData.depth, clA_i, dpthA_i]
theorem sh_s (l : List Str) (h : ∀ x ∈ l, PyData.strOk x = true) : SeqAt.shaped (dS l) = true := by simp [SeqAt.shaped, dS, PyData.canLay0, PyData.depth, clA_s l h, dpthA_s]
theorem eqvA_i : ∀ a b : List Int, PyData.eqvAll (a.map PyData.int) (b.map PyData.int) = decide (a = b)
  | [], [] => by simp [PyData.eqvAll]
  | [], _ :: _ => by simp [PyData.eqvAll]
  | _ :: _, [] => by simp [PyData.eqvAll]
  | x :: r, y :: t => by
    simp only [List.map_cons, PyData.eqvAll, eqvA_i r t]
    by_cases e : x = y
    · subst e; simp [PyData.eqv]
    · have : (x == y) = false := beq_eq_false_iff_ne.mpr e
      simp [PyData.eqv, e, this]
theorem eqvA_s : ∀ a b : List Str, PyData.eqvAll (a.map PyData.str) (b.map PyData.str) = decide (a = b)
  | [], [] => by simp [PyData.eqvAll]
  | [], _ :: _ => by simp [PyData.eqvAll]
  | _ :: _, [] => by simp [PyData.eqvAll]
  | x :: r, y :: t => by
    simp only [List.map_cons, PyData.eqvAll, eqvA_s r t]
    by_cases e : x = y
    · subst e; simp [PyData.eqv]
    · have : (x == y) = false := beq_eq_false_iff_ne.mpr e
      simp [PyData.eqv, e, this]
theorem eqv_i (a b : List Int) : PyData.eqv (dI a) (dI b) = decide (a = b) := by simp only [dI, PyData.eqv]; exact eqvA_i a b
theorem eqv_s (a b : List Str) : PyData.eqv (dS a) (dS b) = decide (a = b) := by simp only [dS, PyData.eqv]; exact eqvA_s a b
theorem reqd {x y : V} {d e : PyData} (h1 : Dp K H x d) (h2 : Dp K H y e) (s1 : SeqAt.shaped d = true) (s2 : SeqAt.shaped e = true) (q : Q (.bl (PyData.eqv d e)) H) : rEqD K x y H Q := ⟨d, e, h1, h2, s1, s2, q⟩
theorem rned {x y : V} {d e : PyData} (h1 : Dp K H x d) (h2 : Dp K H y e) (s1 : SeqAt.shaped d = true) (s2 : SeqAt.shaped e = true) (q : Q (.bl (!PyData.eqv d e)) H) : rNeD K x y H Q := ⟨d, e, h1, h2, s1, s2, q⟩
theorem req_il {a b : Addr} {x y : List Int} (h1 : SqL K H a (x.map V.int)) (h2 : SqL K H b (y.map V.int)) (q : Q (.bl (decide (x = y))) H) : rEqD K (.ref a) (.ref b) H Q := reqd (dp_i h1) (dp_i h2) (sh_i _) (sh_i _) (by rw [eqv_i]; exact q)
theorem rne_il {a b : Addr} {x y : List Int} (h1 : SqL K H a (x.map V.int)) (h2 : SqL K H b (y.map V.int)) (q : Q (.bl (!decide (x = y))) H) : rNeD K (.ref a) (.ref b) H Q := rned (dp_i h1) (dp_i h2) (sh_i _) (sh_i _) (by rw [eqv_i]; exact q)
theorem req_sl {a b : Addr} {x y : List Str} (o1 : ∀ z ∈ x, PyData.strOk z = true) (o2 : ∀ z ∈ y, PyData.strOk z = true) (h1 : SqL K H a (x.map V.str)) (h2 : SqL K H b (y.map V.str)) (q : Q (.bl (decide (x = y))) H) : rEqD K (.ref a) (.ref b) H Q := reqd (dp_s h1) (dp_s h2) (sh_s _ o1) (sh_s _ o2) (by rw [eqv_s]; exact q)
theorem rne_sl {a b : Addr} {x y : List Str} (o1 : ∀ z ∈ x, PyData.strOk z = true) (o2 : ∀ z ∈ y, PyData.strOk z = true) (h1 : SqL K H a (x.map V.str)) (h2 : SqL K H b (y.map V.str)) (q : Q (.bl (!decide (x = y))) H) : rNeD K (.ref a) (.ref b) H Q := rned (dp_s h1) (dp_s h2) (sh_s _ o1) (sh_s _ o2) (by rw [eqv_s]; exact q)
theorem rrepr {a : Addr} {d : PyData} {k w : Nat} (h : Dp K H (.ref a) d) (s : Sm d k w) (hk : k ≤ 64) (hw : w ≤ 200000) (q : Q (.str d.shown) H) : rReprN K [.ref a] H Q := by
  obtain ⟨a1, a2, a3⟩ := s.ok hk hw
  exact .inr (.inr (.inr ⟨a, d, rfl, h, a1, a2, a3, q⟩))
theorem rrepr_i {i : Int} (h : i.natAbs.log2 < 1920) (q : Q (.str (toString i)) H) : rReprN K [.int i] H Q := .inr (.inr (.inl ⟨i, rfl, h, q⟩))
theorem rrepr_n (q : Q (.str "None") H) : rReprN K [.non] H Q := .inl ⟨rfl, q⟩
theorem rrepr_b {b : Bool} (q : Q (.str (if b then "True" else "False")) H) : rReprN K [.bl b] H Q := .inr (.inl ⟨b, rfl, q⟩)
theorem sm_small {i : Int} (h : i.natAbs < 1024) : Sm (.int i) 0 10 := by
  have g := Sm.int (i := i) (Nat.lt_trans h (by decide))
  refine ⟨g.sh, g.ls, g.cl, g.dp, ?_⟩
  simp only [PyData.weight]
  split
  · omega
  · rename_i z
    have z2 : i.natAbs ≠ 0 := fun q => z (by simp [Int.natAbs_eq_zero.mp q])
    have := (Nat.log2_lt z2).mpr (show i.natAbs < 2 ^ 10 from h)
    omega
theorem sm_smalls {ns : List Int} (h : ∀ x ∈ ns, x.natAbs < 1024) : Sm (dI ns) 1 (11 * ns.length) := by
  have := Sm.list (k := 0) (w := 10) (l := ns.map PyData.int) (fun d hd => by obtain ⟨i, hi, rfl⟩ := List.mem_map.mp hd; exact sm_small (h i hi))
  rw [List.length_map] at this
  exact this
theorem sm_smallsT {ns : List Int} (h : ∀ x ∈ ns, x.natAbs < 1024) : Sm (.tuple (ns.map PyData.int)) 1 (11 * ns.length) := by
  have := Sm.tup (k := 0) (w := 10) (l := ns.map PyData.int) (fun d hd => by obtain ⟨i, hi, rfl⟩ := List.mem_map.mp hd; exact sm_small (h i hi))
  rw [List.length_map] at this
  exact this
theorem sm_ints {ns : List Int} (h : ∀ x ∈ ns, x.natAbs < 10 ^ 31) : Sm (dI ns) 1 (122 * ns.length) := by
  have := Sm.list (k := 0) (w := 121) (l := ns.map PyData.int) (fun d hd => by obtain ⟨i, hi, rfl⟩ := List.mem_map.mp hd; exact Sm.int (h i hi))
  rw [List.length_map] at this
  exact this
theorem sm_intsT {ns : List Int} (h : ∀ x ∈ ns, x.natAbs < 10 ^ 31) : Sm (.tuple (ns.map PyData.int)) 1 (122 * ns.length) := by
  have := Sm.tup (k := 0) (w := 121) (l := ns.map PyData.int) (fun d hd => by obtain ⟨i, hi, rfl⟩ := List.mem_map.mp hd; exact Sm.int (h i hi))
  rw [List.length_map] at this
  exact this
end
end LS

/-! == and != of an instance with its own ==, beside any value -/
namespace LX
open PySem PySem.Spec PySem.W PyProof.Rows L2
section
variable {prog : Program} {w : World} {A A₀ : Around} {E : Value → Shared → Prop} {s : Shared} {K : Frag} {x C L f : Addr} {h₀ : Heap} {m : Str → Option Value} {ox : Obj} {od : Option Obj} {b tb : Value}
theorem ne_entry {Q : Fin → Shared → Prop} (X : K.In s.heap) (I : InstAt s.heap x ox C od) (hs : findIn K (.ref C) "__eq__" = some (some (.ref f))) (hf : isFn K (.ref f) = true) (hu : A.units < cLine)
    (h : wpAny (model prog w) A (call (.ref f) [.ref x, b]) (fun v s' => ∃ r, v = .bool r ∧ Q (.done (.ret (.bool (!r)))) s') E s) : wpAny (model prog w) A (Builtin.«object.__ne__» ⟨[.ref x, b], []⟩) Q E s := by
  unfold Builtin.«object.__ne__»
  repeat (first
    | with_reducible refine wpAny_cRoomFor hu ?_
    | (refine wpAny_bind (m := callSpecialIfBound? (.ref x) (Str.ofString "__eq__") [b])
        (ifBound_K X I hs hf (wpAny_mono h (fun r s' hr => by
          obtain ⟨b, rfl, hq⟩ := hr
          repeat (first | exact hq | exact wpAny_pure hq | exact wpAny_truthy_bool hq | (refine wpAny_bind (m := truthy (.bool _)) (wpAny_truthy_bool ?_)) | wp_step)) fun _ _ e => e)))
    | wp_step)
theorem call_ne {Q : Value → Shared → Prop} (X : K.In s.heap) (I : InstAt s.heap x ox C od) (ho : mroIn K C (.type "object") = some true) (hs : findIn K (.ref C) "__eq__" = some (some (.ref f))) (hf : isFn K (.ref f) = true) (hu : A.units + 1 < cLine)
    (h : wpAny (model prog w) A.in1 (call (.ref f) [.ref x, b]) (fun v s' => ∃ r, v = .bool r ∧ Q (.bool (!r)) s') E s) : wpAny (model prog w) A (call (.builtin "object.__ne__") [.ref x, b]) Q E s := by
  refine wpAny_call (codeAny_call_builtin F.cmp_object.ne.plain F.cmpEntry_ne (check_slot F.cmpKind_ne F.cmpSplit_ne (I.type.andThen (looks_mroIn X ho)) (F.cmpArgs_ne _ _) (ne_entry (A := A.in1) X I hs hf hu (wpAny_mono h (fun v s' hv => ?_) fun _ _ e => e))))
  obtain ⟨b, rfl, hq⟩ := hv
  exact ⟨b, rfl, hq⟩
theorem cmp_ne {Q : Value → Shared → Prop} (hu : A.units + 1 < cLine) (FR : Fr h₀ L s.heap m) (X₀ : K.In h₀) (I : InstAt s.heap x ox C od) (hb : Looks (model prog w) s.heap (typeOf b) tb) (hn : notFirst K C tb = true)
    (ho : mroIn K C (.type "object") = some true) (hs : findIn K (.ref C) "__eq__" = some (some (.ref f))) (hf : isFn K (.ref f) = true) (hne : findIn K (.ref C) "__ne__" = some (some (.builtin "object.__ne__")))
    (h : wpAny (model prog w) A.in1 (call (.ref f) [.ref x, b]) (fun v s' => ∃ r, v = .bool r ∧ Q (.bool (!r)) s') E s) : wpAny (model prog w) A (richCompare .NotEq (.ref x) b) Q E s := by
  have X := X₀.keeps FR.keep
  have one : wpAny (model prog w) A (tryCompare (.ref x) "__ne__" b) (fun r s' => ∃ v, r = some v ∧ Q v s') E s := by
    unfold tryCompare
    have sp : wpAny (model prog w) A (callSpecialIfBound? (.ref x) "__ne__" [b]) (fun r s' => ∃ v, r = some (.bool v) ∧ Q (.bool v) s') E s := by
      simp only [callSpecialIfBound?, bindSpecialIfBound?]
      refine wpAny_holding (wpAny_bind (wpAny_bind (wpAny_bind (I.type.here ((looks_findIn X hne).here ?_)))))
      refine wpAny_bind (wpAny_askSetting (wpAny_ite ?_))
      have fin : wpAny (model prog w) A (call (.builtin "object.__ne__") ([.ref x] ++ [b]) >>= fun v => pure (some v)) (fun r s' => ∃ v, r = some (.bool v) ∧ Q (.bool v) s') E s :=
        wpAny_bind (call_ne X I ho hs hf hu (wpAny_mono h (fun v s' ⟨r, e, q⟩ => ⟨r, e, wpAny_pure ⟨_, rfl, q⟩⟩) fun _ _ e => e))
      rw [F.cmp_object.ne.bind]
      split
      · exact wpAny_bind (wpAny_pure (wpAny_pure (by exact fin)))
      · exact wpAny_tryCatch (wpAny_bind (wpAny_pure (wpAny_pure (by exact fin))))
    refine wpAny_bind (wpAny_mono sp (fun r s' z => ?_) fun _ _ e => e)
    obtain ⟨v, rfl, hq⟩ := z
    exact wpAny_pure ⟨_, rfl, hq⟩
  unfold richCompare
  simp only [oneThing_ref]
  refine wpAny_holding (wpAny_bind (wpAny_cRoomFor (Nat.lt_of_succ_lt hu) ?_))
  rw [cmpInfo_NotEq]
  dsimp only
  refine wpAny_bind (I.type.here (wpAny_bind (hb.here ?_)))
  split
  · rename_i q
    have e : subIn K tb (.ref C) = some false := by
      rcases Bool.or_eq_true_iff.mp hn with e | e
      · rw [beq_iff_eq.mp e] at q; simp at q
      · exact beq_iff_eq.mp e
    refine wpAny_bind ((looks_subIn X e).here ?_)
    simp only [Bool.false_eq_true, if_false]
    refine wpAny_bind (wpAny_mono one (fun r s' z => ?_) fun _ _ e => e)
    obtain ⟨v, rfl, hq⟩ := z
    exact wpAny_pure hq
  · refine wpAny_bind (wpAny_pure ?_)
    simp only [Bool.false_eq_true, if_false]
    refine wpAny_bind (wpAny_mono one (fun r s' z => ?_) fun _ _ e => e)
    obtain ⟨v, rfl, hq⟩ := z
    exact wpAny_pure hq
end
section
variable {X : Cx} {CX : CXT} {k : Nat} {C g : Addr} {fd : FuncData} {ps : List Str} {sp : Sp} {E : XK}
/-- x == y, x an instance of the class at C with its own ==; y any value that is no instance of a class below C -/
def rEqO (K : Frag) (C : Addr) (sp : Sp) (E : XK) : R2 := fun x y H Q => ∃ a dx fs t, x = .ref a ∧ H a = some (.ins C dx fs) ∧ TyX K H y t ∧ notFirst K C t = true ∧ sp [x, y] H Q E
def rNeO (K : Frag) (C : Addr) (sp : Sp) (E : XK) : R2 := fun x y H Q => ∃ a dx fs t, x = .ref a ∧ H a = some (.ins C dx fs) ∧ TyX K H y t ∧ notFirst K C t = true ∧ sp [x, y] H (fun z H' => ∃ b, z = .bl b ∧ Q (.bl (!b)) H') E
theorem op_eqO (M : Meth X.K C "__eq__" g) (F : FnOk X.prog X.w X.K X.mg X.base CX k g fd ps sp) (hr : Room k X.A) (hb : Binds X.K fd ps []) (hx : Passes CX X E) : OpR X (compareOp .Eq) (rEqO X.K C sp E) := by
  intro pins s σ H x y v u Q I rx ry h
  obtain ⟨a, dx, fs, t, rfl, ha, ty, hn, q⟩ := h
  cases (show v = Value.ref a from rx)
  obtain ⟨mA, J, _⟩ := ins_get I.hok ha
  obtain ⟨od, J, _⟩ := J.look
  obtain ⟨P, Z, p, _⟩ := kit_of I ry ty
  obtain ⟨m, hF⟩ := I.fr
  have G := F.raw hb (.nil)
  show wpAny (model X.prog X.w) X.A (richCompare .Eq (.ref a) u) (EP X pins σ Q) X.xe s
  refine PySem.W.cmp_K (op := .Eq) (tb := t) hr.units0 hF I.ok.mod.kin J (Z.ty _ _ I.kIn p) hn M.at_ M.fn ?_
  have run := wpAny_call (run_fnR (Q := Q) (us := [.ref a, u]) (vs := [.ref a, y]) G hr hx I (.cons rfl (.cons ry .nil)) q)
  refine wpAny_mono run (fun w s' z => ?_) fun _ _ x => x
  obtain ⟨z', H', I', rz, qz⟩ := z
  exact SlX.cmpback rz ⟨z', H', I', rz, qz⟩
theorem op_neO (M : Meth X.K C "__eq__" g) (ho : mroIn X.K C (.type "object") = some true) (hne : findIn X.K (.ref C) "__ne__" = some (some (.builtin "object.__ne__"))) (F : FnOk X.prog X.w X.K X.mg X.base CX k g fd ps sp) (hr : Room (k + 1) X.A) (hb : Binds X.K fd ps []) (hx : Passes CX X E) : OpR X (compareOp .NotEq) (rNeO X.K C sp E) := by
  intro pins s σ H x y v u Q I rx ry h
  obtain ⟨a, dx, fs, t, rfl, ha, ty, hn, q⟩ := h
  cases (show v = Value.ref a from rx)
  obtain ⟨mA, J, _⟩ := ins_get I.hok ha
  obtain ⟨od, J, _⟩ := J.look
  obtain ⟨P, Z, p, _⟩ := kit_of I ry ty
  obtain ⟨m, hF⟩ := I.fr
  have G := F.raw hb (.nil)
  show wpAny (model X.prog X.w) X.A (richCompare .NotEq (.ref a) u) (EP X pins σ Q) X.xe s
  refine cmp_ne (tb := t) (by have := hr.in1.units0; exact this) hF I.ok.mod.kin J (Z.ty _ _ I.kIn p) hn ho M.at_ M.fn hne ?_
  have run := wpAny_call (SlX.run_at (Q := fun z H' => ∃ b, z = .bl b ∧ Q (.bl (!b)) H') (us := [.ref a, u]) (ws := [.ref a, y]) G hr.in1 I.env0.in1 hx I (.cons rfl (.cons ry .nil)) q)
  refine wpAny_mono run (fun w s' z => ?_) fun _ _ x => x
  obtain ⟨z', H', I', rz, b, eb, qz⟩ := z
  subst eb
  cases (show w = Value.bool b from rz)
  exact ⟨b, rfl, .bl (!b), H', I', rfl, qz⟩
/-- the i-th slot holds the class at C -/
def tMakeL (i : Nat) (C : Addr) (sp : Sp) (dvs : List V) (E : XK) (t : TA) : TE := fun σ H Q => σ[i]? = some (some (.ref C)) ∧ tMake C sp dvs E t σ H Q
theorem pe_makeL {i : Nat} {x : Str} {p pos : Pos} {e : Expr} {es : List Expr} {t : TA} {ds : List Value} {dvs : List V} (M : Mk X.K C g) (F : FnOk X.prog X.w X.K X.mg X.base CX k g fd ps sp) (hr : Room (k + 1) X.A) (hN : X.N[i]? = some x) (hv : Vis X.env.scope x) (hb : Binds X.K fd ps ds) (hd : Vals dvs ds) (hx : Passes CX X E)
    (ha : PA X (e :: es) t) (hdb : (x == ("__debug__" : Str)) = false := by decide) (hcd : (x == ("__classdict__" : Str)) = false := by decide) (he : starEach (e :: es) X.env = (false, eval e X.env) :: starEach es X.env := by rfl) (hpl : (backTo pos (starEach es X.env)).any (·.1) = false := by rfl) :
    PE X (.Call (.Name x p) (e :: es) [] pos) (tMakeL i C sp dvs E t) := by
  refine ⟨fun pins s σ H Q I h => ?_⟩
  obtain ⟨hs, ht⟩ := h
  refine wpAny_Call_Name_kw (thn ((pe_var (pos := p) hN hv hdb hcd).run pins s σ H (fun v H1 => v = .ref C ∧ H1 = H) I ⟨.ref C, hs, rfl, rfl⟩) fun u s1 ⟨v, H1, I1, r1, q1⟩ => ?_)
  obtain ⟨rfl, rfl⟩ := q1
  cases r1
  refine PySem.W.callWith_K (h₀ := X.base) I.ok.mod.kin M.kp (thn (ha.run pos pins s1 σ _ _ I1 ht) fun us s2 ⟨vs, H2, I2, r, q⟩ => ⟨I2.kIn, ?_⟩) he hpl
  exact run_make M F hr hb hd hx I2 r q
theorem pe_cmethF {o e : Expr} {es : List Expr} {m : Str} {pos apos : Pos} {ta : TE} {t : TA} {pl : Sem Bool} {mc : Value} {p : Addr} {ds : List Value} {dvs : List V} (he : PE X o ta) (r : ClX.CRead X.K C mc) (c : ClX.CMet X.K C mc m p g) (F : FnOk X.prog X.w X.K X.mg X.base CX k g fd ps sp) (hr : Room k X.A) (hb : Binds X.K fd ps ds) (hd : Vals dvs ds) (hx : Passes CX X E) (ha : PA X (e :: es) t)
    (hst : starEach (e :: es) X.env = (false, eval e X.env) :: starEach es X.env := by rfl) (hpl : (backTo pos (starEach es X.env)).any (·.1) = false := by rfl)
    (ht : eval (.Call (.Attribute o m apos) (e :: es) [] pos) X.env = (do
      let ov ← eval o X.env
      standAt apos.atName
      let (f, first) ← holding [ov] (getMethod ov m pl)
      callWith pos f first (backTo pos (starEach (e :: es) X.env)) (backToKw pos (keywordEach [] X.env))) := by rfl) :
    PE X (.Call (.Attribute o m apos) (e :: es) [] pos) (ClX.tCMeth C (fun vs H Q E => sp (vs ++ dvs) H Q E) E ta t) := ClX.pe_cmeth he r c (F.raw hb hd) hr hx ha hst hpl ht
end
end LX

/-! more steps -/
namespace LX
open PySem L2
theorem pgor {X : Cx} {e : Expr} {t u : V → L2.St → Hp → (L2.St → Hp → Prop) → Prop} (h1 : PG X e t) (h2 : PG X e u) : PG X e (fun v σ H Q => t v σ H Q ∨ u v σ H Q) :=
  ⟨fun a1 a2 a3 a4 a5 a6 a7 a8 a9 w => w.elim (h1.run a1 a2 a3 a4 a5 a6 a7 a8 a9) (h2.run a1 a2 a3 a4 a5 a6 a7 a8 a9)⟩
end LX
namespace LS
open PySem L2 LT LG LP LX
section
variable {σ : L2.St} {H : Hp} {Q : VK}
def kG2 (QR : Int → Int → Hp → Prop) (x : V) : VK := fun y H2 => ∃ i j, x = .int i ∧ y = .int j ∧ QR i j H2
theorem trg2 {ta tb : TE} {QR : Int → Int → Hp → Prop} (h : ta σ H fun x H1 => tb σ H1 (kG2 QR x)) : tRg2 ta tb σ H QR := h
theorem k_g2 {i j : Int} {QR : Int → Int → Hp → Prop} (q : QR i j H) : kG2 QR (.int i) (.int j) H := ⟨i, j, rfl, rfl, q⟩
theorem k_lr2 {a b : Int} (ok : RgOk a b) (k : ∀ (p : Addr) (H' : Hp), H p = none → Same H H' → H' p = some (.lst (rgV a b)) → Q (.ref p) H') : kLR Q a b H :=
  ⟨ok, fun p np => k p _ np (same_upd np) upd_same⟩
theorem expn_join {c : Prop} [Decidable c] {ta tb : TE} (A : V → Hp → Prop) (h1 : ¬ c → ∀ Q' : VK, (∀ v H', A v H' → Q' v H') → ta σ H Q') (h2 : c → ∀ Q' : VK, (∀ v H', A v H' → Q' v H') → tb σ H Q')
    (k : ∀ v H', A v H' → Q v H') : if (!decide c) = true then ta σ H Q else tb σ H Q := by
  by_cases hc : c
  · rw [decide_eq_true hc]
    exact LS.ifnt (h2 hc Q k)
  · rw [decide_eq_false hc]
    exact LS.ifnf (h1 hc Q k)
theorem ifs_cut {c : TT} {t u : TS} {D : Ends} (A : Bool → Hp → Prop) (h1 : ∀ Qb : Bool → Hp → Prop, (∀ b H', A b H' → Qb b H') → c σ H Qb) (ht : ∀ H', A true H' → t D σ H') (hf : ∀ H', A false H' → u D σ H') : tIfS c t u D σ H :=
  h1 _ fun b H' h => by
    cases b with
    | true => exact LS.ift (ht H' h)
    | false => exact LS.iff_ (hf H' h)
theorem rlist_t {K : PySem.W.Frag} {a : Addr} {xs : List V} (h : SqT K H a xs) (k : ∀ (p : Addr) (H' : Hp), H p = none → Same H H' → H' p = some (.lst xs) → Q (.ref p) H') : rListOf K [.ref a] H Q := ⟨a, xs, rfl, .inr h, fun l nl => k l _ nl (same_upd nl) upd_same⟩
/-- a pair from a list or a tuple -/
theorem gorE {K : PySem.W.Frag} {n : Nat} {t : TGs} {a : Addr} {xs : List V} {QG : L2.St → Hp → Prop} (h : SqE K H a xs) (hn : xs.length = n) (q : t xs σ H QG) : gTup K n t (.ref a) σ H QG ∨ gUnl K n t (.ref a) σ H QG :=
  h.elim (fun h => .inr (gunl h hn q)) fun h => .inl (gtup h hn q)
end
end LS
namespace LP
open PySem L2 LT LG LX
theorem or_enumE0 {K : PySem.W.Frag} {H0 H : Hp} {a : Addr} {xs : List V} {σ : St} {R : It → Hp → Prop} {ta : TA} (hE : SqE K H0 a xs) (s0 : Same H0 H) (hv : ∀ Q : List V → Hp → Prop, Q [.ref a] H → ta σ H Q)
    (k : ∀ (J : It) (G : Hp → Prop), Walk J xs.length G (YPair (fun i => some (.int (i : Nat))) (fun i => xs[i]?)) → (∀ H', Same H0 H' → G H') → R J H) :
    iEnum K ta σ H R ∨ iEnumT K ta σ H R := by
  rcases hE with h | h
  · exact .inl (hv _ ⟨a, xs, rfl, s0.seq h, k _ _ walk_enum fun H' s => s.seq h⟩)
  · exact .inr (hv _ ⟨a, xs, rfl, same_tup s0 h, k _ _ walk_enumT fun H' s => same_tup s h⟩)
end LP

/-! a dict of the module with text keys; a local that holds one of several defs -/
namespace LX
open PySem PySem.Spec PyProof.Rows L2
def keyS : Value → Str
  | .str x _ => x
  | _ => ⟨#[]⟩
/-- the written dict at d: its keys and values -/
structure WDict (K : PySem.W.Frag) (w : World) (d : Addr) (kvs : List (Str × Value)) : Prop where
  ex : ∃ es n, KDict K w d es n ∧ es.toList.map (fun e => (keyS e.key, e.val)) = kvs
theorem wd_find {w : World} (z : Str) : ∀ l : List DictEntry, PySem.W.KeysLit w.params l → (l.find? fun e => e.key.isStr z).map (·.val) = (l.map fun e => (keyS e.key, e.val)).lookup z
  | [], _ => rfl
  | e :: r, ⟨⟨x, t, hk, _⟩, hr⟩ => by
    have ih := wd_find z r hr
    rw [List.find?_cons, List.map_cons, List.lookup_cons]
    have e1 : e.key.isStr z = (z == x) := by
      rw [hk, PySem.W.isStr_of]
      show (x == z) = (z == x)
      exact BEq.comm
    rw [e1, hk]
    show Option.map _ (match z == x with | true => some e | false => _) = match z == x with | true => some e.val | false => _
    cases z == x with
    | true => rfl
    | false => exact ih
theorem wd_any {w : World} : ∀ l : List DictEntry, PySem.W.KeysLit w.params l → l.any (·.refKey) = false
  | [], _ => rfl
  | e :: r, ⟨⟨x, t, hk, _⟩, hr⟩ => by
    rw [List.any_cons, wd_any r hr]
    have : e.refKey = false := by
      unfold DictEntry.refKey
      rw [hk]
    rw [this]; rfl
theorem WDict.ns {K : PySem.W.Frag} {w : World} {d : Addr} {kvs : List (Str × Value)} (D : WDict K w d kvs) (z : Str) : PySem.W.nsIn K d z = some (kvs.lookup z) := by
  obtain ⟨es, n, k, e⟩ := D.ex
  unfold PySem.W.nsIn
  rw [k.at_]
  dsimp only
  have h := wd_find z es.toList k.lit
  rw [e] at h
  rw [← h, wd_any es.toList k.lit]
  cases es.toList.find? (fun e => e.key.isStr z) <;> rfl
theorem WDict.kdct {K : PySem.W.Frag} {w : World} {d : Addr} {kvs : List (Str × Value)} (D : WDict K w d kvs) {z : Str} {u : Value} {v : V} (h : kvs.lookup z = some u) (r : RelV v u) : KDct K w d z v := by
  obtain ⟨es, n, k, e⟩ := D.ex
  exact ⟨es, n, u, k.at_, k.lit, by rw [D.ns, h], r⟩
def rInW (d : Addr) (kvs : List (Str × Value)) (neg : Bool) : R2 := fun x y H Q => ∃ z, x = .str z ∧ y = .ref d ∧ Q (.bl ((kvs.lookup z).isSome != neg)) H
section
variable {X : Cx} {d : Addr} {kvs : List (Str × Value)}
theorem op_inW (D : WDict X.K X.w d kvs) : OpR X (compareOp .In) (rInW d kvs false) := by
  obtain ⟨es, n, k, e⟩ := D.ex
  intro pins s σ H x y v u Q I rx ry h
  obtain ⟨z, rfl, rfl, q⟩ := h
  refine op_in_kd k pins s σ H _ _ v u Q I rx ry ⟨z, _, rfl, rfl, D.ns z, ?_⟩
  rw [Bool.bne_false] at q
  exact q
theorem op_notInW (D : WDict X.K X.w d kvs) : OpR X (compareOp .NotIn) (rInW d kvs true) := by
  obtain ⟨es, n, k, e⟩ := D.ex
  intro pins s σ H x y v u Q I rx ry h
  obtain ⟨z, rfl, rfl, q⟩ := h
  refine op_notIn_kd k pins s σ H _ _ v u Q I rx ry ⟨z, _, rfl, rfl, D.ns z, ?_⟩
  rw [Bool.bne_true] at q
  exact q
end
/-- the defs that a local may hold, each with its promise -/
inductive HeldL (P : Program) (w : World) (K : PySem.W.Frag) (mg : Str → Option Value) (base : Heap) (k : Nat) : List (Addr × Sp) → Prop
  | nil : HeldL P w K mg base k []
  | cons {f : Addr} {fd : FuncData} {ps : List Str} {sp : Sp} {r : List (Addr × Sp)} (F : FnOk P w K mg base (fun _ _ _ _ _ _ => False) k f fd ps sp) (hk : PySem.W.keepIn K (.ref f) = true) (hb : Binds K fd ps []) (t : HeldL P w K mg base k r) : HeldL P w K mg base k ((f, sp) :: r)
theorem HeldL.at {P : Program} {w : World} {K : PySem.W.Frag} {mg : Str → Option Value} {base : Heap} {k : Nat} {L : List (Addr × Sp)} (h : HeldL P w K mg base k L) : ∀ {j : Nat} {f : Addr} {sp : Sp}, L[j]? = some (f, sp) → Held P w K mg base k f sp := by
  induction h with
  | nil => intro j f sp e; simp at e
  | cons F hk hb t ih =>
    intro j f sp e
    cases j with
    | zero => cases e; exact ⟨⟨_, _, F, hk, hb⟩⟩
    | succ j => exact ih e
def tCallR (i : Nat) (L : List (Addr × Sp)) (t : TA) : TE := fun σ H Q => ∃ (j : Nat) (f : Addr) (sp : Sp), L[j]? = some (f, sp) ∧ σ[i]? = some (some (.ref f)) ∧ t σ H fun vs H1 => sp vs H1 Q (fun _ _ _ => False)
theorem pe_callR {X : Cx} {k i : Nat} {L : List (Addr × Sp)} {x : Str} {p pos : Pos} {e : Expr} {es : List Expr} {t : TA} (A : HeldL X.prog X.w X.K X.mg X.base k L) (hr : Room k X.A) (hN : X.N[i]? = some x) (hv : Vis X.env.scope x) (ha : PA X (e :: es) t)
    (hdb : (x == ("__debug__" : Str)) = false := by decide) (hcd : (x == ("__classdict__" : Str)) = false := by decide)
    (he : starEach (e :: es) X.env = (false, eval e X.env) :: starEach es X.env := by rfl) (hpl : (backTo pos (starEach es X.env)).any (·.1) = false := by rfl) : PE X (.Call (.Name x p) (e :: es) [] pos) (tCallR i L t) := by
  refine ⟨fun pins s σ H Q I h => ?_⟩
  obtain ⟨j, f, sp, hj, hs, ht⟩ := h
  obtain ⟨fd, ps, F, hk, hb⟩ := (A.at hj).ex
  refine (pe_callL (i := i) (f := f) (sp := sp) (dvs := []) (E := fun _ _ _ => False) F hr hN hv hk hb .nil (fun _ _ _ _ _ _ _ z => z.elim) ha hdb hcd he hpl).run pins s σ H Q I ⟨hs, ?_⟩
  have e0 : (fun (vs : List V) (H1 : Hp) => sp (vs ++ []) H1 Q (fun _ _ _ => False)) = fun vs H1 => sp vs H1 Q (fun _ _ _ => False) := by
    funext vs H1
    rw [List.append_nil]
  show t σ H (fun vs H1 => sp (vs ++ []) H1 Q (fun _ _ _ => False))
  rw [e0]
  exact ht
/-- x.partition(y) -/
def rPart : V → List V → Hp → VK → Prop := fun x xs H Q => ∃ a b, x = .str a ∧ xs = [.str b] ∧ (b.length == 0) = false ∧ a.length ≤ sizeLine ∧
    ∀ p, H p = none → Q (.ref p) (upd H p (.tup [.str (Txt.partition a b).1, .str (Txt.partition a b).2.1, .str (Txt.partition a b).2.2]))
theorem mt_partN {X : Cx} : MtR X "str.partition" rPart := L2.mt_partition
end LX

namespace LR
/-! the mirror: a shelf, stp by stp -/
abbrev Op := Bool × Int
structure Sim where
  books : List (Option Int)
  out : List Int
  filled : List Int
  most : Int
def rangeI (n : Nat) : List Int := (List.range n).map fun k : Nat => (k : Int)
def simInit (n : Nat) : Sim := ⟨(rangeI n).map some, [], [], 0⟩
def gap (l : List (Option Int)) : Nat := l.idxOf none
def mx (i j : Int) : Int := if j > i then j else i
def stp (s : Sim) (o : Op) : Option Sim :=
  if o.1 = true then
    if 0 ≤ o.2 then
      match s.books[o.2.toNat]? with
      | some (some b) => some ⟨s.books.set o.2.toNat none, s.out ++ [b], s.filled, mx s.most ((s.out ++ [b]).length : Nat)⟩
      | _ => none
    else none
  else if o.2 ∈ s.out then some ⟨s.books.set (gap s.books) (some o.2), s.out.erase o.2, s.filled ++ [(gap s.books : Int)], mx s.most ((s.out.erase o.2).length : Nat)⟩
  else none
def run (s : Sim) : List Op → Option Sim
  | [] => some s
  | o :: os => (stp s o).bind fun t => run t os
theorem run_nil {s : Sim} : run s [] = some s := rfl
theorem run_append {s : Sim} {a b : List Op} : run s (a ++ b) = (run s a).bind fun t => run t b := by
  induction a generalizing s with
  | nil => rfl
  | cons o os ih =>
    show (stp s o).bind (fun t => run t (os ++ b)) = ((stp s o).bind fun t => run t os).bind fun t => run t b
    cases stp s o with
    | none => rfl
    | some t => exact ih
theorem run_snoc {s t u : Sim} {a : List Op} {o : Op} (h : run s a = some t) (h2 : stp t o = some u) : run s (a ++ [o]) = some u := by
  rw [run_append, h]
  show (stp t o).bind _ = _
  rw [h2]; rfl
theorem run_take {s e : Sim} {ops : List Op} (h : run s ops = some e) (i : Nat) : ∃ t, run s (ops.take i) = some t ∧ run t (ops.drop i) = some e := by
  have h2 : run s (ops.take i ++ ops.drop i) = some e := by rw [List.take_append_drop]; exact h
  rw [run_append] at h2
  cases q : run s (ops.take i) with
  | none => rw [q] at h2; cases h2
  | some t => rw [q] at h2; exact ⟨t, rfl, h2⟩
theorem run_stp {s e : Sim} {ops : List Op} (h : run s ops = some e) {i : Nat} {o : Op} (hi : ops[i]? = some o) : ∃ t u, run s (ops.take i) = some t ∧ stp t o = some u ∧ run s (ops.take (i + 1)) = some u := by
  obtain ⟨t, h1, h2⟩ := run_take h i
  obtain ⟨hl, e1⟩ := List.getElem?_eq_some_iff.mp hi
  have e2 : ops.drop i = o :: ops.drop (i + 1) := by rw [List.drop_eq_getElem_cons hl, e1]
  rw [e2] at h2
  have h3 : (stp t o).bind (fun u => run u (ops.drop (i + 1))) = some e := h2
  cases q : stp t o with
  | none => rw [q] at h3; cases h3
  | some u =>
    refine ⟨t, u, h1, q, ?_⟩
    rw [List.take_add_one, hi]
    exact run_snoc h1 q
/-! ### what is always so -/
structure Good (n : Nat) (s : Sim) : Prop where
  len : s.books.length = n
  perm : (s.books.filterMap id ++ s.out).Perm (rangeI n)
  out_le : (s.out.length : Int) ≤ s.most
theorem rangeI_length (n : Nat) : (rangeI n).length = n := by simp [rangeI]
theorem rangeI_nodup (n : Nat) : (rangeI n).Nodup := by
  unfold rangeI
  refine List.Pairwise.map _ (fun a b h => ?_) (List.nodup_range (n := n))
  intro e; exact h (Int.ofNat.inj e)
theorem rangeI_sorted (n : Nat) : (rangeI n).Pairwise (· ≤ ·) := by
  unfold rangeI
  refine List.Pairwise.map _ (fun a b h => ?_) (List.pairwise_lt_range (n := n))
  exact Int.ofNat_le.mpr (Nat.le_of_lt h)
theorem rangeI_get {n k : Nat} (h : k < n) : (rangeI n)[k]? = some (k : Int) := by
  unfold rangeI
  rw [List.getElem?_map, List.getElem?_range h]; rfl
theorem mem_rangeI {n : Nat} {x : Int} : x ∈ rangeI n ↔ 0 ≤ x ∧ x < n := by
  unfold rangeI
  rw [List.mem_map]
  constructor
  · rintro ⟨k, hk, rfl⟩
    have := List.mem_range.mp hk
    omega
  · intro ⟨h1, h2⟩
    exact ⟨x.toNat, List.mem_range.mpr (by omega), by omega⟩
theorem rangeI_succ (n : Nat) : rangeI (n + 1) = rangeI n ++ [(n : Int)] := by
  unfold rangeI
  rw [List.range_succ, List.map_append]; rfl
theorem fm_some (l : List Int) : (l.map some).filterMap id = l := by
  induction l with
  | nil => rfl
  | cons a r ih => show a :: (r.map some).filterMap id = a :: r; rw [ih]
theorem good_init (n : Nat) : Good n (simInit n) := by
  refine ⟨?_, ?_, ?_⟩
  · show ((rangeI n).map some).length = n
    rw [List.length_map, rangeI_length]
  · show (((rangeI n).map some).filterMap id ++ []).Perm _
    rw [List.append_nil, fm_some]
  · show ((0 : Nat) : Int) ≤ 0
    decide
theorem fm_set_none {b : Int} : ∀ {l : List (Option Int)} {p : Nat}, l[p]? = some (some b) → (b :: (l.set p none).filterMap id).Perm (l.filterMap id)
  | [], p, h => by simp at h
  | a :: r, 0, h => by
    have e : a = some b := Option.some.inj h
    subst e
    exact List.Perm.refl _
  | none :: r, p + 1, h => fm_set_none (l := r) (p := p) h
  | some a :: r, p + 1, h => by
    have ih := fm_set_none (l := r) (p := p) h
    show (b :: a :: (r.set p none).filterMap id).Perm (a :: r.filterMap id)
    exact (List.Perm.swap a b _).trans (ih.cons a)
theorem fm_set_some {b : Int} : ∀ {l : List (Option Int)} {p : Nat}, l[p]? = some none → ((l.set p (some b)).filterMap id).Perm (b :: l.filterMap id)
  | [], p, h => by simp at h
  | a :: r, 0, h => by
    have e : a = none := Option.some.inj h
    subst e
    exact List.Perm.refl _
  | none :: r, p + 1, h => fm_set_some (l := r) (p := p) h
  | some a :: r, p + 1, h => by
    have ih := fm_set_some (b := b) (l := r) (p := p) h
    show (a :: (r.set p (some b)).filterMap id).Perm (b :: a :: r.filterMap id)
    exact (ih.cons a).trans (List.Perm.swap b a _)
theorem fm_full : ∀ {l : List (Option Int)}, none ∉ l → (l.filterMap id).length = l.length
  | [], _ => rfl
  | none :: r, h => absurd List.mem_cons_self h
  | some a :: r, h => by
    show ((a :: r.filterMap id)).length = (some a :: r).length
    rw [List.length_cons, List.length_cons, fm_full fun q => h (List.mem_cons_of_mem _ q)]
theorem fm_len (l : List (Option Int)) : (l.filterMap id).length ≤ l.length := List.length_filterMap_le _ _
theorem gap_lt {l : List (Option Int)} (h : none ∈ l) : gap l < l.length := List.idxOf_lt_length_iff.mpr h
theorem gap_get {l : List (Option Int)} (h : none ∈ l) : l[gap l]? = some none := by
  have h1 := gap_lt h
  rw [List.getElem?_eq_getElem h1]
  have h2 := List.findIdx_getElem (p := (· == none)) (xs := l) (w := h1)
  exact congrArg some (eq_of_beq h2)
theorem gap_least : ∀ {l : List (Option Int)} {k : Nat}, l[k]? = some none → gap l ≤ k
  | [], k, h => by simp at h
  | none :: r, k, h => by unfold gap; rw [List.idxOf_cons]; simp
  | some a :: r, 0, h => by cases h
  | some a :: r, k + 1, h => by
    have ih := gap_least (l := r) (k := k) h
    unfold gap at ih ⊢
    rw [List.idxOf_cons]
    simp
    exact ih
theorem gap_before {l : List (Option Int)} {k : Nat} {x : Option Int} (hk : k < gap l) (h : l[k]? = some x) : x ≠ none := by
  intro e
  subst e
  exact absurd (gap_least h) (Nat.not_le.mpr hk)
theorem Good.gap {n : Nat} {s : Sim} (g : Good n s) {b : Int} (hb : b ∈ s.out) : none ∈ s.books := by
  refine Classical.byContradiction fun h => ?_
  have h1 := fm_full h
  have h2 := g.perm.length_eq
  rw [List.length_append, rangeI_length, h1, g.len] at h2
  have h3 : s.out.length = 0 := by omega
  rw [List.eq_nil_of_length_eq_zero h3] at hb
  cases hb
theorem mx_ge (i j : Int) : i ≤ mx i j ∧ j ≤ mx i j := by unfold mx; split <;> omega
theorem stp_take {s u : Sim} {p : Int} (h : stp s (true, p) = some u) : 0 ≤ p ∧ ∃ b, s.books[p.toNat]? = some (some b) ∧ u = ⟨s.books.set p.toNat none, s.out ++ [b], s.filled, mx s.most ((s.out ++ [b]).length : Nat)⟩ := by
  unfold stp at h
  rw [if_pos rfl] at h
  by_cases hp : 0 ≤ p
  · rw [if_pos (show 0 ≤ ((true, p) : Op).2 from hp)] at h
    refine ⟨hp, ?_⟩
    dsimp only at h
    split at h
    · rename_i b e
      exact ⟨b, e, (Option.some.inj h).symm⟩
    · cases h
  · rw [if_neg (show ¬ 0 ≤ ((true, p) : Op).2 from hp)] at h
    cases h
theorem stp_take_of {s : Sim} {p : Int} {b : Int} (hp : 0 ≤ p) (e : s.books[p.toNat]? = some (some b)) : stp s (true, p) = some ⟨s.books.set p.toNat none, s.out ++ [b], s.filled, mx s.most ((s.out ++ [b]).length : Nat)⟩ := by
  unfold stp
  rw [if_pos rfl, if_pos (show 0 ≤ ((true, p) : Op).2 from hp)]
  dsimp only
  rw [e]
theorem stp_ret {s u : Sim} {b : Int} (h : stp s (false, b) = some u) : b ∈ s.out ∧ u = ⟨s.books.set (gap s.books) (some b), s.out.erase b, s.filled ++ [(gap s.books : Int)], mx s.most ((s.out.erase b).length : Nat)⟩ := by
  unfold stp at h
  rw [if_neg (show ¬ ((false, b) : Op).1 = true from Bool.false_ne_true)] at h
  by_cases hb : b ∈ s.out
  · rw [if_pos (show ((false, b) : Op).2 ∈ s.out from hb)] at h
    exact ⟨hb, (Option.some.inj h).symm⟩
  · rw [if_neg (show ¬ ((false, b) : Op).2 ∈ s.out from hb)] at h
    cases h
theorem stp_ret_of {s : Sim} {b : Int} (hb : b ∈ s.out) : stp s (false, b) = some ⟨s.books.set (gap s.books) (some b), s.out.erase b, s.filled ++ [(gap s.books : Int)], mx s.most ((s.out.erase b).length : Nat)⟩ := by
  unfold stp
  rw [if_neg (show ¬ ((false, b) : Op).1 = true from Bool.false_ne_true), if_pos (show ((false, b) : Op).2 ∈ s.out from hb)]
theorem good_stp {n : Nat} {s u : Sim} {o : Op} (g : Good n s) (h : stp s o = some u) : Good n u := by
  obtain ⟨w, x⟩ := o
  cases w with
  | true =>
    obtain ⟨hp, b, e, rfl⟩ := stp_take h
    refine ⟨?_, ?_, ?_⟩
    · show (s.books.set _ none).length = n
      rw [List.length_set]; exact g.len
    · show ((s.books.set x.toNat none).filterMap id ++ (s.out ++ [b])).Perm _
      refine List.Perm.trans ?_ g.perm
      have h1 := fm_set_none e
      rw [← List.append_assoc]
      refine (List.perm_append_singleton b _).trans ?_
      exact List.Perm.append_right s.out h1
    · exact (mx_ge _ _).2
  | false =>
    obtain ⟨hb, rfl⟩ := stp_ret h
    have hg := g.gap hb
    refine ⟨?_, ?_, ?_⟩
    · show (s.books.set _ _).length = n
      rw [List.length_set]; exact g.len
    · show ((s.books.set (LR.gap s.books) (some x)).filterMap id ++ s.out.erase x).Perm _
      refine List.Perm.trans ?_ g.perm
      have h1 := fm_set_some (b := x) (gap_get hg)
      refine (List.Perm.append_right _ h1).trans ?_
      have h2 := List.perm_cons_erase hb
      refine List.Perm.trans ?_ (List.Perm.append_left _ h2.symm)
      exact List.perm_middle.symm
    · exact (mx_ge _ _).2
theorem good_run {n : Nat} {ops : List Op} : ∀ {s e : Sim}, Good n s → run s ops = some e → Good n e := by
  induction ops with
  | nil => intro s e g h; cases h; exact g
  | cons o os ih =>
    intro s e g h
    have h' : (stp s o).bind (fun t => run t os) = some e := h
    cases q : stp s o with
    | none => rw [q] at h'; cases h'
    | some t => rw [q] at h'; exact ih (good_stp g q) h'
theorem Good.nodup {n : Nat} {s : Sim} (g : Good n s) : (s.books.filterMap id ++ s.out).Nodup := g.perm.nodup_iff.mpr (rangeI_nodup n)
/-! ### the filled places and the greatest number -/
def rets (ops : List Op) : Nat := (ops.filter fun o => !o.1).length
theorem stp_grow {s u : Sim} {o : Op} (h : stp s o = some u) : (∃ m, u.filled = s.filled ++ m ∧ m.length = rets [o]) ∧ s.most ≤ u.most := by
  obtain ⟨w, x⟩ := o
  cases w with
  | true =>
    obtain ⟨hp, b, e, rfl⟩ := stp_take h
    exact ⟨⟨[], (List.append_nil _).symm, rfl⟩, (mx_ge _ _).1⟩
  | false =>
    obtain ⟨hb, rfl⟩ := stp_ret h
    exact ⟨⟨_, rfl, rfl⟩, (mx_ge _ _).1⟩
theorem run_grow {ops : List Op} : ∀ {s e : Sim}, run s ops = some e → (∃ m, e.filled = s.filled ++ m ∧ m.length = rets ops) ∧ s.most ≤ e.most := by
  induction ops with
  | nil => intro s e h; cases h; exact ⟨⟨[], (List.append_nil _).symm, rfl⟩, Int.le_refl _⟩
  | cons o os ih =>
    intro s e h
    have h' : (stp s o).bind (fun t => run t os) = some e := h
    cases q : stp s o with
    | none => rw [q] at h'; cases h'
    | some t =>
      rw [q] at h'
      obtain ⟨⟨m1, e1, l1⟩, k1⟩ := stp_grow q
      obtain ⟨⟨m2, e2, l2⟩, k2⟩ := ih h'
      refine ⟨⟨m1 ++ m2, by rw [e2, e1, List.append_assoc], ?_⟩, Int.le_trans k1 k2⟩
      rw [List.length_append, l1, l2]
      unfold rets
      rw [← List.length_append, ← List.filter_append]; rfl
/-! ### a longer shelf -/
def ext (n : Nat) (s : Sim) : Sim := { s with books := s.books ++ [some (n : Int)] }
theorem init_ext (n : Nat) : simInit (n + 1) = ext n (simInit n) := by
  unfold simInit ext
  simp [rangeI_succ]
theorem gap_append {l : List (Option Int)} (h : none ∈ l) (m : List (Option Int)) : gap (l ++ m) = gap l := by
  unfold gap
  rw [List.idxOf_append, if_pos h]
theorem stp_ext {n : Nat} {s u : Sim} {o : Op} (g : Good n s) (h : stp s o = some u) : stp (ext n s) o = some (ext n u) := by
  obtain ⟨w, x⟩ := o
  cases w with
  | true =>
    obtain ⟨hp, b, e, rfl⟩ := stp_take h
    have hl := (List.getElem?_eq_some_iff.mp e).1
    have e2 : (ext n s).books[x.toNat]? = some (some b) := by
      show (s.books ++ _)[x.toNat]? = _
      rw [List.getElem?_append_left hl]; exact e
    rw [stp_take_of hp e2]
    show some (Sim.mk ((s.books ++ [some (n : Int)]).set x.toNat none) _ _ _) = some (Sim.mk (s.books.set x.toNat none ++ [some (n : Int)]) _ _ _)
    rw [List.set_append_left _ _ hl]; rfl
  | false =>
    obtain ⟨hb, rfl⟩ := stp_ret h
    have hg := g.gap hb
    have hl := gap_lt hg
    rw [stp_ret_of (s := ext n s) hb]
    show some (Sim.mk ((s.books ++ [some (n : Int)]).set (LR.gap (s.books ++ [some (n : Int)])) (some x)) _ (s.filled ++ [(LR.gap (s.books ++ [some (n : Int)]) : Int)]) _) = some (Sim.mk (s.books.set (LR.gap s.books) (some x) ++ [some (n : Int)]) _ _ _)
    rw [gap_append hg, List.set_append_left _ _ hl]; rfl
theorem run_ext {n : Nat} {ops : List Op} : ∀ {s e : Sim}, Good n s → run s ops = some e → run (ext n s) ops = some (ext n e) := by
  induction ops with
  | nil => intro s e g h; cases h; rfl
  | cons o os ih =>
    intro s e g h
    have h' : (stp s o).bind (fun t => run t os) = some e := h
    cases q : stp s o with
    | none => rw [q] at h'; cases h'
    | some t =>
      rw [q] at h'
      show (stp (ext n s) o).bind _ = _
      rw [stp_ext g q]
      exact ih (good_stp g q) h'
/-! ### what one stp changes -/
theorem filter_range_eq {n p : Nat} (h : p < n) (f : Nat → Bool) (hf : ∀ k, k < n → (f k = true ↔ k = p)) : (List.range n).filter f = [p] := by
  have h1 : ((List.range n).filter f).Nodup := (List.nodup_range (n := n)).filter _
  refine List.Perm.eq_singleton ?_ |>.symm ▸ rfl
  exact (List.perm_ext_iff_of_nodup h1 (by simp)).mpr fun a => by
    rw [List.mem_filter, List.mem_range, List.mem_singleton]
    constructor
    · intro ⟨a1, a2⟩; exact (hf a a1).mp a2
    · intro e; subst e; exact ⟨h, (hf a h).mpr rfl⟩
theorem set_differs {l : List (Option Int)} {p : Nat} {x v : Option Int} (hp : l[p]? = some x) (hx : x ≠ v) (k : Nat) : l[k]? ≠ (l.set p v)[k]? ↔ k = p := by
  have hl := (List.getElem?_eq_some_iff.mp hp).1
  rw [List.getElem?_set]
  by_cases e : p = k
  · subst e
    rw [if_pos rfl, if_pos hl, hp]
    constructor
    · intro _; rfl
    · intro _ q; exact hx (Option.some.inj q)
  · rw [if_neg e]
    constructor
    · intro q; exact absurd rfl q
    · intro q; exact absurd q.symm e
theorem sorted_eq {l m : List Int} (h : l.Perm m) (h1 : l.Pairwise (· ≤ ·)) (h2 : m.Pairwise (· ≤ ·)) : l = m :=
  List.Perm.eq_of_pairwise (fun a b _ _ h1 h2 => Int.le_antisymm h1 h2) h1 h2 h
end LR

/-! shelves and live shelves: what stands in the heap, and what their methods promise -/
namespace LP
open PySem L2 LT LG LX LR
def vo : Option Int → V
  | some i => .int i
  | none => .non
def kst (b : Bool) : Str := if b then "take" else "return"
def opv (o : Op) : List V := [.str (kst o.1), .int o.2]
/-- a step: the operation, the place, the number among the books out -/
structure Stp where
  op : Op
  place : Int
  num : Nat
def OpsOk (H : Hp) (as : List Addr) (os : List Op) : Prop := as.length = os.length ∧ ∀ (i : Nat) a o, as[i]? = some a → os[i]? = some o → H a = some (.tup (opv o))
def StepsOk (H : Hp) (as : List Addr) (ss : List Stp) : Prop := as.length = ss.length ∧ ∀ (i : Nat) a t, as[i]? = some a → ss[i]? = some t → ∃ o, H a = some (.tup [.ref o, .int t.place, .int t.num]) ∧ H o = some (.tup (opv t.op))
/-- what is no list is kept -/
def KN (H H' : Hp) : Prop := ∀ a o, H a = some o → (∀ xs, o ≠ .lst xs) → H' a = some o
theorem kn_s {H H' : Hp} (s : Same H H') : KN H H' := fun a o h _ => s a o h
theorem kn_f {H H' : Hp} {p : Addr} {xs : List V} (f : Fr H H' p) (h : H p = some (.lst xs)) : KN H H' := fun a o e n => f a o e fun q => by
  subst q; rw [h] at e; cases e; exact n _ rfl
theorem kn_t {H H' : Hp} {b : Addr} {d d' : Nat} (t : LS.RT H H' b d) (r : Reel H b d') : KN H H' := by
  obtain ⟨g, c, gs, cs, k, t', a1, _⟩ := r.ex
  exact kn_f t.f a1
def Lists (H : Hp) (L : List Addr) : Prop := ∀ a ∈ L, ∃ xs, H a = some (.lst xs)
theorem kn_l {H H' : Hp} {L : List Addr} (f : LS.FrL H H' L) (h : Lists H L) : KN H H' := fun a o e n => f.k a o e fun q => by
  obtain ⟨xs, hx⟩ := h a q
  rw [hx] at e; cases e; exact n _ rfl
theorem li_nil {H : Hp} : Lists H [] := fun a h => by cases h
theorem li_cons {H : Hp} {a : Addr} {xs : List V} {L : List Addr} (h : H a = some (.lst xs)) (t : Lists H L) : Lists H (a :: L) := fun b hb => by
  rcases List.mem_cons.mp hb with rfl | hb
  · exact ⟨xs, h⟩
  · exact t b hb
theorem OpsOk.kn {H H' : Hp} {as : List Addr} {os : List Op} (h : OpsOk H as os) (k : KN H H') : OpsOk H' as os := ⟨h.1, fun i a o ha ho => k _ _ (h.2 i a o ha ho) (fun xs q => by cases q)⟩
theorem StepsOk.kn {H H' : Hp} {as : List Addr} {ss : List Stp} (h : StepsOk H as ss) (k : KN H H') : StepsOk H' as ss := ⟨h.1, fun i a t ha ht => by
  obtain ⟨o, h1, h2⟩ := h.2 i a t ha ht
  exact ⟨o, k _ _ h1 (fun xs q => by cases q), k _ _ h2 (fun xs q => by cases q)⟩⟩
theorem ops_s {H H' : Hp} {as : List Addr} {os : List Op} (s : Same H H') (h : OpsOk H as os) : OpsOk H' as os := h.kn (kn_s s)
theorem OpsOk.snoc {H : Hp} {as : List Addr} {os : List Op} {a : Addr} {o : Op} (h : OpsOk H as os) (e : H a = some (.tup (opv o))) : OpsOk H (as ++ [a]) (os ++ [o]) := by
  refine ⟨by simp [h.1], fun i x y hx hy => ?_⟩
  rcases Nat.lt_or_ge i as.length with q | q
  · rw [List.getElem?_append_left q] at hx
    rw [List.getElem?_append_left (by rw [← h.1]; exact q)] at hy
    exact h.2 i x y hx hy
  · rw [List.getElem?_append_right q] at hx
    rw [List.getElem?_append_right (by rw [← h.1]; exact q), ← h.1] at hy
    cases z : i - as.length with
    | zero => rw [z] at hx hy; cases hx; cases hy; exact e
    | succ n => rw [z] at hx; simp at hx
theorem StepsOk.snoc {H : Hp} {as : List Addr} {os : List Stp} {a q : Addr} {o : Stp} (h : StepsOk H as os) (e : H a = some (.tup [.ref q, .int o.place, .int o.num])) (e2 : H q = some (.tup (opv o.op))) : StepsOk H (as ++ [a]) (os ++ [o]) := by
  refine ⟨by simp [h.1], fun i x y hx hy => ?_⟩
  rcases Nat.lt_or_ge i as.length with q | q
  · rw [List.getElem?_append_left q] at hx
    rw [List.getElem?_append_left (by rw [← h.1]; exact q)] at hy
    exact h.2 i x y hx hy
  · rw [List.getElem?_append_right q] at hx
    rw [List.getElem?_append_right (by rw [← h.1]; exact q), ← h.1] at hy
    cases z : i - as.length with
    | zero => rw [z] at hx hy; cases hx; cases hy; exact ⟨_, e, e2⟩
    | succ n => rw [z] at hx; simp at hx
/-- the shelf at sh -/
structure Shf (C : Addr) (H : Hp) (sh dx bl ol : Addr) (s : Sim) : Prop where
  ob : H sh = some (.ins C dx [("books", .ref bl), ("out", .ref ol)])
  bk : H bl = some (.lst (s.books.map vo))
  ou : H ol = some (.lst (s.out.map V.int))
  ne : bl ≠ ol
/-- the objects of a live shelf -/
structure Ad where
  (lx dl sh ds bl ol st : Addr)
def Ad.L (A : Ad) : List Addr := [A.bl, A.ol, A.st]
structure Lv (C D : Addr) (H : Hp) (A : Ad) (s : Sim) (ss : List Stp) : Prop where
  ob : H A.lx = some (.ins C A.dl [("_shelf", .ref A.sh), ("_steps", .ref A.st)])
  sf : Shf D H A.sh A.ds A.bl A.ol s
  ex : ∃ as, H A.st = some (.lst (as.map V.ref)) ∧ StepsOk H as ss
  n1 : A.bl ≠ A.st
  n2 : A.ol ≠ A.st
theorem Lv.move {C D : Addr} {H H' : Hp} {A : Ad} {s : Sim} {ss : List Stp} (l : Lv C D H A s ss) (k : KN H H') (h : ∀ a ∈ A.L, ∀ xs, H a = some (.lst xs) → H' a = some (.lst xs)) : Lv C D H' A s ss := by
  obtain ⟨as, h1, h2⟩ := l.ex
  exact ⟨k _ _ l.ob (fun xs q => by cases q), ⟨k _ _ l.sf.ob (fun xs q => by cases q), h _ (by simp [Ad.L]) _ l.sf.bk, h _ (by simp [Ad.L]) _ l.sf.ou, l.sf.ne⟩, ⟨as, h _ (by simp [Ad.L]) _ h1, h2.kn k⟩, l.n1, l.n2⟩
theorem Lv.lists {C D : Addr} {H : Hp} {A : Ad} {s : Sim} {ss : List Stp} (l : Lv C D H A s ss) : Lists H A.L := by
  obtain ⟨as, h1, h2⟩ := l.ex
  intro a ha
  simp [Ad.L] at ha
  rcases ha with rfl | rfl | rfl
  · exact ⟨_, l.sf.bk⟩
  · exact ⟨_, l.sf.ou⟩
  · exact ⟨_, h1⟩
theorem lv_s {C D : Addr} {H H' : Hp} {A : Ad} {s : Sim} {ss : List Stp} (e : Same H H') (l : Lv C D H A s ss) : Lv C D H' A s ss := l.move (kn_s e) fun a _ xs h => e _ _ h
theorem lv_f {C D : Addr} {H H' : Hp} {A : Ad} {s : Sim} {ss : List Stp} {p : Addr} {xs : List V} (f : Fr H H' p) (l : Lv C D H A s ss) (hp : H p = some (.lst xs)) (n : p ∉ A.L) : Lv C D H' A s ss :=
  l.move (kn_f f hp) fun a ha xs h => f _ _ h fun q => n (q ▸ ha)
theorem lv_t {C D : Addr} {H H' : Hp} {A : Ad} {s : Sim} {ss : List Stp} {b : Addr} {d d' : Nat} (t : LS.RT H H' b d) (l : Lv C D H A s ss) (r : Reel H b d') (al : LS.ApL H b A.L) : Lv C D H' A s ss :=
  l.move (kn_t t r) fun a ha xs h => t.f _ _ h (al a ha).1
theorem lv_l {C D : Addr} {H H' : Hp} {A : Ad} {s : Sim} {ss : List Stp} {L : List Addr} (f : LS.FrL H H' L) (l : Lv C D H A s ss) (hl : Lists H L) (n : ∀ a ∈ A.L, a ∉ L) : Lv C D H' A s ss :=
  l.move (kn_l f hl) fun a ha xs h => f.k _ _ h (n a ha)
theorem Lv.trk {C D : Addr} {H : Hp} {A : Ad} {s : Sim} {ss : List Stp} (l : Lv C D H A s ss) : LS.Trk H A.L := fun a ha => by
  obtain ⟨xs, h⟩ := l.lists a ha
  rw [h]; simp
/-- an apart list stays apart -/
theorem al_s {H H' : Hp} {b : Addr} {d : Nat} {L : List Addr} (s : Same H H') (h : LS.ApL H b L) (r : Reel H b d) : LS.ApL H' b L := fun a ha => LS.ap_s s (h a ha) r
theorem al_t {H H' : Hp} {b : Addr} {d : Nat} {L : List Addr} (t : LS.RT H H' b d) (h : LS.ApL H b L) (k : LS.Trk H L) : LS.ApL H' b L := fun a ha => t.a a (h a ha) (k a ha)
theorem al_l {H H' : Hp} {b : Addr} {d : Nat} {L M : List Addr} (f : LS.FrL H H' M) (h : LS.ApL H b L) (al : LS.ApL H b M) (r : Reel H b d) : LS.ApL H' b L := fun a ha => LS.ap_l f (h a ha) al r
theorem al_f {H H' : Hp} {b p : Addr} {d : Nat} {L : List Addr} (f : Fr H H' p) (h : LS.ApL H b L) (ap : Apart H b p) (r : Reel H b d) : LS.ApL H' b L := fun a ha => LS.ap_f f (h a ha) ap r
/-! ## the law's own model -/
structure Md where
  (m bk ou dn : Addr)
structure Mdl (H : Hp) (M : Md) (s : Sim) (os : List Op) : Prop where
  m : H M.m = some (.lst [.ref M.bk, .ref M.ou, .ref M.dn])
  bk : H M.bk = some (.lst (s.books.map vo))
  ou : H M.ou = some (.lst (s.out.map V.int))
  ex : ∃ as, H M.dn = some (.lst (as.map V.ref)) ∧ OpsOk H as os
def Md.L (M : Md) : List Addr := [M.m, M.bk, M.ou, M.dn]
theorem Mdl.move {H H' : Hp} {M : Md} {s : Sim} {os : List Op} (l : Mdl H M s os) (k : KN H H') (h : ∀ a ∈ M.L, ∀ xs, H a = some (.lst xs) → H' a = some (.lst xs)) : Mdl H' M s os := by
  obtain ⟨as, h1, h2⟩ := l.ex
  exact ⟨h _ (by simp [Md.L]) _ l.m, h _ (by simp [Md.L]) _ l.bk, h _ (by simp [Md.L]) _ l.ou, ⟨as, h _ (by simp [Md.L]) _ h1, h2.kn k⟩⟩
theorem md_s {H H' : Hp} {M : Md} {s : Sim} {os : List Op} (e : Same H H') (l : Mdl H M s os) : Mdl H' M s os := l.move (kn_s e) fun a _ xs h => e _ _ h
theorem md_f {H H' : Hp} {M : Md} {s : Sim} {os : List Op} {p : Addr} {xs : List V} (f : Fr H H' p) (l : Mdl H M s os) (hp : H p = some (.lst xs)) (n : p ∉ M.L) : Mdl H' M s os :=
  l.move (kn_f f hp) fun a ha xs h => f _ _ h fun q => n (q ▸ ha)
theorem md_t {H H' : Hp} {M : Md} {s : Sim} {os : List Op} {b : Addr} {d d' : Nat} (t : LS.RT H H' b d) (l : Mdl H M s os) (r : Reel H b d') (al : LS.ApL H b M.L) : Mdl H' M s os :=
  l.move (kn_t t r) fun a ha xs h => t.f _ _ h (al a ha).1
theorem md_l {H H' : Hp} {M : Md} {s : Sim} {os : List Op} {L : List Addr} (f : LS.FrL H H' L) (l : Mdl H M s os) (hl : Lists H L) (n : ∀ a ∈ M.L, a ∉ L) : Mdl H' M s os :=
  l.move (kn_l f hl) fun a ha xs h => f.k _ _ h (n a ha)
theorem Mdl.trk {H : Hp} {M : Md} {s : Sim} {os : List Op} (l : Mdl H M s os) : LS.Trk H M.L := fun a ha => by
  obtain ⟨as, h1, _⟩ := l.ex
  simp [Md.L] at ha
  rcases ha with rfl | rfl | rfl | rfl
  · rw [l.m]; simp
  · rw [l.bk]; simp
  · rw [l.ou]; simp
  · rw [h1]; simp
/-- addresses that were free are no old ones -/
def NoL (H : Hp) (L : List Addr) : Prop := ∀ a ∈ L, H a = none
theorem ap_no {H H' : Hp} {L M : List Addr} (n : NoL H L) (t : LS.Trk H M) : ∀ a ∈ L, a ∉ M := fun a ha q => t a q (n a ha)
theorem ap_no' {H H' : Hp} {L M : List Addr} (n : NoL H M) (t : LS.Trk H L) : ∀ a ∈ L, a ∉ M := fun a ha q => t a ha (n a q)
theorem al_no {H : Hp} {b : Addr} {d : Nat} {L : List Addr} (n : NoL H L) (r : Reel H b d) : LS.ApL H b L := fun a ha => r.new (n a ha)
theorem no_sL {H H' : Hp} {L : List Addr} (s : Same H H') (n : NoL H' L) : NoL H L := fun a ha => s.free (n a ha)
/-! ## lists made by walks -/
def gapsTo (l : List (Option Int)) : Nat → List Int
  | 0 => []
  | i + 1 => gapsTo l i ++ (match l[i]? with | some none => [(i : Int)] | _ => [])
def gapsL (l : List (Option Int)) : List Int := gapsTo l l.length
def thereTo (l : List (Option Int)) : Nat → List Int
  | 0 => []
  | i + 1 => thereTo l i ++ (match l[i]? with | some (some _) => [(i : Int)] | _ => [])
def thereL (l : List (Option Int)) : List Int := thereTo l l.length
theorem gapsTo_len (l : List (Option Int)) : ∀ i, (gapsTo l i).length ≤ i
  | 0 => Nat.le_refl _
  | i + 1 => by
    have := gapsTo_len l i
    show (gapsTo l i ++ _).length ≤ i + 1
    rw [List.length_append]
    split <;> simp <;> omega
theorem gapsTo_lt {l : List (Option Int)} : ∀ {i : Nat} {x : Int}, x ∈ gapsTo l i → 0 ≤ x ∧ x < i
  | 0, x, h => by simp [gapsTo] at h
  | i + 1, x, h => by
    have h : x ∈ gapsTo l i ++ (match l[i]? with | some none => [(i : Int)] | _ => []) := h
    rcases List.mem_append.mp h with h | h
    · have := gapsTo_lt h; omega
    · split at h
      · have : x = (i : Int) := List.mem_singleton.mp h
        omega
      · cases h
theorem thereTo_mem {l : List (Option Int)} : ∀ {i : Nat} {x : Int}, x ∈ thereTo l i → 0 ≤ x ∧ ∃ b, l[x.toNat]? = some (some b)
  | 0, x, h => by simp [thereTo] at h
  | i + 1, x, h => by
    have h : x ∈ thereTo l i ++ (match l[i]? with | some (some _) => [(i : Int)] | _ => []) := h
    rcases List.mem_append.mp h with h | h
    · exact thereTo_mem h
    · cases q : l[i]? with
      | none => rw [q] at h; cases h
      | some o =>
        cases o with
        | none => rw [q] at h; cases h
        | some b =>
          rw [q] at h
          have : x = (i : Int) := List.mem_singleton.mp h
          subst this
          exact ⟨by omega, b, q⟩
theorem thereTo_len (l : List (Option Int)) : ∀ i, (thereTo l i).length ≤ i
  | 0 => Nat.le_refl _
  | i + 1 => by
    have := thereTo_len l i
    show (thereTo l i ++ _).length ≤ i + 1
    rw [List.length_append]
    split <;> simp <;> omega
/-- a shelf with no book has all of them out -/
theorem thereTo_nil {l : List (Option Int)} : ∀ {i : Nat}, thereTo l i = [] → ∀ j, j < i → ∀ b, l[j]? ≠ some (some b)
  | 0, _, j, hj, _ => by omega
  | i + 1, h, j, hj, b => by
    have h : thereTo l i ++ (match l[i]? with | some (some _) => [(i : Int)] | _ => []) = [] := h
    obtain ⟨h1, h2⟩ := List.append_eq_nil_iff.mp h
    by_cases e : j = i
    · subst e
      intro q
      rw [q] at h2
      cases h2
    · exact thereTo_nil h1 j (by omega) b
def due (s : Sim) (o : Op) : Int := if o.1 = true then (match s.books[o.2.toNat]? with | some (some b) => b | _ => 0) else (gap s.books : Int)
section
variable (K : PySem.W.Frag) (C D : Addr)
def sp_is_whole : Sp := fun vs H Q _ => ∃ n : Int, vs = [.int n] ∧ Q (.bl true) H
def sp_is_number : Sp := fun vs H Q _ => ∃ n c : Int, vs = [.int n, .int c] ∧ 0 ≤ n ∧ n < c ∧ Q (.bl true) H
def sp_check_size : Sp := fun vs H Q _ => ∃ n : Int, vs = [.int n] ∧ 1 ≤ n ∧ n ≤ 200 ∧ Q .non H
def sp_Shelf_init : Sp := fun vs H Q _ => ∃ (p dx : Addr) (n : Nat), vs = [.ref p, .int n] ∧ n ≤ 200 ∧ H p = some (.ins D dx []) ∧ ∀ (H' : Hp) (bl ol : Addr), Fr H H' p → Shf D H' p dx bl ol (simInit n) → H bl = none → H ol = none → Q .non H'
def sp_Shelf_can_take : Sp := fun vs H Q _ => ∃ (sh dx bl ol : Addr) (s : Sim) (p : Int), vs = [.ref sh, .int p] ∧ Shf D H sh dx bl ol s ∧ Q (.bl (stp s (true, p)).isSome) H
def sp_Shelf_can_return : Sp := fun vs H Q _ => ∃ (sh dx bl ol : Addr) (s : Sim) (p : Int), vs = [.ref sh, .int p] ∧ Shf D H sh dx bl ol s ∧ Q (.bl (stp s (false, p)).isSome) H
def sp_Shelf_first_gap : Sp := fun vs H Q _ => ∃ (sh dx bl ol : Addr) (s : Sim), vs = [.ref sh] ∧ Shf D H sh dx bl ol s ∧ none ∈ s.books ∧ Q (.int (gap s.books : Nat)) H
def sp_Shelf_take_from : Sp := fun vs H Q _ => ∃ (sh dx bl ol : Addr) (s u : Sim) (p : Int), vs = [.ref sh, .int p] ∧ Shf D H sh dx bl ol s ∧ stp s (true, p) = some u ∧ s.books.length ≤ 200 ∧ s.out.length ≤ 200 ∧
  ∀ H' : Hp, LS.FrL H H' [bl, ol] → Shf D H' sh dx bl ol u → Q (.int (due s (true, p))) H'
def sp_Shelf_put_back : Sp := fun vs H Q _ => ∃ (sh dx bl ol : Addr) (s u : Sim) (p : Int), vs = [.ref sh, .int p] ∧ Shf D H sh dx bl ol s ∧ stp s (false, p) = some u ∧ none ∈ s.books ∧ s.books.length ≤ 200 ∧
  ∀ H' : Hp, LS.FrL H H' [bl, ol] → Shf D H' sh dx bl ol u → Q (.int (due s (false, p))) H'
def sp_LiveShelf_init : Sp := fun vs H Q _ => ∃ (p dx : Addr) (n : Nat), vs = [.ref p, .int n] ∧ 1 ≤ n ∧ n ≤ 200 ∧ H p = some (.ins C dx []) ∧ ∀ (H' : Hp) (A : Ad), A.lx = p → Fr H H' p → Lv C D H' A (simInit n) [] → NoL H A.L → H A.sh = none → Q .non H'
def sp_LiveShelf_len : Sp := fun vs H Q _ => ∃ (A : Ad) (s : Sim) (ss : List Stp), vs = [.ref A.lx] ∧ Lv C D H A s ss ∧ Q (.int ss.length) H
def sp_LiveShelf_is_complete : Sp := fun vs H Q _ => ∃ (A : Ad) (s : Sim) (ss : List Stp), vs = [.ref A.lx] ∧ Lv C D H A s ss ∧ Q (.bl (decide (s.out = []))) H
def sp_LiveShelf_take_book : Sp := fun vs H Q _ => ∃ (A : Ad) (s u : Sim) (ss : List Stp) (p : Int) (n : Nat), vs = [.ref A.lx, .int p] ∧ Lv C D H A s ss ∧ Good n s ∧ n ≤ 200 ∧ stp s (true, p) = some u ∧ ss.length ≤ 1000 ∧
  ∀ H' : Hp, LS.FrL H H' A.L → Lv C D H' A u (ss ++ [⟨(true, p), p, s.out.length⟩]) → Q (.int (due s (true, p))) H'
def sp_LiveShelf_return_book : Sp := fun vs H Q _ => ∃ (A : Ad) (s u : Sim) (ss : List Stp) (p : Int) (n : Nat), vs = [.ref A.lx, .int p] ∧ Lv C D H A s ss ∧ Good n s ∧ n ≤ 200 ∧ stp s (false, p) = some u ∧ ss.length ≤ 1000 ∧
  ∀ H' : Hp, LS.FrL H H' A.L → Lv C D H' A u (ss ++ [⟨(false, p), gap s.books, s.out.idxOf p⟩]) → Q (.int (due s (false, p))) H'
def sp_LiveShelf_current_books : Sp := fun vs H Q _ => ∃ (A : Ad) (s : Sim) (ss : List Stp), vs = [.ref A.lx] ∧ Lv C D H A s ss ∧ ∀ (p : Addr) (H' : Hp), H p = none → Same H H' → H' p = some (.lst (s.books.map vo)) → Q (.ref p) H'
def sp_LiveShelf_current_gaps : Sp := fun vs H Q _ => ∃ (A : Ad) (s : Sim) (ss : List Stp), vs = [.ref A.lx] ∧ Lv C D H A s ss ∧ s.books.length ≤ 200 ∧ ∀ (p : Addr) (H' : Hp), H p = none → Same H H' → H' p = some (.lst ((gapsL s.books).map V.int)) → Q (.ref p) H'
def sp_LiveShelf_current_out : Sp := fun vs H Q _ => ∃ (A : Ad) (s : Sim) (ss : List Stp), vs = [.ref A.lx] ∧ Lv C D H A s ss ∧ ∀ (p : Addr) (H' : Hp), H p = none → Same H H' → H' p = some (.lst (s.out.map V.int)) → Q (.ref p) H'
def sp_LiveShelf_current_schedule : Sp := fun vs H Q _ => ∃ (A : Ad) (s : Sim) (ss : List Stp), vs = [.ref A.lx] ∧ Lv C D H A s ss ∧ ss.length ≤ 1000 ∧ ∀ (p : Addr) (H' : Hp) (as : List Addr), H p = none → Same H H' → H' p = some (.lst (as.map V.ref)) → OpsOk H' as (ss.map (·.op)) → Q (.ref p) H'
def sp_LiveShelf_place_of : Sp := fun vs H Q _ => ∃ (A : Ad) (s : Sim) (ss : List Stp) (x : Int) (n : Nat), vs = [.ref A.lx, .int x] ∧ Lv C D H A s ss ∧ Good n s ∧ 0 ≤ x ∧ x < n ∧ Q (if some x ∈ s.books then .int (s.books.idxOf (some x) : Nat) else .non) H
/-! ## of the laws -/
def sp__law_moved : Sp := fun vs H Q _ => ∃ (M : Md) (s u : Sim) (os : List Op) (n : Nat) (o : Op), vs = [.ref M.m, .str (kst o.1), .int o.2] ∧ Mdl H M s os ∧ Good n s ∧ n ≤ 200 ∧ stp s o = some u ∧ os.length ≤ 1000 ∧
  ∀ (H' : Hp) (t : Addr) (M' : Md), Same H H' → H t = none → NoL H M'.L → Mdl H' M' u (os ++ [o]) → H' t = some (.tup [.ref M'.m, .int (due s o)]) → Q (.ref t) H'
def sp__law_next : Sp := fun vs H Q _ => ∃ (b : Addr) (d : Nat) (M : Md) (s : Sim) (os : List Op) (n : Nat), vs = [.ref b, .ref M.m] ∧ Reel H b d ∧ d < 900000 ∧ Mdl H M s os ∧ LS.ApL H b M.L ∧ Good n s ∧ 1 ≤ n ∧ n ≤ 200 ∧
  ∀ (H' : Hp) (t : Addr) (o : Op) (u : Sim), LS.RT H H' b (d + 2) → H t = none → H' t = some (.tup (opv o)) → stp s o = some u → Q (.ref t) H'
def sp__law_shows : Sp := fun vs H Q _ => ∃ (A : Ad) (M : Md) (s : Sim) (ss : List Stp) (n : Nat), vs = [.ref A.lx, .ref M.m] ∧ Lv C D H A s ss ∧ Mdl H M s (ss.map (·.op)) ∧ Good n s ∧ n ≤ 200 ∧ ss.length ≤ 400 ∧ (∀ t ∈ ss, 0 ≤ t.op.2 ∧ t.op.2 < 200) ∧ ∀ H' : Hp, Same H H' → Q (.bl true) H'
def sp__law_changed : Sp := fun vs H Q _ => ∃ (A : Ad) (s : Sim) (ss : List Stp) (n : Nat), vs = [.ref A.lx] ∧ Lv C D H A s ss ∧ Good n s ∧ n ≤ 200 ∧ ss.length ≤ 1000 ∧ ∀ H' : Hp, Same H H' → Q .non H'
def sp_law : Sp := fun vs H Q _ => ∃ (a : Addr) (ns : List Int), vs = [.ref a] ∧ SqL K H a (ns.map V.int) ∧ ns.length ≤ 63 ∧ ∀ H', Q (.bl true) H'
end
/-! ## data -/
def dO : Option Int → PyData
  | some i => .int i
  | none => .none
def dB (l : List (Option Int)) : PyData := .list (l.map dO)
def dOp (o : Op) : PyData := .tuple [.str (kst o.1), .int o.2]
def dDone (os : List Op) : PyData := .list (os.map dOp)
section
variable {K : PySem.W.Frag} {H : Hp}
theorem dpA_vo : ∀ l : List (Option Int), DpAll K H (l.map vo) (l.map dO)
  | [] => .nil
  | none :: r => .cons .non (dpA_vo r)
  | some i :: r => .cons (.int i) (dpA_vo r)
theorem dp_b {p : Addr} {l : List (Option Int)} (h : SqL K H p (l.map vo)) : Dp K H (.ref p) (dB l) := .lst h (dpA_vo _)
theorem dp_op {a : Addr} {o : Op} (h : H a = some (.tup (opv o))) : Dp K H (.ref a) (dOp o) := .tup (SqT.of h) (.cons (.str _) (.cons (.int _) .nil))
theorem dp_done {p : Addr} {as : List Addr} {os : List Op} (h : SqL K H p (as.map V.ref)) (ho : OpsOk H as os) : Dp K H (.ref p) (dDone os) := by
  refine .lst h (LG.dpAll_of (by rw [List.length_map, List.length_map, ho.1]) fun i v d hv hd => ?_)
  rw [List.getElem?_map] at hv hd
  cases q : as[i]? with
  | none => rw [q] at hv; cases hv
  | some a =>
    cases r : os[i]? with
    | none => rw [r] at hd; cases hd
    | some o =>
      rw [q] at hv; rw [r] at hd
      cases hv; cases hd
      exact dp_op (ho.2 i a o q r)
theorem sm_kst (b : Bool) : LG.Sm (.str (kst b)) 0 6 := by
  cases b
  · exact ⟨rfl, by decide +kernel, by decide +kernel, Nat.le_refl _, by decide +kernel⟩
  · exact ⟨rfl, by decide +kernel, by decide +kernel, Nat.le_refl _, by decide +kernel⟩
theorem sm_op {o : Op} (h : o.2.natAbs < 1024) : LG.Sm (dOp o) 1 22 := by
  have := LG.Sm.tup (k := 0) (w := 10) (l := [.str (kst o.1), .int o.2]) (fun d hd => by
    rcases List.mem_cons.mp hd with rfl | hd
    · exact (sm_kst _).mono (Nat.le_refl _) (by decide)
    · rw [List.mem_singleton.mp hd]; exact LS.sm_small h)
  exact this
theorem sm_done {os : List Op} (h : ∀ o ∈ os, o.2.natAbs < 1024) : LG.Sm (dDone os) 2 (23 * os.length) := by
  have := LG.Sm.list (k := 1) (w := 22) (l := os.map dOp) (fun d hd => by obtain ⟨o, ho, rfl⟩ := List.mem_map.mp hd; exact sm_op (h o ho))
  rw [List.length_map] at this
  exact this
theorem sm_b {l : List (Option Int)} (h : ∀ x, some x ∈ l → x.natAbs < 1024) : LG.Sm (dB l) 1 (11 * l.length) := by
  have := LG.Sm.list (k := 0) (w := 10) (l := l.map dO) (fun d hd => by
    obtain ⟨o, ho, rfl⟩ := List.mem_map.mp hd
    cases o with
    | none => exact LG.Sm.non.mono (Nat.le_refl _) (by decide)
    | some x => exact LS.sm_small (h x ho))
  rw [List.length_map] at this
  exact this
end
theorem flat_vo' (l : List (Option Int)) : (l.map vo).all flatV = true := by
  rw [List.all_eq_true]; intro v hv; obtain ⟨i, _, rfl⟩ := List.mem_map.mp hv; cases i <;> rfl
theorem in_vo {x : Int} {l : List (Option Int)} : inV (.int x) (l.map vo) = decide (some x ∈ l) := by
  induction l with
  | nil => rfl
  | cons a r ih =>
    show (eqV (vo a) (.int x) || inV (.int x) (r.map vo)) = _
    rw [ih]
    cases a with
    | none =>
      show (false || decide (some x ∈ r)) = _
      simp
    | some b =>
      show ((b == x) || decide (some x ∈ r)) = _
      by_cases e : b = x
      · subst e; simp
      · have h2 : ¬ x = b := fun q => e q.symm
        simp [e, h2]
theorem rin_vo {K : PySem.W.Frag} {H : Hp} {Q : VK} {x : Int} {p : Addr} {l : List (Option Int)} (h : SqL K H p (l.map vo)) (q : Q (.bl (decide (some x ∈ l))) H) : rIn K false (.int x) (.ref p) H Q := LS.rin_l h rfl (flat_vo' _) (by rw [in_vo]; exact q)
theorem eqv_b (l : List (Option Int)) : PyData.eqv (dB l) (dB l) = true := by
  have : ∀ l : List (Option Int), PyData.eqvAll (l.map dO) (l.map dO) = true := fun l => by
    induction l with
    | nil => simp [PyData.eqvAll]
    | cons a r ih =>
      simp only [List.map_cons, PyData.eqvAll, ih]
      cases a <;> simp [dO, PyData.eqv]
  simp only [dB, PyData.eqv]
  exact this l
theorem sh_b (l : List (Option Int)) : SeqAt.shaped (dB l) = true := by
  have h1 : ∀ l : List (Option Int), PyData.canLayAll0 (l.map dO) = true := fun l => by
    induction l with
    | nil => rfl
    | cons i r ih => cases i <;> simp [PyData.canLayAll0, PyData.canLay0, dO, ih]
  have h2 : ∀ l : List (Option Int), PyData.depthAll (l.map dO) = 0 := fun l => by
    induction l with
    | nil => rfl
    | cons i r ih => cases i <;> simp [PyData.depthAll, PyData.depth, dO, ih]
  simp [SeqAt.shaped, dB, PyData.canLay0, PyData.depth, h1, h2]
def plO (s : Sim) (x : Int) : Option Int := if some x ∈ s.books then some (s.books.idxOf (some x) : Nat) else none
theorem plV (s : Sim) (x : Int) : (if some x ∈ s.books then V.int (s.books.idxOf (some x) : Nat) else .non) = vo (plO s x) := by
  unfold plO; split <;> rfl
theorem due_range {n : Nat} {s u : Sim} {o : Op} (g : Good n s) (h : stp s o = some u) : 0 ≤ due s o ∧ due s o < n := by
  obtain ⟨k, p⟩ := o
  cases k with
  | true =>
    obtain ⟨h0, b, hx, _⟩ := stp_take h
    have e : due s (true, p) = b := by unfold due; rw [if_pos rfl, hx]
    rw [e]
    exact mem_rangeI.mp (g.perm.subset (List.mem_append_left _ (List.mem_filterMap.mpr ⟨some b, List.mem_of_getElem? hx, rfl⟩)))
  | false =>
    obtain ⟨hb, _⟩ := stp_ret h
    have hg := gap_lt (g.gap hb)
    have e : due s (false, p) = (gap s.books : Nat) := by unfold due; rw [if_neg (by simp)]
    have := g.len
    rw [e]; omega
theorem num_range {n : Nat} {s u : Sim} {o : Op} (g : Good n s) (h : stp s o = some u) : 0 ≤ o.2 ∧ o.2 < n := by
  obtain ⟨k, p⟩ := o
  cases k with
  | true =>
    obtain ⟨h0, b, hx, _⟩ := stp_take h
    have := (List.getElem?_eq_some_iff.mp hx).1
    have := g.len
    exact ⟨h0, by show p < n; omega⟩
  | false =>
    obtain ⟨hb, _⟩ := stp_ret h
    exact mem_rangeI.mp (g.perm.subset (List.mem_append_right _ hb))
end LP

/-! operations reverted, and shelves made again -/
namespace LP
open PySem L2 LT LG LX LR
def rIns : V → List V → Hp → VK → Prop := fun x vs H Q => ∃ (l : Addr) (xs : List V) (i : Int) (y : V), x = .ref l ∧ vs = [.int i, y] ∧ H l = some (.lst xs) ∧ xs.length < sizeLine ∧ 0 ≤ i ∧ i < 2 ^ 63 ∧ Q .non (upd H l (.lst (xs.take i.toNat ++ [y] ++ xs.drop i.toNat)))
theorem mt_ins {X : Cx} : MtR X "list.insert" rIns := mt_insert
theorem rins {H : Hp} {Q : VK} {p : Addr} {xs : List V} {i : Int} {y : V} (h : H p = some (.lst xs)) (hz : xs.length < sizeLine) (h0 : 0 ≤ i) (h1 : i < 2 ^ 63) (q : ∀ H' : Hp, Fr H H' p → H' p = some (.lst (xs.take i.toNat ++ [y] ++ xs.drop i.toNat)) → Q .non H') : rIns (.ref p) [.int i, y] H Q :=
  ⟨p, xs, i, y, rfl, rfl, h, hz, h0, h1, q _ LS.Fr.upd upd_same⟩
def stOf (s : Sim) (o : Op) : Stp := ⟨o, if o.1 = true then o.2 else (gap s.books : Nat), if o.1 = true then s.out.length else s.out.idxOf o.2⟩
inductive Pst (n : Nat) : List Stp → Sim → Prop
  | nil : Pst n [] (simInit n)
  | snoc {ss s o u} : Pst n ss s → stp s o = some u → Pst n (ss ++ [stOf s o]) u
theorem Pst.good {n : Nat} {ss : List Stp} {s : Sim} (h : Pst n ss s) : Good n s := by
  induction h with
  | nil => exact good_init n
  | snoc _ h ih => exact good_stp ih h
theorem Pst.run {n : Nat} {ss : List Stp} {s : Sim} (h : Pst n ss s) : LR.run (simInit n) (ss.map (·.op)) = some s := by
  induction h with
  | nil => rfl
  | snoc _ h ih => rw [List.map_append]; exact run_snoc ih h
theorem Pst.eq {n : Nat} {ss : List Stp} {s t : Sim} (h : Pst n ss s) (k : Pst n ss t) : s = t := by
  have := h.run.symm.trans k.run
  exact Option.some.inj this
theorem Pst.last {n : Nat} {ss : List Stp} {t : Stp} {u : Sim} (h : Pst n (ss ++ [t]) u) : ∃ s o, Pst n ss s ∧ stp s o = some u ∧ t = stOf s o := by
  generalize e : ss ++ [t] = r at h
  cases h with
  | nil => exact absurd (congrArg List.length e) (by simp)
  | @snoc ss' s o _ h1 h2 =>
    obtain ⟨e1, e2⟩ := List.append_inj' e rfl
    cases e1; cases e2
    exact ⟨s, o, h1, h2, rfl⟩
theorem Pst.at {n : Nat} {ss : List Stp} {s : Sim} (h : Pst n ss s) : ∀ {i : Nat}, i < ss.length → ∃ t u o, Pst n (ss.take i) t ∧ stp t o = some u ∧ ss[i]? = some (stOf t o) ∧ ss.take (i + 1) = ss.take i ++ [stOf t o] := by
  induction h with
  | nil => intro i hi; simp at hi
  | @snoc ss s o u h1 h2 ih =>
    intro i hi
    rw [List.length_append] at hi
    simp only [List.length_singleton] at hi
    by_cases e : i = ss.length
    · subst e
      refine ⟨s, u, o, ?_, h2, ?_, ?_⟩
      · rw [List.take_left]; exact h1
      · rw [List.getElem?_append_right (Nat.le_refl _), Nat.sub_self]; rfl
      · rw [List.take_left, List.take_of_length_le (by simp)]
    · have hi : i < ss.length := by omega
      obtain ⟨t, u', o', a, b, c, d⟩ := ih hi
      refine ⟨t, u', o', ?_, b, ?_, ?_⟩
      · rw [List.take_append_of_le_length (by omega)]; exact a
      · rw [List.getElem?_append_left hi]; exact c
      · rw [List.take_append_of_le_length (by omega), List.take_append_of_le_length (by omega)]; exact d
theorem Pst.full {n : Nat} {ss : List Stp} {s t : Sim} (h : Pst n ss s) (k : Pst n (ss.take ss.length) t) : t = s := by
  rw [List.take_length] at k; exact k.eq h
/-! ## back -/
theorem set_back {α : Type _} {l : List α} {p : Nat} {x y : α} (h : l[p]? = some x) : (l.set p y).set p x = l := by
  rw [List.set_set]
  obtain ⟨hl, rfl⟩ := List.getElem?_eq_some_iff.mp h
  exact List.set_getElem_self hl
theorem und_take {s u : Sim} {p : Int} (h : stp s (true, p) = some u) : 0 ≤ p ∧ p.toNat < u.books.length ∧ ∃ b, u.out = s.out ++ [b] ∧ u.books.set p.toNat (some b) = s.books := by
  obtain ⟨h0, b, hb, rfl⟩ := stp_take h
  refine ⟨h0, ?_, b, rfl, set_back hb⟩
  show p.toNat < (s.books.set _ _).length
  rw [List.length_set]
  exact (List.getElem?_eq_some_iff.mp hb).1
theorem ins_back {l : List Int} {b : Int} (h : b ∈ l) : (l.erase b).take (l.idxOf b) ++ [b] ++ (l.erase b).drop (l.idxOf b) = l := by
  have hk : l.idxOf b < l.length := List.idxOf_lt_length_iff.mpr h
  have hg : l[l.idxOf b]? = some b := idx_get h
  rw [List.erase_eq_eraseIdx_of_idxOf rfl, List.eraseIdx_eq_take_drop_succ]
  have e1 : (l.take (l.idxOf b)).length = l.idxOf b := by rw [List.length_take]; omega
  rw [List.take_left' e1, List.drop_left' e1]
  obtain ⟨_, e2⟩ := List.getElem?_eq_some_iff.mp hg
  have e3 : l.drop (l.idxOf b) = b :: l.drop (l.idxOf b + 1) := by rw [List.drop_eq_getElem_cons hk, e2]
  rw [List.append_assoc, show [b] ++ l.drop (l.idxOf b + 1) = l.drop (l.idxOf b) from e3.symm, List.take_append_drop]
theorem und_ret {s u : Sim} {b : Int} (hg : none ∈ s.books) (h : stp s (false, b) = some u) : u.books[gap s.books]? = some (some b) ∧ u.books.set (gap s.books) none = s.books ∧ u.out.take (s.out.idxOf b) ++ [b] ++ u.out.drop (s.out.idxOf b) = s.out ∧ s.out.idxOf b ≤ u.out.length ∧ u.out.length < s.out.length := by
  obtain ⟨hb, rfl⟩ := stp_ret h
  have hk : s.out.idxOf b < s.out.length := List.idxOf_lt_length_iff.mpr hb
  have hl : (s.out.erase b).length = s.out.length - 1 := List.length_erase_of_mem hb
  refine ⟨?_, set_back (gap_get hg), ins_back hb, ?_, ?_⟩
  · show (s.books.set (gap s.books) (some b))[gap s.books]? = _
    rw [List.getElem?_set_self (gap_lt hg)]
  · show _ ≤ (s.out.erase b).length
    omega
  · show (s.out.erase b).length < _
    omega
theorem StepsOk.last {H : Hp} {as : List Addr} {ss : List Stp} {t : Stp} (h : StepsOk H as (ss ++ [t])) : ∃ as' a q, as = as' ++ [a] ∧ StepsOk H as' ss ∧ H a = some (.tup [.ref q, .int t.place, .int t.num]) ∧ H q = some (.tup (opv t.op)) := by
  obtain ⟨hl, hk⟩ := h
  rw [List.length_append, List.length_singleton] at hl
  rcases List.eq_nil_or_concat as with rfl | ⟨as', a, rfl⟩
  · simp at hl
  · rw [List.concat_eq_append] at hl hk ⊢
    rw [List.length_append, List.length_singleton] at hl
    have hl : as'.length = ss.length := by omega
    obtain ⟨q, h1, h2⟩ := hk as'.length a t (by rw [List.getElem?_append_right (Nat.le_refl _), Nat.sub_self]; rfl) (by rw [List.getElem?_append_right (by omega), hl, Nat.sub_self]; rfl)
    refine ⟨as', a, q, rfl, ⟨hl, fun i x y hx hy => ?_⟩, h1, h2⟩
    have hx' := (List.getElem?_eq_some_iff.mp hx).1
    exact hk i x y (by rw [List.getElem?_append_left hx']; exact hx) (by rw [List.getElem?_append_left (by omega)]; exact hy)
theorem same_frl {H H3 H4 : Hp} {L : List Addr} (s : Same H H3) (f : LS.FrL H3 H4 L) (n : NoL H L) : Same H H4 := fun a o h => f.k a o (s a o h) fun q => by rw [n a q] at h; cases h
theorem same_fr {H H3 H4 : Hp} {p : Addr} (s : Same H H3) (f : Fr H3 H4 p) (n : H p = none) : Same H H4 := fun a o h => f a o (s a o h) fun q => by rw [q, n] at h; cases h
section
variable (K : PySem.W.Frag) (C D : Addr)
def sp_Shelf_revert_take : Sp := fun vs H Q _ => ∃ (sh dx bl ol : Addr) (s u : Sim) (p : Int), vs = [.ref sh, .int p] ∧ Shf D H sh dx bl ol u ∧ stp s (true, p) = some u ∧
  ∀ H' : Hp, LS.FrL H H' [bl, ol] → Shf D H' sh dx bl ol s → Q .non H'
def sp_Shelf_revert_return : Sp := fun vs H Q _ => ∃ (sh dx bl ol : Addr) (s u : Sim) (p : Int), vs = [.ref sh, .int (gap s.books : Nat), .int (s.out.idxOf p : Nat)] ∧ Shf D H sh dx bl ol u ∧ stp s (false, p) = some u ∧ none ∈ s.books ∧ s.out.length ≤ 200 ∧
  ∀ H' : Hp, LS.FrL H H' [bl, ol] → Shf D H' sh dx bl ol s → Q .non H'
def sp_LiveShelf_undo : Sp := fun vs H Q _ => ∃ (A : Ad) (s u : Sim) (ss : List Stp) (o : Op) (n : Nat), vs = [.ref A.lx] ∧ Lv C D H A u (ss ++ [stOf s o]) ∧ Good n s ∧ n ≤ 200 ∧ stp s o = some u ∧
  ∀ H' : Hp, LS.FrL H H' A.L → Lv C D H' A s ss → Q .non H'
def sp_perform_all : Sp := fun vs H Q _ => ∃ (A : Ad) (p : Addr) (as : List Addr) (s : Sim) (ss : List Stp) (n : Nat), vs = [.ref A.lx, .ref p] ∧ Lv C D H A (simInit n) [] ∧ H p = some (.lst (as.map V.ref)) ∧ p ∉ A.L ∧ OpsOk H as (ss.map (·.op)) ∧ Pst n ss s ∧ n ≤ 200 ∧ ss.length ≤ 1000 ∧
  ∀ H' : Hp, LS.FrL H H' A.L → Lv C D H' A s ss → Q .non H'
def sp_LiveShelf_duplicate : Sp := fun vs H Q _ => ∃ (A : Ad) (s : Sim) (ss : List Stp) (n : Nat), vs = [.ref A.lx] ∧ Lv C D H A s ss ∧ Pst n ss s ∧ 1 ≤ n ∧ n ≤ 200 ∧ ss.length ≤ 1000 ∧
  ∀ (H' : Hp) (A' : Ad), Same H H' → Lv C D H' A' s ss → NoL H A'.L → H A'.lx = none → Q (.ref A'.lx) H'
end
end LP

/-! zip of three, each a list or a tuple -/
namespace LX
open PySem PySem.Spec PyProof.Rows L2 LT LP
def SqB (K : PySem.W.Frag) (t : Bool) (H : Hp) (a : Addr) (xs : List V) : Prop := match t with | true => SqT K H a xs | false => SqL K H a xs
def ItB (t : Bool) (h : Heap) (it a : Addr) (i : Nat) : Prop := match t with | true => h.IsTupleIter it a i | false => h.IsListIter it a i
def HasB (t : Bool) (h : Heap) (a : Addr) (items : Array Value) : Prop := match t with | true => h.IsTuple a items | false => h.IsList a items
def itO (t : Bool) (a : Addr) : Obj := match t with | true => { cls := .type "tuple_iterator", data := .fields #[.ref a, .int 0 0] } | false => { cls := .type "list_iterator", data := .fields #[.ref a, .int 0 0] }
theorem drawsB {prog : Program} {w : World} {A : Around} (hh : A.handled = none) (t : Bool) (it a : Addr) (hne : a ≠ it) (items : Array Value) :
    Draws prog w A it [it, a] items.size (fun i v => items[i]? = some v) (fun i h => ItB t h it a i ∧ HasB t h a items) := by
  cases t
  · exact Draws.list hh it a hne items
  · exact Draws.tuple hh it a hne items
theorem beginsB (t : Bool) (a : Addr) (items : Array Value) : Begins (.ref a) (itO t a) fun h => HasB t h a items := by
  cases t
  · exact begins_list a items
  · exact begins_tuple a items
theorem itB_0 {t : Bool} {h : Heap} {it a : Addr} (g : h.get? it = some (itO t a)) : ItB t h it a 0 := by
  cases t
  · exact ⟨_, g, rfl, rfl⟩
  · exact ⟨_, g, rfl, rfl⟩
theorem itB_ex {t : Bool} {h : Heap} {it a : Addr} {i : Nat} (g : ItB t h it a i) : ∃ o, h.get? it = some o ∧ ∃ fs, o.data = .fields fs := by
  cases t
  · obtain ⟨o, e, _, d⟩ := g; exact ⟨o, e, _, d⟩
  · obtain ⟨o, e, _, d⟩ := g; exact ⟨o, e, _, d⟩
theorem itB_at {t : Bool} {h h' : Heap} {it a : Addr} {i : Nat} (g : ItB t h it a i) (k : ∀ o, h.get? it = some o → h'.get? it = some o) : ItB t h' it a i := by
  cases t
  · exact Heap.IsListIter.at g k
  · exact Heap.IsTupleIter.at g k
section
variable {X : Cx} {pins : List (Addr × Obj)} {σ : L2.St} {H : Hp} {s : Shared}
theorem invB (I : Inv X pins σ H s) {t : Bool} {a : Addr} {xs : List V} (q : SqB X.K t H a xs) : ∃ its, Vals xs its ∧ HasB t s.heap a its.toArray ∧ a < s.heap.objs.size := by
  cases t
  · obtain ⟨its, rv, p, _⟩ := I.list q
    exact ⟨its, rv, p.isList, p.lt⟩
  · obtain ⟨its, rv, p, _⟩ := I.tuple q
    exact ⟨its, rv, p, let ⟨_, g, _⟩ := p; Heap.lt_size g⟩
theorem injB (I : Inv X pins σ H s) {t : Bool} {a : Addr} {xs ys : List V} (q : SqB X.K t H a xs) (r : SqB X.K t H a ys) : xs = ys := by
  cases t
  · exact I.list_inj q r
  · exact I.tuple_inj q r
end

def ItzB (K : PySem.W.Frag) (t1 t2 t3 : Bool) (a b c : Addr) : It :=
  ⟨fun i H => ∃ (xs ys zs : List V) (x y z : V), SqB K t1 H a xs ∧ SqB K t2 H b ys ∧ SqB K t3 H c zs ∧ xs[i]? = some x ∧ ys[i]? = some y ∧ zs[i]? = some z,
    fun i H v H' => ∃ T x y z, v = .ref T ∧ H T = none ∧ H' = upd H T (.tup [x, y, z]) ∧ (∀ xs, SqB K t1 H a xs → xs[i]? = some x) ∧ (∀ ys, SqB K t2 H b ys → ys[i]? = some y) ∧ ∀ zs, SqB K t3 H c zs → zs[i]? = some z,
    fun i H => ∃ xs ys zs : List V, SqB K t1 H a xs ∧ SqB K t2 H b ys ∧ SqB K t3 H c zs ∧ xs.length = i ∧ ys.length = i ∧ zs.length = i⟩
theorem turn_zip3 {P : Program} {w : World} {K : PySem.W.Frag} {elts : List Expr} {kk : Nat} {tpos : Pos} {t1 t2 t3 : Bool} {a b c z TI TO i1 i2 i3 : Addr} (D : ZipSep3 z TI TO i1 i2 i3 [i1, a] [i2, b] [i3, c]) (m1 : a ≠ i1) (m2 : b ≠ i2) (m3 : c ≠ i3) :
    Turn P w K (.Tuple elts kk tpos) (ItzB K t1 t2 t3 a b c) [z, TI, TO, i1, i2, i3] z (fun i h => IsZip h z TI TO .none ∧ IsTupOf3 h TI (.ref i1) (.ref i2) (.ref i3) ∧ (∃ x y u, IsTupOf3 h TO x y u) ∧ ItB t1 h i1 a i ∧ ItB t2 h i2 b i ∧ ItB t3 h i3 c i) where
  mem := List.mem_cons_self
  obj := fun i h ⟨hz, hTI, ⟨x, y, u, hTO⟩, s1, s2, s3⟩ c hc => by
    obtain ⟨o1, e1, f1, d1⟩ := itB_ex s1
    obtain ⟨o2, e2, f2, d2⟩ := itB_ex s2
    obtain ⟨o3, e3, f3, d3⟩ := itB_ex s3
    simp only [List.mem_cons, List.not_mem_nil, or_false] at hc
    rcases hc with rfl | rfl | rfl | rfl | rfl | rfl
    · exact ⟨_, hz, fun v q => by cases q⟩
    · exact ⟨_, hTI, fun v q => by cases q⟩
    · exact ⟨_, hTO, fun v q => by cases q⟩
    · exact ⟨o1, e1, fun v q => by rw [d1] at q; cases q⟩
    · exact ⟨o2, e2, fun v q => by rw [d2] at q; cases q⟩
    · exact ⟨o3, e3, fun v q => by rw [d3] at q; cases q⟩
  keep := fun i h h' ⟨hz, hTI, ⟨x, y, u, hTO⟩, h1, h2, h3⟩ k =>
    ⟨k z (by simp) _ hz, k TI (by simp) _ hTI, ⟨x, y, u, k TO (by simp) _ hTO⟩, itB_at h1 fun o q => k i1 (by simp) o q, itB_at h2 fun o q => k i2 (by simp) o q, itB_at h3 fun o q => k i3 (by simp) o q⟩
  item := by
    intro X hP hw hK hc i pins s σ H E I hf ⟨hz, hTI, ⟨x0, y0, u0, hTO⟩, h1, h2, h3⟩ ⟨xs, ys, zs, x, y, u, qx, qy, qz, hx, hy, hu⟩
    subst hP hw hK
    obtain ⟨its, rv, p, _⟩ := invB I qx
    obtain ⟨its2, rv2, p2, _⟩ := invB I qy
    obtain ⟨its3, rv3, p3, _⟩ := invB I qz
    obtain ⟨v, hv, ru⟩ := rv.get hx
    obtain ⟨v2, hv2, ru2⟩ := rv2.get hy
    obtain ⟨v3, hv3, ru3⟩ := rv3.get hu
    have li : i < its.toArray.size := by have := (List.getElem?_eq_some_iff.mp hv).1; simpa using this
    have li2 : i < its2.toArray.size := by have := (List.getElem?_eq_some_iff.mp hv2).1; simpa using this
    have li3 : i < its3.toArray.size := by have := (List.getElem?_eq_some_iff.mp hv3).1; simpa using this
    have hh : X.A.in1.handled = none := I.ok.hd hc
    have ltz : z < s.heap.objs.size := Heap.lt_size hz
    refine wpAny_pyNext_zipD3_item D (drawsB hh t1 i1 a m1 its.toArray) (drawsB hh t2 i2 b m2 its2.toArray) (drawsB hh t3 i3 c m3 its3.toArray) hz hTI hTO ⟨h1, p⟩ ⟨h2, p2⟩ ⟨h3, p3⟩ li li2 li3 fun w1 w2 w3 h5 tk y1 y2 y3 z3 TO3 st1 st2 st3 new sz kept => ?_
    have ev1 : w1 = v := by
      have q : its.toArray[i]? = some v := by simpa using hv
      rw [q] at y1; exact (Option.some.inj y1).symm
    have ev2 : w2 = v2 := by
      have q : its2.toArray[i]? = some v2 := by simpa using hv2
      rw [q] at y2; exact (Option.some.inj y2).symm
    have ev3 : w3 = v3 := by
      have q : its3.toArray[i]? = some v3 := by simpa using hv3
      rw [q] at y3; exact (Option.some.inj y3).symm
    subst ev1 ev2 ev3
    refine ⟨_, rfl, wpAny_letOwnedTupleGo_zip (s := { s with heap := h5, toks := tk }) z3 fun h4 z4 sb => ?_⟩
    have new4 := (sb.2 _ (Nat.ne_of_gt ltz)).trans new
    have ob : ObjOk X.prog X.w (upd H s.heap.objs.size (.tup [x, y, u])) h4 s.heap.objs.size (.tup [x, y, u]) :=
      ⟨by show 3 ≤ sizeLine; decide, [w1, w2, w3], .cons ru (.cons ru2 (.cons ru3 .nil)), ⟨_, new4, rfl, _, rfl⟩⟩
    have J : Inv X pins σ (upd H s.heap.objs.size (.tup [x, y, u])) { s with heap := h4, toks := tk } :=
      I.turnedNew (ch := [z, TI, TO, i1, i2, i3]) (fun c o nb q => (sb.2 c fun e => nb (by simp [e])).trans (kept c o (fun e => nb (by simp [e])) (fun e => nb (by simp [e])) (fun e => nb (by simp [e])) (fun e => nb (by simp [e])) (fun e => nb (by simp [e])) q)) hf (Nat.le_refl _) ob
    refine ⟨.ref s.heap.objs.size, _, J, rfl, ⟨_, x, y, u, rfl, I.hok.fresh (Nat.le_refl _), rfl, fun l hl => by rw [injB I hl qx]; exact hx, fun l hl => by rw [injB I hl qy]; exact hy, fun l hl => by rw [injB I hl qz]; exact hu⟩, ⟨z4, ?_, ⟨w1, w2, w3, ?_⟩, ?_, ?_, ?_⟩, fun c hm => ?_⟩
    · exact (sb.2 _ D.TIz).trans (kept _ _ D.TIz D.TITO D.TIi1 D.TIi2 D.TIi3 hTI)
    · exact (sb.2 _ D.TOz).trans TO3
    · exact itB_at st1.1 fun o q => (sb.2 _ D.zi1.symm).trans q
    · exact itB_at st2.1 fun o q => (sb.2 _ D.zi2.symm).trans q
    · exact itB_at st3.1 fun o q => (sb.2 _ D.zi3.symm).trans q
    · have lt : c < s.heap.objs.size := by
        have hm2 := hm
        obtain ⟨o1, e1, _⟩ := itB_ex h1
        obtain ⟨o2, e2, _⟩ := itB_ex h2
        obtain ⟨o3, e3, _⟩ := itB_ex h3
        simp only [List.mem_cons, List.not_mem_nil, or_false] at hm2
        rcases hm2 with rfl | rfl | rfl | rfl | rfl | rfl
        · exact ltz
        · exact Heap.lt_size hTI
        · exact Heap.lt_size hTO
        · exact Heap.lt_size e1
        · exact Heap.lt_size e2
        · exact Heap.lt_size e3
      rw [upd_ne (Nat.ne_of_lt lt)]
      exact (hf c hm).1
  done := by
    intro X hP hw hK hc i pins s σ H E I hf ⟨hz, hTI, ⟨x0, y0, u0, hTO⟩, h1, h2, h3⟩ ⟨xs, ys, zs, qx, qy, qz, e1, e2, e3⟩
    subst hP hw hK
    obtain ⟨its, rv, p, _⟩ := invB I qx
    obtain ⟨its2, rv2, p2, _⟩ := invB I qy
    obtain ⟨its3, rv3, p3, _⟩ := invB I qz
    have n1 : i = its.toArray.size := by rw [List.size_toArray, ← rv.length]; exact e1.symm
    have n2 : i = its2.toArray.size := by rw [List.size_toArray, ← rv2.length]; exact e2.symm
    have n3 : i = its3.toArray.size := by rw [List.size_toArray, ← rv3.length]; exact e3.symm
    have hh : X.A.in1.handled = none := I.ok.hd hc
    exact wpAny_pyNext_zipD3_end D (drawsB hh t1 i1 a m1 its.toArray) (drawsB hh t2 i2 b m2 its2.toArray) (drawsB hh t3 i3 c m3 its3.toArray) hz hTI hTO ⟨h1, p⟩ ⟨h2, p2⟩ ⟨h3, p3⟩ (Nat.le_of_eq n1) (Nat.le_of_eq n2) (Nat.le_of_eq n3) (.inl n1) fun h5 tk kept =>
      ⟨rfl, I.turnedL (ch := [z, TI, TO, i1, i2, i3]) (fun c o nb q => kept c o (fun e => nb (by simp [e])) (fun e => nb (by simp [e])) (fun e => nb (by simp [e])) (fun e => nb (by simp [e])) (fun e => nb (by simp [e])) q) hf⟩
  self := fun A i s Q E st h => wpAny_pyIter_zip st.1 h
theorem vals3 {x y z : V} {us : List Value} (r : Vals [x, y, z] us) : ∃ u v w', us = [u, v, w'] ∧ RelV x u ∧ RelV y v ∧ RelV z w' := by
  cases r with
  | cons r1 r2 =>
    obtain ⟨v, w', rfl, a, b⟩ := vals2 r2
    exact ⟨_, _, _, rfl, r1, a, b⟩
def iZip3 (K : PySem.W.Frag) (ta : TA) : TI := fun σ H R => ta σ H fun vs H1 => ∃ t1 t2 t3 a b c xs ys zs, vs = [.ref a, .ref b, .ref c] ∧ SqB K t1 H1 a xs ∧ SqB K t2 H1 b ys ∧ SqB K t3 H1 c zs ∧ R (ItzB K t1 t2 t3 a b c) H1
theorem pi_zip3 {X : Cx} {e e2 e3 : Expr} {ta : TA} {p pos tpos : Pos} {elts : List Expr} {kk : Nat} (hg : Gl X "zip") (hm : X.mg "zip" = none) (ha : PA X [e, e2, e3] ta)
    (hs : starEach [e, e2, e3] X.env = (false, eval e X.env) :: starEach [e2, e3] X.env := by rfl) (hpl : (backTo pos (starEach [e2, e3] X.env)).any (·.1) = false := by rfl) :
    PI X (.Tuple elts kk tpos) (.Call (.Name "zip" p) [e, e2, e3] [] pos) (iZip3 X.K ta) := by
  constructor
  intro pins s σ H R I want
  refine Call_ (ld_blt I hg hm PyProof.Rows.boot_zip (PyProof.Rows.callWith_type1 (thn (ha.run pos pins s σ H _ I want) ?_) hs hpl))
  rintro us s1 ⟨vs, H1, J, rel, t1, t2, t3, a, b, c, xs, ys, zs, rfl, qx, qy, qz, q⟩
  obtain ⟨u1, u2, u3, rfl, r1, r2, r3⟩ := vals3 rel
  cases r1
  cases r2
  cases r3
  obtain ⟨its, rv, p1, la⟩ := invB J qx
  obtain ⟨its2, rv2, p2, lb⟩ := invB J qy
  obtain ⟨its3, rv3, p3, lc⟩ := invB J qz
  refine zip_begins3 (beginsB t1 a its.toArray) (beginsB t2 b its2.toArray) (beginsB t3 c its3.toArray) p1 p2 p3 fun h' hz hTI hTO g1 g2 g3 sz keep => wpAny_pyIter_zip hz ?_
  have J2 : Inv X pins σ H1 { s1 with heap := h' } := J.kept (t' := s1.toks) keep
  have one : ∀ {a : Addr}, a < s1.heap.objs.size → ∀ x ∈ [a], x < s1.heap.objs.size := fun h x hx => by rw [List.mem_singleton.mp hx]; exact h
  refine ⟨s1.heap.objs.size + 5, [s1.heap.objs.size + 5, s1.heap.objs.size + 3, s1.heap.objs.size + 4, s1.heap.objs.size, s1.heap.objs.size + 1, s1.heap.objs.size + 2], _, _, H1, rfl, J2,
    turn_zip3 (t1 := t1) (t2 := t2) (t3 := t3) (zip_sep3 (one la) (one lb) (one lc)) (Nat.ne_of_lt la) (Nat.ne_of_lt (Nat.lt_succ_of_lt lb)) (Nat.ne_of_lt (Nat.lt_succ_of_lt (Nat.lt_succ_of_lt lc))),
    ⟨hz, hTI, ⟨_, _, _, hTO⟩, itB_0 g1, itB_0 g2, itB_0 g3⟩, fun c hc => ?_, q⟩
  have le : s1.heap.objs.size ≤ c := by
    simp only [List.mem_cons, List.not_mem_nil, or_false] at hc
    rcases hc with rfl | rfl | rfl | rfl | rfl | rfl <;> first | exact Nat.le_add_right _ _ | exact Nat.le_refl _
  exact J.fpOk le (J.hok.fresh le)
def YTrip (xs ys zs : Nat → Option V) : Nat → Hp → V → Hp → Prop := fun i H v H' => ∃ T x y z, v = .ref T ∧ H T = none ∧ H' = upd H T (.tup [x, y, z]) ∧ xs i = some x ∧ ys i = some y ∧ zs i = some z
theorem walk_zip3 {K : PySem.W.Frag} {t1 t2 t3 : Bool} {a b c : Addr} {xs ys zs : List V} (h2 : xs.length = ys.length) (h3 : xs.length = zs.length) :
    Walk (ItzB K t1 t2 t3 a b c) xs.length (fun H => SqB K t1 H a xs ∧ SqB K t2 H b ys ∧ SqB K t3 H c zs) (YTrip (fun i => xs[i]?) (fun i => ys[i]?) fun i => zs[i]?) := by
  refine ⟨fun i _ hi q => ⟨xs, ys, zs, xs[i], ys[i]'(by omega), zs[i]'(by omega), q.1, q.2.1, q.2.2, by simp [hi], by simp [show i < ys.length by omega], by simp [show i < zs.length by omega]⟩, fun _ q => ⟨xs, ys, zs, q.1, q.2.1, q.2.2, rfl, h2.symm, h3.symm⟩, fun i H v H' _ q y => ?_⟩
  obtain ⟨T, x, y2, z, e1, e2, e3, e4, e5, e6⟩ := y
  exact ⟨T, x, y2, z, e1, e2, e3, e4 xs q.1, e5 ys q.2.1, e6 zs q.2.2⟩
theorem sqB_same {K : PySem.W.Frag} {t : Bool} {H H' : Hp} {a : Addr} {xs : List V} (s : Same H H') (h : SqB K t H a xs) : SqB K t H' a xs := by
  cases t
  · exact s.seq h
  · exact same_tup s h
theorem sqB_E {K : PySem.W.Frag} {H : Hp} {a : Addr} {xs : List V} (h : SqE K H a xs) : ∃ t, SqB K t H a xs := h.elim (fun h => ⟨false, h⟩) fun h => ⟨true, h⟩
/-- one def, either of two promises -/
theorem fn_or {P : Program} {w : World} {K : PySem.W.Frag} {mg : Str → Option Value} {base : Heap} {CX : CXT} {k : Nat} {f : Addr} {fd : FuncData} {ps : List Str} {sp sp' : Sp} (F : FnOk P w K mg base CX k f fd ps sp) (G : FnOk P w K mg base CX k f fd ps sp') :
    FnOk P w K mg base CX k f fd ps (fun vs H Q E => sp vs H Q E ∨ sp' vs H Q E) :=
  ⟨fun vs H Q E q => q.elim (F.len vs H Q E) (G.len vs H Q E), fun A outer s H args us vs Q E hr he hb hv hs => hs.elim (F.run A outer s H args us vs Q E hr he hb hv) (G.run A outer s H args us vs Q E hr he hb hv)⟩
end LX

/-! dressed data; values of any kind -/
namespace LP
open PySem L2 LT LG LX LS
def mkD (t : Bool) (l : List PyData) : PyData := match t with | true => .tuple l | false => .list l
theorem mk_dp {K : PySem.W.Frag} {t : Bool} {H : Hp} {p : Addr} {vs : List V} {ds : List PyData} (h : LX.SqB K t H p vs) (a : DpAll K H vs ds) : Dp K H (.ref p) (mkD t ds) := by
  cases t
  · exact .lst h a
  · exact .tup h a
theorem mk_sm {t : Bool} {k w : Nat} {l : List PyData} (h : ∀ d ∈ l, LG.Sm d k w) : LG.Sm (mkD t l) (k + 1) ((w + 1) * l.length) := by
  cases t
  · exact LG.Sm.list h
  · exact LG.Sm.tup h
theorem sqB_f {K : PySem.W.Frag} {t : Bool} {H H' : Hp} {b p : Addr} {vs : List V} (f : Fr H H' b) (h : LX.SqB K t H p vs) (n : p ≠ b) : LX.SqB K t H' p vs := by
  cases t
  · exact LS.fr_seq f h n
  · exact LS.fr_tup f h n
theorem sqE_B {K : PySem.W.Frag} {t : Bool} {H : Hp} {p : Addr} {vs : List V} (h : LX.SqB K t H p vs) : SqE K H p vs := by
  cases t
  · exact .inl h
  · exact .inr h
theorem sm_iD {t : Bool} {ns : List Int} (h : ∀ x ∈ ns, x.natAbs < 10 ^ 31) (hl : ns.length ≤ 200) : LG.Sm (mkD t (ns.map PyData.int)) 1 24400 := by
  have := mk_sm (t := t) (k := 0) (w := 121) (l := ns.map PyData.int) (fun d hd => by obtain ⟨i, hi, rfl⟩ := List.mem_map.mp hd; exact LG.Sm.int (h i hi))
  rw [List.length_map] at this
  exact this.mono (Nat.le_refl _) (by omega)
/-! ## kinds of values -/
theorem tyx_s {K : PySem.W.Frag} {H H' : Hp} (s : Same H H') {x : V} {t : Value} (h : TyX K H x t) : TyX K H' x t := by
  cases h with
  | base h =>
    refine .base ?_
    cases h with
    | non => exact .non
    | bl x => exact .bl x
    | int i => exact .int i
    | str x => exact .str x
    | flt x => exact .flt x
    | lst e => exact .lst (s _ _ e)
    | frz e => exact .frz (s _ _ e)
    | tup e => exact .tup (s _ _ e)
    | dK e => exact .dK (s _ _ e)
    | dT e => exact .dT (s _ _ e)
    | ins e a b c d f => exact .ins (s _ _ e) a b c d f
  | byt b => exact .byt b
  | set e => exact .set (s _ _ e)
  | kList e c => exact .kList e c
  | kTuple e c => exact .kTuple e c
  | kDict e c => exact .kDict e c
  | fTuple e => exact .fTuple (s _ _ e)
  | fDict e => exact .fDict (s _ _ e)
/-- x is a number of one of c things, or not: b tells it -/
def Kd (K : PySem.W.Frag) (H : Hp) (x : V) (c : Int) (b : Bool) : Prop := (∃ i : Int, x = .int i ∧ b = decide (0 ≤ i ∧ i < c)) ∨ (b = false ∧ (TyX K H x (.type "bool") ∨ ∃ t : String, kitB t "int" = some false ∧ TyX K H x (.type t)))
theorem kd_s {K : PySem.W.Frag} {H H' : Hp} (s : Same H H') {x : V} {c : Int} {b : Bool} (h : Kd K H x c b) : Kd K H' x c b := by
  rcases h with h | ⟨h1, h | ⟨t, h2, h3⟩⟩
  · exact .inl h
  · exact .inr ⟨h1, .inl (tyx_s s h)⟩
  · exact .inr ⟨h1, .inr ⟨t, h2, tyx_s s h3⟩⟩
theorem kd_i {K : PySem.W.Frag} {H : Hp} {i c : Int} : Kd K H (.int i) c (decide (0 ≤ i ∧ i < c)) := .inl ⟨i, rfl, rfl⟩
theorem kd_no {K : PySem.W.Frag} {H : Hp} {i c : Int} (h : ¬ (0 ≤ i ∧ i < c)) : Kd K H (.int i) c false := .inl ⟨i, rfl, (decide_eq_false h).symm⟩
theorem kd_b {K : PySem.W.Frag} {H : Hp} {x : Bool} {c : Int} : Kd K H (.bl x) c false := .inr ⟨rfl, .inl (.base (.bl x))⟩
theorem kd_s' {K : PySem.W.Frag} {H : Hp} {x : Str} {c : Int} : Kd K H (.str x) c false := .inr ⟨rfl, .inr ⟨"str", by decide +kernel, .base (.str x)⟩⟩
theorem kd_n {K : PySem.W.Frag} {H : Hp} {c : Int} : Kd K H .non c false := .inr ⟨rfl, .inr ⟨"NoneType", by decide +kernel, .base .non⟩⟩
theorem kd_l {K : PySem.W.Frag} {H : Hp} {a : Addr} {xs : List V} {c : Int} (h : H a = some (.lst xs)) : Kd K H (.ref a) c false := .inr ⟨rfl, .inr ⟨"list", by decide +kernel, .base (.lst h)⟩⟩
theorem kd_t {K : PySem.W.Frag} {H : Hp} {a : Addr} {xs : List V} {c : Int} (h : H a = some (.tup xs)) : Kd K H (.ref a) c false := .inr ⟨rfl, .inr ⟨"tuple", by decide +kernel, .base (.tup h)⟩⟩
theorem kd_d {K : PySem.W.Frag} {H : Hp} {a : Addr} {kvs : List (Key × V)} {c : Int} (h : H a = some (.dK kvs)) : Kd K H (.ref a) c false := .inr ⟨rfl, .inr ⟨"dict", by decide +kernel, .base (.dK h)⟩⟩
/-- no list and no tuple -/
def NoLs (K : PySem.W.Frag) (H : Hp) (x : V) : Prop := ∃ t : String, kitB t "list" = some false ∧ kitB t "tuple" = some false ∧ TyX K H x (.type t)
theorem nols_s {K : PySem.W.Frag} {H H' : Hp} (s : Same H H') {x : V} (h : NoLs K H x) : NoLs K H' x := by
  obtain ⟨t, a, b, c⟩ := h
  exact ⟨t, a, b, tyx_s s c⟩
theorem nols_i {K : PySem.W.Frag} {H : Hp} {i : Int} : NoLs K H (.int i) := ⟨"int", by decide +kernel, by decide +kernel, .base (.int i)⟩
theorem nols_b {K : PySem.W.Frag} {H : Hp} {i : Bool} : NoLs K H (.bl i) := ⟨"bool", by decide +kernel, by decide +kernel, .base (.bl i)⟩
theorem nols_s' {K : PySem.W.Frag} {H : Hp} {i : Str} : NoLs K H (.str i) := ⟨"str", by decide +kernel, by decide +kernel, .base (.str i)⟩
theorem nols_n {K : PySem.W.Frag} {H : Hp} : NoLs K H .non := ⟨"NoneType", by decide +kernel, by decide +kernel, .base .non⟩
theorem nols_d {K : PySem.W.Frag} {H : Hp} {a : Addr} {kvs : List (Key × V)} (h : H a = some (.dK kvs)) : NoLs K H (.ref a) := ⟨"dict", by decide +kernel, by decide +kernel, .base (.dK h)⟩
theorem isiT_no {K : PySem.W.Frag} {H : Hp} {Q : VK} {x : V} {p : Addr} (n : NoLs K H x) (h : H p = some (.tup [.ty "list", .ty "tuple"])) (q : Q (.bl false) H) : rIsiT K [x, .ref p] H Q := by
  obtain ⟨t, a, b, c⟩ := n
  exact ⟨x, p, _, .type t, [.type "list", .type "tuple"], false, rfl, h, .cons (.ty _) (.cons (.ty _) .nil), c, kit_no t a b, q⟩
section
variable (K : PySem.W.Frag)
def sp_is_wholeV : Sp := fun vs H Q _ => ∃ (x : V) (b : Bool), vs = [x] ∧ ((b = true ∧ ∃ i, x = .int i) ∨ (b = false ∧ (TyX K H x (.type "bool") ∨ ∃ t : String, kitB t "int" = some false ∧ TyX K H x (.type t)))) ∧ Q (.bl b) H
def sp_is_listedV : Sp := fun vs H Q _ => ∃ x : V, vs = [x] ∧ NoLs K H x ∧ ∀ H', Same H H' → Q (.bl false) H'
def sp_is_numberV : Sp := fun vs H Q _ => ∃ (x : V) (c : Int) (b : Bool), vs = [x, .int c] ∧ Kd K H x c b ∧ Q (.bl b) H
end
end LP
namespace LS
open PySem L2 LT LG LP LX
theorem dnew {σ : L2.St} {H : Hp} {Q : VK} (k : ∀ (p : Addr) (H' : Hp), H p = none → Same H H' → H' p = some (.dK []) → Q (.ref p) H') : tDNewK σ H Q := fun p np => k p _ np (same_upd np) upd_same
theorem disp1 {σ : L2.St} {H : Hp} {Q : VK} {x : Str} {v : V} (k : ∀ (p : Addr) (H' : Hp), H p = none → Same H H' → H' p = some (.dK (mergeK [] [(Sum.inr x, v)])) → Q (.ref p) H') : tDisp [(tC (.str x), tC v)] σ H Q := fun p np =>
  ⟨upd_same, [(Sum.inr x, v)], rfl, by simp, k p _ np (fun b o h => by rw [upd_ne (ne_of_none h np), upd_ne (ne_of_none h np)]; exact h) upd_same⟩
theorem rnotn_r {H : Hp} {Q : VK} {p : Addr} (q : Q (.bl true) H) : rNotN (.ref p) .non H Q := ⟨rfl, q⟩
theorem risn_r {H : Hp} {Q : VK} {p : Addr} (q : Q (.bl false) H) : rIsN (.ref p) .non H Q := ⟨rfl, q⟩
theorem rnotb {H : Hp} {Q : VK} {a b : Bool} (q : Q (.bl (!decide (a = b))) H) : rNotB (.bl a) (.bl b) H Q := ⟨a, b, rfl, rfl, q⟩
theorem risb {H : Hp} {Q : VK} {a b : Bool} (q : Q (.bl (decide (a = b))) H) : rIsB (.bl a) (.bl b) H Q := ⟨a, b, rfl, rfl, q⟩
end LS
namespace LP
/-- two lists, item by item -/
theorem fa_app {α β : Type} {R : α → β → Prop} {xs ys : List α} {bs cs : List β} (hl : xs.length = bs.length) (h1 : ∀ (i : Nat) x b, xs[i]? = some x → bs[i]? = some b → R x b) (h2 : ∀ (i : Nat) x b, ys[i]? = some x → cs[i]? = some b → R x b) :
    ∀ (i : Nat) x b, (xs ++ ys)[i]? = some x → (bs ++ cs)[i]? = some b → R x b := fun i x b hx hb => by
  rcases Nat.lt_or_ge i xs.length with q | q
  · rw [List.getElem?_append_left q] at hx
    rw [List.getElem?_append_left (by omega)] at hb
    exact h1 i x b hx hb
  · rw [List.getElem?_append_right q] at hx
    rw [List.getElem?_append_right (by omega), ← hl] at hb
    exact h2 _ x b hx hb
theorem fa_one {α β : Type} {R : α → β → Prop} {x : α} {b : β} (h : R x b) : ∀ (i : Nat) x' b', [x][i]? = some x' → [b][i]? = some b' → R x' b' := fun i x' b' hx hb => by
  cases i with
  | zero => cases hx; cases hb; exact h
  | succ i => simp at hx
open PySem L2 LX in
theorem fa_ints {K : PySem.W.Frag} {H : Hp} {c : Int} (w : List Int) : ∀ (i : Nat) x b, (w.map V.int)[i]? = some x → (w.map fun y => decide (0 ≤ y ∧ y < c))[i]? = some b → Kd K H x c b := fun i x b hx hb => by
  rw [List.getElem?_map] at hx hb
  cases q : w[i]? with
  | none => rw [q] at hx; cases hx
  | some y => rw [q] at hx hb; cases hx; cases hb; exact kd_i
end LP

namespace LT
end LT
namespace LG
end LG
namespace LQ
end LQ
namespace LH
end LH
namespace LC
end LC
namespace LX
end LX
namespace LR
end LR
namespace LP
open PySem L2 LT LG LQ LH LC LX
def topS (i : Nat) : Stmt := PySem.Challenge.pw_leftreturn_k01_schedules_performed.main.body.getD i (.Pass ⟨0, 0, 0, 0⟩)
abbrev s_is_whole : Stmt := topS 7
abbrev s_is_listed : Stmt := topS 8
abbrev s_check_size : Stmt := topS 9
abbrev s_Shelf_init : Stmt := inClass (topS 12) 0
abbrev s_Shelf_can_take : Stmt := inClass (topS 12) 1
abbrev s_Shelf_can_return : Stmt := inClass (topS 12) 2
abbrev s_Shelf_first_gap : Stmt := inClass (topS 12) 3
abbrev s_Shelf_take_from : Stmt := inClass (topS 12) 4
abbrev s_Shelf_put_back : Stmt := inClass (topS 12) 5
abbrev s_can_perform : Stmt := topS 13
abbrev s_run_schedule : Stmt := topS 14
abbrev s_is_schedule : Stmt := topS 15
abbrev s_books_after : Stmt := topS 16
abbrev s_books_out : Stmt := topS 17
abbrev s_places_filled : Stmt := topS 18
abbrev s_most_out : Stmt := topS 19
abbrev s__law_bag : Stmt := topS 21
abbrev s__law_stir : Stmt := topS 22
abbrev s__law_draw : Stmt := topS 23
abbrev s__law_either : Stmt := topS 25
abbrev s__law_size : Stmt := topS 26
abbrev s__law_can : Stmt := topS 27
abbrev s__law_played : Stmt := topS 28
abbrev s__law_schedule : Stmt := topS 29
abbrev s__law_dressed : Stmt := topS 30
abbrev s__law_told : Stmt := topS 31
abbrev s__law_right : Stmt := topS 32
abbrev s_law : Stmt := topS 33
theorem sc_is_whole : FnScope ["value"] ["value"] (defScope s_is_whole) := ⟨rfl, rfl, rfl, by decide +kernel, rfl, by decide +kernel, by decide +kernel⟩
theorem sc_is_listed : FnScope ["value"] ["value"] (defScope s_is_listed) := ⟨rfl, rfl, rfl, by decide +kernel, rfl, by decide +kernel, by decide +kernel⟩
theorem sc_check_size : FnScope ["size"] ["size"] (defScope s_check_size) := ⟨rfl, rfl, rfl, by decide +kernel, rfl, by decide +kernel, by decide +kernel⟩
theorem sc_Shelf_init : FnScope ["self", "size"] ["self", "size"] (defScope s_Shelf_init) := ⟨rfl, rfl, rfl, by decide +kernel, rfl, by decide +kernel, by decide +kernel⟩
theorem sc_Shelf_can_take : FnScope ["self", "place"] ["self", "place"] (defScope s_Shelf_can_take) := ⟨rfl, rfl, rfl, by decide +kernel, rfl, by decide +kernel, by decide +kernel⟩
theorem sc_Shelf_can_return : FnScope ["self", "book"] ["self", "book"] (defScope s_Shelf_can_return) := ⟨rfl, rfl, rfl, by decide +kernel, rfl, by decide +kernel, by decide +kernel⟩
theorem sc_Shelf_first_gap : FnScope ["self"] ["self"] (defScope s_Shelf_first_gap) := ⟨rfl, rfl, rfl, by decide +kernel, rfl, by decide +kernel, by decide +kernel⟩
theorem sc_Shelf_take_from : FnScope ["self", "place", "book"] ["self", "place"] (defScope s_Shelf_take_from) := ⟨rfl, rfl, rfl, by decide +kernel, rfl, by decide +kernel, by decide +kernel⟩
theorem sc_Shelf_put_back : FnScope ["self", "book", "place"] ["self", "book"] (defScope s_Shelf_put_back) := ⟨rfl, rfl, rfl, by decide +kernel, rfl, by decide +kernel, by decide +kernel⟩
theorem sc_can_perform : FnScope ["shelf", "value", "word", "number"] ["shelf", "value"] (defScope s_can_perform) := ⟨rfl, rfl, rfl, by decide +kernel, rfl, by decide +kernel, by decide +kernel⟩
theorem sc_run_schedule : FnScope ["size", "schedule", "shelf", "filled", "most", "index", "operation", "word", "number"] ["size", "schedule"] (defScope s_run_schedule) := ⟨rfl, rfl, rfl, by decide +kernel, rfl, by decide +kernel, by decide +kernel⟩
theorem sc_is_schedule : FnScope ["size", "value"] ["size", "value"] (defScope s_is_schedule) := ⟨rfl, rfl, rfl, by decide +kernel, rfl, by decide +kernel, by decide +kernel⟩
theorem sc_books_after : FnScope ["size", "schedule", "shelf", "_"] ["size", "schedule"] (defScope s_books_after) := ⟨rfl, rfl, rfl, by decide +kernel, rfl, by decide +kernel, by decide +kernel⟩
theorem sc_books_out : FnScope ["size", "schedule", "shelf", "_"] ["size", "schedule"] (defScope s_books_out) := ⟨rfl, rfl, rfl, by decide +kernel, rfl, by decide +kernel, by decide +kernel⟩
theorem sc_places_filled : FnScope ["size", "schedule", "_", "filled"] ["size", "schedule"] (defScope s_places_filled) := ⟨rfl, rfl, rfl, by decide +kernel, rfl, by decide +kernel, by decide +kernel⟩
theorem sc_most_out : FnScope ["size", "schedule", "_", "most"] ["size", "schedule"] (defScope s_most_out) := ⟨rfl, rfl, rfl, by decide +kernel, rfl, by decide +kernel, by decide +kernel⟩
theorem sc__law_bag : FnScope ["script", "total", "cell"] ["script"] (defScope s__law_bag) := ⟨rfl, rfl, rfl, by decide +kernel, rfl, by decide +kernel, by decide +kernel⟩
theorem sc__law_stir : FnScope ["number", "place", "one", "two"] ["number", "place"] (defScope s__law_stir) := ⟨rfl, rfl, rfl, by decide +kernel, rfl, by decide +kernel, by decide +kernel⟩
theorem sc__law_draw : FnScope ["bag", "bound", "cell", "found"] ["bag", "bound"] (defScope s__law_draw) := ⟨rfl, rfl, rfl, by decide +kernel, rfl, by decide +kernel, by decide +kernel⟩
theorem sc__law_either : FnScope ["bag", "items"] ["bag", "items"] (defScope s__law_either) := ⟨rfl, rfl, rfl, by decide +kernel, rfl, by decide +kernel, by decide +kernel⟩
theorem sc__law_size : FnScope ["bag"] ["bag"] (defScope s__law_size) := ⟨rfl, rfl, rfl, by decide +kernel, rfl, by decide +kernel, by decide +kernel⟩
theorem sc__law_can : FnScope ["books", "out", "one"] ["books", "out", "one"] (defScope s__law_can) := ⟨rfl, rfl, rfl, by decide +kernel, rfl, by decide +kernel, by decide +kernel⟩
theorem sc__law_played : FnScope ["size", "rows", "books", "out", "filled", "most", "at", "one", "place", "k"] ["size", "rows"] (defScope s__law_played) := ⟨rfl, rfl, rfl, by decide +kernel, rfl, by decide +kernel, by decide +kernel⟩
theorem sc__law_schedule : FnScope ["bag", "size", "most", "books", "out", "found", "share", "step", "places", "place", "book"] ["bag", "size", "most"] (defScope s__law_schedule) := ⟨rfl, rfl, rfl, by decide +kernel, rfl, by decide +kernel, by decide +kernel⟩
theorem sc__law_dressed : FnScope ["bag", "rows", "one"] ["bag", "rows"] (defScope s__law_dressed) := ⟨rfl, rfl, rfl, by decide +kernel, rfl, by decide +kernel, by decide +kernel⟩
theorem sc__law_told : FnScope ["size", "rows", "found"] ["size", "rows"] (defScope s__law_told) := ⟨rfl, rfl, rfl, by decide +kernel, rfl, by decide +kernel, by decide +kernel⟩
theorem sc__law_right : FnScope ["bag", "size", "rows", "passed", "kept", "due", "step", "found", "part"] ["bag", "size", "rows"] (defScope s__law_right) := ⟨rfl, rfl, rfl, by decide +kernel, rfl, by decide +kernel, by decide +kernel⟩
theorem sc_law : FnScope ["script", "bag", "turn", "size", "rows", "held", "step", "first", "short", "found", "one"] ["script"] (defScope s_law) := ⟨rfl, rfl, rfl, by decide +kernel, rfl, by decide +kernel, by decide +kernel⟩
structure Env (K : PySem.W.Frag) (mg : Str → Option Value) where
  n_len : mg "len" = none
  n_range : mg "range" = none
  n_list : mg "list" = none
  n_tuple : mg "tuple" = none
  n_int : mg "int" = none
  n_bool : mg "bool" = none
  n_isinstance : mg "isinstance" = none
  n_min : mg "min" = none
  n_max : mg "max" = none
  n_enumerate : mg "enumerate" = none
  n_str : mg "str" = none
  n_sorted : mg "sorted" = none
  n_repr : mg "repr" = none
  t_MOST_SIZE : Tok
  g_MOST_SIZE : mg "MOST_SIZE" = some (.int 200 t_MOST_SIZE)
  t_MOST_OPERATIONS : Tok
  g_MOST_OPERATIONS : mg "MOST_OPERATIONS" = some (.int 400 t_MOST_OPERATIONS)
  C_Shelf : Addr
  g_Shelf : mg "Shelf" = some (.ref C_Shelf)
  cl_Shelf : Cls K C_Shelf
  nA_Shelf_books : NoAttr K C_Shelf "books"
  nA_Shelf_out : NoAttr K C_Shelf "out"
  a_is_whole : Addr
  d_is_whole : FuncData
  f_is_whole : Fun K "is_whole" "is_whole" s_is_whole a_is_whole d_is_whole
  b_is_whole : Binds K d_is_whole ["value"] []
  g_is_whole : mg "is_whole" = some (.ref a_is_whole)
  a_is_listed : Addr
  d_is_listed : FuncData
  f_is_listed : Fun K "is_listed" "is_listed" s_is_listed a_is_listed d_is_listed
  b_is_listed : Binds K d_is_listed ["value"] []
  g_is_listed : mg "is_listed" = some (.ref a_is_listed)
  a_check_size : Addr
  d_check_size : FuncData
  f_check_size : Fun K "check_size" "check_size" s_check_size a_check_size d_check_size
  b_check_size : Binds K d_check_size ["size"] []
  g_check_size : mg "check_size" = some (.ref a_check_size)
  a_Shelf_init : Addr
  d_Shelf_init : FuncData
  f_Shelf_init : Fun K "__init__" "Shelf.__init__" s_Shelf_init a_Shelf_init d_Shelf_init
  b_Shelf_init : Binds K d_Shelf_init ["self", "size"] []
  mk_Shelf : Mk K C_Shelf a_Shelf_init
  a_Shelf_can_take : Addr
  d_Shelf_can_take : FuncData
  f_Shelf_can_take : Fun K "can_take" "Shelf.can_take" s_Shelf_can_take a_Shelf_can_take d_Shelf_can_take
  b_Shelf_can_take : Binds K d_Shelf_can_take ["self", "place"] []
  m_Shelf_can_take : Meth K C_Shelf "can_take" a_Shelf_can_take
  a_Shelf_can_return : Addr
  d_Shelf_can_return : FuncData
  f_Shelf_can_return : Fun K "can_return" "Shelf.can_return" s_Shelf_can_return a_Shelf_can_return d_Shelf_can_return
  b_Shelf_can_return : Binds K d_Shelf_can_return ["self", "book"] []
  m_Shelf_can_return : Meth K C_Shelf "can_return" a_Shelf_can_return
  a_Shelf_first_gap : Addr
  d_Shelf_first_gap : FuncData
  f_Shelf_first_gap : Fun K "first_gap" "Shelf.first_gap" s_Shelf_first_gap a_Shelf_first_gap d_Shelf_first_gap
  b_Shelf_first_gap : Binds K d_Shelf_first_gap ["self"] []
  m_Shelf_first_gap : Meth K C_Shelf "first_gap" a_Shelf_first_gap
  a_Shelf_take_from : Addr
  d_Shelf_take_from : FuncData
  f_Shelf_take_from : Fun K "take_from" "Shelf.take_from" s_Shelf_take_from a_Shelf_take_from d_Shelf_take_from
  b_Shelf_take_from : Binds K d_Shelf_take_from ["self", "place"] []
  m_Shelf_take_from : Meth K C_Shelf "take_from" a_Shelf_take_from
  a_Shelf_put_back : Addr
  d_Shelf_put_back : FuncData
  f_Shelf_put_back : Fun K "put_back" "Shelf.put_back" s_Shelf_put_back a_Shelf_put_back d_Shelf_put_back
  b_Shelf_put_back : Binds K d_Shelf_put_back ["self", "book"] []
  m_Shelf_put_back : Meth K C_Shelf "put_back" a_Shelf_put_back
  a_can_perform : Addr
  d_can_perform : FuncData
  f_can_perform : Fun K "can_perform" "can_perform" s_can_perform a_can_perform d_can_perform
  b_can_perform : Binds K d_can_perform ["shelf", "value"] []
  g_can_perform : mg "can_perform" = some (.ref a_can_perform)
  a_run_schedule : Addr
  d_run_schedule : FuncData
  f_run_schedule : Fun K "run_schedule" "run_schedule" s_run_schedule a_run_schedule d_run_schedule
  b_run_schedule : Binds K d_run_schedule ["size", "schedule"] []
  g_run_schedule : mg "run_schedule" = some (.ref a_run_schedule)
  a_is_schedule : Addr
  d_is_schedule : FuncData
  f_is_schedule : Fun K "is_schedule" "is_schedule" s_is_schedule a_is_schedule d_is_schedule
  b_is_schedule : Binds K d_is_schedule ["size", "value"] []
  g_is_schedule : mg "is_schedule" = some (.ref a_is_schedule)
  a_books_after : Addr
  d_books_after : FuncData
  f_books_after : Fun K "books_after" "books_after" s_books_after a_books_after d_books_after
  b_books_after : Binds K d_books_after ["size", "schedule"] []
  g_books_after : mg "books_after" = some (.ref a_books_after)
  a_books_out : Addr
  d_books_out : FuncData
  f_books_out : Fun K "books_out" "books_out" s_books_out a_books_out d_books_out
  b_books_out : Binds K d_books_out ["size", "schedule"] []
  g_books_out : mg "books_out" = some (.ref a_books_out)
  a_places_filled : Addr
  d_places_filled : FuncData
  f_places_filled : Fun K "places_filled" "places_filled" s_places_filled a_places_filled d_places_filled
  b_places_filled : Binds K d_places_filled ["size", "schedule"] []
  g_places_filled : mg "places_filled" = some (.ref a_places_filled)
  a_most_out : Addr
  d_most_out : FuncData
  f_most_out : Fun K "most_out" "most_out" s_most_out a_most_out d_most_out
  b_most_out : Binds K d_most_out ["size", "schedule"] []
  g_most_out : mg "most_out" = some (.ref a_most_out)
  a__law_bag : Addr
  d__law_bag : FuncData
  f__law_bag : Fun K "_law_bag" "_law_bag" s__law_bag a__law_bag d__law_bag
  b__law_bag : Binds K d__law_bag ["script"] []
  g__law_bag : mg "_law_bag" = some (.ref a__law_bag)
  a__law_stir : Addr
  d__law_stir : FuncData
  f__law_stir : Fun K "_law_stir" "_law_stir" s__law_stir a__law_stir d__law_stir
  b__law_stir : Binds K d__law_stir ["number", "place"] []
  g__law_stir : mg "_law_stir" = some (.ref a__law_stir)
  a__law_draw : Addr
  d__law_draw : FuncData
  f__law_draw : Fun K "_law_draw" "_law_draw" s__law_draw a__law_draw d__law_draw
  b__law_draw : Binds K d__law_draw ["bag", "bound"] []
  g__law_draw : mg "_law_draw" = some (.ref a__law_draw)
  a__law_either : Addr
  d__law_either : FuncData
  f__law_either : Fun K "_law_either" "_law_either" s__law_either a__law_either d__law_either
  b__law_either : Binds K d__law_either ["bag", "items"] []
  g__law_either : mg "_law_either" = some (.ref a__law_either)
  a__law_size : Addr
  d__law_size : FuncData
  f__law_size : Fun K "_law_size" "_law_size" s__law_size a__law_size d__law_size
  b__law_size : Binds K d__law_size ["bag"] []
  g__law_size : mg "_law_size" = some (.ref a__law_size)
  a__law_can : Addr
  d__law_can : FuncData
  f__law_can : Fun K "_law_can" "_law_can" s__law_can a__law_can d__law_can
  b__law_can : Binds K d__law_can ["books", "out", "one"] []
  g__law_can : mg "_law_can" = some (.ref a__law_can)
  a__law_played : Addr
  d__law_played : FuncData
  f__law_played : Fun K "_law_played" "_law_played" s__law_played a__law_played d__law_played
  b__law_played : Binds K d__law_played ["size", "rows"] []
  g__law_played : mg "_law_played" = some (.ref a__law_played)
  a__law_schedule : Addr
  d__law_schedule : FuncData
  f__law_schedule : Fun K "_law_schedule" "_law_schedule" s__law_schedule a__law_schedule d__law_schedule
  b__law_schedule : Binds K d__law_schedule ["bag", "size", "most"] []
  g__law_schedule : mg "_law_schedule" = some (.ref a__law_schedule)
  a__law_dressed : Addr
  d__law_dressed : FuncData
  f__law_dressed : Fun K "_law_dressed" "_law_dressed" s__law_dressed a__law_dressed d__law_dressed
  b__law_dressed : Binds K d__law_dressed ["bag", "rows"] []
  g__law_dressed : mg "_law_dressed" = some (.ref a__law_dressed)
  a__law_told : Addr
  d__law_told : FuncData
  f__law_told : Fun K "_law_told" "_law_told" s__law_told a__law_told d__law_told
  b__law_told : Binds K d__law_told ["size", "rows"] []
  g__law_told : mg "_law_told" = some (.ref a__law_told)
  a__law_right : Addr
  d__law_right : FuncData
  f__law_right : Fun K "_law_right" "_law_right" s__law_right a__law_right d__law_right
  b__law_right : Binds K d__law_right ["bag", "size", "rows"] []
  g__law_right : mg "_law_right" = some (.ref a__law_right)
  a_law : Addr
  d_law : FuncData
  f_law : Fun K "law" "law" s_law a_law d_law
  b_law : Binds K d_law ["script"] []
  g_law : mg "law" = some (.ref a_law)
end LP

namespace LP
open PySem L2 LT LG LQ LH LC LX LR
local macro_rules | `(tactic| array_mem_dec) => `(tactic| first
  | assumption
  | ((with_reducible apply LS.hp_s); assumption; array_mem_dec)
  | ((with_reducible apply LS.hp_f); assumption; array_mem_dec; array_mem_dec)
  | ((with_reducible apply LS.hp_t); assumption; array_mem_dec; array_mem_dec)
  | ((with_reducible apply LS.hp_l); assumption; array_mem_dec; array_mem_dec)
  | ((with_reducible apply LS.sq_o); array_mem_dec)
  | ((with_reducible apply LS.sq_s); assumption; array_mem_dec)
  | ((with_reducible apply LS.sq_f); assumption; array_mem_dec; array_mem_dec)
  | ((with_reducible apply LS.sq_t); assumption; array_mem_dec; array_mem_dec)
  | ((with_reducible apply LS.sq_l); assumption; array_mem_dec; array_mem_dec)
  | ((with_reducible apply LS.tu_o); array_mem_dec)
  | ((with_reducible apply LS.tu_s); assumption; array_mem_dec)
  | ((with_reducible apply LS.tu_f); assumption; array_mem_dec; array_mem_dec)
  | ((with_reducible apply LS.tu_t); assumption; array_mem_dec; array_mem_dec)
  | ((with_reducible apply LS.tu_l); assumption; array_mem_dec; array_mem_dec)
  | ((with_reducible apply LS.se_l); array_mem_dec)
  | ((with_reducible apply LS.se_t); array_mem_dec)
  | ((with_reducible apply LS.se_s); assumption; array_mem_dec)
  | ((with_reducible apply LS.se_f); assumption; array_mem_dec; array_mem_dec)
  | ((with_reducible apply LS.se_tt); assumption; array_mem_dec; array_mem_dec)
  | ((with_reducible exact Same.refl _))
  | ((with_reducible apply LS.sm_s); assumption; array_mem_dec)
  | ((with_reducible apply LS.sm_f); assumption; array_mem_dec; array_mem_dec)
  | ((with_reducible exact Fr.refl _ _))
  | ((with_reducible apply LS.fr_b); assumption; array_mem_dec)
  | ((with_reducible apply LS.fr_s); assumption; array_mem_dec)
  | ((with_reducible apply LS.fr_n); assumption; array_mem_dec; array_mem_dec)
  | ((with_reducible apply LS.fr_t); assumption; array_mem_dec)
  | ((with_reducible apply LS.no_s); assumption; array_mem_dec)
  | ((with_reducible apply LS.no_f); assumption; array_mem_dec; array_mem_dec)
  | ((with_reducible apply LS.no_t); assumption; array_mem_dec)
  | ((with_reducible apply LS.no_l); assumption; assumption)
  | ((with_reducible apply Ne.symm); assumption)
  | ((with_reducible apply LS.ne_a); assumption; array_mem_dec)
  | ((with_reducible apply LS.ne_b); assumption; array_mem_dec)
  | ((with_reducible apply LS.ne_ap); assumption)
  | ((with_reducible apply LS.ne_il); assumption; array_mem_dec)
  | ((with_reducible apply LS.ne_li); assumption; array_mem_dec)
  | ((with_reducible apply LS.ne_lt); assumption; assumption)
  | ((with_reducible apply LS.ne_tl); assumption; assumption)
  | ((with_reducible apply LS.ne_rl); assumption; array_mem_dec)
  | ((with_reducible apply LS.rl_t); assumption)
  | ((with_reducible apply LS.rl_s); assumption; array_mem_dec)
  | ((with_reducible apply LS.rl_f); assumption; array_mem_dec; array_mem_dec)
  | ((with_reducible apply LS.rl_l); assumption; array_mem_dec; array_mem_dec)
  | ((with_reducible apply LS.ap_new); assumption; assumption; array_mem_dec)
  | ((with_reducible apply LS.ap_t); assumption; array_mem_dec; array_mem_dec)
  | ((with_reducible apply LS.ap_s); assumption; array_mem_dec; array_mem_dec)
  | ((with_reducible apply LS.ap_f); assumption; array_mem_dec; array_mem_dec; array_mem_dec)
  | ((with_reducible apply LS.ap_l); assumption; array_mem_dec; array_mem_dec; array_mem_dec)
  | (with_reducible apply LS.ni_nil)
  | ((with_reducible apply LS.ni_cons); array_mem_dec; array_mem_dec)
  | (with_reducible apply LS.trk_nil)
  | ((with_reducible apply LS.trk_cons); array_mem_dec; array_mem_dec)
  | (with_reducible apply LS.al_nil)
  | ((with_reducible apply LS.al_cons); array_mem_dec; array_mem_dec)
  | (with_reducible apply LS.mem_hd)
  | ((with_reducible apply LS.mem_tl); array_mem_dec)
  | ((with_reducible apply LS.fl_refl); array_mem_dec)
  | ((with_reducible apply LS.fl_l); assumption; array_mem_dec)
  | ((with_reducible apply LS.fl_lm); assumption; array_mem_dec; array_mem_dec)
  | (with_reducible apply LS.sub_nil)
  | ((with_reducible apply LS.sub_cons); array_mem_dec; array_mem_dec)
  | ((with_reducible apply LS.fl_s); assumption; array_mem_dec)
  | ((with_reducible apply LS.fl_m); assumption; array_mem_dec; array_mem_dec; array_mem_dec)
  | ((with_reducible apply LS.fl_n); assumption; array_mem_dec; array_mem_dec; array_mem_dec)
  | ((with_reducible apply LS.rt_refl); array_mem_dec)
  | ((with_reducible apply LS.rt_t); assumption; array_mem_dec)
  | ((with_reducible apply LS.rt_s); assumption; array_mem_dec)
  | ((with_reducible apply LS.rt_f); assumption; array_mem_dec; array_mem_dec; array_mem_dec)
  | ((with_reducible apply LS.sz); (first | decide | (simp only [List.length_append, List.length_map, List.length_cons, List.length_nil, List.length_replicate]; omega)))
  | ((with_reducible apply LS.szl); (first | decide | (simp only [List.length_append, List.length_map, List.length_cons, List.length_nil, List.length_replicate]; omega))))
local macro_rules | `(tactic| array_get_dec) => `(tactic| first
  | ((with_reducible apply LS.var); exact rfl)
  | (with_reducible apply LS.con)
  | (with_reducible apply LS.op)
  | (with_reducible apply LS.ri0)
  | (with_reducible apply LS.tseq)
  | (with_reducible apply LS.tasg)
  | (with_reducible apply LS.gname)
  | (with_reducible apply LS.tcons)
  | (with_reducible apply LS.tnil)
  | (with_reducible apply LS.tcb)
  | (with_reducible apply LS.tcall)
  | (with_reducible apply LS.ttest)
  | (with_reducible apply LS.k_b)
  | (with_reducible apply LS.tb)
  | (with_reducible apply LS.tifs)
  | (with_reducible apply LS.ift)
  | (with_reducible apply LS.iff_)
  | (with_reducible apply LS.ifnt)
  | (with_reducible apply LS.ifnf)
  | (with_reducible apply LS.tnext)
  | (with_reducible apply LS.tdrop)
  | (with_reducible apply LS.tret)
  | (with_reducible apply LS.tretn)
  | (with_reducible apply LS.un)
  | (with_reducible apply LS.ru)
  | (with_reducible apply LS.tyes)
  | (with_reducible apply LS.tand)
  | (with_reducible apply LS.tor)
  | (with_reducible apply LS.tnot)
  | (with_reducible apply LS.tif)
  | (with_reducible apply LS.tandv)
  | (with_reducible apply LS.k_av)
  | (with_reducible apply LS.torv)
  | (with_reducible apply LS.k_ov)
  | (with_reducible apply LS.tnotv)
  | (with_reducible apply LS.k_nv)
  | (with_reducible apply LS.tchain)
  | (with_reducible apply LS.k_ch)
  | (with_reducible apply LS.req_i)
  | (with_reducible apply LS.rne_i)
  | (with_reducible apply LS.req_s)
  | (with_reducible apply LS.rne_s)
  | (with_reducible apply LS.req_b)
  | (with_reducible apply LS.rne_b)
  | ((with_reducible apply LS.rin_i); array_mem_dec)
  | ((with_reducible apply LS.rni_i); array_mem_dec)
  | ((with_reducible apply LS.rlen_li); array_mem_dec)
  | ((with_reducible apply LS.rlen_ls); array_mem_dec)
  | ((with_reducible apply LS.rlen_l); array_mem_dec)
  | ((with_reducible apply LS.rlen_Ei); array_mem_dec)
  | ((with_reducible apply LS.rlen_E); array_mem_dec)
  | ((with_reducible apply LS.rlen_t); array_mem_dec)
  | ((with_reducible apply LS.rixl); array_mem_dec; exact rfl)
  | ((with_reducible apply LS.rixt); array_mem_dec; exact rfl)
  | (with_reducible apply LS.isi_int_int)
  | (with_reducible apply LS.isi_int_bool)
  | (with_reducible apply LS.isi_int_str)
  | (with_reducible apply LS.isi_str_int)
  | (with_reducible apply LS.isi_str_bool)
  | (with_reducible apply LS.isi_str_str)
  | (with_reducible apply LS.isi_bool_int)
  | (with_reducible apply LS.isi_bool_bool)
  | (with_reducible apply LS.isi_bool_str)
  | (with_reducible apply LS.isi_non_int)
  | (with_reducible apply LS.isi_non_bool)
  | (with_reducible apply LS.isi_non_str)
  | ((with_reducible apply LS.isi_list_int); array_mem_dec)
  | ((with_reducible apply LS.isi_list_bool); array_mem_dec)
  | ((with_reducible apply LS.isi_list_str); array_mem_dec)
  | ((with_reducible apply LS.isi_list_list); array_mem_dec)
  | ((with_reducible apply LS.isi_list_tuple); array_mem_dec)
  | ((with_reducible apply LS.isi_tuple_int); array_mem_dec)
  | ((with_reducible apply LS.isi_tuple_bool); array_mem_dec)
  | ((with_reducible apply LS.isi_tuple_str); array_mem_dec)
  | ((with_reducible apply LS.isi_tuple_list); array_mem_dec)
  | ((with_reducible apply LS.isi_tuple_tuple); array_mem_dec)
  | ((with_reducible apply LS.isiT_i); array_mem_dec)
  | ((with_reducible apply LS.isiT_s); array_mem_dec)
  | ((with_reducible apply LS.isiT_E); array_mem_dec; array_mem_dec)
  | (with_reducible apply LS.tfld)
  | ((with_reducible apply LS.k_fl); array_mem_dec; assumption; assumption; exact rfl)
  | (with_reducible apply LS.tmeth)
  | ((with_reducible apply LS.k_me); array_mem_dec; exact rfl)
  | (with_reducible apply LS.tmake)
  | (with_reducible apply LS.tsfld)
  | (with_reducible apply LS.tprop)
  | ((with_reducible apply LS.k_pr); array_mem_dec)
  | ((with_reducible apply LS.rlen_own); array_mem_dec)
  | (with_reducible apply LS.rabs)
  | (with_reducible apply LS.rmin2)
  | (with_reducible apply LS.rmax2)
  | (with_reducible apply LS.tsl)
  | (with_reducible apply LS.tthen)
  | (with_reducible apply LS.tstep)
  | (with_reducible apply LS.tnop)
  | (with_reducible apply LS.tpart)
  | (with_reducible apply LS.k_part)
  | (with_reducible apply LS.ttup)
  | (with_reducible apply LS.tlst)
  | (with_reducible apply LS.tbm)
  | (with_reducible apply LS.tbm0)
  | ((with_reducible apply LS.ty_l); array_mem_dec)
  | (with_reducible apply LS.tpar)
  | (with_reducible apply LS.tfor)
  | (with_reducible apply LS.tlc)
  | (with_reducible apply LS.ilist)
  | ((with_reducible apply LS.k_il); array_mem_dec)
  | (with_reducible apply LS.itup)
  | ((with_reducible apply LS.k_it); array_mem_dec)
  | (with_reducible apply LS.istr)
  | (with_reducible apply LS.k_is)
  | (with_reducible apply LS.irng1)
  | ((with_reducible apply LS.k_r1n); omega)
  | ((with_reducible apply LS.k_r1); (first | omega | decide); (first | omega | decide))
  | (with_reducible apply LS.irng2)
  | ((with_reducible apply LS.k_r2); (first | omega | decide); (first | omega | decide); (first | omega | decide); (first | omega | decide))
  | (with_reducible apply LS.ienum)
  | ((with_reducible apply LS.k_en); array_mem_dec)
  | (with_reducible apply LS.izip)
  | ((with_reducible apply LS.k_zip); array_mem_dec; array_mem_dec)
  | (with_reducible apply LS.tlstrg)
  | (with_reducible apply LS.trg1)
  | (with_reducible apply LS.k_g1)
  | (with_reducible apply LS.risn_i)
  | (with_reducible apply LS.risn_s)
  | (with_reducible apply LS.risn_n)
  | (with_reducible apply LS.rnotn_i)
  | (with_reducible apply LS.rnotn_n)
  | (with_reducible apply LS.rint_b)
  | (with_reducible apply LS.rint_i)
  | (with_reducible apply LS.tm0)
  | (with_reducible apply LS.tm1)
  | (with_reducible apply LS.is_str)
  | (with_reducible apply LS.ex_s0)
  | (with_reducible apply LS.ex_int_b)
  | (with_reducible apply LS.k_par)
  | (with_reducible apply LS.tpar3)
  | (with_reducible apply LS.k_par3)
  | ((with_reducible apply LS.taug); exact rfl)
  | (with_reducible apply LS.ipi)
  | ((with_reducible apply LS.gtup); array_mem_dec; exact rfl)
  | ((with_reducible apply LS.gunl); array_mem_dec; exact rfl)
  | (with_reducible apply LS.gnil)
  | (with_reducible apply LS.gcons)
  | (with_reducible apply LS.gsub)
  | ((with_reducible apply LS.ri); first | omega | decide | assumption | exact ⟨by decide, by decide, by decide⟩ | exact .inl ⟨by decide, by decide⟩ | exact .inr ⟨by decide, by decide⟩ | exact .inl ⟨by omega, by omega⟩ | exact .inr ⟨by omega, by omega⟩)
  | (with_reducible apply LS.ex_ss)
  | (with_reducible apply LS.ex_s1)
  | (with_reducible apply LS.ex_i1)
  | (with_reducible apply LS.and_rfl)
  | (with_reducible apply LS.and_tr)
  | (with_reducible apply LS.is_non))
local macro_rules | `(tactic| array_mem_dec) => `(tactic| first
  | ((with_reducible apply LP.lv_s); assumption; array_mem_dec)
  | ((with_reducible apply LP.lv_l); assumption; array_mem_dec; array_mem_dec; array_mem_dec)
  | ((with_reducible apply LP.lv_f); assumption; array_mem_dec; array_mem_dec; array_mem_dec)
  | ((with_reducible apply LP.lv_t); assumption; array_mem_dec; array_mem_dec; array_mem_dec)
  | ((with_reducible apply LP.ops_s); assumption; array_mem_dec)
  | ((with_reducible apply LP.md_s); assumption; array_mem_dec)
  | ((with_reducible apply LP.md_l); assumption; array_mem_dec; array_mem_dec; array_mem_dec)
  | ((with_reducible apply LP.md_f); assumption; array_mem_dec; array_mem_dec; array_mem_dec)
  | ((with_reducible apply LP.md_t); assumption; array_mem_dec; array_mem_dec; array_mem_dec)
  | ((with_reducible apply LP.al_s); assumption; array_mem_dec; array_mem_dec)
  | ((with_reducible apply LP.al_t); assumption; array_mem_dec; array_mem_dec)
  | ((with_reducible apply LP.al_l); assumption; array_mem_dec; array_mem_dec; array_mem_dec)
  | ((with_reducible apply LP.al_f); assumption; array_mem_dec; array_mem_dec; array_mem_dec)
  | ((with_reducible apply LP.Lv.lists); array_mem_dec)
  | ((with_reducible apply LP.Lv.trk); array_mem_dec)
  | ((with_reducible apply LP.Mdl.trk); array_mem_dec)
  | ((with_reducible apply LP.al_no); assumption; array_mem_dec))
local macro_rules | `(tactic| array_get_dec) => `(tactic| first
  | (with_reducible apply LS.trg2)
  | (with_reducible apply LS.k_g2))

section
variable {P : Program} {w : World} {K : PySem.W.Frag} {mg : Str → Option Value} {base : Heap}

theorem ok_is_whole (e : Env K mg) : FnOk P w K mg base CX0 1 e.a_is_whole e.d_is_whole ["value"] (sp_is_whole) := by
  refine Fun.ok e.f_is_whole sc_is_whole (fun vs H Q E h => ?_) (fun cdv A outer s H vs Q E hr h => ?_)
  · obtain ⟨n, rfl, _⟩ := h; rfl
  · obtain ⟨n, rfl, k⟩ := h
    refine ⟨_, (pss_one (ps_ret (pe_and (pe_callB call_isi (by rfl) e.n_isinstance (by decide +kernel) (pa_cons (pv 0) (pa_cons (pe_bltn (v := V.ty "int") (by rfl) e.n_int (by decide +kernel) rfl) pa_nil))) (pe_one (pe_not (pe_callB call_isi (by rfl) e.n_isinstance (by decide +kernel) (pa_cons (pv 0) (pa_cons (pe_bltn (v := V.ty "bool") (by rfl) e.n_bool (by decide +kernel) rfl) pa_nil)))))))), ?_⟩
    repeat array_get_dec
    exact k
theorem ok_check_size (e : Env K mg) : FnOk P w K mg base CX0 2 e.a_check_size e.d_check_size ["size"] (sp_check_size) := by
  refine Fun.ok e.f_check_size sc_check_size (fun vs H Q E h => ?_) (fun cdv A outer s H vs Q E hr h => ?_)
  · obtain ⟨n, rfl, _⟩ := h; rfl
  · obtain ⟨n, rfl, h0, h1, k⟩ := h
    refine ⟨_, (pss_one (ps_if (pt_not (PW.pt (pw_and (pt_val (pe_call ((ok_is_whole e).mono (by decide)) hr rfl e.g_is_whole e.f_is_whole.kp e.b_is_whole .nil pass0 (pa_cons (pv 0) pa_nil))) (pw_and1 (pt_chain op_le op_le pe_int (pv 0) (pe_glob (v := V.int 200) rfl e.g_MOST_SIZE ⟨_, rfl⟩))))))
        (pss_one ps_never)
        pss_nil)), ?_⟩
    repeat array_get_dec
    refine ⟨n, rfl, ?_⟩
    repeat array_get_dec
    rw [decide_eq_true h0]
    repeat array_get_dec
    rw [decide_eq_true h1]
    repeat array_get_dec
    exact k
theorem init_books (n : Nat) : (simInit n).books.map vo = rgV 0 n := by
  unfold simInit rgV rangeI
  simp only [List.map_map]
  have e : ((n : Int) - 0).toNat = n := by omega
  rw [e]
  refine List.map_congr_left fun k hk => ?_
  show V.int (k : Int) = V.int (0 + (k : Int))
  rw [Int.zero_add]
theorem ok_Shelf_init (e : Env K mg) : FnOk P w K mg base CX0 1 e.a_Shelf_init e.d_Shelf_init ["self", "size"] (sp_Shelf_init e.C_Shelf) := by
  refine Fun.ok e.f_Shelf_init sc_Shelf_init (fun vs H Q E h => ?_) (fun cdv A outer s H vs Q E hr h => ?_)
  · obtain ⟨p, dx, n, rfl, _⟩ := h; rfl
  · obtain ⟨p, dx, n, rfl, hn, hp, k⟩ := h
    refine ⟨_, (pss_cons (ps_fld (pv 0) (pe_listRg rfl (by rfl) e.n_list (prg_1 (by rfl) e.n_range (pv 1))) rfl)
      (pss_one (ps_fld (pv 0) (pe_lst pa_nil) rfl))), ?_⟩
    have c_Shelf := e.cl_Shelf; have a_Shelf_books := e.nA_Shelf_books; have a_Shelf_out := e.nA_Shelf_out
    repeat array_get_dec
    refine LS.k_lr (by omega) fun bl H1 nb s1 hb => ?_
    repeat array_get_dec
    refine LS.k_sf (gs := [("books", .ref bl)]) (by array_mem_dec) c_Shelf a_Shelf_books (by decide) rfl fun H2 f2 h2 => ?_
    repeat array_get_dec
    refine LS.k_lst (by array_mem_dec) fun ol H3 no s3 ho => ?_
    repeat array_get_dec
    refine LS.k_sf (gs := [("books", .ref bl), ("out", .ref ol)]) (by array_mem_dec) c_Shelf a_Shelf_out (by show 1 < 1000; decide) rfl fun H4 f4 h4 => ?_
    repeat array_get_dec
    refine k H4 bl ol (by array_mem_dec) ⟨h4, ?_, (by array_mem_dec), (by array_mem_dec)⟩ (by array_mem_dec) (by array_mem_dec)
    rw [init_books]
    exact (by array_mem_dec)
theorem flat_vo (l : List (Option Int)) : (l.map vo).all flatV = true := by
  rw [List.all_eq_true]; intro v hv; obtain ⟨i, _, rfl⟩ := List.mem_map.mp hv; cases i <;> rfl
theorem vo_at {l : List (Option Int)} {i : Nat} {v : V} (h : (l.map vo)[i]? = some v) : ∃ o, l[i]? = some o ∧ v = vo o := by
  rw [List.getElem?_map] at h
  cases q : l[i]? with
  | none => rw [q] at h; cases h
  | some x => rw [q] at h; cases h; exact ⟨x, rfl, rfl⟩
theorem ok_Shelf_can_take (e : Env K mg) : FnOk P w K mg base CX0 2 e.a_Shelf_can_take e.d_Shelf_can_take ["self", "place"] (sp_Shelf_can_take e.C_Shelf) := by
  refine Fun.ok e.f_Shelf_can_take sc_Shelf_can_take (fun vs H Q E h => ?_) (fun cdv A outer s H vs Q E hr h => ?_)
  · obtain ⟨sh, dx, bl, ol, s, p, rfl, _⟩ := h; rfl
  · obtain ⟨sh, dx, bl, ol, s, p, rfl, S, k⟩ := h
    refine ⟨_, (pss_one (ps_ret (pe_and (pe_call ((ok_is_whole e).mono (by decide)) hr rfl e.g_is_whole e.f_is_whole.kp e.b_is_whole .nil pass0 (pa_cons (pv 1) pa_nil)) (pe_and (pe_chain op_le op_lt pe_int (pv 1) (pe_callB LS.call_len (by rfl) e.n_len PySem.boot_len (pa_cons (pe_fld (pv 0) rfl) pa_nil))) (pe_one (pe_cmpR LS.op_notN (pe_ix ix_list (pe_fld (pv 0) rfl) (pv 1) (fun _ _ => rfl)) pe_non (nomark _))))))), ?_⟩
    have c_Shelf := e.cl_Shelf; have a_Shelf_books := e.nA_Shelf_books; have a_Shelf_out := e.nA_Shelf_out
    have ho := S.ob
    have hb := S.bk
    repeat array_get_dec
    refine ⟨p, rfl, ?_⟩
    repeat array_get_dec
    by_cases h0 : 0 ≤ p
    · rw [decide_eq_true h0]
      repeat array_get_dec
      rw [List.length_map]
      by_cases h1 : p < (s.books.length : Nat)
      · rw [decide_eq_true h1]
        obtain ⟨o, hx⟩ : ∃ o, s.books[p.toNat]? = some o := ⟨_, List.getElem?_eq_getElem (by omega)⟩
        repeat array_get_dec
        refine LS.rixl_n (j := p.toNat) (v := vo o) (by array_mem_dec) (by rw [List.getElem?_map, hx]; rfl) (by omega) ?_
        cases o with
        | none =>
          repeat array_get_dec
          rw [show (stp s (true, p)).isSome = false by unfold stp; rw [if_pos rfl, if_pos h0]; dsimp only; rw [hx]; rfl] at k
          exact LS.rnotn_n k
        | some b =>
          repeat array_get_dec
          rw [show (stp s (true, p)).isSome = true by unfold stp; rw [if_pos rfl, if_pos h0]; dsimp only; rw [hx]; rfl] at k
          exact LS.rnotn_i k
      · rw [decide_eq_false h1]
        repeat array_get_dec
        rw [show (stp s (true, p)).isSome = false by unfold stp; rw [if_pos rfl, if_pos h0]; dsimp only; rw [List.getElem?_eq_none (by omega)]; rfl] at k
        exact k
    · rw [decide_eq_false h0]
      repeat array_get_dec
      rw [show (stp s (true, p)).isSome = false by unfold stp; rw [if_pos rfl, if_neg h0]; rfl] at k
      exact k
theorem ok_Shelf_can_return (e : Env K mg) : FnOk P w K mg base CX0 2 e.a_Shelf_can_return e.d_Shelf_can_return ["self", "book"] (sp_Shelf_can_return e.C_Shelf) := by
  refine Fun.ok e.f_Shelf_can_return sc_Shelf_can_return (fun vs H Q E h => ?_) (fun cdv A outer s H vs Q E hr h => ?_)
  · obtain ⟨sh, dx, bl, ol, s, p, rfl, _⟩ := h; rfl
  · obtain ⟨sh, dx, bl, ol, s, p, rfl, S, k⟩ := h
    refine ⟨_, (pss_one (ps_ret (pe_and (pe_call ((ok_is_whole e).mono (by decide)) hr rfl e.g_is_whole e.f_is_whole.kp e.b_is_whole .nil pass0 (pa_cons (pv 1) pa_nil)) (pe_one (pe_cmpR op_in_seq (pv 1) (pe_fld (pv 0) rfl) (by rfl)))))), ?_⟩
    have c_Shelf := e.cl_Shelf; have a_Shelf_books := e.nA_Shelf_books; have a_Shelf_out := e.nA_Shelf_out
    have ho := S.ob
    have hb := S.ou
    repeat array_get_dec
    refine ⟨p, rfl, ?_⟩
    repeat array_get_dec
    rw [show (stp s (false, p)).isSome = decide (p ∈ s.out) by
      unfold stp
      rw [if_neg (by simp)]
      dsimp only
      by_cases q : p ∈ s.out
      · rw [if_pos q, decide_eq_true q]; rfl
      · rw [if_neg q, decide_eq_false q]; rfl] at k
    exact k
theorem ok_Shelf_first_gap (e : Env K mg) : FnOk P w K mg base CX0 1 e.a_Shelf_first_gap e.d_Shelf_first_gap ["self"] (sp_Shelf_first_gap e.C_Shelf) := by
  refine Fun.ok e.f_Shelf_first_gap sc_Shelf_first_gap (fun vs H Q E h => ?_) (fun cdv A outer s H vs Q E hr h => ?_)
  · obtain ⟨sh, dx, bl, ol, s, rfl, _⟩ := h; rfl
  · obtain ⟨sh, dx, bl, ol, s, rfl, S, hg, k⟩ := h
    refine ⟨_, (pss_one (ps_ret (pe_bm PySem.F.plainAttrs_list PySem.F.slot_list_index PySem.F.type_list_index mt_index (pe_fld (pv 0) rfl) (pa_cons pe_non pa_nil)))), ?_⟩
    have c_Shelf := e.cl_Shelf; have a_Shelf_books := e.nA_Shelf_books; have a_Shelf_out := e.nA_Shelf_out
    have ho := S.ob
    have hb := S.bk
    repeat array_get_dec
    refine LS.rindex (j := gap s.books) (by array_mem_dec) rfl (flat_vo _) (by rw [List.getElem?_map, gap_get hg]; rfl) rfl (fun m z hm hz => ?_) ?_
    · obtain ⟨o, ho2, rfl⟩ := vo_at hz
      have := gap_before hm ho2
      cases o with
      | none => exact absurd rfl this
      | some b => rfl
    · exact k
theorem ok_Shelf_take_from (e : Env K mg) : FnOk P w K mg base CX0 1 e.a_Shelf_take_from e.d_Shelf_take_from ["self", "place"] (sp_Shelf_take_from e.C_Shelf) := by
  refine Fun.ok e.f_Shelf_take_from sc_Shelf_take_from (fun vs H Q E h => ?_) (fun cdv A outer s H vs Q E hr h => ?_)
  · obtain ⟨sh, dx, bl, ol, s, u, p, rfl, _⟩ := h; rfl
  · obtain ⟨sh, dx, bl, ol, s, u, p, rfl, S, hu, hl, hl2, k⟩ := h
    refine ⟨_, (pss_cons (ps_set (i := 2) sc_Shelf_take_from.nd rfl (by first | exact Or.inl rfl | exact Or.inr rfl) (pe_ix ix_list (pe_fld (pv 0) rfl) (pv 1) (fun _ _ => rfl)))
      (pss_cons (ps_asg pe_non (pg_sub (pe_fld (pv 0) rfl) (pv 1) set_list))
      (pss_cons (ps_expr (pe_bm PySem.F.plainAttrs_list PySem.F.slot_list_append PySem.F.type_list_append mt_append (pe_fld (pv 0) rfl) (pa_cons (pv 2) pa_nil)))
      (pss_one (ps_ret (pv 2)))))), ?_⟩
    have c_Shelf := e.cl_Shelf; have a_Shelf_books := e.nA_Shelf_books; have a_Shelf_out := e.nA_Shelf_out
    have ho := S.ob
    have hb := S.bk
    have hou := S.ou
    have hne := S.ne
    repeat array_get_dec
    obtain ⟨h0, bb, hx, rfl⟩ := stp_take hu
    refine LS.rixl_n (j := p.toNat) (v := .int bb) (by array_mem_dec) (by rw [List.getElem?_map, hx]; rfl) (by omega) ?_
    repeat array_get_dec
    refine LS.rset (j := p.toNat) (by array_mem_dec) (by rw [List.length_map]; exact ixN_int h0 (List.getElem?_eq_some_iff.mp hx).1) fun H1 f1 h1 => ?_
    repeat array_get_dec
    refine LS.rapp (xs := s.out.map V.int) (by array_mem_dec) (LS.szl (by rw [List.length_map]; omega)) fun H2 f2 h2 => ?_
    repeat array_get_dec
    have ed : due s (true, p) = bb := by unfold due; rw [if_pos rfl, hx]
    rw [← ed]
    refine k H2 (by array_mem_dec) ⟨(by array_mem_dec), ?_, ?_, hne⟩
    · rw [LS.hp_f f2 h1 (by array_mem_dec), List.map_set]; rfl
    · rw [h2, List.map_append]; rfl
theorem ok_Shelf_put_back (e : Env K mg) : FnOk P w K mg base CX0 2 e.a_Shelf_put_back e.d_Shelf_put_back ["self", "book"] (sp_Shelf_put_back e.C_Shelf) := by
  refine Fun.ok e.f_Shelf_put_back sc_Shelf_put_back (fun vs H Q E h => ?_) (fun cdv A outer s H vs Q E hr h => ?_)
  · obtain ⟨sh, dx, bl, ol, s, u, p, rfl, _⟩ := h; rfl
  · obtain ⟨sh, dx, bl, ol, s, u, p, rfl, S, hu, hg, hl, k⟩ := h
    refine ⟨_, (pss_cons (ps_set (i := 2) sc_Shelf_put_back.nd rfl (by first | exact Or.inl rfl | exact Or.inr rfl) (pe_meth0 (pv 0) e.cl_Shelf e.m_Shelf_first_gap ((ok_Shelf_first_gap e).mono (by decide)) hr e.b_Shelf_first_gap .nil pass0))
      (pss_cons (ps_asg (pv 1) (pg_sub (pe_fld (pv 0) rfl) (pv 2) set_list))
      (pss_cons (ps_expr (pe_bm PySem.F.plainAttrs_list PySem.F.slot_list_remove PySem.F.type_list_remove mt_remove (pe_fld (pv 0) rfl) (pa_cons (pv 1) pa_nil)))
      (pss_one (ps_ret (pv 2)))))), ?_⟩
    have c_Shelf := e.cl_Shelf; have a_Shelf_books := e.nA_Shelf_books; have a_Shelf_out := e.nA_Shelf_out
    have ho := S.ob
    have hb := S.bk
    have hou := S.ou
    have hne := S.ne
    obtain ⟨hp, rfl⟩ := stp_ret hu
    repeat array_get_dec
    refine ⟨sh, dx, bl, ol, s, rfl, S, hg, ?_⟩
    repeat array_get_dec
    refine LS.rset (j := gap s.books) (by array_mem_dec) (by rw [List.length_map]; exact ixN_at (gap_lt hg)) fun H1 f1 h1 => ?_
    repeat array_get_dec
    refine LS.rrem (k := s.out.idxOf p) (by array_mem_dec) (idx_get hp) (fun m hm => idx_before hm) fun H2 f2 h2 => ?_
    repeat array_get_dec
    have ed : due s (false, p) = (gap s.books : Nat) := by unfold due; rw [if_neg (by simp)]
    rw [← ed]
    refine k H2 (by array_mem_dec) ⟨(by array_mem_dec), ?_, ?_, hne⟩
    · rw [LS.hp_f f2 h1 (by array_mem_dec), List.map_set]; rfl
    · rw [h2, List.erase_eq_eraseIdx_of_idxOf rfl]
end
end LP

/-! numbers as texts -/
namespace LQ
open PySem L2 TL
def nst (i : Int) : Str := Str.ofString (toString i)
def txtN (ns : List Int) : Str := Txt.join (" " : Str) (ns.map nst)
theorem tl_nst (n : Nat) : (nst (n : Int)).cps.toList = numL n := tl_num n
theorem tl_eq {a b : Str} (h : a.cps.toList = b.cps.toList) : a = b := by
  cases a; cases b; simp at h; rw [h]
theorem nst_len {n : Nat} (h : n ≤ 10 ^ 30) : (nst (n : Int)).length ≤ 31 := by
  show (nst (n : Int)).cps.size ≤ 31
  rw [← Array.length_toList, tl_nst]
  exact numL_len (by decide) (by have : (10 : Nat) ^ 30 < 10 ^ 31 := by decide
                                 omega)
theorem head_numL (n : Nat) : (numL n)[0]? = some 48 → n = 0 := by
  induction n using Nat.strongRecOn with
  | _ n ih =>
    intro h
    by_cases q : n < 10
    · rw [numL_lt q] at h
      simp at h; exact h
    · rw [numL_step (by omega), List.getElem?_append_left (List.length_pos_iff.mpr (numL_ne _))] at h
      have := ih (n / 10) (by omega) h
      omega
theorem zero_txt : nst 0 = ("0" : Str) := by decide +kernel
theorem numL_all (n : Nat) : ∀ c ∈ numL n, 48 ≤ c ∧ c ≤ 57 := fun c hc => by
  have := numL_digits n c hc
  omega
theorem nst_ascii (n : Nat) : Txt.isascii (nst (n : Int)) = true := by
  unfold Txt.isascii
  rw [← Array.all_toList, tl_nst, List.all_eq_true]
  intro c hc
  have := numL_all n c hc
  exact decide_eq_true (by omega)
theorem dig (c : Nat) (h : 48 ≤ c ∧ c ≤ 57) : Unicode.isDigit c = true := by
  obtain ⟨h1, h2⟩ := h
  have : ∀ d : Fin 10, Unicode.isDigit (48 + d.val) = true := by decide +kernel
  have := this ⟨c - 48, by omega⟩
  rw [show 48 + (c - 48) = c by omega] at this
  exact this
theorem nst_digit (n : Nat) : Txt.isdigit (nst (n : Int)) = true := by
  unfold Txt.isdigit
  rw [Bool.and_eq_true, ← Array.all_toList, tl_nst, List.all_eq_true]
  refine ⟨decide_eq_true ?_, fun c hc => dig c (numL_all n c hc)⟩
  show (nst (n : Int)).cps.size > 0
  rw [← Array.length_toList, tl_nst]
  exact List.length_pos_iff.mpr (numL_ne _)
/-- the value of digits -/
def dval (l : List Nat) : Nat := l.foldl (fun a c => a * 10 + (c - 48)) 0
theorem fold_ge : ∀ (l : List Nat) (a : Nat), a ≤ l.foldl (fun a c => a * 10 + (c - 48)) a
  | [], a => Nat.le_refl _
  | c :: r, a => Nat.le_trans (by show a ≤ a * 10 + (c - 48); omega) (fold_ge r _)
theorem dval_take (l : List Nat) (i : Nat) : dval (l.take i) ≤ dval l := by
  have e : dval l = (l.drop i).foldl (fun a c => a * 10 + (c - 48)) (dval (l.take i)) := by
    unfold dval
    rw [← List.foldl_append, List.take_append_drop]
  rw [e]; exact fold_ge _ _
theorem dval_num (n : Nat) : dval (numL n) = n := numL_val n
theorem dval_snoc {l : List Nat} {i c : Nat} (h : l[i]? = some c) : dval (l.take (i + 1)) = dval (l.take i) * 10 + (c - 48) := by
  have e : l.take (i + 1) = l.take i ++ [c] := by
    rw [List.take_add_one, h]; rfl
  unfold dval
  rw [e, List.foldl_append]; rfl
theorem int_dig {c : Nat} (h : 48 ≤ c ∧ c ≤ 57) : intText? ⟨#[c]⟩ = some ((c - 48 : Nat) : Int) := by
  have := intText_digits (x := ⟨#[c]⟩) (by intro d hd; simp at hd; subst hd; omega) (by simp) (by show 1 ≤ 4300; decide)
  rw [this]
  simp [NumText.digitsVal]
theorem sp_tl : (" " : Str).cps.toList = [32] := by decide +kernel
theorem nat_of {i : Int} (h : 0 ≤ i) : i = ((i.toNat : Nat) : Int) := by omega
theorem split_txtN {ns : List Int} (hn : ns ≠ []) (h : ∀ x ∈ ns, 0 ≤ x) : Txt.split (txtN ns) (" " : Str) = ns.map nst := by
  refine split_join (s := 32) (S := []) sp_tl (by decide +kernel) (by simpa using hn) fun p hp => ?_
  obtain ⟨i, hi, rfl⟩ := List.mem_map.mp hp
  rw [nat_of (h i hi)]
  show 32 ∉ (nst _).cps.toList
  rw [tl_nst]
  exact numL_free (by decide)
theorem sum_le : ∀ (l : List Nat) (m : Nat), (∀ x ∈ l, x ≤ m) → l.sum ≤ l.length * m
  | [], _, _ => by simp
  | a :: r, m, h => by
    have h1 := h a (List.mem_cons_self ..)
    have h2 := sum_le r m fun x hx => h x (List.mem_cons_of_mem _ hx)
    rw [List.sum_cons, List.length_cons, Nat.add_mul]
    omega
theorem txtN_sz {ns : List Int} (h : ∀ x ∈ ns, 0 ≤ x ∧ x ≤ 10 ^ 30) (hl : ns.length ≤ 400) : (((ns.map nst).map (·.length)).sum + (ns.map nst).length * (" " : Str).length ≤ 16777216) := by
  have e : (" " : Str).length = 1 := by decide +kernel
  have := sum_le ((ns.map nst).map (·.length)) 31 (fun x hx => by
    obtain ⟨p, hp, rfl⟩ := List.mem_map.mp hx
    obtain ⟨i, hi, rfl⟩ := List.mem_map.mp hp
    obtain ⟨h0, h1⟩ := h i hi
    rw [nat_of h0]
    exact nst_len (by omega))
  rw [List.length_map, List.length_map] at this
  rw [e, List.length_map]
  omega
theorem joinL_len : ∀ (ps : List (List Nat)) (m : Nat), (∀ p ∈ ps, p.length ≤ m) → (joinL [32] ps).length ≤ ps.length * (m + 1)
  | [], m, _ => by simp [joinL]
  | [p], m, h => by
    have := h p (List.mem_singleton.mpr rfl)
    show p.length ≤ 1 * (m + 1)
    omega
  | p :: q :: r, m, h => by
    have h1 := h p (List.mem_cons_self ..)
    have h2 := joinL_len (q :: r) m fun x hx => h x (List.mem_cons_of_mem _ hx)
    show (p ++ ([32] ++ joinL [32] (q :: r))).length ≤ ((q :: r).length + 1) * (m + 1)
    rw [List.length_append, List.length_append, Nat.add_mul]
    simp only [List.length_cons, List.length_nil] at *
    omega
theorem txtN_tl (ns : List Int) : (txtN ns).cps.toList = joinL [32] ((ns.map nst).map fun z => z.cps.toList) := by
  unfold txtN
  rw [join_eq]
  have := tl_join (" " : Str) (ns.map nst)
  rw [show tl (" " : Str) = [32] from sp_tl] at this
  exact this
theorem txtN_len {ns : List Int} (h : ∀ x ∈ ns, 0 ≤ x ∧ x ≤ 10 ^ 30) : (txtN ns).length ≤ ns.length * 32 := by
  show (txtN ns).cps.size ≤ _
  rw [← Array.length_toList, txtN_tl]
  have := joinL_len ((ns.map nst).map fun z => z.cps.toList) 31 fun p hp => by
    obtain ⟨q, hq, rfl⟩ := List.mem_map.mp hp
    obtain ⟨i, hi, rfl⟩ := List.mem_map.mp hq
    obtain ⟨h0, h1⟩ := h i hi
    rw [nat_of h0, Array.length_toList]
    exact nst_len (by omega)
  rw [List.length_map, List.length_map] at this
  exact this
theorem txtN_nil : txtN [] = ("" : Str) := by decide +kernel
theorem txtN_cons {a : Int} {r : List Int} (h : 0 ≤ a) : txtN (a :: r) ≠ ("" : Str) := by
  intro e
  have e3 : ("" : Str).cps.toList = [] := by decide +kernel
  have e2 : (txtN (a :: r)).cps.toList = [] := by rw [e, e3]
  have e4 : (txtN (a :: r)).cps.toList = joinL [32] ((((a :: r).map nst)).map fun z => z.cps.toList) := by
    unfold txtN
    rw [join_eq]
    have := tl_join (" " : Str) ((a :: r).map nst)
    rw [show tl (" " : Str) = [32] from sp_tl] at this
    exact this
  rw [e4, List.map_cons, List.map_cons, nat_of h, tl_nst] at e2
  have := numL_ne a.toNat
  cases r with
  | nil => exact this e2
  | cons b t =>
    have e5 : numL a.toNat ++ ([32] ++ joinL [32] (((b :: t).map nst).map fun z => z.cps.toList)) = [] := e2
    simp at e5
end LQ
namespace LQ
open PySem L2 TL
theorem joinL_mem : ∀ (ps : List (List Nat)) (c : Nat), c ∈ joinL [32] ps → c = 32 ∨ ∃ p ∈ ps, c ∈ p
  | [], c, h => by simp [joinL] at h
  | [p], c, h => .inr ⟨p, List.mem_singleton.mpr rfl, h⟩
  | p :: q :: r, c, h => by
    have h : c ∈ p ++ ([32] ++ joinL [32] (q :: r)) := h
    rcases List.mem_append.mp h with h | h
    · exact .inr ⟨p, List.mem_cons_self .., h⟩
    · rcases List.mem_append.mp h with h | h
      · exact .inl (List.mem_singleton.mp h)
      · rcases joinL_mem (q :: r) c h with h | ⟨x, hx, h⟩
        · exact .inl h
        · exact .inr ⟨x, List.mem_cons_of_mem _ hx, h⟩
theorem txtN_ok {ns : List Int} (h : ∀ x ∈ ns, 0 ≤ x) : PyData.strOk (txtN ns) = true := by
  unfold PyData.strOk
  rw [← Array.all_toList, List.all_eq_true]
  intro c hc
  rw [txtN_tl] at hc
  refine decide_eq_true ?_
  rcases joinL_mem _ _ hc with rfl | ⟨p, hp, hc⟩
  · decide
  · obtain ⟨q, hq, rfl⟩ := List.mem_map.mp hp
    obtain ⟨i, hi, rfl⟩ := List.mem_map.mp hq
    rw [nat_of (h i hi), tl_nst] at hc
    have := numL_all _ c hc
    omega
end LQ

/-! live shelves beside the models that they had: one moves, the other stays -/
namespace LP
open PySem L2 LT LG LX LR
structure MvF (H H' : Hp) (b : Addr) (L : List Addr) (d : Nat) : Prop where
  r : Reel H' b d
  k : ∀ a o, H a = some o → a ≠ b → a ∉ L → H' a = some o
  a : ∀ a, Apart H b a → H a ≠ none → Apart H' b a
  t : ∀ a, H a ≠ none → H' a ≠ none
theorem some_of {H : Hp} {a : Addr} (h : H a ≠ none) : ∃ o, H a = some o := by
  cases e : H a with
  | none => exact absurd e h
  | some o => exact ⟨o, rfl⟩
theorem mv_s {H H' : Hp} {b : Addr} {L : List Addr} {d : Nat} (s : Same H H') (r : Reel H b d) : MvF H H' b L d := ⟨r.same s, fun a o h _ _ => s a o h, fun a h _ => LS.ap_s s h r, fun a h => by
  obtain ⟨o, e⟩ := some_of h
  rw [s a o e]; simp⟩
theorem mv_t {H H' : Hp} {b : Addr} {L : List Addr} {d : Nat} (t : LS.RT H H' b d) : MvF H H' b L d := ⟨t.r, fun a o h n _ => t.f a o h n, t.a, fun a h => by
  obtain ⟨o, e⟩ := some_of h
  by_cases q : a = b
  · subst q
    obtain ⟨o, h⟩ := t.r.nb
    rw [h]; simp
  · rw [t.f a o e q]; simp⟩
theorem mv_l {H H' : Hp} {b : Addr} {L M : List Addr} {d : Nat} (f : LS.FrL H H' M) (hs : ∀ a ∈ M, a ∈ L) (al : LS.ApL H b M) (r : Reel H b d) : MvF H H' b L d := ⟨LS.rl_l f r al, fun a o h _ n => f.k a o h (fun q => n (hs a q)), fun a h _ => LS.ap_l f h al r, fun a h => by
  by_cases q : a ∈ M
  · exact f.l a q
  · obtain ⟨o, e⟩ := some_of h
    rw [f.k a o e q]; simp⟩
theorem mv_f {H H' : Hp} {b p : Addr} {L : List Addr} {d : Nat} {o : HO} (f : Fr H H' p) (hs : p ∈ L) (ap : Apart H b p) (h' : H' p = some o) (r : Reel H b d) : MvF H H' b L d := ⟨LS.rl_f f r ap, fun a o h _ n => f a o h (fun q => n (q ▸ hs)), fun a h _ => LS.ap_f f h ap r, fun a h => by
  by_cases q : a = p
  · rw [q, h']; simp
  · obtain ⟨o, e⟩ := some_of h
    rw [f a o e q]; simp⟩
theorem MvF.trans {H H1 H2 : Hp} {b : Addr} {L : List Addr} {d d' : Nat} (h : MvF H H1 b L d) (k : MvF H1 H2 b L d') : MvF H H2 b L d' := ⟨k.r, fun a o e n m => k.k a o (h.k a o e n m) n m, fun a e n => k.a a (h.a a e n) (h.t a n), fun a n => k.t a (h.t a n)⟩
theorem MvF.sub {H H' : Hp} {b : Addr} {L M : List Addr} {d : Nat} (h : MvF H H' b L d) (s : ∀ a ∈ L, a ∈ M) : MvF H H' b M d := ⟨h.r, fun a o e n m => h.k a o e n fun q => m (s a q), h.a, h.t⟩
theorem MvF.up {H H' : Hp} {b : Addr} {L : List Addr} {d d' : Nat} (h : MvF H H' b L d) (s : d ≤ d') : MvF H H' b L d' := ⟨h.r.mono s, h.k, h.a, h.t⟩
theorem kn_m {H H' : Hp} {b : Addr} {L : List Addr} {d d' : Nat} (f : MvF H H' b L d) (r : Reel H b d') (h : Lists H L) : KN H H' := fun a o e n => f.k a o e (fun q => by
    subst q
    obtain ⟨g, c, gs, cs, k, t, a1, _⟩ := r.ex
    rw [a1] at e; cases e; exact n _ rfl) fun q => by
    obtain ⟨xs, hx⟩ := h a q
    rw [hx] at e; cases e; exact n _ rfl
/-- a live shelf at A, and the list at pa of the models that it had; F is kept for another -/
structure Par (C D : Addr) (H : Hp) (b : Addr) (F : List Addr) (A : Ad) (pa : Addr) (Ms : List Md) (n : Nat) (s : Sim) (ss : List Stp) : Prop where
  lv : Lv C D H A s ss
  ps : Pst n ss s
  ls : H pa = some (.lst (Ms.map fun M => V.ref M.m))
  len : Ms.length = ss.length + 1
  md : ∀ (i : Nat) M, Ms[i]? = some M → ∃ t, Pst n (ss.take i) t ∧ Mdl H M t ((ss.take i).map (·.op))
  apm : ∀ M ∈ Ms, LS.ApL H b M.L ∧ (∀ x ∈ M.L, x ∉ pa :: A.L) ∧ ∀ x ∈ M.L, x ∉ F
  ap : LS.ApL H b (pa :: A.L)
  np : pa ∉ A.L
  df : ∀ x ∈ pa :: A.L, x ∉ F
section
variable {C D : Addr} {H H' : Hp} {b : Addr} {F : List Addr} {A : Ad} {pa : Addr} {Ms : List Md} {n : Nat} {s : Sim} {ss : List Stp}
theorem Par.lists (p : Par C D H b F A pa Ms n s ss) : Lists H (pa :: A.L) := li_cons p.ls p.lv.lists
theorem Par.trk (p : Par C D H b F A pa Ms n s ss) : LS.Trk H (pa :: A.L) := fun a ha => by
  obtain ⟨xs, h⟩ := p.lists a ha
  rw [h]; simp
theorem Par.mdt (p : Par C D H b F A pa Ms n s ss) {M : Md} (h : M ∈ Ms) : LS.Trk H M.L := by
  obtain ⟨i, hi⟩ := List.getElem?_of_mem h
  obtain ⟨t, _, m⟩ := p.md i M hi
  exact m.trk
theorem Par.mv {d d' : Nat} (p : Par C D H b F A pa Ms n s ss) (f : MvF H H' b F d) (r : Reel H b d') (h : Lists H F) : Par C D H' b F A pa Ms n s ss := by
  have kn := kn_m f r h
  have kp : ∀ a ∈ pa :: A.L, ∀ xs, H a = some (.lst xs) → H' a = some (.lst xs) := fun a ha xs e => f.k a _ e (p.ap a ha).1 (p.df a ha)
  exact ⟨p.lv.move kn fun a ha => kp a (List.mem_cons_of_mem _ ha), p.ps, kp pa (List.mem_cons_self ..) _ p.ls, p.len, fun i M hM => by
      obtain ⟨t, h1, h2⟩ := p.md i M hM
      have hm := p.apm M (List.mem_of_getElem? hM)
      exact ⟨t, h1, h2.move kn fun a ha xs e => f.k a _ e (hm.1 a ha).1 (hm.2.2 a ha)⟩,
    fun M hM => ⟨fun a ha => f.a a ((p.apm M hM).1 a ha) (p.mdt hM a ha), (p.apm M hM).2⟩,
    fun a ha => f.a a (p.ap a ha) (p.trk a ha), p.np, p.df⟩
/-- the models, when only the shelf and its list move -/
theorem Par.mds {d d' : Nat} (p : Par C D H b F A pa Ms n s ss) (f : MvF H H' b (pa :: A.L) d) (r : Reel H b d') : (∀ (i : Nat) M, Ms[i]? = some M → ∃ t, Pst n (ss.take i) t ∧ Mdl H' M t ((ss.take i).map (·.op))) ∧ (∀ M ∈ Ms, LS.ApL H' b M.L ∧ (∀ x ∈ M.L, x ∉ pa :: A.L) ∧ ∀ x ∈ M.L, x ∉ F) := by
  have kn := kn_m f r p.lists
  refine ⟨fun i M hM => ?_, fun M hM => ⟨fun a ha => f.a a ((p.apm M hM).1 a ha) (p.mdt hM a ha), (p.apm M hM).2⟩⟩
  obtain ⟨t, h1, h2⟩ := p.md i M hM
  have hm := p.apm M (List.mem_of_getElem? hM)
  exact ⟨t, h1, h2.move kn fun a ha xs e => f.k a _ e (hm.1 a ha).1 (hm.2.1 a ha)⟩
theorem Par.last (p : Par C D H b F A pa Ms n s ss) : ∃ M, Ms[ss.length]? = some M ∧ M ∈ Ms ∧ Mdl H M s (ss.map (·.op)) := by
  have hl : ss.length < Ms.length := by rw [p.len]; omega
  have e : Ms[ss.length]? = some Ms[ss.length] := List.getElem?_eq_getElem hl
  obtain ⟨t, h1, h2⟩ := p.md _ _ e
  obtain rfl := p.ps.full h1
  rw [List.take_length] at h2
  exact ⟨_, e, List.getElem_mem hl, h2⟩
theorem Par.push {d d' : Nat} {o : Op} {u : Sim} {M' : Md} (p : Par C D H b F A pa Ms n s ss) (hu : stp s o = some u) (m : MvF H H' b (pa :: A.L) d) (r : Reel H b d') (l : Lv C D H' A u (ss ++ [stOf s o])) (e : H' pa = some (.lst ((Ms ++ [M']).map fun M => V.ref M.m))) (md' : Mdl H' M' u (ss.map (·.op) ++ [o])) (ap' : LS.ApL H' b M'.L) (n1 : ∀ x ∈ M'.L, x ∉ pa :: A.L) (n2 : ∀ x ∈ M'.L, x ∉ F) : Par C D H' b F A pa (Ms ++ [M']) n u (ss ++ [stOf s o]) := by
  obtain ⟨mds, apm⟩ := p.mds m r
  refine ⟨l, p.ps.snoc hu, e, by rw [List.length_append, List.length_append, p.len]; rfl, fun i M hM => ?_, fun M hM => ?_, fun a ha => m.a a (p.ap a ha) (p.trk a ha), p.np, p.df⟩
  · by_cases q : i < Ms.length
    · rw [List.getElem?_append_left q] at hM
      rw [List.take_append_of_le_length (by have := p.len; omega)]
      exact mds i M hM
    · have hi := (List.getElem?_eq_some_iff.mp hM).1
      rw [List.length_append, List.length_singleton] at hi
      have : i = Ms.length := by omega
      subst this
      rw [List.getElem?_append_right (Nat.le_refl _), Nat.sub_self] at hM
      cases hM
      rw [List.take_of_length_le (by rw [List.length_append, List.length_singleton, p.len]; exact Nat.le_refl _), List.map_append]
      exact ⟨u, p.ps.snoc hu, md'⟩
  · rcases List.mem_append.mp hM with q | q
    · exact apm M q
    · rw [List.mem_singleton.mp q]
      exact ⟨ap', n1, n2⟩
theorem Par.pop {d d' : Nat} {o : Op} {u : Sim} {M : Md} (p : Par C D H b F A pa (Ms ++ [M]) n u (ss ++ [stOf s o])) (hs : Pst n ss s) (m : MvF H H' b (pa :: A.L) d) (r : Reel H b d') (l : Lv C D H' A s ss) (e : H' pa = some (.lst (Ms.map fun M => V.ref M.m))) : Par C D H' b F A pa Ms n s ss := by
  obtain ⟨mds, apm⟩ := p.mds m r
  have hl := p.len
  rw [List.length_append, List.length_append, List.length_singleton, List.length_singleton] at hl
  refine ⟨l, hs, e, by omega, fun i M0 hM => ?_, fun M0 hM => apm M0 (List.mem_append_left _ hM), fun a ha => m.a a (p.ap a ha) (p.trk a ha), p.np, p.df⟩
  have hi := (List.getElem?_eq_some_iff.mp hM).1
  have := mds i M0 (by rw [List.getElem?_append_left hi]; exact hM)
  rw [List.take_append_of_le_length (by omega)] at this
  exact this
theorem Par.cut {u : Sim} {t : Stp} (p : Par C D H b F A pa Ms n u (ss ++ [t])) : ∃ Ms' M, Ms = Ms' ++ [M] := by
  rcases List.eq_nil_or_concat Ms with rfl | ⟨Ms', M, rfl⟩
  · have := p.len; simp at this
  · exact ⟨Ms', M, List.concat_eq_append ..⟩
theorem at_last {Ms : List Md} {k : Nat} {M : Md} (h : Ms[k]? = some M) (e : Ms.length = k + 1) : atI (Ms.map fun M => V.ref M.m) (-1) = some (.ref M.m) := by
  have : ixN Ms.length (-1) = some k := by
    rw [e]
    unfold ixN
    rw [if_neg (by omega), if_pos (by omega)]
    congr 1; omega
  simp [atI, this, h]
theorem Par.start {M : Md} (l : Lv C D H A (simInit n) []) (m : Mdl H M (simInit n) []) (e : H pa = some (.lst [V.ref M.m])) (np : pa ∉ A.L) (ap : LS.ApL H b (pa :: A.L)) (am : LS.ApL H b M.L) (dm : ∀ x ∈ M.L, x ∉ pa :: A.L) : Par C D H b [] A pa [M] n (simInit n) [] :=
  ⟨l, .nil, e, rfl, fun i M0 hM => by
    cases i with
    | zero => cases hM; exact ⟨_, .nil, m⟩
    | succ i => simp at hM, fun M0 hM => by
    rw [List.mem_singleton.mp hM]
    exact ⟨am, dm, fun x _ q => by cases q⟩, ap, np, fun x _ q => by cases q⟩
theorem Par.dup {d : Nat} {A' : Ad} {pn : Addr} (p : Par C D H b F A pa Ms n s ss) (r : Reel H b d) (s1 : Same H H') (l' : Lv C D H' A' s ss) (no : NoL H A'.L) (hn : H pn = none) (nn : pn ∉ A'.L) (e : H' pn = some (.lst (Ms.map fun M => V.ref M.m))) : Par C D H' b (pn :: A'.L) A pa Ms n s ss ∧ Par C D H' b (pa :: A.L) A' pn Ms n s ss := by
  have noc : NoL H (pn :: A'.L) := fun x hx => by
    rcases List.mem_cons.mp hx with rfl | hx
    · exact hn
    · exact no x hx
  have mds : ∀ (i : Nat) M, Ms[i]? = some M → ∃ t, Pst n (ss.take i) t ∧ Mdl H' M t ((ss.take i).map (·.op)) := fun i M hM => by
    obtain ⟨t, h1, h2⟩ := p.md i M hM
    exact ⟨t, h1, md_s s1 h2⟩
  have apm : ∀ M ∈ Ms, LS.ApL H' b M.L := fun M hM => al_s s1 (p.apm M hM).1 r
  have dm : ∀ M ∈ Ms, ∀ x ∈ M.L, x ∉ pn :: A'.L := fun M hM x hx q => p.mdt hM x hx (noc x q)
  refine ⟨⟨lv_s s1 p.lv, p.ps, s1 _ _ p.ls, p.len, mds, fun M hM => ⟨apm M hM, (p.apm M hM).2.1, dm M hM⟩, al_s s1 p.ap r, p.np, fun x hx q => p.trk x hx (noc x q)⟩, ⟨l', p.ps, e, p.len, mds, fun M hM => ⟨apm M hM, dm M hM, (p.apm M hM).2.1⟩, al_s s1 (al_no noc r) r, nn, fun x hx q => p.trk x q (noc x hx)⟩⟩
theorem Pst.bnd (h : Pst n ss s) (hn : n ≤ 200) : ∀ t ∈ ss, 0 ≤ t.op.2 ∧ t.op.2 < 200 := by
  induction h with
  | nil => intro t ht; cases ht
  | snoc h1 h2 ih =>
    intro t ht
    rcases List.mem_append.mp ht with q | q
    · exact ih t q
    · rw [List.mem_singleton.mp q]
      have := num_range h1.good h2
      exact ⟨this.1, by show _ < (200 : Int); have := this.2; show (_ : Int) < 200; exact Int.lt_of_lt_of_le this (by omega)⟩
end
section
variable (K : PySem.W.Frag) (C D : Addr)
def sp__law_moves : Sp := fun vs H Q _ => ∃ (b : Addr) (d : Nat) (F : List Addr) (A : Ad) (pa : Addr) (Ms : List Md) (n : Nat) (s : Sim) (ss : List Stp), vs = [.ref b, .ref A.lx, .ref pa] ∧ Reel H b d ∧ d < 800000 ∧ Par C D H b F A pa Ms n s ss ∧ Lists H F ∧ 1 ≤ n ∧ n ≤ 200 ∧ ss.length ≤ 390 ∧
  ∀ (H' : Hp) (Ms' : List Md) (u : Sim) (ss' : List Stp), MvF H H' b (pa :: A.L) (d + 2) → Par C D H' b F A pa Ms' n u ss' → ss'.length = ss.length + 1 → Q (.bl true) H'
def sp__law_undone : Sp := fun vs H Q _ => ∃ (b : Addr) (d : Nat) (F : List Addr) (A : Ad) (pa : Addr) (Ms : List Md) (n : Nat) (s : Sim) (ss : List Stp) (many : Nat), vs = [.ref A.lx, .ref pa, .int many] ∧ Reel H b d ∧ Par C D H b F A pa Ms n s ss ∧ n ≤ 200 ∧ many ≤ 1000 ∧ ss.length ≤ 390 ∧
  ∀ (H' : Hp) (Ms' : List Md) (u : Sim) (ss' : List Stp), MvF H H' b (pa :: A.L) d → Par C D H' b F A pa Ms' n u ss' → ss'.length = ss.length - many → Q (.bl true) H'
end
end LP

/-! texts of numbers, of operations, of books; lines of the console -/
namespace LP
open PySem L2 LT LG LX LR LQ TL
/-- a word: not empty, no blank in it, not long -/
structure Wd (w : Str) : Prop where
  ne : w.cps.toList ≠ []
  sp : 32 ∉ w.cps.toList
  le : w.length ≤ 40
  ok : PyData.strOk w = true
theorem ok_of {w : Str} (h : ∀ c ∈ w.cps.toList, c < 1000) : PyData.strOk w = true := by
  unfold PyData.strOk
  rw [← Array.all_toList, List.all_eq_true]
  intro c hc
  have := h c hc
  exact decide_eq_true (by omega)
def txtW (ws : List Str) : Str := Txt.join (" " : Str) ws
theorem txtW_sz {ws : List Str} (h : ∀ w ∈ ws, Wd w) (hl : ws.length ≤ 1000) : (ws.map (·.length)).sum + ws.length * (" " : Str).length ≤ 16777216 := by
  have e : (" " : Str).length = 1 := by decide +kernel
  have := sum_le (ws.map (·.length)) 40 (fun x hx => by
    obtain ⟨p, hp, rfl⟩ := List.mem_map.mp hx
    exact (h p hp).le)
  rw [List.length_map] at this
  rw [e]
  omega
theorem txtW_tl (ws : List Str) : (txtW ws).cps.toList = joinL [32] (ws.map fun z => z.cps.toList) := by
  unfold txtW
  rw [join_eq]
  have := tl_join (" " : Str) ws
  rw [show tl (" " : Str) = [32] from sp_tl] at this
  exact this
theorem txtW_len {ws : List Str} (h : ∀ w ∈ ws, Wd w) : (txtW ws).length ≤ ws.length * 41 := by
  show (txtW ws).cps.size ≤ _
  rw [← Array.length_toList, txtW_tl]
  have := joinL_len (ws.map fun z => z.cps.toList) 40 fun p hp => by
    obtain ⟨q, hq, rfl⟩ := List.mem_map.mp hp
    rw [Array.length_toList]
    exact (h q hq).le
  rw [List.length_map] at this
  exact this
theorem txtW_nil : txtW [] = ("" : Str) := by decide +kernel
theorem txtW_cons {a : Str} {r : List Str} (h : Wd a) : txtW (a :: r) ≠ ("" : Str) := by
  intro e
  have e3 : ("" : Str).cps.toList = [] := by decide +kernel
  have e2 : (txtW (a :: r)).cps.toList = [] := by rw [e, e3]
  rw [txtW_tl, List.map_cons] at e2
  have := h.ne
  cases r with
  | nil => exact this e2
  | cons b t =>
    have e5 : a.cps.toList ++ ([32] ++ joinL [32] ((b :: t).map fun z => z.cps.toList)) = [] := e2
    simp at e5
theorem txtW_eq {ws : List Str} (h : ∀ w ∈ ws, Wd w) : txtW ws = ("" : Str) ↔ ws = [] := by
  cases ws with
  | nil => exact ⟨fun _ => rfl, fun _ => txtW_nil⟩
  | cons a r => exact ⟨fun e => absurd e (txtW_cons (h a (List.mem_cons_self ..))), fun e => by cases e⟩
theorem split_txtW {ws : List Str} (hn : ws ≠ []) (h : ∀ w ∈ ws, Wd w) : Txt.split (txtW ws) (" " : Str) = ws :=
  split_join (s := 32) (S := []) sp_tl (by decide +kernel) hn fun p hp => (h p hp).sp
theorem nst_tl {n : Int} (h : 0 ≤ n) : (nst n).cps.toList = numL n.toNat := by
  have := tl_nst n.toNat
  rw [show ((n.toNat : Nat) : Int) = n by omega] at this
  exact this
theorem wd_nst {n : Int} (h0 : 0 ≤ n) (h1 : n ≤ 10 ^ 30) : Wd (nst n) := by
  refine ⟨by rw [nst_tl h0]; exact numL_ne _, by rw [nst_tl h0]; exact numL_free (by decide), ?_, ok_of fun c hc => by
    rw [nst_tl h0] at hc
    have := numL_all _ c hc
    omega⟩
  have := nst_len (n := n.toNat) (by omega)
  rw [show ((n.toNat : Nat) : Int) = n by omega] at this
  omega
def kch (b : Bool) : Str := if b then "t" else "r"
def wordO (o : Op) : Str := kch o.1 ++ nst o.2
def txtO (os : List Op) : Str := txtW (os.map wordO)
def bookW : Option Int → Str
  | some i => nst i
  | none => "-"
def txtB (l : List (Option Int)) : Str := txtW (l.map bookW)
def cmd (o : Op) : Str := (kst o.1 ++ (" " : Str)) ++ nst o.2
def orNone (t : Str) : Str := if t = ("" : Str) then "none" else t
theorem str_len_app (a b : Str) : (a ++ b).length = a.length + b.length := by
  show (a ++ b).cps.size = a.cps.size + b.cps.size
  rw [← Array.length_toList, ← Array.length_toList, ← Array.length_toList]
  have : (a ++ b).cps.toList = a.cps.toList ++ b.cps.toList := tl_append a b
  rw [this, List.length_append]
theorem wd_wordO {o : Op} (h0 : 0 ≤ o.2) (h1 : o.2 ≤ 10 ^ 30) : Wd (wordO o) := by
  have w := wd_nst h0 h1
  have e : (wordO o).cps.toList = (kch o.1).cps.toList ++ (nst o.2).cps.toList := tl_append _ _
  have ek : (kch o.1).cps.toList = [if o.1 then 116 else 114] := by cases o.1 <;> decide +kernel
  refine ⟨by rw [e, ek]; simp, ?_, ?_, ok_of fun c hc => by
    rw [e, ek] at hc
    rcases List.mem_append.mp hc with q | q
    · have := List.mem_singleton.mp q
      split at this <;> omega
    · rw [nst_tl h0] at q
      have := numL_all _ c q
      omega⟩
  · rw [e, ek]
    intro q
    rcases List.mem_append.mp q with q | q
    · have := List.mem_singleton.mp q
      split at this <;> omega
    · exact w.sp q
  · have h2 := nst_len (n := o.2.toNat) (by omega)
    rw [show ((o.2.toNat : Nat) : Int) = o.2 by omega] at h2
    unfold wordO
    rw [str_len_app]
    have : (kch o.1).length = 1 := by cases o.1 <;> decide +kernel
    omega
theorem wd_bookW {o : Option Int} (h : ∀ x, o = some x → 0 ≤ x ∧ x ≤ 10 ^ 30) : Wd (bookW o) := by
  cases o with
  | none => exact ⟨by decide +kernel, by decide +kernel, by decide +kernel, by decide +kernel⟩
  | some x => exact wd_nst (h x rfl).1 (h x rfl).2
theorem part_cmd (o : Op) : Txt.partition (cmd o) (" " : Str) = (kst o.1, (" " : Str), nst o.2) :=
  partition_app (s := 32) (S := []) sp_tl (by show 32 ∉ (kst o.1).cps.toList; cases o.1 <;> decide +kernel)
theorem cmd_tl (o : Op) : (cmd o).cps.toList = (kst o.1).cps.toList ++ [32] ++ (nst o.2).cps.toList := by
  have e1 : (cmd o).cps.toList = (kst o.1 ++ (" " : Str)).cps.toList ++ (nst o.2).cps.toList := tl_append _ _
  have e2 : (kst o.1 ++ (" " : Str)).cps.toList = (kst o.1).cps.toList ++ (" " : Str).cps.toList := tl_append _ _
  rw [e1, e2]
  rfl
theorem cmd_mem (o : Op) : 32 ∈ (cmd o).cps.toList := by rw [cmd_tl]; simp
theorem cmd_ne {o : Op} {z : Str} (h : 32 ∉ z.cps.toList) : cmd o ≠ z := fun e => h (e ▸ cmd_mem o)
theorem cmd_len {o : Op} (h0 : 0 ≤ o.2) (h1 : o.2 ≤ 10 ^ 30) : (cmd o).length ≤ 50 := by
  have h2 := nst_len (n := o.2.toNat) (by omega)
  rw [show ((o.2.toNat : Nat) : Int) = o.2 by omega] at h2
  unfold cmd
  rw [str_len_app, str_len_app]
  have : (kst o.1).length ≤ 6 := by cases o.1 <;> decide +kernel
  have : (" " : Str).length = 1 := by decide +kernel
  omega
/-- the questions and their answers -/
def ansL (s : Sim) (os : List Op) : List (Str × Str) :=
  [("books", txtB s.books), ("gaps", orNone (txtN (gapsL s.books))), ("out", orNone (txtN s.out)), ("schedule", orNone (txtO os)), ("size", nst s.books.length)]
/-- every operation speaks of small numbers -/
def SmOps (os : List Op) : Prop := ∀ o ∈ os, 0 ≤ o.2 ∧ o.2 ≤ 200
def OpsE (K : PySem.W.Frag) (H : Hp) (as : List Addr) (os : List Op) : Prop := as.length = os.length ∧ ∀ (i : Nat) a o, as[i]? = some a → os[i]? = some o → SqE K H a (opv o)
theorem OpsOk.toE {K : PySem.W.Frag} {H : Hp} {as : List Addr} {os : List Op} (h : OpsOk H as os) : OpsE K H as os := ⟨h.1, fun i a o ha ho => .inr (SqT.of (h.2 i a o ha ho))⟩
theorem OpsE.same {K : PySem.W.Frag} {H H' : Hp} {as : List Addr} {os : List Op} (h : OpsE K H as os) (s : Same H H') : OpsE K H' as os := ⟨h.1, fun i a o ha ho => (h.2 i a o ha ho).same s⟩
def G30 : Int := 1000000000000000000000000000000
def dS (ws : List Str) : PyData := .list (ws.map PyData.str)
theorem dpA_s {K : PySem.W.Frag} {H : Hp} : ∀ l : List Str, DpAll K H (l.map V.str) (l.map PyData.str)
  | [] => .nil
  | i :: r => .cons (.str i) (dpA_s r)
theorem dp_s {K : PySem.W.Frag} {H : Hp} {p : Addr} {ws : List Str} (h : SqL K H p (ws.map V.str)) : Dp K H (.ref p) (dS ws) := .lst h (dpA_s _)
theorem sh_s {l : List Str} (h : ∀ w ∈ l, PyData.strOk w = true) : SeqAt.shaped (dS l) = true := by
  have h1 : ∀ l : List Str, (∀ w ∈ l, PyData.strOk w = true) → PyData.canLayAll0 (l.map PyData.str) = true := fun l => by
    induction l with
    | nil => intro _; rfl
    | cons i r ih => intro h; simp [PyData.canLayAll0, PyData.canLay0, ih fun w hw => h w (List.mem_cons_of_mem _ hw), h i (List.mem_cons_self ..)]
  have h2 : ∀ l : List Str, PyData.depthAll (l.map PyData.str) = 0 := fun l => by
    induction l with
    | nil => rfl
    | cons i r ih => simp [PyData.depthAll, PyData.depth, ih]
  simp [SeqAt.shaped, dS, PyData.canLay0, PyData.depth, h1 l h, h2]
theorem eqvA_s : ∀ a b : List Str, PyData.eqvAll (a.map PyData.str) (b.map PyData.str) = decide (a = b)
  | [], [] => rfl
  | [], _ :: _ => rfl
  | _ :: _, [] => rfl
  | a :: l, b :: r => by
    have ih := eqvA_s l r
    simp only [List.map_cons, PyData.eqvAll, ih, PyData.eqv]
    by_cases e : a = b
    · subst e; simp
    · have h2 : (a == b) = false := by rw [beq_eq_false_iff_ne]; exact e
      simp [e, h2]
theorem eqv_s (a b : List Str) : PyData.eqv (dS a) (dS b) = decide (a = b) := by simp only [dS, PyData.eqv]; exact eqvA_s a b
theorem orNone_t {ws : List Str} (h : ∀ w ∈ ws, Wd w) (hn : ws ≠ []) : txtW ws = orNone (txtW ws) := by
  unfold orNone
  rw [if_neg fun e => hn ((txtW_eq h).mp e)]
theorem orNone_f {ws : List Str} (hn : ws = []) : ("none" : Str) = orNone (txtW ws) := by
  subst hn
  unfold orNone
  rw [if_pos txtW_nil]
section
variable (K : PySem.W.Frag) (C D Cc : Addr)
structure Con (H : Hp) (co dc : Addr) (A : Ad) (s : Sim) (ss : List Stp) : Prop where
  ob : H co = some (.ins Cc dc [("_live", .ref A.lx)])
  lv : Lv C D H A s ss
def sp_numbers_text : Sp := fun vs H Q _ => ∃ (a : Addr) (ns : List Int), vs = [.ref a] ∧ SqE K H a (ns.map V.int) ∧ (∀ x ∈ ns, 0 ≤ x ∧ x ≤ G30) ∧ ns.length ≤ 400 ∧ ∀ H', Same H H' → Q (.str (txtN ns)) H'
def sp_operations_text : Sp := fun vs H Q _ => ∃ (a : Addr) (as : List Addr) (os : List Op), vs = [.ref a] ∧ SqE K H a (as.map V.ref) ∧ OpsE K H as os ∧ SmOps os ∧ os.length ≤ 1000 ∧ ∀ H', Same H H' → Q (.str (txtO os)) H'
def sp_read_number : Sp := fun vs H Q _ => ∃ n : Int, vs = [.str (nst n)] ∧ 0 ≤ n ∧ n ≤ G30 ∧ Q (.int n) H
def sp_text_or_none : Sp := fun vs H Q _ => ∃ t : Str, vs = [.str t] ∧ Q (.str (orNone t)) H
def sp_undo_last : Sp := fun vs H Q _ => ∃ (A : Ad) (s u : Sim) (ss : List Stp) (o : Op) (n : Nat), vs = [.ref A.lx] ∧ Lv C D H A u (ss ++ [stOf s o]) ∧ Good n s ∧ n ≤ 200 ∧ stp s o = some u ∧
  ∀ H' : Hp, LS.FrL H H' A.L → Lv C D H' A s ss → Q (.str "ok") H'
def sp_show (j : Nat) : Sp := fun vs H Q _ => ∃ (A : Ad) (s : Sim) (ss : List Stp) (n : Nat) (q t : Str), vs = [.ref A.lx] ∧ Lv C D H A s ss ∧ Pst n ss s ∧ n ≤ 200 ∧ ss.length ≤ 1000 ∧ (ansL s (ss.map (·.op)))[j]? = some (q, t) ∧
  ∀ H' : Hp, Same H H' → Q (.str t) H'
def sp_read_line : Sp := fun vs H Q _ => (∃ q : Str, vs = [.str q] ∧ (q ∈ (["undo", "books", "gaps", "out", "schedule", "size"] : List Str)) ∧ ∀ (H' : Hp) (t : Addr), H t = none → Same H H' → H' t = some (.tup [.str q, .non]) → Q (.ref t) H') ∨
  (∃ o : Op, vs = [.str (cmd o)] ∧ 0 ≤ o.2 ∧ o.2 ≤ G30 ∧ ∀ (H' : Hp) (t : Addr), H t = none → Same H H' → H' t = some (.tup [.str (kst o.1), .int o.2]) → Q (.ref t) H')
def sp_Console_init : Sp := fun vs H Q _ => ∃ (p dx : Addr) (n : Nat), vs = [.ref p, .int n] ∧ 1 ≤ n ∧ n ≤ 200 ∧ H p = some (.ins Cc dx []) ∧ ∀ (H' : Hp) (A : Ad), Fr H H' p → Con C D Cc H' p dx A (simInit n) [] → NoL H A.L → Q .non H'
def sp__law_answers_right : Sp := fun vs H Q _ => ∃ (co dc : Addr) (A B : Ad) (s : Sim) (ss : List Stp) (n : Nat), vs = [.ref co, .ref A.lx, .int n] ∧ Con C D Cc H co dc B s ss ∧ Lv C D H A s ss ∧ Pst n ss s ∧ n ≤ 200 ∧ ss.length ≤ 1000 ∧ ∀ H', Same H H' → Q (.bl true) H'
def sp_Console_execute : Sp := fun vs H Q _ =>
  (∃ (co dc : Addr) (A : Ad) (s u : Sim) (ss : List Stp) (o : Op) (n : Nat), vs = [.ref co, .str (cmd o)] ∧ Con C D Cc H co dc A s ss ∧ Pst n ss s ∧ n ≤ 200 ∧ stp s o = some u ∧ ss.length ≤ 1000 ∧
    ∀ H' : Hp, LS.FrL H H' A.L → Con C D Cc H' co dc A u (ss ++ [stOf s o]) → Q (.str (nst (due s o))) H') ∨
  (∃ (co dc : Addr) (A : Ad) (s u : Sim) (ss : List Stp) (o : Op) (n : Nat), vs = [.ref co, .str "undo"] ∧ Con C D Cc H co dc A u (ss ++ [stOf s o]) ∧ Good n s ∧ n ≤ 200 ∧ stp s o = some u ∧
    ∀ H' : Hp, LS.FrL H H' A.L → Con C D Cc H' co dc A s ss → Q (.str "ok") H') ∨
  (∃ (co dc : Addr) (A : Ad) (s : Sim) (ss : List Stp) (n j : Nat) (q t : Str), vs = [.ref co, .str q] ∧ Con C D Cc H co dc A s ss ∧ Pst n ss s ∧ n ≤ 200 ∧ ss.length ≤ 1000 ∧ (ansL s (ss.map (·.op)))[j]? = some (q, t) ∧
    ∀ H' : Hp, Same H H' → Q (.str t) H')
end
end LP

/-! schedules, as lists or tuples; their texts -/
namespace LP
open PySem L2 LT LG LX LR LQ TL
theorem run_sm {n : Nat} (hn : n ≤ 200) {os : List Op} {u : Sim} (h : LR.run (simInit n) os = some u) : SmOps os := fun o ho => by
  obtain ⟨i, hi⟩ := List.getElem?_of_mem ho
  obtain ⟨t, v, h1, h2, h3⟩ := run_stp h hi
  have := num_range (good_run (good_init n) h1) h2
  exact ⟨this.1, by have := this.2; omega⟩
theorem cut_word (o : Op) : cutS (wordO o) (some (1 : Int)) none = nst o.2 := by
  apply tl_eq
  unfold cutS
  have e : (wordO o).cps.toList = (kch o.1).cps.toList ++ (nst o.2).cps.toList := tl_append _ _
  have ek : (kch o.1).cps.toList.length = 1 := by cases o.1 <;> decide +kernel
  have hl : (wordO o).length = 1 + (nst o.2).length := by
    unfold wordO
    rw [str_len_app]
    have : (kch o.1).length = 1 := by cases o.1 <;> decide +kernel
    omega
  rw [show (1 : Int) = ((1 : Nat) : Int) from rfl, HT.sIx_nat, HT.sIx_none, hl, e]
  rw [Nat.min_eq_left (by omega)]
  simp only [List.drop_append, ek, Nat.sub_self, List.drop_zero]
  rw [List.drop_of_length_le (by omega), List.nil_append, List.take_of_length_le]
  rw [Array.length_toList]
  show (nst o.2).cps.size ≤ _
  have : (nst o.2).length = (nst o.2).cps.size := rfl
  omega
section
variable (K : PySem.W.Frag) (D : Addr)
def sp_is_listed : Sp := fun vs H Q _ => ∃ (a : Addr) (xs : List V), vs = [.ref a] ∧ SqE K H a xs ∧ ∀ H', Same H H' → Q (.bl true) H'
def sp_can_perform : Sp := fun vs H Q _ => ∃ (sh dx bl ol v : Addr) (s : Sim) (o : Op), vs = [.ref sh, .ref v] ∧ Shf D H sh dx bl ol s ∧ SqE K H v (opv o) ∧ ∀ H' : Hp, Same H H' → Q (.bl (stp s o).isSome) H'
def sp_run_schedule : Sp := fun vs H Q _ => ∃ (n : Nat) (p : Addr) (as : List Addr) (os : List Op) (u : Sim), vs = [.int n, .ref p] ∧ 1 ≤ n ∧ n ≤ 200 ∧ SqE K H p (as.map V.ref) ∧ OpsE K H as os ∧ LR.run (simInit n) os = some u ∧ os.length ≤ 400 ∧
  ∀ (H' : Hp) (t sh dx bl ol fl : Addr), Same H H' → H t = none → H' t = some (.tup [.ref sh, .ref fl, .int u.most]) → Shf D H' sh dx bl ol u → H' fl = some (.lst (u.filled.map V.int)) → Q (.ref t) H'
def sp_format_schedule : Sp := fun vs H Q _ => ∃ (n : Nat) (p : Addr) (as : List Addr) (os : List Op) (u : Sim), vs = [.int n, .ref p] ∧ 1 ≤ n ∧ n ≤ 200 ∧ SqE K H p (as.map V.ref) ∧ OpsE K H as os ∧ LR.run (simInit n) os = some u ∧ os.length ≤ 400 ∧
  ∀ H' : Hp, Same H H' → Q (.str (txtO os)) H'
def sp_read_operation : Sp := fun vs H Q _ => ∃ o : Op, vs = [.str (wordO o)] ∧ 0 ≤ o.2 ∧ o.2 ≤ G30 ∧ ∀ (H' : Hp) (t : Addr), H t = none → Same H H' → H' t = some (.tup (opv o)) → Q (.ref t) H'
def sp_words_of : Sp := fun vs H Q _ => ∃ (ws : List Str) (m : Int), vs = [.str (txtW ws), .int m] ∧ (∀ w ∈ ws, Wd w) ∧ ws.length ≤ 1000 ∧ ws.length ≤ m ∧ ∀ (H' : Hp) (p : Addr), Same H H' → H p = none → H' p = some (.lst (ws.map V.str)) → Q (.ref p) H'
def sp_parse_schedule : Sp := fun vs H Q _ => ∃ (n : Nat) (os : List Op) (u : Sim), vs = [.int n, .str (txtO os)] ∧ 1 ≤ n ∧ n ≤ 200 ∧ LR.run (simInit n) os = some u ∧ os.length ≤ 400 ∧
  ∀ (H' : Hp) (p : Addr) (as : List Addr), Same H H' → H p = none → H' p = some (.lst (as.map V.ref)) → OpsOk H' as os → Q (.ref p) H'
def sp_is_schedule : Sp := fun vs H Q _ => ∃ (n : Nat) (p : Addr) (as : List Addr) (os : List Op) (u : Sim), vs = [.int n, .ref p] ∧ 1 ≤ n ∧ n ≤ 200 ∧ SqE K H p (as.map V.ref) ∧ OpsE K H as os ∧ LR.run (simInit n) os = some u ∧ os.length ≤ 400 ∧
  ∀ H' : Hp, Same H H' → Q (.bl true) H'
def sp_books_after : Sp := fun vs H Q _ => ∃ (n : Nat) (p : Addr) (as : List Addr) (os : List Op) (u : Sim), vs = [.int n, .ref p] ∧ 1 ≤ n ∧ n ≤ 200 ∧ SqE K H p (as.map V.ref) ∧ OpsE K H as os ∧ LR.run (simInit n) os = some u ∧ os.length ≤ 400 ∧
  ∀ (H' : Hp) (q : Addr), Same H H' → H' q = some (.lst (u.books.map vo)) → Q (.ref q) H'
def sp_books_out : Sp := fun vs H Q _ => ∃ (n : Nat) (p : Addr) (as : List Addr) (os : List Op) (u : Sim), vs = [.int n, .ref p] ∧ 1 ≤ n ∧ n ≤ 200 ∧ SqE K H p (as.map V.ref) ∧ OpsE K H as os ∧ LR.run (simInit n) os = some u ∧ os.length ≤ 400 ∧
  ∀ (H' : Hp) (q : Addr) (zs : List Int), Same H H' → zs.Perm u.out → zs.Pairwise (· ≤ ·) → H' q = some (.lst (zs.map V.int)) → Q (.ref q) H'
def sp_places_filled : Sp := fun vs H Q _ => ∃ (n : Nat) (p : Addr) (as : List Addr) (os : List Op) (u : Sim), vs = [.int n, .ref p] ∧ 1 ≤ n ∧ n ≤ 200 ∧ SqE K H p (as.map V.ref) ∧ OpsE K H as os ∧ LR.run (simInit n) os = some u ∧ os.length ≤ 400 ∧
  ∀ (H' : Hp) (q : Addr), Same H H' → H' q = some (.lst (u.filled.map V.int)) → Q (.ref q) H'
def sp__law_books : Sp := fun vs H Q _ => ∃ (n : Nat) (p : Addr) (as : List Addr) (os : List Op) (u : Sim), vs = [.int n, .ref p] ∧ 1 ≤ n ∧ n ≤ 200 ∧ SqE K H p (as.map V.ref) ∧ OpsE K H as os ∧ LR.run (simInit n) os = some u ∧ os.length ≤ 400 ∧
  ∀ H' : Hp, Same H H' → Q (.str (txtB u.books)) H'
def sp_most_out : Sp := fun vs H Q _ => ∃ (n : Nat) (p : Addr) (as : List Addr) (os : List Op) (u : Sim), vs = [.int n, .ref p] ∧ 1 ≤ n ∧ n ≤ 200 ∧ SqE K H p (as.map V.ref) ∧ OpsE K H as os ∧ LR.run (simInit n) os = some u ∧ os.length ≤ 400 ∧
  ∀ H' : Hp, Same H H' → Q (.int u.most) H'
end
end LP

/-! schedules performed -/
namespace LP
open PySem L2 LT LG LX LR
theorem mv_new {H H3 H4 : Hp} {b : Addr} {L M : List Addr} {d : Nat} (h : MvF H H3 b L d) (f : LS.FrL H3 H4 M) (n : NoL H M) (al : LS.ApL H3 b M) : MvF H H4 b L d := by
  refine ⟨LS.rl_l f h.r al, fun a o e q1 q2 => f.k a o (h.k a o e q1 q2) fun q => ?_, fun a e q => LS.ap_l f (h.a a e q) al h.r, fun a q => ?_⟩
  · rw [n a q] at e; cases e
  · by_cases q2 : a ∈ M
    · exact f.l a q2
    · obtain ⟨o, e⟩ := some_of (h.t a q)
      rw [f.k a o e q2]; simp
section
variable (K : PySem.W.Frag) (C D : Addr)
def sp__law_drawn : Sp := fun vs H Q _ => ∃ (b : Addr) (d n most : Nat), vs = [.ref b, .int n, .int most] ∧ Reel H b d ∧ d < 800000 ∧ 1 ≤ n ∧ n ≤ 200 ∧ most ≤ 300 ∧
  ∀ (H' : Hp) (t : Addr) (A : Ad) (M : Md) (s : Sim) (ss : List Stp), MvF H H' b [] (d + 1 + most * 2) → H t = none → H' t = some (.tup [.ref A.lx, .ref M.m]) → Lv C D H' A s ss → Mdl H' M s (ss.map (·.op)) → Pst n ss s → ss.length ≤ most → NoL H A.L → NoL H M.L → (∀ x ∈ M.L, x ∉ A.L) → LS.ApL H' b A.L → LS.ApL H' b M.L → Q (.ref t) H'
end
end LP

/-! live shelves compared -/
namespace LP
open PySem L2 LT LG LX LR
theorem eqv_vo : ∀ l r : List (Option Int), PyData.eqvAll (l.map dO) (r.map dO) = decide (l = r)
  | [], [] => rfl
  | [], _ :: _ => rfl
  | _ :: _, [] => rfl
  | a :: l, b :: r => by
    have ih := eqv_vo l r
    simp only [List.map_cons, PyData.eqvAll, ih]
    cases a <;> cases b <;> simp [dO, PyData.eqv]
    rename_i x y
    by_cases e : x = y <;> simp [e]
theorem eqv_bb (l r : List (Option Int)) : PyData.eqv (dB l) (dB r) = decide (l = r) := by
  simp only [dB, PyData.eqv]
  exact eqv_vo l r
section
variable {K : PySem.W.Frag} {C D : Addr}
theorem kit_own : PySem.W.kitOne K (.ref C) (.ref C) = some true := by simp [PySem.W.kitOne]
theorem nf_own : PySem.W.notFirst K C (.ref C) = true := by simp [PySem.W.notFirst]
theorem sub_no {T : String} {l : List Value} (h : PySem.fastBuiltinMro T = some l) (hl : l.contains (.ref C) = false) : PySem.W.subIn K (.type T) (.ref C) = some false := by
  show (PySem.fastBuiltinMro T).map (·.contains (Value.ref C)) = some false
  rw [h, Option.map_some, hl]
theorem nf_no {T : String} (h : PySem.W.subIn K (.type T) (.ref C) = some false) : PySem.W.notFirst K C (.type T) = true := by
  unfold PySem.W.notFirst
  rw [h]
  simp
theorem kit_no_own {T : String} (hi : PySem.W.isClsIn K C = true) (ht : PySem.W.typeIn K (.ref C) = some (.type "type")) (h : PySem.W.subIn K (.type T) (.ref C) = some false) : PySem.W.kitOne K (.type T) (.ref C) = some false := by
  have hi' : (PySem.W.clsIn K C).isSome = true := hi
  have e : (Value.type T == Value.ref C) = false := rfl
  unfold PySem.W.kitOne PySem.W.kitCls
  rw [e]
  show (if ((PySem.W.clsIn K C).isSome && PySem.W.typeIn K (.ref C) == some (.type "type")) = true then PySem.W.subIn K (Value.type T) (Value.ref C) else none) = _
  rw [hi', ht, h]
  simp
theorem mro_nt : PySem.fastBuiltinMro "NoneType" = some [.type "NoneType", .type "object"] := by rfl
theorem mro_int : PySem.fastBuiltinMro "int" = some [.type "int", .type "object"] := by rfl
theorem mro_str : PySem.fastBuiltinMro "str" = some [.type "str", .type "object"] := by rfl
theorem mro_list : PySem.fastBuiltinMro "list" = some [.type "list", .type "object"] := by rfl
theorem mro_tuple : PySem.fastBuiltinMro "tuple" = some [.type "tuple", .type "object"] := by rfl
theorem so_nt : PySem.W.subIn K (.type "NoneType") (.ref C) = some false := sub_no mro_nt rfl
theorem so_int : PySem.W.subIn K (.type "int") (.ref C) = some false := sub_no mro_int rfl
theorem so_str : PySem.W.subIn K (.type "str") (.ref C) = some false := sub_no mro_str rfl
theorem so_list : PySem.W.subIn K (.type "list") (.ref C) = some false := sub_no mro_list rfl
theorem so_tuple : PySem.W.subIn K (.type "tuple") (.ref C) = some false := sub_no mro_tuple rfl
theorem reqo {a C dx : Addr} {fs : List (Str × V)} {t : Value} {sp : Sp} {E : XK} {y : V} {H : Hp} {Q : VK} (h : H a = some (.ins C dx fs)) (ty : TyX K H y t) (n : PySem.W.notFirst K C t = true) (q : sp [.ref a, y] H Q E) : LX.rEqO K C sp E (.ref a) y H Q := ⟨a, dx, fs, t, rfl, h, ty, n, q⟩
theorem rneo {a C dx : Addr} {fs : List (Str × V)} {t : Value} {sp : Sp} {E : XK} {y : V} {H : Hp} {Q : VK} (h : H a = some (.ins C dx fs)) (ty : TyX K H y t) (n : PySem.W.notFirst K C t = true) (q : sp [.ref a, y] H (fun z H' => ∃ b, z = .bl b ∧ Q (.bl (!b)) H') E) : LX.rNeO K C sp E (.ref a) y H Q := ⟨a, dx, fs, t, rfl, h, ty, n, q⟩
theorem ty_own {a dx : Addr} {fs : List (Str × V)} {H : Hp} (h : H a = some (.ins C dx fs)) (c : Cls K C) (s : SlX.SIsi K C) : TyX K H (.ref a) (.ref C) := .base (.ins h c s.ca s.cn s.ct s.cm)
theorem isi_own {x : V} {t : Value} {b : Bool} {H : Hp} {Q : VK} (ty : TyX K H x t) (h : PySem.W.kitOne K t (.ref C) = some b) (q : Q (.bl b) H) : rIsi K [x, .ref C] H Q := ⟨x, .ref C, t, .ref C, b, rfl, .own C, ty, h, q⟩
end
section
variable (K : PySem.W.Frag) (C D : Addr)
def sp_LiveShelf___eq__ : Sp := fun vs H Q _ => (∃ (A B : Ad) (s t : Sim) (ss ts : List Stp), vs = [.ref A.lx, .ref B.lx] ∧ Lv C D H A s ss ∧ Lv C D H B t ts ∧ Q (.bl (decide (s.books = t.books))) H) ∨
  (∃ (a : Addr) (y : V) (tv : Value), vs = [.ref a, y] ∧ TyX K H y tv ∧ PySem.W.kitOne K tv (.ref C) = some false ∧ Q (.bl false) H)
def sp_LiveShelf_from_schedule : Sp := fun vs H Q _ => ∃ (p : Addr) (as : List Addr) (s : Sim) (ss : List Stp) (n : Nat), vs = [.ref C, .int n, .ref p] ∧ H p = some (.lst (as.map V.ref)) ∧ OpsOk H as (ss.map (·.op)) ∧ Pst n ss s ∧ 1 ≤ n ∧ n ≤ 200 ∧ ss.length ≤ 400 ∧
  ∀ (H' : Hp) (A' : Ad), Same H H' → Lv C D H' A' s ss → NoL H A'.L → H A'.lx = none → Q (.ref A'.lx) H'
def sp__law_alike : Sp := fun vs H Q _ => ∃ (A B : Ad) (s t : Sim) (ss ts : List Stp) (b : Bool), vs = [.ref A.lx, .ref B.lx, .bl b] ∧ Lv C D H A s ss ∧ Lv C D H B t ts ∧ b = decide (s.books = t.books) ∧ ∀ H', Same H H' → Q (.bl true) H'
def sp__law_other_way : Sp := fun vs H Q _ => ∃ (b : Addr) (d n : Nat) (M : Md) (s : Sim) (os : List Op), vs = [.ref b, .ref M.m] ∧ Reel H b d ∧ d < 800000 ∧ Mdl H M s os ∧ LS.ApL H b M.L ∧ Good n s ∧ 1 ≤ n ∧ n ≤ 200 ∧
  (∀ H' : Hp, Same H H' → Q .non H') ∧
  ∀ (H' : Hp) (A' : Ad) (u : Sim) (ts : List Stp), MvF H H' b [] (d + n) → Lv C D H' A' u ts → u.books = s.books → NoL H A'.L → Q (.ref A'.lx) H'
end
end LP

/-! schedules performed: what the calls give is new; drawn schedules -/
namespace LP
open PySem L2 LT LG LX LR LQ TL
section
variable (K : PySem.W.Frag) (D : Addr)
def spN_run_schedule : Sp := fun vs H Q _ => ∃ (n : Nat) (p : Addr) (as : List Addr) (os : List Op) (u : Sim), vs = [.int n, .ref p] ∧ 1 ≤ n ∧ n ≤ 200 ∧ SqE K H p (as.map V.ref) ∧ OpsE K H as os ∧ LR.run (simInit n) os = some u ∧ os.length ≤ 400 ∧
  ∀ (H' : Hp) (t sh dx bl ol fl : Addr), Same H H' → H t = none → H bl = none → H ol = none → H fl = none → H' t = some (.tup [.ref sh, .ref fl, .int u.most]) → Shf D H' sh dx bl ol u → H' fl = some (.lst (u.filled.map V.int)) → Q (.ref t) H'
def spN_books_after : Sp := fun vs H Q _ => ∃ (n : Nat) (p : Addr) (as : List Addr) (os : List Op) (u : Sim), vs = [.int n, .ref p] ∧ 1 ≤ n ∧ n ≤ 200 ∧ SqE K H p (as.map V.ref) ∧ OpsE K H as os ∧ LR.run (simInit n) os = some u ∧ os.length ≤ 400 ∧
  ∀ (H' : Hp) (q : Addr), H q = none → Same H H' → H' q = some (.lst (u.books.map vo)) → Q (.ref q) H'
def spN_books_out : Sp := fun vs H Q _ => ∃ (n : Nat) (p : Addr) (as : List Addr) (os : List Op) (u : Sim), vs = [.int n, .ref p] ∧ 1 ≤ n ∧ n ≤ 200 ∧ SqE K H p (as.map V.ref) ∧ OpsE K H as os ∧ LR.run (simInit n) os = some u ∧ os.length ≤ 400 ∧
  ∀ (H' : Hp) (q : Addr) (zs : List Int), H q = none → Same H H' → zs.Perm u.out → zs.Pairwise (· ≤ ·) → H' q = some (.lst (zs.map V.int)) → Q (.ref q) H'
def spN_places_filled : Sp := fun vs H Q _ => ∃ (n : Nat) (p : Addr) (as : List Addr) (os : List Op) (u : Sim), vs = [.int n, .ref p] ∧ 1 ≤ n ∧ n ≤ 200 ∧ SqE K H p (as.map V.ref) ∧ OpsE K H as os ∧ LR.run (simInit n) os = some u ∧ os.length ≤ 400 ∧
  ∀ (H' : Hp) (q : Addr), H q = none → Same H H' → H' q = some (.lst (u.filled.map V.int)) → Q (.ref q) H'
def sp__law_size : Sp := fun vs H Q _ => ∃ (b l : Addr) (ns : List Int) (d : Nat), vs = [.ref b] ∧ Bag H b l ns d ∧ d < 900000 ∧ ns.length ≤ 63 ∧ ∀ (H' : Hp) (n : Nat), 1 ≤ n → n ≤ 200 → Bag H' b l ns (d + 3) → Fr H H' b → Q (.int n) H'
def sp__law_either : Sp := fun vs H Q _ => ∃ (b l : Addr) (ns : List Int) (d : Nat) (p : Addr) (xs : List V), vs = [.ref b, .ref p] ∧ Bag H b l ns d ∧ d < 900000 ∧ ns.length ≤ 63 ∧ SqE K H p xs ∧ p ≠ b ∧ xs.length ≤ 1000 ∧
  ∀ (H' : Hp) (q : Addr) (t : Bool), Bag H' b l ns (d + 1) → Fr H H' b → LX.SqB K t H' q xs → Q (.ref q) H'
def sp__law_schedule : Sp := fun vs H Q _ => ∃ (b l : Addr) (ns : List Int) (d n m : Nat), vs = [.ref b, .int n, .int m] ∧ Bag H b l ns d ∧ d < 800000 ∧ ns.length ≤ 63 ∧ 1 ≤ n ∧ n ≤ 200 ∧ m ≤ 400 ∧
  ∀ (H' : Hp) (p : Addr) (as : List Addr) (os : List Op) (u : Sim), Bag H' b l ns (d + 1 + 2 * m) → Fr H H' b → H p = none → H' p = some (.lst (as.map V.ref)) → OpsOk H' as os → LR.run (simInit n) os = some u → os.length = m → Q (.ref p) H'
/-- the data of an operation, of a schedule -/
def opD (t : Bool) (o : Op) : PyData := mkD t [.str (kst o.1), .int o.2]
def scD (t : Bool) (ts : List Bool) (os : List Op) : PyData := mkD t ((ts.zip os).map fun x => opD x.1 x.2)
def sp__law_dressed : Sp := fun vs H Q _ => ∃ (b l : Addr) (ns : List Int) (d : Nat) (p : Addr) (as : List Addr) (os : List Op), vs = [.ref b, .ref p] ∧ Bag H b l ns d ∧ d < 800000 ∧ ns.length ≤ 63 ∧ H p = some (.lst (as.map V.ref)) ∧ p ≠ b ∧ OpsOk H as os ∧ os.length ≤ 400 ∧
  ∀ (H' : Hp) (q : Addr) (cs : List Addr) (t : Bool) (ts : List Bool), Bag H' b l ns (d + 401) → Fr H H' b → SqE K H' q (cs.map V.ref) → OpsE K H' cs os → ts.length = os.length → Dp K H' (.ref q) (scD t ts os) → Q (.ref q) H'
def sp__law_can : Sp := fun vs H Q _ => ∃ (p q a : Addr) (s : Sim) (o : Op), vs = [.ref p, .ref q, .ref a] ∧ H p = some (.lst (s.books.map vo)) ∧ H q = some (.lst (s.out.map V.int)) ∧ SqE K H a (opv o) ∧ (stp s o).isSome = true ∧ ∀ H' : Hp, Same H H' → Q (.bl true) H'
/-- what all functions tell -/
structure Told (H H' : Hp) (q bl ol fl : Addr) (zs : List Int) (u : Sim) : Prop where
  sm : Same H H'
  nq : H q = none
  nb : H bl = none
  no : H ol = none
  nf : H fl = none
  ls : H' q = some (.lst [.ref bl, .ref ol, .ref fl, .int u.most])
  lb : H' bl = some (.lst (u.books.map vo))
  lo : H' ol = some (.lst (zs.map V.int))
  lf : H' fl = some (.lst (u.filled.map V.int))
  pm : zs.Perm u.out
  so : zs.Pairwise (· ≤ ·)
  n1 : bl ≠ ol
  n2 : bl ≠ fl
  n3 : ol ≠ fl
def sp__law_told : Sp := fun vs H Q _ => ∃ (n : Nat) (p : Addr) (as : List Addr) (os : List Op) (u : Sim), vs = [.int n, .ref p] ∧ 1 ≤ n ∧ n ≤ 200 ∧ SqE K H p (as.map V.ref) ∧ OpsE K H as os ∧ LR.run (simInit n) os = some u ∧ os.length ≤ 400 ∧
  ∀ (H' : Hp) (q bl ol fl : Addr) (zs : List Int), Told H H' q bl ol fl zs u → Q (.ref q) H'
def sp__law_right : Sp := fun vs H Q _ => ∃ (b l : Addr) (ns : List Int) (d n : Nat) (p : Addr) (as : List Addr) (os : List Op) (u : Sim), vs = [.ref b, .int n, .ref p] ∧ Bag H b l ns d ∧ d < 800000 ∧ ns.length ≤ 63 ∧ 1 ≤ n ∧ n ≤ 200 ∧ H p = some (.lst (as.map V.ref)) ∧ p ≠ b ∧ OpsOk H as os ∧ LR.run (simInit n) os = some u ∧ os.length ≤ 400 ∧
  ∀ H' : Hp, Bag H' b l ns (d + 401) → Fr H H' b → Q (.bl true) H'
end
theorem fr_tupB {K : PySem.W.Frag} {H H' : Hp} {b q l : Addr} {ns : List Int} {d : Nat} {xs : List V} (f : Fr H H' b) (G : Bag H b l ns d) (h : SqT K H q xs) : SqT K H' q xs := by
  obtain ⟨_, _, _, _, hb, _⟩ := G.ex
  rcases h with (h | ⟨o, h⟩) | h
  · exact .inl (.inl (f _ _ h fun z => by rw [z, hb] at h; cases h))
  · exact .inl (.inr ⟨o, f _ _ h fun z => by rw [z, hb] at h; cases h⟩)
  · exact .inr h
theorem fr_sqX {K : PySem.W.Frag} {H H' : Hp} {p q : Addr} {xs ys : List V} {t : Bool} (f : Fr H H' p) (hp : H p = some (.lst ys)) (hne : ys ≠ xs) (h : LX.SqB K t H q xs) : LX.SqB K t H' q xs := by
  cases t with
  | true =>
    rcases h with (h | ⟨o, h⟩) | h
    · exact .inl (.inl (f _ _ h fun z => by rw [z, hp] at h; cases h))
    · exact .inl (.inr ⟨o, f _ _ h fun z => by rw [z, hp] at h; cases h⟩)
    · exact .inr h
  | false =>
    rcases h with (h | ⟨o, h⟩) | h
    · exact .inl (.inl (f _ _ h fun z => by rw [z, hp] at h; cases h; exact hne rfl))
    · exact .inl (.inr ⟨o, f _ _ h fun z => by rw [z, hp] at h; cases h⟩)
    · exact .inr h
theorem fr_sqEX {K : PySem.W.Frag} {H H' : Hp} {p q : Addr} {xs ys : List V} (f : Fr H H' p) (hp : H p = some (.lst ys)) (hne : ys ≠ xs) (h : SqE K H q xs) : SqE K H' q xs := by
  rcases h with h | h
  · exact .inl (fr_sqX (t := false) f hp hne h)
  · exact .inr (fr_sqX (t := true) f hp hne h)
theorem ints_ne {l : List Int} {w : Str} {r : List V} : l.map V.int ≠ .str w :: r := fun z => by cases l <;> cases z
theorem refs_ne {l : List Addr} {w : Str} {r : List V} : l.map V.ref ≠ .str w :: r := fun z => by cases l <;> cases z
theorem ope_fr {K : PySem.W.Frag} {H H' : Hp} {p : Addr} {cs ds : List Addr} {os : List Op} (f : Fr H H' p) (hp : H p = some (.lst (ds.map V.ref))) (h : OpsE K H cs os) : OpsE K H' cs os := ⟨h.1, fun i a o h1 h2 => by
  have := h.2 i a o h1 h2
  rcases this with q | q
  · rcases q with (q | ⟨o', q⟩) | q
    · exact .inl (.inl (.inl (f _ _ q fun z => by rw [z, hp] at q; cases ds <;> cases q)))
    · exact .inl (.inl (.inr ⟨o', f _ _ q fun z => by rw [z, hp] at q; cases q⟩))
    · exact .inl (.inr q)
  · rcases q with (q | ⟨o', q⟩) | q
    · exact .inr (.inl (.inl (f _ _ q fun z => by rw [z, hp] at q; cases q)))
    · exact .inr (.inl (.inr ⟨o', f _ _ q fun z => by rw [z, hp] at q; cases q⟩))
    · exact .inr (.inr q)⟩
theorem vos_ne {l : List (Option Int)} {w : Str} {r : List V} : l.map vo ≠ .str w :: r := fun z => by
  cases l with
  | nil => cases z
  | cons o l =>
    cases o <;> cases z
theorem fr_sqBag {K : PySem.W.Frag} {H H' : Hp} {b q l : Addr} {ns : List Int} {d : Nat} {o : Op} {t : Bool} (f : Fr H H' b) (G : Bag H b l ns d) (h : LX.SqB K t H q (opv o)) : LX.SqB K t H' q (opv o) := by
  obtain ⟨_, _, _, _, hb, _⟩ := G.ex
  exact fr_sqX f hb (fun z => by cases z) h
theorem isiT_yes {K : PySem.W.Frag} {H : Hp} {Q : VK} {a p : Addr} {xs : List V} (n : SqE K H a xs) (h : H p = some (.tup [.ty "list", .ty "tuple"])) (q : Q (.bl true) H) : rIsiT K [.ref a, .ref p] H Q := by
  rcases ty_E n with c | c
  · exact ⟨_, p, _, .type "list", [.type "list", .type "tuple"], true, rfl, h, .cons (.ty _) (.cons (.ty _) .nil), c, kit_lt, q⟩
  · exact ⟨_, p, _, .type "tuple", [.type "list", .type "tuple"], true, rfl, h, .cons (.ty _) (.cons (.ty _) .nil), c, kit_tt, q⟩
theorem ktupE {K : PySem.W.Frag} {H : Hp} {p : Addr} {xs : List V} {R : VK} (h : SqE K H p xs) (k : ∀ (q : Addr) (H' : Hp), Same H H' → SqT K H' q xs → R (.ref q) H') : kTup K (.ref p) H R := by
  rcases h with h | h
  · exact .inl ⟨p, xs, rfl, h, fun q nq => k q _ (same_upd nq) (SqT.of upd_same)⟩
  · exact .inr ⟨p, xs, rfl, h, k p H (Same.refl _) h⟩
theorem rlistE {K : PySem.W.Frag} {H : Hp} {p : Addr} {xs : List V} {R : VK} (h : SqE K H p xs) (k : ∀ (q : Addr) (H' : Hp), H q = none → Same H H' → H' q = some (.lst xs) → R (.ref q) H') : LS.rListOf K [.ref p] H R := by
  rcases h with h | h
  · exact LS.rlist_l h k
  · exact LS.rlist_t h k
theorem zip_get {α β γ : Type} (f : α × β → γ) : ∀ {xs : List α} {ys : List β} {i : Nat} {x : α} {y : β}, xs[i]? = some x → ys[i]? = some y → ((xs.zip ys).map f)[i]? = some (f (x, y))
  | [], _, _, _, _, h, _ => by simp at h
  | _ :: _, [], _, _, _, _, h => by simp at h
  | a :: xs, b :: ys, 0, _, _, h1, h2 => by cases h1; cases h2; rfl
  | a :: xs, b :: ys, i + 1, x, y, h1, h2 => by
    show ((xs.zip ys).map f)[i]? = _
    exact zip_get f h1 h2
theorem bag_fr {H H' : Hp} {b l p : Addr} {ns : List Int} {d : Nat} (G : Bag H b l ns d) (f : Fr H H' p) (n1 : p ≠ b) (n2 : p ≠ l) : Bag H' b l ns d := by
  obtain ⟨⟨i, c, k, t, h, r⟩, h2, h3⟩ := G
  exact ⟨⟨i, c, k, t, f _ _ h n1.symm, r⟩, f _ _ h2 n2.symm, h3⟩
theorem dp_opB {K : PySem.W.Frag} {H : Hp} {t : Bool} {c : Addr} {o : Op} (h : LX.SqB K t H c (opv o)) : Dp K H (.ref c) (opD t o) := mk_dp h (.cons (.str _) (.cons (.int _) .nil))
theorem dp_sc {K : PySem.W.Frag} {H : Hp} {t : Bool} {q : Addr} {cs : List Addr} {ts : List Bool} {os : List Op} (h : LX.SqB K t H q (cs.map V.ref)) (l1 : cs.length = os.length) (l2 : ts.length = os.length)
    (hc : ∀ (j : Nat) c t o, cs[j]? = some c → ts[j]? = some t → os[j]? = some o → LX.SqB K t H c (opv o)) : Dp K H (.ref q) (scD t ts os) := by
  refine mk_dp h (LG.dpAll_of (by rw [List.length_map, List.length_map, List.length_zip]; omega) fun i v d hv hd => ?_)
  rw [List.getElem?_map] at hv
  cases q : cs[i]? with
  | none => rw [q] at hv; cases hv
  | some c =>
    rw [q] at hv
    cases hv
    have hi := (List.getElem?_eq_some_iff.mp q).1
    obtain ⟨t', ht⟩ : ∃ t', ts[i]? = some t' := ⟨_, List.getElem?_eq_getElem (by omega)⟩
    obtain ⟨o, ho⟩ : ∃ o, os[i]? = some o := ⟨_, List.getElem?_eq_getElem (by omega)⟩
    rw [zip_get _ ht ho] at hd
    cases hd
    exact dp_opB (hc i c t' o q ht ho)
/-- of a sorted list and its order there is one -/
theorem sorted_one : ∀ {xs ys : List Int}, xs.Perm ys → xs.Pairwise (· ≤ ·) → ys.Pairwise (· ≤ ·) → xs = ys
  | [], ys, p, _, _ => (List.nil_perm.mp p).symm
  | x :: xs, [], p, _, _ => absurd p.length_eq (by simp)
  | x :: xs, y :: ys, p, h1, h2 => by
    have hx : x ≤ y := by
      rcases List.mem_cons.mp (p.symm.subset (List.mem_cons_self ..)) with q | q
      · omega
      · exact (List.pairwise_cons.mp h1).1 y q
    have hy : y ≤ x := by
      rcases List.mem_cons.mp (p.subset (List.mem_cons_self ..)) with q | q
      · omega
      · exact (List.pairwise_cons.mp h2).1 x q
    have e : x = y := by omega
    subst e
    rw [sorted_one (List.Perm.cons_inv p) (List.pairwise_cons.mp h1).2 (List.pairwise_cons.mp h2).2]
end LP

namespace LP
open PySem L2 LT LG LQ LH LC LX LR
local macro_rules | `(tactic| array_mem_dec) => `(tactic| first
  | assumption
  | ((with_reducible apply LS.hp_s); assumption; array_mem_dec)
  | ((with_reducible apply LS.hp_f); assumption; array_mem_dec; array_mem_dec)
  | ((with_reducible apply LS.hp_t); assumption; array_mem_dec; array_mem_dec)
  | ((with_reducible apply LS.hp_l); assumption; array_mem_dec; array_mem_dec)
  | ((with_reducible apply LS.sq_o); array_mem_dec)
  | ((with_reducible apply LS.sq_s); assumption; array_mem_dec)
  | ((with_reducible apply LS.sq_f); assumption; array_mem_dec; array_mem_dec)
  | ((with_reducible apply LS.sq_t); assumption; array_mem_dec; array_mem_dec)
  | ((with_reducible apply LS.sq_l); assumption; array_mem_dec; array_mem_dec)
  | ((with_reducible apply LS.tu_o); array_mem_dec)
  | ((with_reducible apply LS.tu_s); assumption; array_mem_dec)
  | ((with_reducible apply LS.tu_f); assumption; array_mem_dec; array_mem_dec)
  | ((with_reducible apply LS.tu_t); assumption; array_mem_dec; array_mem_dec)
  | ((with_reducible apply LS.tu_l); assumption; array_mem_dec; array_mem_dec)
  | ((with_reducible apply LS.se_l); array_mem_dec)
  | ((with_reducible apply LS.se_t); array_mem_dec)
  | ((with_reducible apply LS.se_s); assumption; array_mem_dec)
  | ((with_reducible apply LS.se_f); assumption; array_mem_dec; array_mem_dec)
  | ((with_reducible apply LS.se_tt); assumption; array_mem_dec; array_mem_dec)
  | ((with_reducible exact Same.refl _))
  | ((with_reducible apply LS.sm_s); assumption; array_mem_dec)
  | ((with_reducible apply LS.sm_f); assumption; array_mem_dec; array_mem_dec)
  | ((with_reducible exact Fr.refl _ _))
  | ((with_reducible apply LS.fr_b); assumption; array_mem_dec)
  | ((with_reducible apply LS.fr_s); assumption; array_mem_dec)
  | ((with_reducible apply LS.fr_n); assumption; array_mem_dec; array_mem_dec)
  | ((with_reducible apply LS.fr_t); assumption; array_mem_dec)
  | ((with_reducible apply LS.no_s); assumption; array_mem_dec)
  | ((with_reducible apply LS.no_f); assumption; array_mem_dec; array_mem_dec)
  | ((with_reducible apply LS.no_t); assumption; array_mem_dec)
  | ((with_reducible apply LS.no_l); assumption; assumption)
  | ((with_reducible apply Ne.symm); assumption)
  | ((with_reducible apply LS.ne_a); assumption; array_mem_dec)
  | ((with_reducible apply LS.ne_b); assumption; array_mem_dec)
  | ((with_reducible apply LS.ne_ap); assumption)
  | ((with_reducible apply LS.ne_il); assumption; array_mem_dec)
  | ((with_reducible apply LS.ne_li); assumption; array_mem_dec)
  | ((with_reducible apply LS.ne_lt); assumption; assumption)
  | ((with_reducible apply LS.ne_tl); assumption; assumption)
  | ((with_reducible apply LS.ne_rl); assumption; array_mem_dec)
  | ((with_reducible apply LS.rl_t); assumption)
  | ((with_reducible apply LS.rl_s); assumption; array_mem_dec)
  | ((with_reducible apply LS.rl_f); assumption; array_mem_dec; array_mem_dec)
  | ((with_reducible apply LS.rl_l); assumption; array_mem_dec; array_mem_dec)
  | ((with_reducible apply LS.ap_new); assumption; assumption; array_mem_dec)
  | ((with_reducible apply LS.ap_t); assumption; array_mem_dec; array_mem_dec)
  | ((with_reducible apply LS.ap_s); assumption; array_mem_dec; array_mem_dec)
  | ((with_reducible apply LS.ap_f); assumption; array_mem_dec; array_mem_dec; array_mem_dec)
  | ((with_reducible apply LS.ap_l); assumption; array_mem_dec; array_mem_dec; array_mem_dec)
  | (with_reducible apply LS.ni_nil)
  | ((with_reducible apply LS.ni_cons); array_mem_dec; array_mem_dec)
  | (with_reducible apply LS.trk_nil)
  | ((with_reducible apply LS.trk_cons); array_mem_dec; array_mem_dec)
  | (with_reducible apply LS.al_nil)
  | ((with_reducible apply LS.al_cons); array_mem_dec; array_mem_dec)
  | (with_reducible apply LS.mem_hd)
  | ((with_reducible apply LS.mem_tl); array_mem_dec)
  | ((with_reducible apply LS.fl_refl); array_mem_dec)
  | ((with_reducible apply LS.fl_l); assumption; array_mem_dec)
  | ((with_reducible apply LS.fl_lm); assumption; array_mem_dec; array_mem_dec)
  | (with_reducible apply LS.sub_nil)
  | ((with_reducible apply LS.sub_cons); array_mem_dec; array_mem_dec)
  | ((with_reducible apply LS.fl_s); assumption; array_mem_dec)
  | ((with_reducible apply LS.fl_m); assumption; array_mem_dec; array_mem_dec; array_mem_dec)
  | ((with_reducible apply LS.fl_n); assumption; array_mem_dec; array_mem_dec; array_mem_dec)
  | ((with_reducible apply LS.rt_refl); array_mem_dec)
  | ((with_reducible apply LS.rt_t); assumption; array_mem_dec)
  | ((with_reducible apply LS.rt_s); assumption; array_mem_dec)
  | ((with_reducible apply LS.rt_f); assumption; array_mem_dec; array_mem_dec; array_mem_dec)
  | ((with_reducible apply LS.sz); (first | decide | (simp only [List.length_append, List.length_map, List.length_cons, List.length_nil, List.length_replicate]; omega)))
  | ((with_reducible apply LS.szl); (first | decide | (simp only [List.length_append, List.length_map, List.length_cons, List.length_nil, List.length_replicate]; omega))))
local macro_rules | `(tactic| array_get_dec) => `(tactic| first
  | ((with_reducible apply LS.var); exact rfl)
  | (with_reducible apply LS.con)
  | (with_reducible apply LS.op)
  | (with_reducible apply LS.ri0)
  | (with_reducible apply LS.tseq)
  | (with_reducible apply LS.tasg)
  | (with_reducible apply LS.gname)
  | (with_reducible apply LS.tcons)
  | (with_reducible apply LS.tnil)
  | (with_reducible apply LS.tcb)
  | (with_reducible apply LS.tcall)
  | (with_reducible apply LS.ttest)
  | (with_reducible apply LS.k_b)
  | (with_reducible apply LS.tb)
  | (with_reducible apply LS.tifs)
  | (with_reducible apply LS.ift)
  | (with_reducible apply LS.iff_)
  | (with_reducible apply LS.ifnt)
  | (with_reducible apply LS.ifnf)
  | (with_reducible apply LS.tnext)
  | (with_reducible apply LS.tdrop)
  | (with_reducible apply LS.tret)
  | (with_reducible apply LS.tretn)
  | (with_reducible apply LS.un)
  | (with_reducible apply LS.ru)
  | (with_reducible apply LS.tyes)
  | (with_reducible apply LS.tand)
  | (with_reducible apply LS.tor)
  | (with_reducible apply LS.tnot)
  | (with_reducible apply LS.tif)
  | (with_reducible apply LS.tandv)
  | (with_reducible apply LS.k_av)
  | (with_reducible apply LS.torv)
  | (with_reducible apply LS.k_ov)
  | (with_reducible apply LS.tnotv)
  | (with_reducible apply LS.k_nv)
  | (with_reducible apply LS.tchain)
  | (with_reducible apply LS.k_ch)
  | (with_reducible apply LS.req_i)
  | (with_reducible apply LS.rne_i)
  | (with_reducible apply LS.req_s)
  | (with_reducible apply LS.rne_s)
  | (with_reducible apply LS.req_b)
  | (with_reducible apply LS.rne_b)
  | ((with_reducible apply LS.rin_i); array_mem_dec)
  | ((with_reducible apply LS.rni_i); array_mem_dec)
  | ((with_reducible apply LS.rlen_li); array_mem_dec)
  | ((with_reducible apply LS.rlen_ls); array_mem_dec)
  | ((with_reducible apply LS.rlen_l); array_mem_dec)
  | ((with_reducible apply LS.rlen_Ei); array_mem_dec)
  | ((with_reducible apply LS.rlen_E); array_mem_dec)
  | ((with_reducible apply LS.rlen_t); array_mem_dec)
  | ((with_reducible apply LS.rixl); array_mem_dec; exact rfl)
  | ((with_reducible apply LS.rixt); array_mem_dec; exact rfl)
  | (with_reducible apply LS.isi_int_int)
  | (with_reducible apply LS.isi_int_bool)
  | (with_reducible apply LS.isi_int_str)
  | (with_reducible apply LS.isi_str_int)
  | (with_reducible apply LS.isi_str_bool)
  | (with_reducible apply LS.isi_str_str)
  | (with_reducible apply LS.isi_bool_int)
  | (with_reducible apply LS.isi_bool_bool)
  | (with_reducible apply LS.isi_bool_str)
  | (with_reducible apply LS.isi_non_int)
  | (with_reducible apply LS.isi_non_bool)
  | (with_reducible apply LS.isi_non_str)
  | ((with_reducible apply LS.isi_list_int); array_mem_dec)
  | ((with_reducible apply LS.isi_list_bool); array_mem_dec)
  | ((with_reducible apply LS.isi_list_str); array_mem_dec)
  | ((with_reducible apply LS.isi_list_list); array_mem_dec)
  | ((with_reducible apply LS.isi_list_tuple); array_mem_dec)
  | ((with_reducible apply LS.isi_tuple_int); array_mem_dec)
  | ((with_reducible apply LS.isi_tuple_bool); array_mem_dec)
  | ((with_reducible apply LS.isi_tuple_str); array_mem_dec)
  | ((with_reducible apply LS.isi_tuple_list); array_mem_dec)
  | ((with_reducible apply LS.isi_tuple_tuple); array_mem_dec)
  | ((with_reducible apply LS.isiT_i); array_mem_dec)
  | ((with_reducible apply LS.isiT_s); array_mem_dec)
  | ((with_reducible apply LS.isiT_E); array_mem_dec; array_mem_dec)
  | (with_reducible apply LS.tfld)
  | ((with_reducible apply LS.k_fl); array_mem_dec; assumption; assumption; exact rfl)
  | (with_reducible apply LS.tmeth)
  | ((with_reducible apply LS.k_me); array_mem_dec; exact rfl)
  | (with_reducible apply LS.tmake)
  | (with_reducible apply LS.tsfld)
  | (with_reducible apply LS.tprop)
  | ((with_reducible apply LS.k_pr); array_mem_dec)
  | ((with_reducible apply LS.rlen_own); array_mem_dec)
  | (with_reducible apply LS.rabs)
  | (with_reducible apply LS.rmin2)
  | (with_reducible apply LS.rmax2)
  | (with_reducible apply LS.tsl)
  | (with_reducible apply LS.tthen)
  | (with_reducible apply LS.tstep)
  | (with_reducible apply LS.tnop)
  | (with_reducible apply LS.tpart)
  | (with_reducible apply LS.k_part)
  | (with_reducible apply LS.ttup)
  | (with_reducible apply LS.tlst)
  | (with_reducible apply LS.tbm)
  | (with_reducible apply LS.tbm0)
  | ((with_reducible apply LS.ty_l); array_mem_dec)
  | (with_reducible apply LS.tpar)
  | (with_reducible apply LS.tfor)
  | (with_reducible apply LS.tlc)
  | (with_reducible apply LS.ilist)
  | ((with_reducible apply LS.k_il); array_mem_dec)
  | (with_reducible apply LS.itup)
  | ((with_reducible apply LS.k_it); array_mem_dec)
  | (with_reducible apply LS.istr)
  | (with_reducible apply LS.k_is)
  | (with_reducible apply LS.irng1)
  | ((with_reducible apply LS.k_r1n); omega)
  | ((with_reducible apply LS.k_r1); (first | omega | decide); (first | omega | decide))
  | (with_reducible apply LS.irng2)
  | ((with_reducible apply LS.k_r2); (first | omega | decide); (first | omega | decide); (first | omega | decide); (first | omega | decide))
  | (with_reducible apply LS.ienum)
  | ((with_reducible apply LS.k_en); array_mem_dec)
  | (with_reducible apply LS.izip)
  | ((with_reducible apply LS.k_zip); array_mem_dec; array_mem_dec)
  | (with_reducible apply LS.tlstrg)
  | (with_reducible apply LS.trg1)
  | (with_reducible apply LS.k_g1)
  | (with_reducible apply LS.risn_i)
  | (with_reducible apply LS.risn_s)
  | (with_reducible apply LS.risn_n)
  | (with_reducible apply LS.rnotn_i)
  | (with_reducible apply LS.rnotn_n)
  | (with_reducible apply LS.rint_b)
  | (with_reducible apply LS.rint_i)
  | (with_reducible apply LS.tm0)
  | (with_reducible apply LS.tm1)
  | (with_reducible apply LS.is_str)
  | (with_reducible apply LS.ex_s0)
  | (with_reducible apply LS.ex_int_b)
  | (with_reducible apply LS.k_par)
  | (with_reducible apply LS.tpar3)
  | (with_reducible apply LS.k_par3)
  | ((with_reducible apply LS.taug); exact rfl)
  | (with_reducible apply LS.ipi)
  | ((with_reducible apply LS.gtup); array_mem_dec; exact rfl)
  | ((with_reducible apply LS.gunl); array_mem_dec; exact rfl)
  | (with_reducible apply LS.gnil)
  | (with_reducible apply LS.gcons)
  | (with_reducible apply LS.gsub)
  | ((with_reducible apply LS.ri); first | omega | decide | assumption | exact ⟨by decide, by decide, by decide⟩ | exact .inl ⟨by decide, by decide⟩ | exact .inr ⟨by decide, by decide⟩ | exact .inl ⟨by omega, by omega⟩ | exact .inr ⟨by omega, by omega⟩)
  | (with_reducible apply LS.ex_ss)
  | (with_reducible apply LS.ex_s1)
  | (with_reducible apply LS.ex_i1)
  | (with_reducible apply LS.and_rfl)
  | (with_reducible apply LS.and_tr)
  | (with_reducible apply LS.is_non))
local macro_rules | `(tactic| array_mem_dec) => `(tactic| first
  | ((with_reducible apply LP.lv_s); assumption; array_mem_dec)
  | ((with_reducible apply LP.lv_l); assumption; array_mem_dec; array_mem_dec; array_mem_dec)
  | ((with_reducible apply LP.lv_f); assumption; array_mem_dec; array_mem_dec; array_mem_dec)
  | ((with_reducible apply LP.lv_t); assumption; array_mem_dec; array_mem_dec; array_mem_dec)
  | ((with_reducible apply LP.ops_s); assumption; array_mem_dec)
  | ((with_reducible apply LP.md_s); assumption; array_mem_dec)
  | ((with_reducible apply LP.md_l); assumption; array_mem_dec; array_mem_dec; array_mem_dec)
  | ((with_reducible apply LP.md_f); assumption; array_mem_dec; array_mem_dec; array_mem_dec)
  | ((with_reducible apply LP.md_t); assumption; array_mem_dec; array_mem_dec; array_mem_dec)
  | ((with_reducible apply LP.al_s); assumption; array_mem_dec; array_mem_dec)
  | ((with_reducible apply LP.al_t); assumption; array_mem_dec; array_mem_dec)
  | ((with_reducible apply LP.al_l); assumption; array_mem_dec; array_mem_dec; array_mem_dec)
  | ((with_reducible apply LP.al_f); assumption; array_mem_dec; array_mem_dec; array_mem_dec)
  | ((with_reducible apply LP.Lv.lists); array_mem_dec)
  | ((with_reducible apply LP.Lv.trk); array_mem_dec)
  | ((with_reducible apply LP.Mdl.trk); array_mem_dec)
  | ((with_reducible apply LP.al_no); assumption; array_mem_dec))
local macro_rules | `(tactic| array_get_dec) => `(tactic| first
  | (with_reducible apply LS.trg2)
  | (with_reducible apply LS.k_g2))

section
variable {P : Program} {w : World} {K : PySem.W.Frag} {mg : Str → Option Value} {base : Heap}

theorem kst_t5 : kst true = ("take" : Str) := rfl
theorem kst_f5 : ¬ kst false = ("take" : Str) := by decide
theorem ok_is_listed (e : Env K mg) : FnOk P w K mg base CX0 1 e.a_is_listed e.d_is_listed ["value"] (sp_is_listed K) := by
  refine Fun.ok e.f_is_listed sc_is_listed (fun vs H Q E h => ?_) (fun cdv A outer s H vs Q E hr h => ?_)
  · obtain ⟨a, xs, rfl, _⟩ := h; rfl
  · obtain ⟨a, xs, rfl, hx, k⟩ := h
    refine ⟨_, (pss_one (ps_ret (pe_callB call_isiT (by rfl) e.n_isinstance (by decide +kernel) (pa_cons (pv 0) (pa_cons (pe_tup (pa_cons (pe_bltn (v := V.ty "list") (by rfl) e.n_list (by decide +kernel) rfl) (pa_cons (pe_bltn (v := V.ty "tuple") (by rfl) e.n_tuple (by decide +kernel) rfl) pa_nil))) pa_nil))))), ?_⟩
    refine ⟨_, rfl, (by show 2 ≤ sizeLine; decide), fun p hp => ?_⟩
    rcases ty_E (hx.same (same_upd hp)) with hx | hx
    · exact ⟨_, p, _, .type "list", [.type "list", .type "tuple"], true, rfl, upd_same, .cons (.ty _) (.cons (.ty _) .nil), hx, kit_lt, k _ (same_upd hp)⟩
    · exact ⟨_, p, _, .type "tuple", [.type "list", .type "tuple"], true, rfl, upd_same, .cons (.ty _) (.cons (.ty _) .nil), hx, kit_tt, k _ (same_upd hp)⟩
theorem outs_le5 {n : Nat} {s : Sim} (g : Good n s) : s.out.length ≤ n := by
  have := g.perm.length_eq
  rw [List.length_append, rangeI_length] at this
  omega
theorem ixe0 {i : Nat} {z : Int} {p : Addr} {xs : List V} {v : V} {m : Nat} {K : PySem.W.Frag} {σ : L2.St} {H : Hp} {Q : VK} (h1 : σ[i]? = some (some (.ref p))) (h : SqE K H p xs) (e : xs[m]? = some v) (hz : z = (m : Int)) (q : Q v H) : tOp (rIxL K) (tVar i) (tC (.int z)) σ H Q ∨ tOp (rIxT K) (tVar i) (tC (.int z)) σ H Q := by
  rcases h with h | h
  · exact .inl ⟨_, h1, p, xs, z, v, rfl, rfl, h, at_of hz e, q⟩
  · exact .inr ⟨_, h1, p, xs, z, v, rfl, rfl, h, at_of hz e, q⟩
theorem ok_can_perform (e : Env K mg) : FnOk P w K mg base CX0 3 e.a_can_perform e.d_can_perform ["shelf", "value"] (sp_can_perform K e.C_Shelf) := by
  refine Fun.ok e.f_can_perform sc_can_perform (fun vs H Q E h => ?_) (fun cdv A outer s H vs Q E hr h => ?_)
  · obtain ⟨sh, dx, bl, ol, v, s, o, rfl, _⟩ := h; rfl
  · obtain ⟨sh, dx, bl, ol, v, s, o, rfl, S, hv, k⟩ := h
    refine ⟨_, (pss_cons (ps_if (PW.pt (pw_or (pt_not (pt_val (pe_call ((ok_is_listed e).mono (by decide)) hr rfl e.g_is_listed e.f_is_listed.kp e.b_is_listed .nil pass0 (pa_cons (pv 1) pa_nil)))) (pw_or (pt_cmpR op_ne (pe_callB LS.call_len (by rfl) e.n_len PySem.boot_len (pa_cons (pv 1) pa_nil)) pe_int (nomark _)) (pw_or1 (pt_not (pt_val (pe_callB call_isi (by rfl) e.n_isinstance (by decide +kernel) (pa_cons (PE.or (pe_ix ix_list (pv 1) pe_int (fun _ _ => rfl)) (pe_ix ix_tup (pv 1) pe_int (fun _ _ => rfl))) (pa_cons (pe_bltn (v := V.ty "str") (by rfl) e.n_str (by decide +kernel) rfl) pa_nil)))))))))
        (pss_one (ps_ret pe_bl))
        pss_nil)
      (pss_cons (ps_asg (pv 1) (LX.pgor (pg_tup (n := 2) (by rfl) (pgs_cons (pg_name (i := 2) sc_can_perform.nd rfl (by first | exact Or.inl rfl | exact Or.inr rfl)) (pgs_cons (pg_name (i := 3) sc_can_perform.nd rfl (by first | exact Or.inl rfl | exact Or.inr rfl)) pgs_nil))) (pg_unl (n := 2) rfl (pgs_cons (pg_name (i := 2) sc_can_perform.nd rfl (by first | exact Or.inl rfl | exact Or.inr rfl)) (pgs_cons (pg_name (i := 3) sc_can_perform.nd rfl (by first | exact Or.inl rfl | exact Or.inr rfl)) pgs_nil)))))
      (pss_cons (ps_if (pt_cmpR op_eq (pv 2) pe_str (nomark _))
        (pss_one (ps_ret (pe_meth (pv 0) e.cl_Shelf e.m_Shelf_can_take ((ok_Shelf_can_take e).mono (by decide)) hr e.b_Shelf_can_take .nil pass0 (pa_cons (pv 3) pa_nil))))
        pss_nil)
      (pss_one (ps_ret (pe_and (pe_cmpR op_eq (pv 2) pe_str (nomark _)) (pe_one (pe_meth (pv 0) e.cl_Shelf e.m_Shelf_can_return ((ok_Shelf_can_return e).mono (by decide)) hr e.b_Shelf_can_return .nil pass0 (pa_cons (pv 3) pa_nil))))))))), ?_⟩
    have c_Shelf := e.cl_Shelf; have a_Shelf_books := e.nA_Shelf_books; have a_Shelf_out := e.nA_Shelf_out
    have hv' : SqE K H v [.str (kst o.1), .int o.2] := hv
    clear hv
    repeat array_get_dec
    refine ⟨v, _, rfl, hv', fun H1 s1 => ?_⟩
    have S1 : Shf e.C_Shelf H1 sh dx bl ol s := ⟨s1 _ _ S.ob, s1 _ _ S.bk, s1 _ _ S.ou, S.ne⟩
    have ho1 := S1.ob
    have hv1 := hv'.same s1
    repeat array_get_dec
    rw [decide_eq_true (by rfl)]
    repeat array_get_dec
    refine ixe0 (m := 0) rfl hv1 rfl rfl ?_
    repeat array_get_dec
    try refine LS.isi_str_str ?_
    repeat array_get_dec
    refine LS.gorE hv1 rfl ?_
    repeat array_get_dec
    refine LS.if2 (fun hk => ?_) fun hk => ?_
    · obtain ⟨kd, num⟩ := o
      cases kd with
      | false => exact absurd hk kst_f5
      | true =>
        repeat array_get_dec
        refine ⟨sh, dx, bl, ol, s, num, rfl, S1, ?_⟩
        repeat array_get_dec
        exact k H1 s1
    · obtain ⟨kd, num⟩ := o
      cases kd with
      | true => exact absurd kst_t5 hk
      | false =>
        repeat array_get_dec
        rw [show decide (kst false = "return") = true by decide]
        repeat array_get_dec
        refine ⟨sh, dx, bl, ol, s, num, rfl, S1, ?_⟩
        repeat array_get_dec
        exact k H1 s1
theorem ok_run_schedule (e : Env K mg) : FnOk P w K mg base CX0 4 e.a_run_schedule e.d_run_schedule ["size", "schedule"] (spN_run_schedule K e.C_Shelf) := by
  refine Fun.ok e.f_run_schedule sc_run_schedule (fun vs H Q E h => ?_) (fun cdv A outer s H vs Q E hr h => ?_)
  · obtain ⟨n, p, as, os, u, rfl, _⟩ := h; rfl
  · obtain ⟨n, p, as, os, u, rfl, hn1, hn, hp, hos, hrun, hl, k⟩ := h
    refine ⟨_, (pss_cons (ps_expr (pe_call ((ok_check_size e).mono (by decide)) hr rfl e.g_check_size e.f_check_size.kp e.b_check_size .nil pass0 (pa_cons (pv 0) pa_nil)))
      (pss_cons (ps_if (PW.pt (pw_or (pt_not (pt_val (pe_call ((ok_is_listed e).mono (by decide)) hr rfl e.g_is_listed e.f_is_listed.kp e.b_is_listed .nil pass0 (pa_cons (pv 1) pa_nil)))) (pw_or1 (pt_cmpR op_gt (pe_callB LS.call_len (by rfl) e.n_len PySem.boot_len (pa_cons (pv 1) pa_nil)) (pe_glob (v := V.int 400) rfl e.g_MOST_OPERATIONS ⟨_, rfl⟩) (nomark _)))))
        (pss_one ps_never)
        pss_nil)
      (pss_cons (ps_set (i := 2) sc_run_schedule.nd rfl (by first | exact Or.inl rfl | exact Or.inr rfl) (pe_make e.mk_Shelf ((ok_Shelf_init e).mono (by decide)) hr rfl e.g_Shelf e.b_Shelf_init .nil pass0 (pa_cons (pv 0) pa_nil)))
      (pss_cons (ps_set (i := 3) sc_run_schedule.nd rfl (by first | exact Or.inl rfl | exact Or.inr rfl) (pe_lst pa_nil))
      (pss_cons (ps_set (i := 4) sc_run_schedule.nd rfl (by first | exact Or.inl rfl | exact Or.inr rfl) pe_int)
      (pss_cons (ps_for PassesOwn.never rfl (PI.or (pi_enum (by rfl) e.n_enumerate (pa_cons (pv 1) pa_nil)) (pi_enumT (by rfl) e.n_enumerate (pa_cons (pv 1) pa_nil))) (pg_tup (by rfl) (pgs_cons (pg_name (i := 5) sc_run_schedule.nd rfl (by first | exact Or.inl rfl | exact Or.inr rfl)) (pgs_cons (pg_name (i := 6) sc_run_schedule.nd rfl (by first | exact Or.inl rfl | exact Or.inr rfl)) pgs_nil)))
      (pss_cons (ps_if (pt_not (pt_val (pe_call ((ok_can_perform e).mono (by decide)) hr rfl e.g_can_perform e.f_can_perform.kp e.b_can_perform .nil pass0 (pa_cons (pv 2) (pa_cons (pv 6) pa_nil)))))
        (pss_one ps_never)
        pss_nil)
      (pss_cons (ps_asg (pv 6) (LX.pgor (pg_tup (n := 2) (by rfl) (pgs_cons (pg_name (i := 7) sc_run_schedule.nd rfl (by first | exact Or.inl rfl | exact Or.inr rfl)) (pgs_cons (pg_name (i := 8) sc_run_schedule.nd rfl (by first | exact Or.inl rfl | exact Or.inr rfl)) pgs_nil))) (pg_unl (n := 2) rfl (pgs_cons (pg_name (i := 7) sc_run_schedule.nd rfl (by first | exact Or.inl rfl | exact Or.inr rfl)) (pgs_cons (pg_name (i := 8) sc_run_schedule.nd rfl (by first | exact Or.inl rfl | exact Or.inr rfl)) pgs_nil)))))
      (pss_cons (ps_if (pt_cmpR op_eq (pv 7) pe_str (nomark _))
        (pss_one (ps_expr (pe_meth (pv 2) e.cl_Shelf e.m_Shelf_take_from ((ok_Shelf_take_from e).mono (by decide)) hr e.b_Shelf_take_from .nil pass0 (pa_cons (pv 8) pa_nil))))
        (pss_one (ps_expr (pe_bm PySem.F.plainAttrs_list PySem.F.slot_list_append PySem.F.type_list_append mt_append (pv 3) (pa_cons (pe_meth (pv 2) e.cl_Shelf e.m_Shelf_put_back ((ok_Shelf_put_back e).mono (by decide)) hr e.b_Shelf_put_back .nil pass0 (pa_cons (pv 8) pa_nil)) pa_nil)))))
      (pss_one (ps_set (i := 4) sc_run_schedule.nd rfl (by first | exact Or.inl rfl | exact Or.inr rfl) (pe_callB (LS.call_max2 rfl) (by rfl) e.n_max (by decide +kernel) (pa_cons (pv 4) (pa_cons (pe_callB LS.call_len (by rfl) e.n_len PySem.boot_len (pa_cons (pe_fld (pv 2) rfl) pa_nil)) pa_nil)))))))))
      (pss_one (ps_ret (pe_tup (pa_cons (pv 2) (pa_cons (pv 3) (pa_cons (pv 4) pa_nil)))))))))))), ?_⟩
    have c_Shelf := e.cl_Shelf; have a_Shelf_books := e.nA_Shelf_books; have a_Shelf_out := e.nA_Shelf_out
    have hl1 := hos.1
    repeat array_get_dec
    refine ⟨n, rfl, by omega, by omega, ?_⟩
    repeat array_get_dec
    refine ⟨p, as.map V.ref, rfl, hp, fun H1 s1 => ?_⟩
    have hp1 := hp.same s1
    repeat array_get_dec
    rw [decide_eq_false (by rw [List.length_map]; omega)]
    repeat array_get_dec
    refine LS.k_mk fun sh ds H2 n1 n2 s2 h2 => ?_
    refine ⟨sh, ds, n, rfl, hn, h2, fun H3 bl ol f3 S nb no => ⟨rfl, ?_⟩⟩
    repeat array_get_dec
    refine LS.k_lst (by array_mem_dec) fun fl H_fl n_fl s_fl h_fl => ?_
    repeat array_get_dec
    have nsh : H sh = none := s1.free n1
    have s12 : Same H H2 := s1.trans s2
    have s3 : Same H H3 := same_fr s12 f3 nsh
    have nbl : H bl = none := s12.free nb
    have nol : H ol = none := s12.free no
    have nfl : H fl = none := s3.free n_fl
    have s0 : Same H H_fl := s3.trans s_fl
    have noL : NoL H [bl, ol] := fun x hx => by
      simp at hx
      rcases hx with rfl | rfl <;> assumption
    have nef1 : fl ≠ bl := fun q => by rw [q, S.bk] at n_fl; cases n_fl
    have nef2 : fl ≠ ol := fun q => by rw [q, S.ou] at n_fl; cases n_fl
    have nL : fl ∉ [bl, ol] := by simp [nef1, nef2]
    have Sf : Shf e.C_Shelf H_fl sh ds bl ol (simInit n) := ⟨s_fl _ _ S.ob, s_fl _ _ S.bk, s_fl _ _ S.ou, S.ne⟩
    have hpf := hp.same s0
    clear s12 s3 f3 s2
    refine or_enumE0 hp s0 (fun Q q => ⟨_, rfl, q⟩) fun J G wk hG => ?_
    refine LS.for_ wk (fun i σ H' => ∃ (s : Sim) (v5 v6 v7 v8 : Option V), Same H H' ∧ LR.run (simInit n) (os.take i) = some s ∧ Shf e.C_Shelf H' sh ds bl ol s ∧ H' fl = some (.lst (s.filled.map V.int)) ∧ s.filled.length ≤ i ∧ σ = [some (.int n), some (.ref p), some (.ref sh), some (.ref fl), some (.int s.most), v5, v6, v7, v8]) ⟨simInit n, _, _, _, _, s0, rfl, Sf, h_fl, Nat.le_refl _, rfl⟩ (fun i σ H' hi h => hG _ (by obtain ⟨_, _, _, _, _, h, _⟩ := h; exact h)) ?_ ?_
    · rintro i x σ H5 H4 hi ⟨s, v5, v6, v7, v8, s4, hs, S4, hfl, hfn, rfl⟩ y
      obtain ⟨T, y, z, rfl, nT, sT, hT, hy, hz⟩ := LS.ypair y
      cases hy
      rw [List.length_map] at hi
      obtain ⟨a, ha, rfl⟩ : ∃ a, as[i]? = some a ∧ z = .ref a := by
        rw [List.getElem?_map] at hz
        cases q : as[i]? with
        | none => rw [q] at hz; cases hz
        | some a => rw [q] at hz; cases hz; exact ⟨a, rfl, rfl⟩
      obtain ⟨o, ho⟩ : ∃ o, os[i]? = some o := ⟨_, List.getElem?_eq_getElem (by omega)⟩
      obtain ⟨t, u', h1', hst, h2'⟩ := run_stp hrun ho
      obtain rfl : t = s := Option.some.inj (h1'.symm.trans hs)
      have g := good_run (good_init n) hs
      have g1 := g.len
      have g2 := LP.outs_le5 g
      have s5 : Same H H4 := s4.trans sT
      have hta : SqE K H4 a [.str (kst o.1), .int o.2] := (hos.2 i a _ ha ho).same s5
      have S5 : Shf e.C_Shelf H4 sh ds bl ol t := ⟨sT _ _ S4.ob, sT _ _ S4.bk, sT _ _ S4.ou, S4.ne⟩
      have hfl5 := sT _ _ hfl
      repeat array_get_dec
      refine ⟨sh, ds, bl, ol, a, t, o, rfl, S5, hta, fun H6 s6 => ?_⟩
      rw [hst, Option.isSome_some]
      have hta6 := hta.same s6
      have S6 : Shf e.C_Shelf H6 sh ds bl ol t := ⟨s6 _ _ S5.ob, s6 _ _ S5.bk, s6 _ _ S5.ou, S5.ne⟩
      have hob6 := S6.ob
      have hfl6 := s6 _ _ hfl5
      have s06 : Same H H6 := s5.trans s6
      clear hta hfl5 s5 S5 s4 sT hfl S4
      repeat array_get_dec
      refine LS.gorE hta6 rfl ?_
      repeat array_get_dec
      refine LS.if_join (fun σ' H' => Same H H' ∧ Shf e.C_Shelf H' sh ds bl ol u' ∧ H' fl = some (.lst (u'.filled.map V.int)) ∧ u'.filled.length ≤ i + 1 ∧ u'.most = mx t.most (u'.out.length : Nat) ∧ σ' = [some (.int n), some (.ref p), some (.ref sh), some (.ref fl), some (.int t.most), some (.int i), some (.ref a), some (.str (kst o.1)), some (.int o.2)]) (fun hk D' hrt kk => ?_) (fun hk D' hrt kk => ?_) ?_
      · obtain ⟨kd, num⟩ := o
        cases kd with
        | false => exact absurd hk kst_f5
        | true =>
          repeat array_get_dec
          refine ⟨sh, ds, bl, ol, t, u', num, rfl, S6, hst, by omega, by omega, fun H7 f7 S7 => ?_⟩
          repeat array_get_dec
          obtain ⟨_, bb, _, rfl⟩ := stp_take hst
          exact kk _ _ ⟨same_frl s06 f7 noL, S7, f7.k _ _ hfl6 nL, by show t.filled.length ≤ i + 1; omega, rfl, rfl⟩
      · obtain ⟨kd, num⟩ := o
        cases kd with
        | true => exact absurd kst_t5 hk
        | false =>
          have hin := (stp_ret hst).1
          repeat array_get_dec
          refine ⟨sh, ds, bl, ol, t, u', num, rfl, S6, hst, g.gap hin, by omega, fun H7 f7 S7 => ?_⟩
          have hfl7 := f7.k _ _ hfl6 nL
          have s07 : Same H H7 := same_frl s06 f7 noL
          repeat array_get_dec
          refine LS.rapp (xs := t.filled.map V.int) (by array_mem_dec) (LS.szl (by rw [List.length_map]; omega)) fun H8 f8 h8 => ?_
          repeat array_get_dec
          obtain ⟨_, rfl⟩ := stp_ret hst
          have ed : due t (false, num) = (gap t.books : Nat) := by unfold due; rw [if_neg (by simp)]
          rw [ed] at h8
          exact kk _ _ ⟨same_fr s07 f8 nfl, ⟨f8 _ _ S7.ob (ne_of S7.ob hfl7 (by intro q; cases q)), f8 _ _ S7.bk nef1.symm, f8 _ _ S7.ou nef2.symm, S7.ne⟩, by rw [h8]; show _ = some (HO.lst (List.map V.int (t.filled ++ [_]))); rw [List.map_append]; rfl, by show (t.filled ++ [_]).length ≤ i + 1; rw [List.length_append, List.length_singleton]; omega, rfl, rfl⟩
      · rintro σ' H9 ⟨s9, S9, h9, l9, m9, rfl⟩
        have hob9 := S9.ob
        have hou9 := S9.ou
        repeat array_get_dec
        exact ⟨u', _, _, _, _, s9, h2', S9, h9, l9, by rw [show max t.most ((u'.out.length : Nat) : Int) = u'.most by rw [m9]; unfold mx; split <;> omega]; rfl⟩
    · rintro σ HE ⟨s, v5, v6, v7, v8, s4, hs, S4, hfl, hfn, rfl⟩
      rw [List.length_map, hl1, List.take_length, hrun] at hs
      cases hs
      repeat array_get_dec
      refine LS.k_tup (by array_mem_dec) fun t H_t n_t s_t h_t => ?_
      repeat array_get_dec
      exact k H_t t sh ds bl ol fl (s4.trans s_t) (s4.free n_t) nbl nol nfl h_t ⟨s_t _ _ S4.ob, s_t _ _ S4.bk, s_t _ _ S4.ou, S4.ne⟩ (s_t _ _ hfl)
theorem ok_books_after (e : Env K mg) : FnOk P w K mg base CX0 5 e.a_books_after e.d_books_after ["size", "schedule"] (spN_books_after K) := by
  refine Fun.ok e.f_books_after sc_books_after (fun vs H Q E h => ?_) (fun cdv A outer s H vs Q E hr h => ?_)
  · obtain ⟨n, p, as, os, u, rfl, _⟩ := h; rfl
  · obtain ⟨n, p, as, os, u, rfl, hn1, hn, hp, hos, hrun, hl, k⟩ := h
    refine ⟨_, (pss_cons (ps_asg (pe_call ((ok_run_schedule e).mono (by decide)) hr rfl e.g_run_schedule e.f_run_schedule.kp e.b_run_schedule .nil pass0 (pa_cons (pv 0) (pa_cons (pv 1) pa_nil))) (pg_tup (by rfl) (pgs_cons (pg_name (i := 2) sc_books_after.nd rfl (by first | exact Or.inl rfl | exact Or.inr rfl)) (pgs_cons (pg_name (i := 3) sc_books_after.nd rfl (by first | exact Or.inl rfl | exact Or.inr rfl)) (pgs_cons (pg_name (i := 3) sc_books_after.nd rfl (by first | exact Or.inl rfl | exact Or.inr rfl)) pgs_nil)))))
      (pss_one (ps_ret (pe_fld (pv 2) rfl)))), ?_⟩
    have c_Shelf := e.cl_Shelf; have a_Shelf_books := e.nA_Shelf_books; have a_Shelf_out := e.nA_Shelf_out
    repeat array_get_dec
    refine ⟨n, p, as, os, u, rfl, hn1, hn, hp, hos, hrun, hl, fun H1 t sh dx bl ol fl s1 nt nb no nf ht S hfl => ?_⟩
    have hob := S.ob
    have hbk := S.bk
    have hou := S.ou
    repeat array_get_dec
    exact k H1 bl nb s1 hbk
theorem ok_books_out (e : Env K mg) : FnOk P w K mg base CX0 5 e.a_books_out e.d_books_out ["size", "schedule"] (spN_books_out K) := by
  refine Fun.ok e.f_books_out sc_books_out (fun vs H Q E h => ?_) (fun cdv A outer s H vs Q E hr h => ?_)
  · obtain ⟨n, p, as, os, u, rfl, _⟩ := h; rfl
  · obtain ⟨n, p, as, os, u, rfl, hn1, hn, hp, hos, hrun, hl, k⟩ := h
    refine ⟨_, (pss_cons (ps_asg (pe_call ((ok_run_schedule e).mono (by decide)) hr rfl e.g_run_schedule e.f_run_schedule.kp e.b_run_schedule .nil pass0 (pa_cons (pv 0) (pa_cons (pv 1) pa_nil))) (pg_tup (by rfl) (pgs_cons (pg_name (i := 2) sc_books_out.nd rfl (by first | exact Or.inl rfl | exact Or.inr rfl)) (pgs_cons (pg_name (i := 3) sc_books_out.nd rfl (by first | exact Or.inl rfl | exact Or.inr rfl)) (pgs_cons (pg_name (i := 3) sc_books_out.nd rfl (by first | exact Or.inl rfl | exact Or.inr rfl)) pgs_nil)))))
      (pss_one (ps_ret (pe_callB cr_sortedI (by rfl) e.n_sorted (by decide +kernel) (pa_cons (pe_fld (pv 2) rfl) pa_nil))))), ?_⟩
    have c_Shelf := e.cl_Shelf; have a_Shelf_books := e.nA_Shelf_books; have a_Shelf_out := e.nA_Shelf_out
    repeat array_get_dec
    refine ⟨n, p, as, os, u, rfl, hn1, hn, hp, hos, hrun, hl, fun H1 t sh dx bl ol fl s1 nt nb no nf ht S hfl => ?_⟩
    have hob := S.ob
    have hbk := S.bk
    have hou := S.ou
    repeat array_get_dec
    exact ⟨ol, u.out, rfl, SqL.of hou, fun zs q hz hs nq => k _ q zs (s1.free nq) (s1.trans (same_upd nq)) hz hs upd_same⟩
theorem ok_places_filled (e : Env K mg) : FnOk P w K mg base CX0 5 e.a_places_filled e.d_places_filled ["size", "schedule"] (spN_places_filled K) := by
  refine Fun.ok e.f_places_filled sc_places_filled (fun vs H Q E h => ?_) (fun cdv A outer s H vs Q E hr h => ?_)
  · obtain ⟨n, p, as, os, u, rfl, _⟩ := h; rfl
  · obtain ⟨n, p, as, os, u, rfl, hn1, hn, hp, hos, hrun, hl, k⟩ := h
    refine ⟨_, (pss_cons (ps_asg (pe_call ((ok_run_schedule e).mono (by decide)) hr rfl e.g_run_schedule e.f_run_schedule.kp e.b_run_schedule .nil pass0 (pa_cons (pv 0) (pa_cons (pv 1) pa_nil))) (pg_tup (by rfl) (pgs_cons (pg_name (i := 2) sc_places_filled.nd rfl (by first | exact Or.inl rfl | exact Or.inr rfl)) (pgs_cons (pg_name (i := 3) sc_places_filled.nd rfl (by first | exact Or.inl rfl | exact Or.inr rfl)) (pgs_cons (pg_name (i := 2) sc_places_filled.nd rfl (by first | exact Or.inl rfl | exact Or.inr rfl)) pgs_nil)))))
      (pss_one (ps_ret (pv 3)))), ?_⟩
    have c_Shelf := e.cl_Shelf; have a_Shelf_books := e.nA_Shelf_books; have a_Shelf_out := e.nA_Shelf_out
    repeat array_get_dec
    refine ⟨n, p, as, os, u, rfl, hn1, hn, hp, hos, hrun, hl, fun H1 t sh dx bl ol fl s1 nt nb no nf ht S hfl => ?_⟩
    have hob := S.ob
    have hbk := S.bk
    have hou := S.ou
    repeat array_get_dec
    exact k H1 fl nf s1 hfl
theorem ok_most_out (e : Env K mg) : FnOk P w K mg base CX0 5 e.a_most_out e.d_most_out ["size", "schedule"] (sp_most_out K) := by
  refine Fun.ok e.f_most_out sc_most_out (fun vs H Q E h => ?_) (fun cdv A outer s H vs Q E hr h => ?_)
  · obtain ⟨n, p, as, os, u, rfl, _⟩ := h; rfl
  · obtain ⟨n, p, as, os, u, rfl, hn1, hn, hp, hos, hrun, hl, k⟩ := h
    refine ⟨_, (pss_cons (ps_asg (pe_call ((ok_run_schedule e).mono (by decide)) hr rfl e.g_run_schedule e.f_run_schedule.kp e.b_run_schedule .nil pass0 (pa_cons (pv 0) (pa_cons (pv 1) pa_nil))) (pg_tup (by rfl) (pgs_cons (pg_name (i := 2) sc_most_out.nd rfl (by first | exact Or.inl rfl | exact Or.inr rfl)) (pgs_cons (pg_name (i := 2) sc_most_out.nd rfl (by first | exact Or.inl rfl | exact Or.inr rfl)) (pgs_cons (pg_name (i := 3) sc_most_out.nd rfl (by first | exact Or.inl rfl | exact Or.inr rfl)) pgs_nil)))))
      (pss_one (ps_ret (pv 3)))), ?_⟩
    have c_Shelf := e.cl_Shelf; have a_Shelf_books := e.nA_Shelf_books; have a_Shelf_out := e.nA_Shelf_out
    repeat array_get_dec
    refine ⟨n, p, as, os, u, rfl, hn1, hn, hp, hos, hrun, hl, fun H1 t sh dx bl ol fl s1 nt nb no nf ht S hfl => ?_⟩
    have hob := S.ob
    have hbk := S.bk
    have hou := S.ou
    repeat array_get_dec
    exact k H1 s1
theorem ok_is_schedule (e : Env K mg) : FnOk P w K mg base CX0 5 e.a_is_schedule e.d_is_schedule ["size", "value"] (sp_is_schedule K) := by
  refine Fun.ok e.f_is_schedule sc_is_schedule (fun vs H Q E h => ?_) (fun cdv A outer s H vs Q E hr h => ?_)
  · obtain ⟨n, p, as, os, u, rfl, _⟩ := h; rfl
  · obtain ⟨n, p, as, os, u, rfl, hn1, hn, hp, hos, hrun, hl, k⟩ := h
    refine ⟨_, (pss_cons (ps_try_thru0 (pss_one (ps_expr (pe_call ((ok_run_schedule e).mono (by decide)) hr rfl e.g_run_schedule e.f_run_schedule.kp e.b_run_schedule .nil pass0 (pa_cons (pv 0) (pa_cons (pv 1) pa_nil))))))
      (pss_one (ps_ret pe_bl))), ?_⟩
    have c_Shelf := e.cl_Shelf; have a_Shelf_books := e.nA_Shelf_books; have a_Shelf_out := e.nA_Shelf_out
    repeat array_get_dec
    refine ⟨n, p, as, os, u, rfl, hn1, hn, hp, hos, hrun, hl, fun H1 t sh dx bl ol fl s1 nt nb no nf ht S hfl => ?_⟩
    repeat array_get_dec
    exact k H1 s1
end
end LP

namespace LP
open PySem L2 LT LG LQ LH LC LX LR
local macro_rules | `(tactic| array_mem_dec) => `(tactic| first
  | assumption
  | ((with_reducible apply LS.hp_s); assumption; array_mem_dec)
  | ((with_reducible apply LS.hp_f); assumption; array_mem_dec; array_mem_dec)
  | ((with_reducible apply LS.hp_t); assumption; array_mem_dec; array_mem_dec)
  | ((with_reducible apply LS.hp_l); assumption; array_mem_dec; array_mem_dec)
  | ((with_reducible apply LS.sq_o); array_mem_dec)
  | ((with_reducible apply LS.sq_s); assumption; array_mem_dec)
  | ((with_reducible apply LS.sq_f); assumption; array_mem_dec; array_mem_dec)
  | ((with_reducible apply LS.sq_t); assumption; array_mem_dec; array_mem_dec)
  | ((with_reducible apply LS.sq_l); assumption; array_mem_dec; array_mem_dec)
  | ((with_reducible apply LS.tu_o); array_mem_dec)
  | ((with_reducible apply LS.tu_s); assumption; array_mem_dec)
  | ((with_reducible apply LS.tu_f); assumption; array_mem_dec; array_mem_dec)
  | ((with_reducible apply LS.tu_t); assumption; array_mem_dec; array_mem_dec)
  | ((with_reducible apply LS.tu_l); assumption; array_mem_dec; array_mem_dec)
  | ((with_reducible apply LS.se_l); array_mem_dec)
  | ((with_reducible apply LS.se_t); array_mem_dec)
  | ((with_reducible apply LS.se_s); assumption; array_mem_dec)
  | ((with_reducible apply LS.se_f); assumption; array_mem_dec; array_mem_dec)
  | ((with_reducible apply LS.se_tt); assumption; array_mem_dec; array_mem_dec)
  | ((with_reducible exact Same.refl _))
  | ((with_reducible apply LS.sm_s); assumption; array_mem_dec)
  | ((with_reducible apply LS.sm_f); assumption; array_mem_dec; array_mem_dec)
  | ((with_reducible exact Fr.refl _ _))
  | ((with_reducible apply LS.fr_b); assumption; array_mem_dec)
  | ((with_reducible apply LS.fr_s); assumption; array_mem_dec)
  | ((with_reducible apply LS.fr_n); assumption; array_mem_dec; array_mem_dec)
  | ((with_reducible apply LS.fr_t); assumption; array_mem_dec)
  | ((with_reducible apply LS.no_s); assumption; array_mem_dec)
  | ((with_reducible apply LS.no_f); assumption; array_mem_dec; array_mem_dec)
  | ((with_reducible apply LS.no_t); assumption; array_mem_dec)
  | ((with_reducible apply LS.no_l); assumption; assumption)
  | ((with_reducible apply Ne.symm); assumption)
  | ((with_reducible apply LS.ne_a); assumption; array_mem_dec)
  | ((with_reducible apply LS.ne_b); assumption; array_mem_dec)
  | ((with_reducible apply LS.ne_ap); assumption)
  | ((with_reducible apply LS.ne_il); assumption; array_mem_dec)
  | ((with_reducible apply LS.ne_li); assumption; array_mem_dec)
  | ((with_reducible apply LS.ne_lt); assumption; assumption)
  | ((with_reducible apply LS.ne_tl); assumption; assumption)
  | ((with_reducible apply LS.ne_rl); assumption; array_mem_dec)
  | ((with_reducible apply LS.rl_t); assumption)
  | ((with_reducible apply LS.rl_s); assumption; array_mem_dec)
  | ((with_reducible apply LS.rl_f); assumption; array_mem_dec; array_mem_dec)
  | ((with_reducible apply LS.rl_l); assumption; array_mem_dec; array_mem_dec)
  | ((with_reducible apply LS.ap_new); assumption; assumption; array_mem_dec)
  | ((with_reducible apply LS.ap_t); assumption; array_mem_dec; array_mem_dec)
  | ((with_reducible apply LS.ap_s); assumption; array_mem_dec; array_mem_dec)
  | ((with_reducible apply LS.ap_f); assumption; array_mem_dec; array_mem_dec; array_mem_dec)
  | ((with_reducible apply LS.ap_l); assumption; array_mem_dec; array_mem_dec; array_mem_dec)
  | (with_reducible apply LS.ni_nil)
  | ((with_reducible apply LS.ni_cons); array_mem_dec; array_mem_dec)
  | (with_reducible apply LS.trk_nil)
  | ((with_reducible apply LS.trk_cons); array_mem_dec; array_mem_dec)
  | (with_reducible apply LS.al_nil)
  | ((with_reducible apply LS.al_cons); array_mem_dec; array_mem_dec)
  | (with_reducible apply LS.mem_hd)
  | ((with_reducible apply LS.mem_tl); array_mem_dec)
  | ((with_reducible apply LS.fl_refl); array_mem_dec)
  | ((with_reducible apply LS.fl_l); assumption; array_mem_dec)
  | ((with_reducible apply LS.fl_lm); assumption; array_mem_dec; array_mem_dec)
  | (with_reducible apply LS.sub_nil)
  | ((with_reducible apply LS.sub_cons); array_mem_dec; array_mem_dec)
  | ((with_reducible apply LS.fl_s); assumption; array_mem_dec)
  | ((with_reducible apply LS.fl_m); assumption; array_mem_dec; array_mem_dec; array_mem_dec)
  | ((with_reducible apply LS.fl_n); assumption; array_mem_dec; array_mem_dec; array_mem_dec)
  | ((with_reducible apply LS.rt_refl); array_mem_dec)
  | ((with_reducible apply LS.rt_t); assumption; array_mem_dec)
  | ((with_reducible apply LS.rt_s); assumption; array_mem_dec)
  | ((with_reducible apply LS.rt_f); assumption; array_mem_dec; array_mem_dec; array_mem_dec)
  | ((with_reducible apply LS.sz); (first | decide | (simp only [List.length_append, List.length_map, List.length_cons, List.length_nil, List.length_replicate]; omega)))
  | ((with_reducible apply LS.szl); (first | decide | (simp only [List.length_append, List.length_map, List.length_cons, List.length_nil, List.length_replicate]; omega))))
local macro_rules | `(tactic| array_get_dec) => `(tactic| first
  | ((with_reducible apply LS.var); exact rfl)
  | (with_reducible apply LS.con)
  | (with_reducible apply LS.op)
  | (with_reducible apply LS.ri0)
  | (with_reducible apply LS.tseq)
  | (with_reducible apply LS.tasg)
  | (with_reducible apply LS.gname)
  | (with_reducible apply LS.tcons)
  | (with_reducible apply LS.tnil)
  | (with_reducible apply LS.tcb)
  | (with_reducible apply LS.tcall)
  | (with_reducible apply LS.ttest)
  | (with_reducible apply LS.k_b)
  | (with_reducible apply LS.tb)
  | (with_reducible apply LS.tifs)
  | (with_reducible apply LS.ift)
  | (with_reducible apply LS.iff_)
  | (with_reducible apply LS.ifnt)
  | (with_reducible apply LS.ifnf)
  | (with_reducible apply LS.tnext)
  | (with_reducible apply LS.tdrop)
  | (with_reducible apply LS.tret)
  | (with_reducible apply LS.tretn)
  | (with_reducible apply LS.un)
  | (with_reducible apply LS.ru)
  | (with_reducible apply LS.tyes)
  | (with_reducible apply LS.tand)
  | (with_reducible apply LS.tor)
  | (with_reducible apply LS.tnot)
  | (with_reducible apply LS.tif)
  | (with_reducible apply LS.tandv)
  | (with_reducible apply LS.k_av)
  | (with_reducible apply LS.torv)
  | (with_reducible apply LS.k_ov)
  | (with_reducible apply LS.tnotv)
  | (with_reducible apply LS.k_nv)
  | (with_reducible apply LS.tchain)
  | (with_reducible apply LS.k_ch)
  | (with_reducible apply LS.req_i)
  | (with_reducible apply LS.rne_i)
  | (with_reducible apply LS.req_s)
  | (with_reducible apply LS.rne_s)
  | (with_reducible apply LS.req_b)
  | (with_reducible apply LS.rne_b)
  | ((with_reducible apply LS.rin_i); array_mem_dec)
  | ((with_reducible apply LS.rni_i); array_mem_dec)
  | ((with_reducible apply LS.rlen_li); array_mem_dec)
  | ((with_reducible apply LS.rlen_ls); array_mem_dec)
  | ((with_reducible apply LS.rlen_l); array_mem_dec)
  | ((with_reducible apply LS.rlen_Ei); array_mem_dec)
  | ((with_reducible apply LS.rlen_E); array_mem_dec)
  | ((with_reducible apply LS.rlen_t); array_mem_dec)
  | ((with_reducible apply LS.rixl); array_mem_dec; exact rfl)
  | ((with_reducible apply LS.rixt); array_mem_dec; exact rfl)
  | (with_reducible apply LS.isi_int_int)
  | (with_reducible apply LS.isi_int_bool)
  | (with_reducible apply LS.isi_int_str)
  | (with_reducible apply LS.isi_str_int)
  | (with_reducible apply LS.isi_str_bool)
  | (with_reducible apply LS.isi_str_str)
  | (with_reducible apply LS.isi_bool_int)
  | (with_reducible apply LS.isi_bool_bool)
  | (with_reducible apply LS.isi_bool_str)
  | (with_reducible apply LS.isi_non_int)
  | (with_reducible apply LS.isi_non_bool)
  | (with_reducible apply LS.isi_non_str)
  | ((with_reducible apply LS.isi_list_int); array_mem_dec)
  | ((with_reducible apply LS.isi_list_bool); array_mem_dec)
  | ((with_reducible apply LS.isi_list_str); array_mem_dec)
  | ((with_reducible apply LS.isi_list_list); array_mem_dec)
  | ((with_reducible apply LS.isi_list_tuple); array_mem_dec)
  | ((with_reducible apply LS.isi_tuple_int); array_mem_dec)
  | ((with_reducible apply LS.isi_tuple_bool); array_mem_dec)
  | ((with_reducible apply LS.isi_tuple_str); array_mem_dec)
  | ((with_reducible apply LS.isi_tuple_list); array_mem_dec)
  | ((with_reducible apply LS.isi_tuple_tuple); array_mem_dec)
  | ((with_reducible apply LS.isiT_i); array_mem_dec)
  | ((with_reducible apply LS.isiT_s); array_mem_dec)
  | ((with_reducible apply LS.isiT_E); array_mem_dec; array_mem_dec)
  | (with_reducible apply LS.tfld)
  | ((with_reducible apply LS.k_fl); array_mem_dec; assumption; assumption; exact rfl)
  | (with_reducible apply LS.tmeth)
  | ((with_reducible apply LS.k_me); array_mem_dec; exact rfl)
  | (with_reducible apply LS.tmake)
  | (with_reducible apply LS.tsfld)
  | (with_reducible apply LS.tprop)
  | ((with_reducible apply LS.k_pr); array_mem_dec)
  | ((with_reducible apply LS.rlen_own); array_mem_dec)
  | (with_reducible apply LS.rabs)
  | (with_reducible apply LS.rmin2)
  | (with_reducible apply LS.rmax2)
  | (with_reducible apply LS.tsl)
  | (with_reducible apply LS.tthen)
  | (with_reducible apply LS.tstep)
  | (with_reducible apply LS.tnop)
  | (with_reducible apply LS.tpart)
  | (with_reducible apply LS.k_part)
  | (with_reducible apply LS.ttup)
  | (with_reducible apply LS.tlst)
  | (with_reducible apply LS.tbm)
  | (with_reducible apply LS.tbm0)
  | ((with_reducible apply LS.ty_l); array_mem_dec)
  | (with_reducible apply LS.tpar)
  | (with_reducible apply LS.tfor)
  | (with_reducible apply LS.tlc)
  | (with_reducible apply LS.ilist)
  | ((with_reducible apply LS.k_il); array_mem_dec)
  | (with_reducible apply LS.itup)
  | ((with_reducible apply LS.k_it); array_mem_dec)
  | (with_reducible apply LS.istr)
  | (with_reducible apply LS.k_is)
  | (with_reducible apply LS.irng1)
  | ((with_reducible apply LS.k_r1n); omega)
  | ((with_reducible apply LS.k_r1); (first | omega | decide); (first | omega | decide))
  | (with_reducible apply LS.irng2)
  | ((with_reducible apply LS.k_r2); (first | omega | decide); (first | omega | decide); (first | omega | decide); (first | omega | decide))
  | (with_reducible apply LS.ienum)
  | ((with_reducible apply LS.k_en); array_mem_dec)
  | (with_reducible apply LS.izip)
  | ((with_reducible apply LS.k_zip); array_mem_dec; array_mem_dec)
  | (with_reducible apply LS.tlstrg)
  | (with_reducible apply LS.trg1)
  | (with_reducible apply LS.k_g1)
  | (with_reducible apply LS.risn_i)
  | (with_reducible apply LS.risn_s)
  | (with_reducible apply LS.risn_n)
  | (with_reducible apply LS.rnotn_i)
  | (with_reducible apply LS.rnotn_n)
  | (with_reducible apply LS.rint_b)
  | (with_reducible apply LS.rint_i)
  | (with_reducible apply LS.tm0)
  | (with_reducible apply LS.tm1)
  | (with_reducible apply LS.is_str)
  | (with_reducible apply LS.ex_s0)
  | (with_reducible apply LS.ex_int_b)
  | (with_reducible apply LS.k_par)
  | (with_reducible apply LS.tpar3)
  | (with_reducible apply LS.k_par3)
  | ((with_reducible apply LS.taug); exact rfl)
  | (with_reducible apply LS.ipi)
  | ((with_reducible apply LS.gtup); array_mem_dec; exact rfl)
  | ((with_reducible apply LS.gunl); array_mem_dec; exact rfl)
  | (with_reducible apply LS.gnil)
  | (with_reducible apply LS.gcons)
  | (with_reducible apply LS.gsub)
  | ((with_reducible apply LS.ri); first | omega | decide | assumption | exact ⟨by decide, by decide, by decide⟩ | exact .inl ⟨by decide, by decide⟩ | exact .inr ⟨by decide, by decide⟩ | exact .inl ⟨by omega, by omega⟩ | exact .inr ⟨by omega, by omega⟩)
  | (with_reducible apply LS.ex_ss)
  | (with_reducible apply LS.ex_s1)
  | (with_reducible apply LS.ex_i1)
  | (with_reducible apply LS.and_rfl)
  | (with_reducible apply LS.and_tr)
  | (with_reducible apply LS.is_non))
local macro_rules | `(tactic| array_mem_dec) => `(tactic| first
  | ((with_reducible apply LP.lv_s); assumption; array_mem_dec)
  | ((with_reducible apply LP.lv_l); assumption; array_mem_dec; array_mem_dec; array_mem_dec)
  | ((with_reducible apply LP.lv_f); assumption; array_mem_dec; array_mem_dec; array_mem_dec)
  | ((with_reducible apply LP.lv_t); assumption; array_mem_dec; array_mem_dec; array_mem_dec)
  | ((with_reducible apply LP.ops_s); assumption; array_mem_dec)
  | ((with_reducible apply LP.md_s); assumption; array_mem_dec)
  | ((with_reducible apply LP.md_l); assumption; array_mem_dec; array_mem_dec; array_mem_dec)
  | ((with_reducible apply LP.md_f); assumption; array_mem_dec; array_mem_dec; array_mem_dec)
  | ((with_reducible apply LP.md_t); assumption; array_mem_dec; array_mem_dec; array_mem_dec)
  | ((with_reducible apply LP.al_s); assumption; array_mem_dec; array_mem_dec)
  | ((with_reducible apply LP.al_t); assumption; array_mem_dec; array_mem_dec)
  | ((with_reducible apply LP.al_l); assumption; array_mem_dec; array_mem_dec; array_mem_dec)
  | ((with_reducible apply LP.al_f); assumption; array_mem_dec; array_mem_dec; array_mem_dec)
  | ((with_reducible apply LP.Lv.lists); array_mem_dec)
  | ((with_reducible apply LP.Lv.trk); array_mem_dec)
  | ((with_reducible apply LP.Mdl.trk); array_mem_dec)
  | ((with_reducible apply LP.al_no); assumption; array_mem_dec))
local macro_rules | `(tactic| array_get_dec) => `(tactic| first
  | (with_reducible apply LS.trg2)
  | (with_reducible apply LS.k_g2))

section
variable {P : Program} {w : World} {K : PySem.W.Frag} {mg : Str → Option Value} {base : Heap}

theorem stir_total {t c : Int} (h : 0 ≤ t) (h2 : t < M61) : 0 ≤ (t * 1000003 + c % M61 + 1) % M61 ∧ (t * 1000003 + c % M61 + 1) % M61 < M61 := ⟨Int.emod_nonneg _ (by decide), Int.emod_lt_of_pos _ (by decide)⟩
theorem ok__law_bag (e : Env K mg) : FnOk P w K mg base CX0 1 e.a__law_bag e.d__law_bag ["script"] (sp__law_bag K) := by
  refine Fun.ok e.f__law_bag sc__law_bag (fun vs H Q E h => ?_) (fun cdv A outer s H vs Q E hr h => ?_)
  · obtain ⟨a, ns, rfl, _⟩ := h; rfl
  · obtain ⟨a, ns, rfl, hS, hl, k⟩ := h
    refine ⟨_, (pss_cons (ps_set (i := 1) sc__law_bag.nd rfl (by first | exact Or.inl rfl | exact Or.inr rfl) pe_int)
      (pss_cons (ps_for PassesOwn.never rfl (pi_list (pv 0)) (pg_name (i := 2) sc__law_bag.nd rfl (by first | exact Or.inl rfl | exact Or.inr rfl))
      (pss_one (ps_set (i := 1) sc__law_bag.nd rfl (by first | exact Or.inl rfl | exact Or.inr rfl) (pe_op op_mod (pe_op op_add (pe_op op_add (pe_op op_mul (pv 1) pe_int) (pe_op op_mod (pv 2) pe_int)) pe_int) pe_int))))
      (pss_one (ps_ret (pe_lst (pa_cons (pe_callTy LS.call_list (by rfl) e.n_list (by decide +kernel) (pa_cons (pv 0) pa_nil)) (pa_cons pe_int (pa_cons pe_int (pa_cons pe_int (pa_cons (pv 1) pa_nil)))))))))), ?_⟩
    refine ⟨_, rfl, a, rfl, ⟨_, hS⟩, for_it walk_list (fun i σ H1 => ∃ (t : Int) (v : Option V), 0 ≤ t ∧ t < M61 ∧ H1 = H ∧ σ = [some (.ref a), some (.int t), v])
      ⟨1, none, by decide, by decide, rfl, rfl⟩ (fun i σ H1 _ ⟨_, _, _, _, e1, _⟩ => by rw [e1]; exact hS) ?_ ?_⟩
    · rintro i x σ H1 H2 hi ⟨t, v, h0, h1, rfl, rfl⟩ ⟨rfl, hx⟩
      rw [List.getElem?_map] at hx
      cases q : ns[i]? with
      | none => rw [q] at hx; cases hx
      | some c =>
        rw [q] at hx; cases hx
        refine ⟨_, rfl, _, _, rfl, rfl, .inr ⟨by decide, by decide⟩, ?_⟩
        refine ⟨_, rfl, _, _, rfl, rfl, (by show (0 : Int) < M61; decide), _, _, rfl, rfl, _, _, rfl, rfl, _, _, rfl, rfl, (by show (0 : Int) < M61; decide), ?_⟩
        have z := stir_total (c := c) h0 h1
        exact ⟨_, _, z.1, z.2, rfl, rfl⟩
    · rintro σ H1 ⟨t, v, h0, h1, rfl, rfl⟩
      refine ⟨_, rfl, a, _, rfl, .inl hS, fun l hl' => ?_⟩
      refine ⟨_, rfl, (by show 5 ≤ sizeLine; decide), fun b hb => ?_⟩
      have hb0 := (same_upd hl').free hb
      have n1 : l ≠ b := ne_of_none upd_same hb
      refine k _ b l ((same_upd hl').trans (same_upd hb)) hb0 hl' ⟨⟨0, 0, 0, t, upd_same, by decide, by omega, by decide, by decide, h0, h1⟩, ?_, n1⟩
      rw [upd_ne n1, upd_same]
theorem ok__law_stir (e : Env K mg) : FnOk P w K mg base CX0 1 e.a__law_stir e.d__law_stir ["number", "place"] (sp__law_stir) := by
  refine Fun.ok e.f__law_stir sc__law_stir (fun vs H Q E h => ?_) (fun cdv A outer s H vs Q E hr h => ?_)
  · obtain ⟨x, y, rfl, _⟩ := h; rfl
  · obtain ⟨x, y, rfl, h1, h2, h3, h4, k⟩ := h
    refine ⟨_, (pss_cons (ps_set (i := 2) sc__law_stir.nd rfl (by first | exact Or.inl rfl | exact Or.inr rfl) (pe_op op_mod (pe_op op_add (pe_op op_add (pe_op op_mul (pv 0) pe_int) (pe_op op_mul (pv 1) pe_int)) pe_int) pe_int))
      (pss_cons (ps_set (i := 3) sc__law_stir.nd rfl (by first | exact Or.inl rfl | exact Or.inr rfl) (pe_op op_mod (pe_op op_mul (pv 2) (pv 2)) pe_int))
      (pss_one (ps_ret (pe_op op_fdivW (pe_op op_mod (pe_op op_add (pe_op op_add (pe_op op_mul (pv 3) pe_int) (pe_op op_mul (pe_op op_mul (pv 1) (pv 1)) pe_int)) (pe_op op_fdivW (pv 2) pe_int)) pe_int) pe_int))))), ?_⟩
    refine ⟨_, rfl, _, _, rfl, rfl, .inr ⟨by decide, by decide⟩, _, rfl, _, _, rfl, rfl, .inr ⟨by decide, by decide⟩, _, _, rfl, rfl, _, _, rfl, rfl, _, _, rfl, rfl, (by show (0 : Int) < M61; decide), ?_⟩
    have o1 : 0 ≤ (x * 998244353 + y * 1000000007 + 5) % M61 := Int.emod_nonneg _ (by decide)
    have o2 : (x * 998244353 + y * 1000000007 + 5) % M61 < M61 := Int.emod_lt_of_pos _ (by decide)
    have m64 : M61 < 2 ^ 64 := by decide
    have m0 : -(2 ^ 64) < (0 : Int) := by decide
    refine ⟨_, rfl, _, rfl, _, _, rfl, rfl, .inl ⟨Int.lt_of_lt_of_le m0 o1, Int.lt_trans o2 m64⟩, _, _, rfl, rfl, (by show (0 : Int) < M61; decide), ?_⟩
    have y1 : -(2 ^ 64) < y := by omega
    have y2 : y < 2 ^ 64 := by omega
    refine ⟨_, rfl, _, _, rfl, rfl, .inr ⟨by decide, by decide⟩, _, rfl, _, rfl, _, _, rfl, rfl, .inl ⟨y1, y2⟩, _, _, rfl, rfl, .inr ⟨by decide, by decide⟩, _, _, rfl, rfl, _, rfl, _, _, rfl, rfl, ⟨by decide, by decide⟩, _, _, rfl, rfl, _, _, rfl, rfl, (by show (0 : Int) < 2305843009213693921; decide), _, _, rfl, rfl, ⟨by decide, by decide⟩, ?_⟩
    exact k _
theorem bag_get {K : PySem.W.Frag} {H : Hp} {b : Addr} {vs : List V} {j : Nat} {v : V} (h : H b = some (.lst vs)) (e : vs[j]? = some v) : ∃ (p : Addr) (xs : List V) (i : Int) (w : V), V.ref b = .ref p ∧ V.int j = .int i ∧ SqL K H p xs ∧ atI xs i = some w ∧ w = v := ⟨b, vs, j, v, rfl, rfl, SqL.of h, atI_nat e, rfl⟩
theorem ok__law_draw (e : Env K mg) : FnOk P w K mg base CX0 2 e.a__law_draw e.d__law_draw ["bag", "bound"] (sp__law_draw) := by
  refine Fun.ok e.f__law_draw sc__law_draw (fun vs H Q E h => ?_) (fun cdv A outer s H vs Q E hr h => ?_)
  · obtain ⟨b, l, ns, d, n, rfl, _⟩ := h; rfl
  · obtain ⟨b, l, ns, d, n, rfl, G, hn, hn2, hd, hl, k⟩ := h
    refine ⟨_, (pss_cons (ps_if (pt_cmpR op_eq (pv 1) pe_int (nomark _))
        (pss_one (ps_ret pe_int))
        pss_nil)
      (pss_cons (ps_asg (pe_op op_add (pe_ix ix_list (pv 0) pe_int (fun _ _ => rfl)) pe_int) (pg_sub (pv 0) pe_int set_list))
      (pss_cons (ps_if (PW.pt (pw_and (pt_cmpR op_lt (pe_ix ix_list (pv 0) pe_int (fun _ _ => rfl)) pe_int (nomark _)) (pw_and1 (pt_cmpR op_eq (pe_ix ix_list (pv 0) pe_int (fun _ _ => rfl)) (pe_callB LS.call_len (by rfl) e.n_len PySem.boot_len (pa_cons (pe_ix ix_list (pv 0) pe_int (fun _ _ => rfl)) pa_nil)) (nomark _)))))
        (pss_one (ps_ret (pe_op op_mod (pe_call ((ok__law_stir e).mono (by decide)) hr rfl e.g__law_stir e.f__law_stir.kp e.b__law_stir .nil pass0 (pa_cons (pe_ix ix_list (pv 0) pe_int (fun _ _ => rfl)) (pa_cons (pe_ix ix_list (pv 0) pe_int (fun _ _ => rfl)) pa_nil))) (pv 1))))
        pss_nil)
      (pss_cons (ps_if (pt_cmpR op_lt (pe_ix ix_list (pv 0) pe_int (fun _ _ => rfl)) pe_int (nomark _))
        (pss_cons (ps_set (i := 2) sc__law_draw.nd rfl (by first | exact Or.inl rfl | exact Or.inr rfl) (pe_ix ix_list (pe_ix ix_list (pv 0) pe_int (fun _ _ => rfl)) (pe_ix ix_list (pv 0) pe_int (fun _ _ => rfl)) (fun _ _ => rfl)))
      (pss_cons (ps_asg (pe_op op_add (pe_ix ix_list (pv 0) pe_int (fun _ _ => rfl)) pe_int) (pg_sub (pv 0) pe_int set_list))
      (pss_cons (ps_if (pt_cmpR op_lt (pv 2) (pe_op op_pow pe_int pe_int) (nomark _))
        (pss_one (ps_ret (pe_op op_mod (pe_call ((ok__law_stir e).mono (by decide)) hr rfl e.g__law_stir e.f__law_stir.kp e.b__law_stir .nil pass0 (pa_cons (pe_op op_mod (pv 2) pe_int) (pa_cons (pe_ix ix_list (pv 0) pe_int (fun _ _ => rfl)) pa_nil))) (pv 1))))
        pss_nil)
      (pss_one (ps_asg (pe_op op_sub (pv 2) (pe_op op_pow pe_int pe_int)) (pg_sub (pv 0) pe_int set_list))))))
        pss_nil)
      (pss_cons (ps_set (i := 3) sc__law_draw.nd rfl (by first | exact Or.inl rfl | exact Or.inr rfl) (pe_op op_mod (pe_ix ix_list (pv 0) pe_int (fun _ _ => rfl)) (pv 1)))
      (pss_cons (ps_asg (pe_op op_fdivW (pe_ix ix_list (pv 0) pe_int (fun _ _ => rfl)) (pv 1)) (pg_sub (pv 0) pe_int set_list))
      (pss_one (ps_ret (pv 3))))))))), ?_⟩
    refine ⟨_, rfl, rfl, _, rfl, ite2d (fun h1 => ?_) fun h1 => ?_⟩
    · have e1 : n = 1 := V.int.inj h1
      exact k _ 0 (by decide) (by omega) (G.mono (by omega)) (Fr.refl _ _)
    · obtain ⟨⟨i, c, kk, t, hb, hi0, hi1, hk0, hk1, ht0, ht1⟩, hls, hne⟩ := id G
      refine ⟨_, rfl, b, _, _, _, rfl, rfl, SqL.of hb, rfl, _, _, rfl, rfl, _, rfl, b, _, _, 3, rfl, rfl, hb, rfl, ?_⟩
      have F : ∀ o, Fr H (upd H b o) b := fun o a x hx ha => by rw [upd_ne ha]; exact hx
      have hbb : ∀ o, upd H b o b = some o := fun o => upd_same
      have hll : ∀ o, upd H b o l = some (.lst (ns.map V.int)) := fun o => by rw [upd_ne hne]; exact hls
      have cl : ∀ c' : Int, Bag (upd H b (.lst [.ref l, .int i, .int c', .int (kk + 1), .int t])) b l ns (d + 1) := fun c' => ⟨⟨i, c', kk + 1, t, upd_same, hi0, hi1, by omega, by omega, ht0, ht1⟩, hll _, hne⟩
      have cl2 : ∀ (j c' : Int), 0 ≤ j → j ≤ ns.length → Bag (upd H b (.lst [.ref l, .int j, .int c', .int (kk + 1), .int t])) b l ns (d + 1) := fun j c' h0 h1 => ⟨⟨j, c', kk + 1, t, upd_same, h0, h1, by omega, by omega, ht0, ht1⟩, hll _, hne⟩
      have r0 : ∀ r : Int, 0 ≤ r % n := fun r => Int.emod_nonneg _ (by omega)
      have r1 : ∀ r : Int, r % n < n := fun r => Int.emod_lt_of_pos _ hn
      refine ⟨_, rfl, b, _, _, _, rfl, rfl, SqL.of upd_same, rfl, _, _, rfl, rfl, _, rfl, ite2d (fun hc => ?_) fun hc => ?_⟩
      · refine ⟨_, rfl, b, _, _, _, rfl, rfl, SqL.of upd_same, rfl, _, rfl, b, _, _, _, rfl, rfl, SqL.of upd_same, rfl, l, _, rfl, .inl (SqL.of (hll _)), rfl, _, rfl, ite2d (fun hi => ?_) fun hi => ?_⟩
        · refine ⟨_, rfl, b, _, _, _, rfl, rfl, SqL.of upd_same, rfl, _, rfl, b, _, _, _, rfl, rfl, SqL.of upd_same, rfl, t, kk + 1, rfl, ht0, ht1, by omega, by omega, fun r => ⟨_, rfl, _, _, rfl, rfl, hn, ?_⟩⟩
          exact k _ (r % n) (r0 r) (r1 r) (cl c) (F _)
        · refine ⟨_, rfl, b, _, _, _, rfl, rfl, SqL.of upd_same, rfl, _, _, rfl, rfl, _, rfl, iteD hc ?_⟩
          have hi2 : i ≠ ns.length := fun q => hi (by rw [q, List.length_map])
          have hi3 : i.toNat < ns.length := by omega
          refine ⟨_, rfl, b, _, _, _, rfl, rfl, SqL.of upd_same, rfl, _, rfl, b, _, _, _, rfl, rfl, SqL.of upd_same, rfl, _, _, _, _, rfl, rfl, SqL.of (hll _), at_of (j := i.toNat) (v := V.int ns[i.toNat]) (by omega) (by rw [List.getElem?_map, List.getElem?_eq_getElem hi3]; rfl), ?_⟩
          refine ⟨_, rfl, b, _, _, _, rfl, rfl, SqL.of upd_same, rfl, _, _, rfl, rfl, _, rfl, b, _, _, 1, rfl, rfl, upd_same, rfl, ?_⟩
          rw [upd_upd]
          generalize ns[i.toNat] = cell
          refine ⟨_, rfl, _, _, rfl, rfl, ⟨by decide, by decide, by decide⟩, _, _, rfl, rfl, _, rfl, ite2d (fun hq => ?_) fun hq => ?_⟩
          · refine ⟨_, rfl, _, _, rfl, rfl, (by show (0 : Int) < M61; decide), _, rfl, b, _, _, _, rfl, rfl, SqL.of upd_same, rfl, cell % M61, kk + 1, rfl, Int.emod_nonneg _ (by decide), Int.emod_lt_of_pos _ (by decide), by omega, by omega, fun r => ⟨_, rfl, _, _, rfl, rfl, hn, ?_⟩⟩
            exact k _ (r % n) (r0 r) (r1 r) (cl2 (i + 1) c (by omega) (by omega)) (F _)
          · refine ⟨_, rfl, _, _, rfl, rfl, ⟨by decide, by decide, by decide⟩, _, _, rfl, rfl, _, rfl, b, _, _, 2, rfl, rfl, upd_same, rfl, ?_⟩
            rw [upd_upd]
            refine ⟨_, rfl, b, _, _, _, rfl, rfl, SqL.of upd_same, rfl, _, rfl, _, _, rfl, rfl, hn, _, rfl, b, _, _, _, rfl, rfl, SqL.of upd_same, rfl, _, rfl, _, _, rfl, rfl, ⟨hn, hn2⟩, _, rfl, b, _, _, 2, rfl, rfl, upd_same, rfl, ?_⟩
            rw [upd_upd]
            exact ⟨_, rfl, k _ _ (r0 _) (r1 _) (cl2 (i + 1) _ (by omega) (by omega)) (F _)⟩
      · refine iteF ?_
        refine ⟨_, rfl, b, _, _, _, rfl, rfl, SqL.of upd_same, rfl, _, _, rfl, rfl, _, rfl, iteX hc ?_⟩
        refine ⟨_, rfl, b, _, _, _, rfl, rfl, SqL.of upd_same, rfl, _, rfl, _, _, rfl, rfl, hn, _, rfl, b, _, _, _, rfl, rfl, SqL.of upd_same, rfl, _, rfl, _, _, rfl, rfl, ⟨hn, hn2⟩, _, rfl, b, _, _, 2, rfl, rfl, upd_same, rfl, ?_⟩
        rw [upd_upd]
        exact ⟨_, rfl, k _ _ (r0 _) (r1 _) (cl _) (F _)⟩
end
end LP

namespace LP
open PySem L2 LT LG LQ LH LC LX LR
local macro_rules | `(tactic| array_mem_dec) => `(tactic| first
  | assumption
  | ((with_reducible apply LS.hp_s); assumption; array_mem_dec)
  | ((with_reducible apply LS.hp_f); assumption; array_mem_dec; array_mem_dec)
  | ((with_reducible apply LS.hp_t); assumption; array_mem_dec; array_mem_dec)
  | ((with_reducible apply LS.hp_l); assumption; array_mem_dec; array_mem_dec)
  | ((with_reducible apply LS.sq_o); array_mem_dec)
  | ((with_reducible apply LS.sq_s); assumption; array_mem_dec)
  | ((with_reducible apply LS.sq_f); assumption; array_mem_dec; array_mem_dec)
  | ((with_reducible apply LS.sq_t); assumption; array_mem_dec; array_mem_dec)
  | ((with_reducible apply LS.sq_l); assumption; array_mem_dec; array_mem_dec)
  | ((with_reducible apply LS.tu_o); array_mem_dec)
  | ((with_reducible apply LS.tu_s); assumption; array_mem_dec)
  | ((with_reducible apply LS.tu_f); assumption; array_mem_dec; array_mem_dec)
  | ((with_reducible apply LS.tu_t); assumption; array_mem_dec; array_mem_dec)
  | ((with_reducible apply LS.tu_l); assumption; array_mem_dec; array_mem_dec)
  | ((with_reducible apply LS.se_l); array_mem_dec)
  | ((with_reducible apply LS.se_t); array_mem_dec)
  | ((with_reducible apply LS.se_s); assumption; array_mem_dec)
  | ((with_reducible apply LS.se_f); assumption; array_mem_dec; array_mem_dec)
  | ((with_reducible apply LS.se_tt); assumption; array_mem_dec; array_mem_dec)
  | ((with_reducible exact Same.refl _))
  | ((with_reducible apply LS.sm_s); assumption; array_mem_dec)
  | ((with_reducible apply LS.sm_f); assumption; array_mem_dec; array_mem_dec)
  | ((with_reducible exact Fr.refl _ _))
  | ((with_reducible apply LS.fr_b); assumption; array_mem_dec)
  | ((with_reducible apply LS.fr_s); assumption; array_mem_dec)
  | ((with_reducible apply LS.fr_n); assumption; array_mem_dec; array_mem_dec)
  | ((with_reducible apply LS.fr_t); assumption; array_mem_dec)
  | ((with_reducible apply LS.no_s); assumption; array_mem_dec)
  | ((with_reducible apply LS.no_f); assumption; array_mem_dec; array_mem_dec)
  | ((with_reducible apply LS.no_t); assumption; array_mem_dec)
  | ((with_reducible apply LS.no_l); assumption; assumption)
  | ((with_reducible apply Ne.symm); assumption)
  | ((with_reducible apply LS.ne_a); assumption; array_mem_dec)
  | ((with_reducible apply LS.ne_b); assumption; array_mem_dec)
  | ((with_reducible apply LS.ne_ap); assumption)
  | ((with_reducible apply LS.ne_il); assumption; array_mem_dec)
  | ((with_reducible apply LS.ne_li); assumption; array_mem_dec)
  | ((with_reducible apply LS.ne_lt); assumption; assumption)
  | ((with_reducible apply LS.ne_tl); assumption; assumption)
  | ((with_reducible apply LS.ne_rl); assumption; array_mem_dec)
  | ((with_reducible apply LS.rl_t); assumption)
  | ((with_reducible apply LS.rl_s); assumption; array_mem_dec)
  | ((with_reducible apply LS.rl_f); assumption; array_mem_dec; array_mem_dec)
  | ((with_reducible apply LS.rl_l); assumption; array_mem_dec; array_mem_dec)
  | ((with_reducible apply LS.ap_new); assumption; assumption; array_mem_dec)
  | ((with_reducible apply LS.ap_t); assumption; array_mem_dec; array_mem_dec)
  | ((with_reducible apply LS.ap_s); assumption; array_mem_dec; array_mem_dec)
  | ((with_reducible apply LS.ap_f); assumption; array_mem_dec; array_mem_dec; array_mem_dec)
  | ((with_reducible apply LS.ap_l); assumption; array_mem_dec; array_mem_dec; array_mem_dec)
  | (with_reducible apply LS.ni_nil)
  | ((with_reducible apply LS.ni_cons); array_mem_dec; array_mem_dec)
  | (with_reducible apply LS.trk_nil)
  | ((with_reducible apply LS.trk_cons); array_mem_dec; array_mem_dec)
  | (with_reducible apply LS.al_nil)
  | ((with_reducible apply LS.al_cons); array_mem_dec; array_mem_dec)
  | (with_reducible apply LS.mem_hd)
  | ((with_reducible apply LS.mem_tl); array_mem_dec)
  | ((with_reducible apply LS.fl_refl); array_mem_dec)
  | ((with_reducible apply LS.fl_l); assumption; array_mem_dec)
  | ((with_reducible apply LS.fl_lm); assumption; array_mem_dec; array_mem_dec)
  | (with_reducible apply LS.sub_nil)
  | ((with_reducible apply LS.sub_cons); array_mem_dec; array_mem_dec)
  | ((with_reducible apply LS.fl_s); assumption; array_mem_dec)
  | ((with_reducible apply LS.fl_m); assumption; array_mem_dec; array_mem_dec; array_mem_dec)
  | ((with_reducible apply LS.fl_n); assumption; array_mem_dec; array_mem_dec; array_mem_dec)
  | ((with_reducible apply LS.rt_refl); array_mem_dec)
  | ((with_reducible apply LS.rt_t); assumption; array_mem_dec)
  | ((with_reducible apply LS.rt_s); assumption; array_mem_dec)
  | ((with_reducible apply LS.rt_f); assumption; array_mem_dec; array_mem_dec; array_mem_dec)
  | ((with_reducible apply LS.sz); (first | decide | (simp only [List.length_append, List.length_map, List.length_cons, List.length_nil, List.length_replicate]; omega)))
  | ((with_reducible apply LS.szl); (first | decide | (simp only [List.length_append, List.length_map, List.length_cons, List.length_nil, List.length_replicate]; omega))))
local macro_rules | `(tactic| array_get_dec) => `(tactic| first
  | ((with_reducible apply LS.var); exact rfl)
  | (with_reducible apply LS.con)
  | (with_reducible apply LS.op)
  | (with_reducible apply LS.ri0)
  | (with_reducible apply LS.tseq)
  | (with_reducible apply LS.tasg)
  | (with_reducible apply LS.gname)
  | (with_reducible apply LS.tcons)
  | (with_reducible apply LS.tnil)
  | (with_reducible apply LS.tcb)
  | (with_reducible apply LS.tcall)
  | (with_reducible apply LS.ttest)
  | (with_reducible apply LS.k_b)
  | (with_reducible apply LS.tb)
  | (with_reducible apply LS.tifs)
  | (with_reducible apply LS.ift)
  | (with_reducible apply LS.iff_)
  | (with_reducible apply LS.ifnt)
  | (with_reducible apply LS.ifnf)
  | (with_reducible apply LS.tnext)
  | (with_reducible apply LS.tdrop)
  | (with_reducible apply LS.tret)
  | (with_reducible apply LS.tretn)
  | (with_reducible apply LS.un)
  | (with_reducible apply LS.ru)
  | (with_reducible apply LS.tyes)
  | (with_reducible apply LS.tand)
  | (with_reducible apply LS.tor)
  | (with_reducible apply LS.tnot)
  | (with_reducible apply LS.tif)
  | (with_reducible apply LS.tandv)
  | (with_reducible apply LS.k_av)
  | (with_reducible apply LS.torv)
  | (with_reducible apply LS.k_ov)
  | (with_reducible apply LS.tnotv)
  | (with_reducible apply LS.k_nv)
  | (with_reducible apply LS.tchain)
  | (with_reducible apply LS.k_ch)
  | (with_reducible apply LS.req_i)
  | (with_reducible apply LS.rne_i)
  | (with_reducible apply LS.req_s)
  | (with_reducible apply LS.rne_s)
  | (with_reducible apply LS.req_b)
  | (with_reducible apply LS.rne_b)
  | ((with_reducible apply LS.rin_i); array_mem_dec)
  | ((with_reducible apply LS.rni_i); array_mem_dec)
  | ((with_reducible apply LS.rlen_li); array_mem_dec)
  | ((with_reducible apply LS.rlen_ls); array_mem_dec)
  | ((with_reducible apply LS.rlen_l); array_mem_dec)
  | ((with_reducible apply LS.rlen_Ei); array_mem_dec)
  | ((with_reducible apply LS.rlen_E); array_mem_dec)
  | ((with_reducible apply LS.rlen_t); array_mem_dec)
  | ((with_reducible apply LS.rixl); array_mem_dec; exact rfl)
  | ((with_reducible apply LS.rixt); array_mem_dec; exact rfl)
  | (with_reducible apply LS.isi_int_int)
  | (with_reducible apply LS.isi_int_bool)
  | (with_reducible apply LS.isi_int_str)
  | (with_reducible apply LS.isi_str_int)
  | (with_reducible apply LS.isi_str_bool)
  | (with_reducible apply LS.isi_str_str)
  | (with_reducible apply LS.isi_bool_int)
  | (with_reducible apply LS.isi_bool_bool)
  | (with_reducible apply LS.isi_bool_str)
  | (with_reducible apply LS.isi_non_int)
  | (with_reducible apply LS.isi_non_bool)
  | (with_reducible apply LS.isi_non_str)
  | ((with_reducible apply LS.isi_list_int); array_mem_dec)
  | ((with_reducible apply LS.isi_list_bool); array_mem_dec)
  | ((with_reducible apply LS.isi_list_str); array_mem_dec)
  | ((with_reducible apply LS.isi_list_list); array_mem_dec)
  | ((with_reducible apply LS.isi_list_tuple); array_mem_dec)
  | ((with_reducible apply LS.isi_tuple_int); array_mem_dec)
  | ((with_reducible apply LS.isi_tuple_bool); array_mem_dec)
  | ((with_reducible apply LS.isi_tuple_str); array_mem_dec)
  | ((with_reducible apply LS.isi_tuple_list); array_mem_dec)
  | ((with_reducible apply LS.isi_tuple_tuple); array_mem_dec)
  | ((with_reducible apply LS.isiT_i); array_mem_dec)
  | ((with_reducible apply LS.isiT_s); array_mem_dec)
  | ((with_reducible apply LS.isiT_E); array_mem_dec; array_mem_dec)
  | (with_reducible apply LS.tfld)
  | ((with_reducible apply LS.k_fl); array_mem_dec; assumption; assumption; exact rfl)
  | (with_reducible apply LS.tmeth)
  | ((with_reducible apply LS.k_me); array_mem_dec; exact rfl)
  | (with_reducible apply LS.tmake)
  | (with_reducible apply LS.tsfld)
  | (with_reducible apply LS.tprop)
  | ((with_reducible apply LS.k_pr); array_mem_dec)
  | ((with_reducible apply LS.rlen_own); array_mem_dec)
  | (with_reducible apply LS.rabs)
  | (with_reducible apply LS.rmin2)
  | (with_reducible apply LS.rmax2)
  | (with_reducible apply LS.tsl)
  | (with_reducible apply LS.tthen)
  | (with_reducible apply LS.tstep)
  | (with_reducible apply LS.tnop)
  | (with_reducible apply LS.tpart)
  | (with_reducible apply LS.k_part)
  | (with_reducible apply LS.ttup)
  | (with_reducible apply LS.tlst)
  | (with_reducible apply LS.tbm)
  | (with_reducible apply LS.tbm0)
  | ((with_reducible apply LS.ty_l); array_mem_dec)
  | (with_reducible apply LS.tpar)
  | (with_reducible apply LS.tfor)
  | (with_reducible apply LS.tlc)
  | (with_reducible apply LS.ilist)
  | ((with_reducible apply LS.k_il); array_mem_dec)
  | (with_reducible apply LS.itup)
  | ((with_reducible apply LS.k_it); array_mem_dec)
  | (with_reducible apply LS.istr)
  | (with_reducible apply LS.k_is)
  | (with_reducible apply LS.irng1)
  | ((with_reducible apply LS.k_r1n); omega)
  | ((with_reducible apply LS.k_r1); (first | omega | decide); (first | omega | decide))
  | (with_reducible apply LS.irng2)
  | ((with_reducible apply LS.k_r2); (first | omega | decide); (first | omega | decide); (first | omega | decide); (first | omega | decide))
  | (with_reducible apply LS.ienum)
  | ((with_reducible apply LS.k_en); array_mem_dec)
  | (with_reducible apply LS.izip)
  | ((with_reducible apply LS.k_zip); array_mem_dec; array_mem_dec)
  | (with_reducible apply LS.tlstrg)
  | (with_reducible apply LS.trg1)
  | (with_reducible apply LS.k_g1)
  | (with_reducible apply LS.risn_i)
  | (with_reducible apply LS.risn_s)
  | (with_reducible apply LS.risn_n)
  | (with_reducible apply LS.rnotn_i)
  | (with_reducible apply LS.rnotn_n)
  | (with_reducible apply LS.rint_b)
  | (with_reducible apply LS.rint_i)
  | (with_reducible apply LS.tm0)
  | (with_reducible apply LS.tm1)
  | (with_reducible apply LS.is_str)
  | (with_reducible apply LS.ex_s0)
  | (with_reducible apply LS.ex_int_b)
  | (with_reducible apply LS.k_par)
  | (with_reducible apply LS.tpar3)
  | (with_reducible apply LS.k_par3)
  | ((with_reducible apply LS.taug); exact rfl)
  | (with_reducible apply LS.ipi)
  | ((with_reducible apply LS.gtup); array_mem_dec; exact rfl)
  | ((with_reducible apply LS.gunl); array_mem_dec; exact rfl)
  | (with_reducible apply LS.gnil)
  | (with_reducible apply LS.gcons)
  | (with_reducible apply LS.gsub)
  | ((with_reducible apply LS.ri); first | omega | decide | assumption | exact ⟨by decide, by decide, by decide⟩ | exact .inl ⟨by decide, by decide⟩ | exact .inr ⟨by decide, by decide⟩ | exact .inl ⟨by omega, by omega⟩ | exact .inr ⟨by omega, by omega⟩)
  | (with_reducible apply LS.ex_ss)
  | (with_reducible apply LS.ex_s1)
  | (with_reducible apply LS.ex_i1)
  | (with_reducible apply LS.and_rfl)
  | (with_reducible apply LS.and_tr)
  | (with_reducible apply LS.is_non))
local macro_rules | `(tactic| array_mem_dec) => `(tactic| first
  | ((with_reducible apply LP.lv_s); assumption; array_mem_dec)
  | ((with_reducible apply LP.lv_l); assumption; array_mem_dec; array_mem_dec; array_mem_dec)
  | ((with_reducible apply LP.lv_f); assumption; array_mem_dec; array_mem_dec; array_mem_dec)
  | ((with_reducible apply LP.lv_t); assumption; array_mem_dec; array_mem_dec; array_mem_dec)
  | ((with_reducible apply LP.ops_s); assumption; array_mem_dec)
  | ((with_reducible apply LP.md_s); assumption; array_mem_dec)
  | ((with_reducible apply LP.md_l); assumption; array_mem_dec; array_mem_dec; array_mem_dec)
  | ((with_reducible apply LP.md_f); assumption; array_mem_dec; array_mem_dec; array_mem_dec)
  | ((with_reducible apply LP.md_t); assumption; array_mem_dec; array_mem_dec; array_mem_dec)
  | ((with_reducible apply LP.al_s); assumption; array_mem_dec; array_mem_dec)
  | ((with_reducible apply LP.al_t); assumption; array_mem_dec; array_mem_dec)
  | ((with_reducible apply LP.al_l); assumption; array_mem_dec; array_mem_dec; array_mem_dec)
  | ((with_reducible apply LP.al_f); assumption; array_mem_dec; array_mem_dec; array_mem_dec)
  | ((with_reducible apply LP.Lv.lists); array_mem_dec)
  | ((with_reducible apply LP.Lv.trk); array_mem_dec)
  | ((with_reducible apply LP.Mdl.trk); array_mem_dec)
  | ((with_reducible apply LP.al_no); assumption; array_mem_dec))
local macro_rules | `(tactic| array_get_dec) => `(tactic| first
  | (with_reducible apply LS.trg2)
  | (with_reducible apply LS.k_g2))

section
variable {P : Program} {w : World} {K : PySem.W.Frag} {mg : Str → Option Value} {base : Heap}

theorem ok__law_size (e : Env K mg) : FnOk P w K mg base CX0 3 e.a__law_size e.d__law_size ["bag"] (sp__law_size) := by
  refine Fun.ok e.f__law_size sc__law_size (fun vs H Q E h => ?_) (fun cdv A outer s H vs Q E hr h => ?_)
  · obtain ⟨b, l, ns, d, rfl, _⟩ := h; rfl
  · obtain ⟨b, l, ns, d, rfl, G, hd, hl, k⟩ := h
    refine ⟨_, (pss_one (ps_ret (pe_ix ix_list (pe_lst (pa_cons (pe_op op_add pe_int (pe_call ((ok__law_draw e).mono (by decide)) hr rfl e.g__law_draw e.f__law_draw.kp e.b__law_draw .nil pass0 (pa_cons (pv 0) (pa_cons pe_int pa_nil)))) (pa_cons (pe_op op_add pe_int (pe_call ((ok__law_draw e).mono (by decide)) hr rfl e.g__law_draw e.f__law_draw.kp e.b__law_draw .nil pass0 (pa_cons (pv 0) (pa_cons pe_int pa_nil)))) (pa_cons pe_int pa_nil)))) (pe_call ((ok__law_draw e).mono (by decide)) hr rfl e.g__law_draw e.f__law_draw.kp e.b__law_draw .nil pass0 (pa_cons (pv 0) (pa_cons pe_int pa_nil))) (fun _ _ => rfl)))), ?_⟩
    repeat array_get_dec
    refine ⟨b, l, ns, d, 6, rfl, G, by decide, by decide +kernel, by omega, hl, fun H1 r1 a1 b1 G1 F1 => ?_⟩
    repeat array_get_dec
    refine ⟨b, l, ns, _, 40, rfl, G1, by decide, by decide +kernel, by omega, hl, fun H2 r2 a2 b2 G2 F2 => ?_⟩
    repeat array_get_dec
    refine LS.k_lst (by array_mem_dec) fun p H_p n_p s_p h_p => ?_
    repeat array_get_dec
    refine ⟨b, l, ns, _, 3, rfl, G2.same s_p, by decide, by decide +kernel, by omega, hl, fun H3 r3 a3 b3 G3 F3 => ?_⟩
    have h3 : H3 p = some (.lst [.int (1 + r1), .int (1 + r2), .int 200]) := F3 _ _ h_p (G2.ne_new n_p)
    have F : Fr H H3 b := (F1.trans F2).trans ((Fr.of s_p).trans F3)
    have k1 := k H3 (1 + r1).toNat (by omega) (by omega) G3 F
    have k2 := k H3 (1 + r2).toNat (by omega) (by omega) G3 F
    have k3 := k H3 200 (by omega) (by omega) G3 F
    rw [show (((1 + r1).toNat : Nat) : Int) = 1 + r1 by omega] at k1
    rw [show (((1 + r2).toNat : Nat) : Int) = 1 + r2 by omega] at k2
    repeat array_get_dec
    obtain rfl | rfl | rfl : r3 = 0 ∨ r3 = 1 ∨ r3 = 2 := by omega
    · exact LS.rixl_n (j := 0) (SqL.of h3) rfl rfl k1
    · exact LS.rixl_n (j := 1) (SqL.of h3) rfl rfl k2
    · exact LS.rixl_n (j := 2) (SqL.of h3) rfl rfl k3
theorem ok__law_either (e : Env K mg) : FnOk P w K mg base CX0 3 e.a__law_either e.d__law_either ["bag", "items"] (sp__law_either K) := by
  refine Fun.ok e.f__law_either sc__law_either (fun vs H Q E h => ?_) (fun cdv A outer s H vs Q E hr h => ?_)
  · obtain ⟨b, l, ns, d, p, xs, rfl, _⟩ := h; rfl
  · obtain ⟨b, l, ns, d, p, xs, rfl, G, hd, hl, hS, hpb, hx, k⟩ := h
    refine ⟨_, (pss_one (ps_ret (pe_ix ix_list (pe_lst (pa_cons (pe_callTy LS.call_list (by rfl) e.n_list (by decide +kernel) (pa_cons (pv 1) pa_nil)) (pa_cons (pe_tupleOf (by rfl) e.n_tuple (pv 1)) pa_nil))) (pe_call ((ok__law_draw e).mono (by decide)) hr rfl e.g__law_draw e.f__law_draw.kp e.b__law_draw .nil pass0 (pa_cons (pv 0) (pa_cons pe_int pa_nil))) (fun _ _ => rfl)))), ?_⟩
    repeat array_get_dec
    refine rlistE hS fun L H1 nL s1 hL => ?_
    repeat array_get_dec
    refine ktupE (hS.same s1) fun q H2 s2 hq => ?_
    repeat array_get_dec
    refine LS.k_lst (by array_mem_dec) fun m H_m n_m s_m h_m => ?_
    repeat array_get_dec
    have G2 := ((G.same s1).same s2).same s_m
    refine ⟨b, l, ns, d, 2, rfl, G2, by decide, by decide +kernel, by omega, hl, fun H4 r r0 r1 G4 F4 => ?_⟩
    have F : Fr H H4 b := (Fr.of ((s1.trans s2).trans s_m)).trans F4
    have hm4 : H4 m = some (.lst [.ref L, .ref q]) := F4 _ _ h_m (((G.same s1).same s2).ne_new n_m)
    have hL4 := F4 _ _ (s_m _ _ (s2 _ _ hL)) (G.ne_new nL)
    have hq4 : SqT K H4 q xs := fr_tupB F4 G2 (same_tup s_m hq)
    repeat array_get_dec
    obtain rfl | rfl : r = 0 ∨ r = 1 := by omega
    · exact LS.rixl_n (j := 0) (SqL.of hm4) rfl rfl (k H4 L false G4 F (SqL.of hL4))
    · exact LS.rixl_n (j := 1) (SqL.of hm4) rfl rfl (k H4 q true G4 F hq4)
theorem ok__law_dressed (e : Env K mg) : FnOk P w K mg base CX0 4 e.a__law_dressed e.d__law_dressed ["bag", "rows"] (sp__law_dressed K) := by
  refine Fun.ok e.f__law_dressed sc__law_dressed (fun vs H Q E h => ?_) (fun cdv A outer s H vs Q E hr h => ?_)
  · obtain ⟨b, l, ns, d, p, as, os, rfl, _⟩ := h; rfl
  · obtain ⟨b, l, ns, d, p, as, os, rfl, G, hd, hl, hS, hpb, ho, h400, k⟩ := h
    refine ⟨_, (pss_one (ps_ret (pe_call ((ok__law_either e).mono (by decide)) hr rfl e.g__law_either e.f__law_either.kp e.b__law_either .nil pass0 (pa_cons (pv 0) (pa_cons (pe_lc (own := [("one", 2)]) rfl sc__law_dressed.nd (pi_list (pv 1)) (blkOk_by (N := ["bag", "rows", "one"]) (sc := defScope s__law_dressed) (by decide +kernel)) (fun _ _ _ _ _ => (pg_name (i := 2) sc__law_dressed.nd rfl (by first | exact Or.inl rfl | exact Or.inr rfl))) (fun _ _ _ _ _ => pts_nil) (fun _ _ _ _ _ => (pe_call ((ok__law_either e).mono (by decide)) hr rfl e.g__law_either e.f__law_either.kp e.b__law_either .nil pass0 (pa_cons (pv 0) (pa_cons (pv 2) pa_nil))))) pa_nil))))), ?_⟩
    have hol := ho.1
    repeat array_get_dec
    refine LS.comp (walk_list (xs := as.map V.ref)) (fun D i acc H' => ∃ (cs : List Addr) (ts : List Bool), Bag H' b l ns (d + i) ∧ Fr H H' b ∧ D ≠ b ∧ acc = cs.map V.ref ∧ cs.length = i ∧ ts.length = i ∧ ∀ (j : Nat) c t o, cs[j]? = some c → ts[j]? = some t → os[j]? = some o → LX.SqB K t H' c (opv o)) (fun D H' nD s' hD => ⟨[], [], G.same s', Fr.of s', G.ne_new nD, rfl, rfl, rfl, fun j c t o h => by simp at h⟩) (fun D i acc H' hi nD hD h => (by obtain ⟨_, _, _, f, _⟩ := h; exact SqL.of (f _ _ hS hpb))) ?_ ?_
    · rintro D i acc x H2 H3 nD hi hl2 hD ⟨cs, ts, G2, F2, nb, rfl, hcl, htl, hc⟩ ⟨rfl, hx⟩
      rw [List.length_map] at hi
      obtain ⟨a, ha, rfl⟩ : ∃ a, as[i]? = some a ∧ x = .ref a := by
        rw [List.getElem?_map] at hx
        cases q : as[i]? with
        | none => rw [q] at hx; cases hx
        | some a => rw [q] at hx; cases hx; exact ⟨a, rfl, rfl⟩
      obtain ⟨o, hoo⟩ : ∃ o, os[i]? = some o := ⟨_, List.getElem?_eq_getElem (by omega)⟩
      have hat := ho.2 i a o ha hoo
      obtain ⟨_, _, _, _, hb0, _⟩ := G.ex
      have nab : a ≠ b := fun z => by rw [z, hb0] at hat; cases hat
      have ha2 := F2 _ _ hat nab
      refine ⟨rfl, ?_⟩
      repeat array_get_dec
      refine ⟨b, l, ns, _, a, opv o, rfl, G2, by omega, hl, .inr (SqT.of ha2), nab, by show 2 ≤ 1000; decide, fun H4 q t G4 F4 hq => ?_⟩
      have hD4 := F4 _ _ hD nb
      refine LS.k_lc hD4 hl2 (by omega) fun H5 f5 h5 => ⟨cs ++ [q], ts ++ [t], ?_, LS.Fr.fr_new (F2.trans F4) f5 nD, nb, by rw [List.map_append]; rfl, by rw [List.length_append, hcl]; rfl, by rw [List.length_append, htl]; rfl, ?_⟩
      · exact bag_fr (G4.mono (by omega)) f5 nb (fun z => by have := G.ls; rw [← z, nD] at this; cases this)
      · intro j c t' o' hj1 hj2 hj3
        rcases Nat.lt_or_ge j i with z | z
        · rw [List.getElem?_append_left (by omega)] at hj1 hj2
          exact fr_sqX f5 hD4 (fun w => by cases cs <;> cases w) (fr_sqBag F4 G2 (hc j c t' o' hj1 hj2 hj3))
        · rw [List.getElem?_append_right (by omega)] at hj1 hj2
          obtain rfl : j = i := by
            have := (List.getElem?_eq_some_iff.mp hj1).1
            simp at this
            omega
          rw [hcl, Nat.sub_self] at hj1
          rw [htl, Nat.sub_self] at hj2
          cases hj1
          cases hj2
          rw [hoo] at hj3
          cases hj3
          exact fr_sqX f5 hD4 (fun w => by cases cs <;> cases w) hq
    · rintro D acc H2 nD hD hl2 ⟨cs, ts, G2, F2, nb, rfl, hcl, htl, hc⟩
      rw [List.length_map] at hcl htl G2
      repeat array_get_dec
      refine ⟨b, l, ns, _, D, _, rfl, G2, by omega, hl, .inl (SqL.of hD), nb, by rw [List.length_map]; omega, fun H4 q t G4 F4 hq => ?_⟩
      have hc4 : ∀ (j : Nat) c t o, cs[j]? = some c → ts[j]? = some t → os[j]? = some o → LX.SqB K t H4 c (opv o) := fun j c t o h1 h2 h3 => fr_sqBag F4 G2 (hc j c t o h1 h2 h3)
      have hE : OpsE K H4 cs os := ⟨by omega, fun i a o h1 h2 => by
        obtain ⟨t', ht'⟩ : ∃ t', ts[i]? = some t' := ⟨_, List.getElem?_eq_getElem (by have := (List.getElem?_eq_some_iff.mp h1).1; omega)⟩
        exact sqE_B (hc4 i a t' o h1 ht' h2)⟩
      refine k H4 q cs t ts (G4.mono (by omega)) (F2.trans F4) (sqE_B hq) hE (by omega) (dp_sc hq (by omega) (by omega) hc4)
end
end LP

namespace LP
open PySem L2 LT LG LQ LH LC LX LR
local macro_rules | `(tactic| array_mem_dec) => `(tactic| first
  | assumption
  | ((with_reducible apply LS.hp_s); assumption; array_mem_dec)
  | ((with_reducible apply LS.hp_f); assumption; array_mem_dec; array_mem_dec)
  | ((with_reducible apply LS.hp_t); assumption; array_mem_dec; array_mem_dec)
  | ((with_reducible apply LS.hp_l); assumption; array_mem_dec; array_mem_dec)
  | ((with_reducible apply LS.sq_o); array_mem_dec)
  | ((with_reducible apply LS.sq_s); assumption; array_mem_dec)
  | ((with_reducible apply LS.sq_f); assumption; array_mem_dec; array_mem_dec)
  | ((with_reducible apply LS.sq_t); assumption; array_mem_dec; array_mem_dec)
  | ((with_reducible apply LS.sq_l); assumption; array_mem_dec; array_mem_dec)
  | ((with_reducible apply LS.tu_o); array_mem_dec)
  | ((with_reducible apply LS.tu_s); assumption; array_mem_dec)
  | ((with_reducible apply LS.tu_f); assumption; array_mem_dec; array_mem_dec)
  | ((with_reducible apply LS.tu_t); assumption; array_mem_dec; array_mem_dec)
  | ((with_reducible apply LS.tu_l); assumption; array_mem_dec; array_mem_dec)
  | ((with_reducible apply LS.se_l); array_mem_dec)
  | ((with_reducible apply LS.se_t); array_mem_dec)
  | ((with_reducible apply LS.se_s); assumption; array_mem_dec)
  | ((with_reducible apply LS.se_f); assumption; array_mem_dec; array_mem_dec)
  | ((with_reducible apply LS.se_tt); assumption; array_mem_dec; array_mem_dec)
  | ((with_reducible exact Same.refl _))
  | ((with_reducible apply LS.sm_s); assumption; array_mem_dec)
  | ((with_reducible apply LS.sm_f); assumption; array_mem_dec; array_mem_dec)
  | ((with_reducible exact Fr.refl _ _))
  | ((with_reducible apply LS.fr_b); assumption; array_mem_dec)
  | ((with_reducible apply LS.fr_s); assumption; array_mem_dec)
  | ((with_reducible apply LS.fr_n); assumption; array_mem_dec; array_mem_dec)
  | ((with_reducible apply LS.fr_t); assumption; array_mem_dec)
  | ((with_reducible apply LS.no_s); assumption; array_mem_dec)
  | ((with_reducible apply LS.no_f); assumption; array_mem_dec; array_mem_dec)
  | ((with_reducible apply LS.no_t); assumption; array_mem_dec)
  | ((with_reducible apply LS.no_l); assumption; assumption)
  | ((with_reducible apply Ne.symm); assumption)
  | ((with_reducible apply LS.ne_a); assumption; array_mem_dec)
  | ((with_reducible apply LS.ne_b); assumption; array_mem_dec)
  | ((with_reducible apply LS.ne_ap); assumption)
  | ((with_reducible apply LS.ne_il); assumption; array_mem_dec)
  | ((with_reducible apply LS.ne_li); assumption; array_mem_dec)
  | ((with_reducible apply LS.ne_lt); assumption; assumption)
  | ((with_reducible apply LS.ne_tl); assumption; assumption)
  | ((with_reducible apply LS.ne_rl); assumption; array_mem_dec)
  | ((with_reducible apply LS.rl_t); assumption)
  | ((with_reducible apply LS.rl_s); assumption; array_mem_dec)
  | ((with_reducible apply LS.rl_f); assumption; array_mem_dec; array_mem_dec)
  | ((with_reducible apply LS.rl_l); assumption; array_mem_dec; array_mem_dec)
  | ((with_reducible apply LS.ap_new); assumption; assumption; array_mem_dec)
  | ((with_reducible apply LS.ap_t); assumption; array_mem_dec; array_mem_dec)
  | ((with_reducible apply LS.ap_s); assumption; array_mem_dec; array_mem_dec)
  | ((with_reducible apply LS.ap_f); assumption; array_mem_dec; array_mem_dec; array_mem_dec)
  | ((with_reducible apply LS.ap_l); assumption; array_mem_dec; array_mem_dec; array_mem_dec)
  | (with_reducible apply LS.ni_nil)
  | ((with_reducible apply LS.ni_cons); array_mem_dec; array_mem_dec)
  | (with_reducible apply LS.trk_nil)
  | ((with_reducible apply LS.trk_cons); array_mem_dec; array_mem_dec)
  | (with_reducible apply LS.al_nil)
  | ((with_reducible apply LS.al_cons); array_mem_dec; array_mem_dec)
  | (with_reducible apply LS.mem_hd)
  | ((with_reducible apply LS.mem_tl); array_mem_dec)
  | ((with_reducible apply LS.fl_refl); array_mem_dec)
  | ((with_reducible apply LS.fl_l); assumption; array_mem_dec)
  | ((with_reducible apply LS.fl_lm); assumption; array_mem_dec; array_mem_dec)
  | (with_reducible apply LS.sub_nil)
  | ((with_reducible apply LS.sub_cons); array_mem_dec; array_mem_dec)
  | ((with_reducible apply LS.fl_s); assumption; array_mem_dec)
  | ((with_reducible apply LS.fl_m); assumption; array_mem_dec; array_mem_dec; array_mem_dec)
  | ((with_reducible apply LS.fl_n); assumption; array_mem_dec; array_mem_dec; array_mem_dec)
  | ((with_reducible apply LS.rt_refl); array_mem_dec)
  | ((with_reducible apply LS.rt_t); assumption; array_mem_dec)
  | ((with_reducible apply LS.rt_s); assumption; array_mem_dec)
  | ((with_reducible apply LS.rt_f); assumption; array_mem_dec; array_mem_dec; array_mem_dec)
  | ((with_reducible apply LS.sz); (first | decide | (simp only [List.length_append, List.length_map, List.length_cons, List.length_nil, List.length_replicate]; omega)))
  | ((with_reducible apply LS.szl); (first | decide | (simp only [List.length_append, List.length_map, List.length_cons, List.length_nil, List.length_replicate]; omega))))
local macro_rules | `(tactic| array_get_dec) => `(tactic| first
  | ((with_reducible apply LS.var); exact rfl)
  | (with_reducible apply LS.con)
  | (with_reducible apply LS.op)
  | (with_reducible apply LS.ri0)
  | (with_reducible apply LS.tseq)
  | (with_reducible apply LS.tasg)
  | (with_reducible apply LS.gname)
  | (with_reducible apply LS.tcons)
  | (with_reducible apply LS.tnil)
  | (with_reducible apply LS.tcb)
  | (with_reducible apply LS.tcall)
  | (with_reducible apply LS.ttest)
  | (with_reducible apply LS.k_b)
  | (with_reducible apply LS.tb)
  | (with_reducible apply LS.tifs)
  | (with_reducible apply LS.ift)
  | (with_reducible apply LS.iff_)
  | (with_reducible apply LS.ifnt)
  | (with_reducible apply LS.ifnf)
  | (with_reducible apply LS.tnext)
  | (with_reducible apply LS.tdrop)
  | (with_reducible apply LS.tret)
  | (with_reducible apply LS.tretn)
  | (with_reducible apply LS.un)
  | (with_reducible apply LS.ru)
  | (with_reducible apply LS.tyes)
  | (with_reducible apply LS.tand)
  | (with_reducible apply LS.tor)
  | (with_reducible apply LS.tnot)
  | (with_reducible apply LS.tif)
  | (with_reducible apply LS.tandv)
  | (with_reducible apply LS.k_av)
  | (with_reducible apply LS.torv)
  | (with_reducible apply LS.k_ov)
  | (with_reducible apply LS.tnotv)
  | (with_reducible apply LS.k_nv)
  | (with_reducible apply LS.tchain)
  | (with_reducible apply LS.k_ch)
  | (with_reducible apply LS.req_i)
  | (with_reducible apply LS.rne_i)
  | (with_reducible apply LS.req_s)
  | (with_reducible apply LS.rne_s)
  | (with_reducible apply LS.req_b)
  | (with_reducible apply LS.rne_b)
  | ((with_reducible apply LS.rin_i); array_mem_dec)
  | ((with_reducible apply LS.rni_i); array_mem_dec)
  | ((with_reducible apply LS.rlen_li); array_mem_dec)
  | ((with_reducible apply LS.rlen_ls); array_mem_dec)
  | ((with_reducible apply LS.rlen_l); array_mem_dec)
  | ((with_reducible apply LS.rlen_Ei); array_mem_dec)
  | ((with_reducible apply LS.rlen_E); array_mem_dec)
  | ((with_reducible apply LS.rlen_t); array_mem_dec)
  | ((with_reducible apply LS.rixl); array_mem_dec; exact rfl)
  | ((with_reducible apply LS.rixt); array_mem_dec; exact rfl)
  | (with_reducible apply LS.isi_int_int)
  | (with_reducible apply LS.isi_int_bool)
  | (with_reducible apply LS.isi_int_str)
  | (with_reducible apply LS.isi_str_int)
  | (with_reducible apply LS.isi_str_bool)
  | (with_reducible apply LS.isi_str_str)
  | (with_reducible apply LS.isi_bool_int)
  | (with_reducible apply LS.isi_bool_bool)
  | (with_reducible apply LS.isi_bool_str)
  | (with_reducible apply LS.isi_non_int)
  | (with_reducible apply LS.isi_non_bool)
  | (with_reducible apply LS.isi_non_str)
  | ((with_reducible apply LS.isi_list_int); array_mem_dec)
  | ((with_reducible apply LS.isi_list_bool); array_mem_dec)
  | ((with_reducible apply LS.isi_list_str); array_mem_dec)
  | ((with_reducible apply LS.isi_list_list); array_mem_dec)
  | ((with_reducible apply LS.isi_list_tuple); array_mem_dec)
  | ((with_reducible apply LS.isi_tuple_int); array_mem_dec)
  | ((with_reducible apply LS.isi_tuple_bool); array_mem_dec)
  | ((with_reducible apply LS.isi_tuple_str); array_mem_dec)
  | ((with_reducible apply LS.isi_tuple_list); array_mem_dec)
  | ((with_reducible apply LS.isi_tuple_tuple); array_mem_dec)
  | ((with_reducible apply LS.isiT_i); array_mem_dec)
  | ((with_reducible apply LS.isiT_s); array_mem_dec)
  | ((with_reducible apply LS.isiT_E); array_mem_dec; array_mem_dec)
  | (with_reducible apply LS.tfld)
  | ((with_reducible apply LS.k_fl); array_mem_dec; assumption; assumption; exact rfl)
  | (with_reducible apply LS.tmeth)
  | ((with_reducible apply LS.k_me); array_mem_dec; exact rfl)
  | (with_reducible apply LS.tmake)
  | (with_reducible apply LS.tsfld)
  | (with_reducible apply LS.tprop)
  | ((with_reducible apply LS.k_pr); array_mem_dec)
  | ((with_reducible apply LS.rlen_own); array_mem_dec)
  | (with_reducible apply LS.rabs)
  | (with_reducible apply LS.rmin2)
  | (with_reducible apply LS.rmax2)
  | (with_reducible apply LS.tsl)
  | (with_reducible apply LS.tthen)
  | (with_reducible apply LS.tstep)
  | (with_reducible apply LS.tnop)
  | (with_reducible apply LS.tpart)
  | (with_reducible apply LS.k_part)
  | (with_reducible apply LS.ttup)
  | (with_reducible apply LS.tlst)
  | (with_reducible apply LS.tbm)
  | (with_reducible apply LS.tbm0)
  | ((with_reducible apply LS.ty_l); array_mem_dec)
  | (with_reducible apply LS.tpar)
  | (with_reducible apply LS.tfor)
  | (with_reducible apply LS.tlc)
  | (with_reducible apply LS.ilist)
  | ((with_reducible apply LS.k_il); array_mem_dec)
  | (with_reducible apply LS.itup)
  | ((with_reducible apply LS.k_it); array_mem_dec)
  | (with_reducible apply LS.istr)
  | (with_reducible apply LS.k_is)
  | (with_reducible apply LS.irng1)
  | ((with_reducible apply LS.k_r1n); omega)
  | ((with_reducible apply LS.k_r1); (first | omega | decide); (first | omega | decide))
  | (with_reducible apply LS.irng2)
  | ((with_reducible apply LS.k_r2); (first | omega | decide); (first | omega | decide); (first | omega | decide); (first | omega | decide))
  | (with_reducible apply LS.ienum)
  | ((with_reducible apply LS.k_en); array_mem_dec)
  | (with_reducible apply LS.izip)
  | ((with_reducible apply LS.k_zip); array_mem_dec; array_mem_dec)
  | (with_reducible apply LS.tlstrg)
  | (with_reducible apply LS.trg1)
  | (with_reducible apply LS.k_g1)
  | (with_reducible apply LS.risn_i)
  | (with_reducible apply LS.risn_s)
  | (with_reducible apply LS.risn_n)
  | (with_reducible apply LS.rnotn_i)
  | (with_reducible apply LS.rnotn_n)
  | (with_reducible apply LS.rint_b)
  | (with_reducible apply LS.rint_i)
  | (with_reducible apply LS.tm0)
  | (with_reducible apply LS.tm1)
  | (with_reducible apply LS.is_str)
  | (with_reducible apply LS.ex_s0)
  | (with_reducible apply LS.ex_int_b)
  | (with_reducible apply LS.k_par)
  | (with_reducible apply LS.tpar3)
  | (with_reducible apply LS.k_par3)
  | ((with_reducible apply LS.taug); exact rfl)
  | (with_reducible apply LS.ipi)
  | ((with_reducible apply LS.gtup); array_mem_dec; exact rfl)
  | ((with_reducible apply LS.gunl); array_mem_dec; exact rfl)
  | (with_reducible apply LS.gnil)
  | (with_reducible apply LS.gcons)
  | (with_reducible apply LS.gsub)
  | ((with_reducible apply LS.ri); first | omega | decide | assumption | exact ⟨by decide, by decide, by decide⟩ | exact .inl ⟨by decide, by decide⟩ | exact .inr ⟨by decide, by decide⟩ | exact .inl ⟨by omega, by omega⟩ | exact .inr ⟨by omega, by omega⟩)
  | (with_reducible apply LS.ex_ss)
  | (with_reducible apply LS.ex_s1)
  | (with_reducible apply LS.ex_i1)
  | (with_reducible apply LS.and_rfl)
  | (with_reducible apply LS.and_tr)
  | (with_reducible apply LS.is_non))
local macro_rules | `(tactic| array_mem_dec) => `(tactic| first
  | ((with_reducible apply LP.lv_s); assumption; array_mem_dec)
  | ((with_reducible apply LP.lv_l); assumption; array_mem_dec; array_mem_dec; array_mem_dec)
  | ((with_reducible apply LP.lv_f); assumption; array_mem_dec; array_mem_dec; array_mem_dec)
  | ((with_reducible apply LP.lv_t); assumption; array_mem_dec; array_mem_dec; array_mem_dec)
  | ((with_reducible apply LP.ops_s); assumption; array_mem_dec)
  | ((with_reducible apply LP.md_s); assumption; array_mem_dec)
  | ((with_reducible apply LP.md_l); assumption; array_mem_dec; array_mem_dec; array_mem_dec)
  | ((with_reducible apply LP.md_f); assumption; array_mem_dec; array_mem_dec; array_mem_dec)
  | ((with_reducible apply LP.md_t); assumption; array_mem_dec; array_mem_dec; array_mem_dec)
  | ((with_reducible apply LP.al_s); assumption; array_mem_dec; array_mem_dec)
  | ((with_reducible apply LP.al_t); assumption; array_mem_dec; array_mem_dec)
  | ((with_reducible apply LP.al_l); assumption; array_mem_dec; array_mem_dec; array_mem_dec)
  | ((with_reducible apply LP.al_f); assumption; array_mem_dec; array_mem_dec; array_mem_dec)
  | ((with_reducible apply LP.Lv.lists); array_mem_dec)
  | ((with_reducible apply LP.Lv.trk); array_mem_dec)
  | ((with_reducible apply LP.Mdl.trk); array_mem_dec)
  | ((with_reducible apply LP.al_no); assumption; array_mem_dec))
local macro_rules | `(tactic| array_get_dec) => `(tactic| first
  | (with_reducible apply LS.trg2)
  | (with_reducible apply LS.k_g2))

section
variable {P : Program} {w : World} {K : PySem.W.Frag} {mg : Str → Option Value} {base : Heap}

theorem ok__law_can (e : Env K mg) : FnOk P w K mg base CX0 1 e.a__law_can e.d__law_can ["books", "out", "one"] (sp__law_can K) := by
  refine Fun.ok e.f__law_can sc__law_can (fun vs H Q E h => ?_) (fun cdv A outer s H vs Q E hr h => ?_)
  · obtain ⟨p, q, a, s, o, rfl, _⟩ := h; rfl
  · obtain ⟨p, q, a, s, o, rfl, hp, hq, ha, ho, k⟩ := h
    refine ⟨_, (pss_cons (ps_if (PW.pt (pw_or (pt_not (pt_val (pe_callB call_isiT (by rfl) e.n_isinstance (by decide +kernel) (pa_cons (pv 2) (pa_cons (pe_tup (pa_cons (pe_bltn (v := V.ty "list") (by rfl) e.n_list (by decide +kernel) rfl) (pa_cons (pe_bltn (v := V.ty "tuple") (by rfl) e.n_tuple (by decide +kernel) rfl) pa_nil))) pa_nil))))) (pw_or1 (pt_cmpR op_ne (pe_callB LS.call_len (by rfl) e.n_len PySem.boot_len (pa_cons (pv 2) pa_nil)) pe_int (nomark _)))))
        (pss_one (ps_ret pe_bl))
        pss_nil)
      (pss_cons (ps_if (PW.pt (pw_or (pt_not (pt_val (pe_callB call_isi (by rfl) e.n_isinstance (by decide +kernel) (pa_cons (PE.or (pe_ix ix_list (pv 2) pe_int (fun _ _ => rfl)) (pe_ix ix_tup (pv 2) pe_int (fun _ _ => rfl))) (pa_cons (pe_bltn (v := V.ty "int") (by rfl) e.n_int (by decide +kernel) rfl) pa_nil))))) (pw_or1 (pt_val (pe_callB call_isi (by rfl) e.n_isinstance (by decide +kernel) (pa_cons (PE.or (pe_ix ix_list (pv 2) pe_int (fun _ _ => rfl)) (pe_ix ix_tup (pv 2) pe_int (fun _ _ => rfl))) (pa_cons (pe_bltn (v := V.ty "bool") (by rfl) e.n_bool (by decide +kernel) rfl) pa_nil)))))))
        (pss_one (ps_ret pe_bl))
        pss_nil)
      (pss_cons (ps_if (pt_cmpR op_eq (PE.or (pe_ix ix_list (pv 2) pe_int (fun _ _ => rfl)) (pe_ix ix_tup (pv 2) pe_int (fun _ _ => rfl))) pe_str (nomark _))
        (pss_one (ps_ret (pe_and (pe_chain op_le op_lt pe_int (PE.or (pe_ix ix_list (pv 2) pe_int (fun _ _ => rfl)) (pe_ix ix_tup (pv 2) pe_int (fun _ _ => rfl))) (pe_callB LS.call_len (by rfl) e.n_len PySem.boot_len (pa_cons (pv 0) pa_nil))) (pe_one (pe_cmpR LS.op_notN (pe_ix ix_list (pv 0) (PE.or (pe_ix ix_list (pv 2) pe_int (fun _ _ => rfl)) (pe_ix ix_tup (pv 2) pe_int (fun _ _ => rfl))) (fun _ _ => rfl)) pe_non (nomark _))))))
        pss_nil)
      (pss_one (ps_ret (pe_and (pe_cmpR op_eq (PE.or (pe_ix ix_list (pv 2) pe_int (fun _ _ => rfl)) (pe_ix ix_tup (pv 2) pe_int (fun _ _ => rfl))) pe_str (nomark _)) (pe_one (pe_cmpR op_in_seq (PE.or (pe_ix ix_list (pv 2) pe_int (fun _ _ => rfl)) (pe_ix ix_tup (pv 2) pe_int (fun _ _ => rfl))) (pv 1) (by rfl))))))))), ?_⟩
    obtain ⟨kd, num⟩ := o
    repeat array_get_dec
    refine LS.k_tup (by decide) fun tp H1 nt s1 ht => ?_
    have ha1 := ha.same s1
    have hp1 := s1 _ _ hp
    have hq1 := s1 _ _ hq
    refine isiT_yes ha1 ht ?_
    repeat array_get_dec
    rw [decide_eq_true (by rfl)]
    repeat array_get_dec
    refine ixe0 (m := 1) rfl ha1 rfl rfl ?_
    repeat array_get_dec
    refine ixe0 (m := 1) rfl ha1 rfl rfl ?_
    repeat array_get_dec
    refine ixe0 (m := 0) rfl ha1 rfl rfl ?_
    repeat array_get_dec
    cases kd with
    | true =>
      have ht := Option.isSome_iff_exists.mp ho
      obtain ⟨u, hu⟩ := ht
      obtain ⟨h0, bb, hx, _⟩ := stp_take hu
      rw [decide_eq_true (show kst true = ("take" : Str) from rfl)]
      repeat array_get_dec
      refine ixe0 (m := 1) rfl ha1 rfl rfl ?_
      repeat array_get_dec
      rw [decide_eq_true h0]
      repeat array_get_dec
      rw [List.length_map, decide_eq_true (show num < (s.books.length : Nat) by have := (List.getElem?_eq_some_iff.mp hx).1; omega)]
      repeat array_get_dec
      refine ixe0 (m := 1) rfl ha1 rfl rfl ?_
      repeat array_get_dec
      refine LS.rixl_n (j := num.toNat) (v := .int bb) (SqL.of hp1) (by rw [List.getElem?_map, hx]; rfl) (by omega) ?_
      exact LS.rnotn_i (k H1 s1)
    | false =>
      obtain ⟨u, hu⟩ := Option.isSome_iff_exists.mp ho
      have hin := (stp_ret hu).1
      rw [decide_eq_false (show ¬ kst false = ("take" : Str) by decide +kernel)]
      repeat array_get_dec
      refine ixe0 (m := 0) rfl ha1 rfl rfl ?_
      repeat array_get_dec
      rw [decide_eq_true (show kst false = ("return" : Str) from rfl)]
      repeat array_get_dec
      refine ixe0 (m := 1) rfl ha1 rfl rfl ?_
      repeat array_get_dec
      rw [show decide ((false, num).snd ∈ s.out) = true from decide_eq_true hin]
      exact k H1 s1
theorem gaps_none {l : List (Option Int)} {i : Nat} (h : i ≤ gap l) : gapsTo l i = [] := by
  induction i with
  | zero => rfl
  | succ i ih =>
    rw [gapsTo, ih (by omega)]
    cases q : l[i]? with
    | none => rfl
    | some o =>
      have := gap_before (show i < gap l by omega) q
      cases o with
      | none => exact absurd rfl this
      | some b => rfl
theorem gaps_head {l : List (Option Int)} (hg : none ∈ l) {i : Nat} (h : gap l < i) : ∃ r, gapsTo l i = ((gap l : Nat) : Int) :: r := by
  induction i with
  | zero => omega
  | succ i ih =>
    rcases Nat.lt_or_ge (gap l) i with q | q
    · obtain ⟨r, e⟩ := ih q
      rw [gapsTo, e]
      exact ⟨_, rfl⟩
    · obtain rfl : i = gap l := by omega
      rw [gapsTo, gaps_none (Nat.le_refl _), gap_get hg]
      exact ⟨[], rfl⟩
theorem outs_le9 {n : Nat} {s : Sim} (g : Good n s) : s.out.length ≤ n := by
  have := g.perm.length_eq
  rw [List.length_append, rangeI_length] at this
  omega
theorem kst_t9 : kst true = ("take" : Str) := rfl
theorem kst_f9 : ¬ kst false = ("take" : Str) := by decide
theorem ok__law_played (e : Env K mg) : FnOk P w K mg base CX0 3 e.a__law_played e.d__law_played ["size", "rows"] (sp__law_told K) := by
  refine Fun.ok e.f__law_played sc__law_played (fun vs H Q E h => ?_) (fun cdv A outer s H vs Q E hr h => ?_)
  · obtain ⟨n, p, as, os, u, rfl, _⟩ := h; rfl
  · obtain ⟨n, p, as, os, u, rfl, hn1, hn, hp, hos, hrun, hl, k⟩ := h
    refine ⟨_, (pss_cons (ps_asg (pe_tup (pa_cons (pe_listRg rfl (by rfl) e.n_list (prg_1 (by rfl) e.n_range (pv 0))) (pa_cons (pe_lst pa_nil) (pa_cons (pe_lst pa_nil) (pa_cons pe_int pa_nil))))) (pg_tup (by rfl) (pgs_cons (pg_name (i := 2) sc__law_played.nd rfl (by first | exact Or.inl rfl | exact Or.inr rfl)) (pgs_cons (pg_name (i := 3) sc__law_played.nd rfl (by first | exact Or.inl rfl | exact Or.inr rfl)) (pgs_cons (pg_name (i := 4) sc__law_played.nd rfl (by first | exact Or.inl rfl | exact Or.inr rfl)) (pgs_cons (pg_name (i := 5) sc__law_played.nd rfl (by first | exact Or.inl rfl | exact Or.inr rfl)) pgs_nil))))))
      (pss_cons (ps_for PassesOwn.never rfl (PI.or (pi_enum (by rfl) e.n_enumerate (pa_cons (pv 1) pa_nil)) (pi_enumT (by rfl) e.n_enumerate (pa_cons (pv 1) pa_nil))) (pg_tup (by rfl) (pgs_cons (pg_name (i := 6) sc__law_played.nd rfl (by first | exact Or.inl rfl | exact Or.inr rfl)) (pgs_cons (pg_name (i := 7) sc__law_played.nd rfl (by first | exact Or.inl rfl | exact Or.inr rfl)) pgs_nil)))
      (pss_cons (ps_if (pt_not (pt_val (pe_call ((ok__law_can e).mono (by decide)) hr rfl e.g__law_can e.f__law_can.kp e.b__law_can .nil pass0 (pa_cons (pv 2) (pa_cons (pv 3) (pa_cons (pv 7) pa_nil))))))
        (pss_one (ps_ret (pv 6)))
        pss_nil)
      (pss_cons (ps_if (pt_cmpR op_eq (PE.or (pe_ix ix_list (pv 7) pe_int (fun _ _ => rfl)) (pe_ix ix_tup (pv 7) pe_int (fun _ _ => rfl))) pe_str (nomark _))
        (pss_cons (ps_expr (pe_bm PySem.F.plainAttrs_list PySem.F.slot_list_append PySem.F.type_list_append mt_append (pv 3) (pa_cons (pe_ix ix_list (pv 2) (PE.or (pe_ix ix_list (pv 7) pe_int (fun _ _ => rfl)) (pe_ix ix_tup (pv 7) pe_int (fun _ _ => rfl))) (fun _ _ => rfl)) pa_nil)))
      (pss_one (ps_asg pe_non (pg_sub (pv 2) (PE.or (pe_ix ix_list (pv 7) pe_int (fun _ _ => rfl)) (pe_ix ix_tup (pv 7) pe_int (fun _ _ => rfl))) set_list))))
        (pss_cons (ps_set (i := 8) sc__law_played.nd rfl (by first | exact Or.inl rfl | exact Or.inr rfl) (pe_ix ix_list (pe_lc (own := [("k", 9)]) rfl sc__law_played.nd (pi_range1 (by rfl) e.n_range (pa_cons (pv 0) pa_nil)) (blkOk_by (N := ["size", "rows", "books", "out", "filled", "most", "at", "one", "place", "k"]) (sc := defScope s__law_played) (by decide +kernel)) (fun _ _ _ _ _ => (pg_name (i := 9) sc__law_played.nd rfl (by first | exact Or.inl rfl | exact Or.inr rfl))) (fun _ _ _ _ _ => pts_one (pt_cmpR LS.op_isN (pe_ix (show IxR _ (rIxL K) from ix_list) (pv 2) (pv 9) (fun _ _ => rfl)) pe_non (nomark _))) (fun _ _ _ _ _ => (pv 9))) pe_int (fun _ _ => rfl)))
      (pss_cons (ps_expr (pe_bm PySem.F.plainAttrs_list PySem.F.slot_list_remove PySem.F.type_list_remove mt_remove (pv 3) (pa_cons (PE.or (pe_ix ix_list (pv 7) pe_int (fun _ _ => rfl)) (pe_ix ix_tup (pv 7) pe_int (fun _ _ => rfl))) pa_nil)))
      (pss_cons (ps_asg (PE.or (pe_ix ix_list (pv 7) pe_int (fun _ _ => rfl)) (pe_ix ix_tup (pv 7) pe_int (fun _ _ => rfl))) (pg_sub (pv 2) (pv 8) set_list))
      (pss_one (ps_expr (pe_bm PySem.F.plainAttrs_list PySem.F.slot_list_append PySem.F.type_list_append mt_append (pv 4) (pa_cons (pv 8) pa_nil))))))))
      (pss_one (ps_set (i := 5) sc__law_played.nd rfl (by first | exact Or.inl rfl | exact Or.inr rfl) (pe_callB (LS.call_max2 rfl) (by rfl) e.n_max (by decide +kernel) (pa_cons (pv 5) (pa_cons (pe_callB LS.call_len (by rfl) e.n_len PySem.boot_len (pa_cons (pv 3) pa_nil)) pa_nil))))))))
      (pss_one (ps_ret (pe_lst (pa_cons (pv 2) (pa_cons (pe_callB cr_sortedI (by rfl) e.n_sorted (by decide +kernel) (pa_cons (pv 3) pa_nil)) (pa_cons (pv 4) (pa_cons (pv 5) pa_nil))))))))), ?_⟩
    have hl1 := hos.1
    repeat array_get_dec
    refine LS.k_lr (by omega) fun bl H1 nb s1 hb => ?_
    repeat array_get_dec
    refine LS.k_lst (by array_mem_dec) fun ol H_ol n_ol s_ol h_ol => ?_
    repeat array_get_dec
    refine LS.k_lst (by array_mem_dec) fun fl H_fl n_fl s_fl h_fl => ?_
    repeat array_get_dec
    refine LS.k_tup (by array_mem_dec) fun tq H_tq n_tq s_tq h_tq => ?_
    repeat array_get_dec
    have hbl : H_tq bl = some (.lst ((simInit n).books.map vo)) := by rw [init_books]; exact (by array_mem_dec)
    have hol : H_tq ol = some (.lst []) := (by array_mem_dec)
    have hfl : H_tq fl = some (.lst []) := (by array_mem_dec)
    have nol : H ol = none := (by array_mem_dec)
    have nfl : H fl = none := (by array_mem_dec)
    have n1 : bl ≠ ol := ne_of_none hb n_ol
    have n2 : bl ≠ fl := ne_of_none (s_ol _ _ hb) n_fl
    have n3 : ol ≠ fl := ne_of_none h_ol n_fl
    have s0 : Same H H_tq := (by array_mem_dec)
    clear s_tq s_fl s_ol s1 h_tq h_fl h_ol hb n_tq n_fl n_ol
    have hp0 := hp.same s0
    repeat array_get_dec
    refine or_enumE0 hp s0 (fun Q q => ⟨_, rfl, q⟩) fun J G wk hG => ?_
    refine LS.for_ wk (fun i σ H' => ∃ (s : Sim) (v6 v7 v8 v9 : Option V), Same H H' ∧ LR.run (simInit n) (os.take i) = some s ∧ H' bl = some (.lst (s.books.map vo)) ∧ H' ol = some (.lst (s.out.map V.int)) ∧ H' fl = some (.lst (s.filled.map V.int)) ∧ s.filled.length ≤ i ∧ σ = [some (.int n), some (.ref p), some (.ref bl), some (.ref ol), some (.ref fl), some (.int s.most), v6, v7, v8, v9]) ⟨simInit n, _, _, _, _, s0, rfl, hbl, hol, hfl, Nat.le_refl _, rfl⟩ (fun i σ H' hi h => hG _ (by obtain ⟨_, _, _, _, _, h, _⟩ := h; exact h)) ?_ ?_
    · rintro i x σ H5 H4 hi ⟨s, v6, v7, v8, v9, s4, hs, hb4, ho4, hf4, hfn, rfl⟩ y
      obtain ⟨T, y, z, rfl, nT, sT, hT, hy, hz⟩ := LS.ypair y
      cases hy
      rw [List.length_map] at hi
      obtain ⟨a, ha, rfl⟩ : ∃ a, as[i]? = some a ∧ z = .ref a := by
        rw [List.getElem?_map] at hz
        cases q : as[i]? with
        | none => rw [q] at hz; cases hz
        | some a => rw [q] at hz; cases hz; exact ⟨a, rfl, rfl⟩
      obtain ⟨o, ho⟩ : ∃ o, os[i]? = some o := ⟨_, List.getElem?_eq_getElem (by omega)⟩
      obtain ⟨t, u', h1', hst, h2'⟩ := run_stp hrun ho
      obtain rfl : t = s := Option.some.inj (h1'.symm.trans hs)
      have g := good_run (good_init n) hs
      have g1 := g.len
      have g2 := outs_le9 g
      have s5 : Same H H4 := s4.trans sT
      have hta : SqE K H4 a [.str (kst o.1), .int o.2] := (hos.2 i a _ ha ho).same s5
      have hb5 := sT _ _ hb4
      have ho5 := sT _ _ ho4
      have hf5 := sT _ _ hf4
      repeat array_get_dec
      refine ⟨bl, ol, a, t, o, rfl, hb5, ho5, hta, by rw [hst]; rfl, fun H6 s6 => ?_⟩
      have hta6 := hta.same s6
      have hb6 := s6 _ _ hb5
      have ho6 := s6 _ _ ho5
      have hf6 := s6 _ _ hf5
      have s06 : Same H H6 := s5.trans s6
      clear hta hb5 ho5 hf5 s5 s4 sT hb4 ho4 hf4 s6
      repeat array_get_dec
      refine ixe0 (m := 0) rfl hta6 rfl rfl ?_
      repeat array_get_dec
      refine LS.if_join (fun σ' H' => ∃ v8 v9 : Option V, Same H H' ∧ H' bl = some (.lst (u'.books.map vo)) ∧ H' ol = some (.lst (u'.out.map V.int)) ∧ H' fl = some (.lst (u'.filled.map V.int)) ∧ u'.filled.length ≤ i + 1 ∧ u'.most = mx t.most (u'.out.length : Nat) ∧ σ' = [some (.int n), some (.ref p), some (.ref bl), some (.ref ol), some (.ref fl), some (.int t.most), some (.int i), some (.ref a), v8, v9]) (fun hk D' hrt kk => ?_) (fun hk D' hrt kk => ?_) ?_
      · obtain ⟨kd, num⟩ := o
        cases kd with
        | false => exact absurd hk kst_f9
        | true =>
          obtain ⟨h0, bb, hx, rfl⟩ := stp_take hst
          have hlt := (List.getElem?_eq_some_iff.mp hx).1
          repeat array_get_dec
          refine ixe0 (m := 1) rfl hta6 rfl rfl ?_
          repeat array_get_dec
          refine LS.rixl_n (j := num.toNat) (v := .int bb) (SqL.of hb6) (by rw [List.getElem?_map, hx]; rfl) (by omega) ?_
          repeat array_get_dec
          refine LS.rapp (xs := t.out.map V.int) ho6 (LS.szl (by rw [List.length_map]; omega)) fun H7 f7 h7 => ?_
          have hb7 := f7 _ _ hb6 n1
          have hf7 := f7 _ _ hf6 n3.symm
          have hta7 : SqE K H7 a [.str (kst true), .int num] := fr_sqEX f7 ho6 ints_ne hta6
          repeat array_get_dec
          refine ixe0 (m := 1) rfl hta7 rfl rfl ?_
          refine LS.rset (j := num.toNat) hb7 (by rw [List.length_map]; exact ixN_int h0 hlt) fun H8 f8 h8 => ?_
          refine kk _ _ ⟨_, _, LS.Same.fr_new (LS.Same.fr_new s06 f7 nol) f8 nb, ?_, ?_, f8 _ _ hf7 n2.symm, by show t.filled.length ≤ i + 1; omega, rfl, rfl⟩
          · rw [h8, List.map_set]; rfl
          · rw [f8 _ _ h7 n1.symm, List.map_append]; rfl
      · obtain ⟨kd, num⟩ := o
        cases kd with
        | true => exact absurd kst_t9 hk
        | false =>
          have hin := (stp_ret hst).1
          have hg := g.gap hin
          obtain ⟨_, rfl⟩ := stp_ret hst
          repeat array_get_dec
          refine LS.comp (walk_range (lo := 0) (n := n)) (fun D j acc H' => Same H6 H' ∧ acc = (gapsTo t.books j).map V.int) (fun D H' nD s' hD => ⟨s', rfl⟩) (fun _ _ _ _ _ _ _ _ => trivial) ?_ ?_
          · rintro D j acc x H2' H3' nD hj hlen hD ⟨s2, rfl⟩ ⟨rfl, rfl⟩
            have hjl : j < t.books.length := by omega
            have ej := List.getElem?_eq_getElem hjl
            have hb7 := s2 _ _ hb6
            refine ⟨rfl, ?_⟩
            repeat array_get_dec
            refine LS.rixl_n (j := j) (v := vo t.books[j]) (SqL.of hb7) (by rw [List.getElem?_map, ej]; rfl) (by omega) ?_
            cases q : t.books[j] with
            | none =>
              refine LS.risn_n ?_
              repeat array_get_dec
              exact LS.k_lc (acc := (gapsTo t.books j).map V.int) hD hlen (by omega) fun H5 f5 h5 => ⟨LS.Same.fr_new s2 f5 nD, by rw [gapsTo, ej, q, List.map_append]; show _ ++ [V.int (0 + (j : Int))] = _; rw [Int.zero_add]; rfl⟩
            | some b =>
              refine LS.risn_i ?_
              repeat array_get_dec
              exact LS.k_lc0 (acc := (gapsTo t.books j).map V.int) hD hlen ⟨s2, by rw [gapsTo, ej, q, List.append_nil]⟩
          rintro D acc H7 nD hD hlen ⟨s7, rfl⟩
          obtain ⟨r, er⟩ := gaps_head (l := t.books) hg (i := n) (by have := gap_lt hg; omega)
          rw [er] at hD
          have hta7 := hta6.same s7
          have hb7 := s7 _ _ hb6
          have ho7 := s7 _ _ ho6
          have hf7 := s7 _ _ hf6
          repeat array_get_dec
          refine LS.rixl_n (j := 0) (v := .int (gap t.books : Nat)) (SqL.of hD) rfl rfl ?_
          repeat array_get_dec
          refine ixe0 (m := 1) rfl hta7 rfl rfl ?_
          repeat array_get_dec
          refine LS.rrem (k := t.out.idxOf num) ho7 (idx_get hin) (fun m hm => idx_before hm) fun H8 f8 h8 => ?_
          have hta8 : SqE K H8 a [.str (kst false), .int num] := fr_sqEX f8 ho7 ints_ne hta7
          have hb8 := f8 _ _ hb7 n1
          have hf8 := f8 _ _ hf7 n3.symm
          repeat array_get_dec
          refine ixe0 (m := 1) rfl hta8 rfl rfl ?_
          repeat array_get_dec
          refine LS.rset (j := gap t.books) hb8 (by rw [List.length_map]; exact ixN_at (gap_lt hg)) fun H9 f9 h9 => ?_
          have hf9 := f9 _ _ hf8 n2.symm
          have ho9 := f9 _ _ h8 n1.symm
          repeat array_get_dec
          refine LS.rapp (xs := t.filled.map V.int) hf9 (LS.szl (by rw [List.length_map]; omega)) fun H10 f10 h10 => ?_
          refine kk _ _ ⟨_, _, LS.Same.fr_new (LS.Same.fr_new (LS.Same.fr_new (s06.trans s7) f8 nol) f9 nb) f10 nfl, ?_, ?_, ?_, by show (t.filled ++ [_]).length ≤ i + 1; rw [List.length_append, List.length_singleton]; omega, rfl, rfl⟩
          · rw [f10 _ _ h9 n2, List.map_set]; rfl
          · rw [f10 _ _ ho9 n3, List.erase_eq_eraseIdx_of_idxOf rfl]
          · rw [h10]; show _ = some (HO.lst (List.map V.int (t.filled ++ [_]))); rw [List.map_append]; rfl
      · rintro σ' H9 ⟨v8', v9', s9, hb9, ho9, hf9, l9, m9, rfl⟩
        repeat array_get_dec
        exact ⟨u', _, _, _, _, s9, h2', hb9, ho9, hf9, l9, by rw [show max t.most ((u'.out.length : Nat) : Int) = u'.most by rw [m9]; unfold mx; split <;> omega]; rfl⟩
    · rintro σ HE ⟨s, v6, v7, v8, v9, s4, hs, hb4, ho4, hf4, hfn, rfl⟩
      rw [List.length_map, hl1, List.take_length, hrun] at hs
      cases hs
      repeat array_get_dec
      refine ⟨ol, u.out, rfl, SqL.of ho4, fun zs q hz hs nq => ?_⟩
      have sq := same_upd (o := HO.lst (zs.map V.int)) nq
      have hq : upd HE q (.lst (zs.map V.int)) q = some (.lst (zs.map V.int)) := upd_same
      generalize upd HE q (.lst (zs.map V.int)) = HQ at sq hq
      repeat array_get_dec
      refine LS.k_lst (by array_mem_dec) fun rr H_rr n_rr s_rr h_rr => ?_
      repeat array_get_dec
      refine k H_rr rr bl q fl zs ⟨(s4.trans sq).trans s_rr, (s4.trans sq).free n_rr, nb, s4.free nq, nfl, h_rr, s_rr _ _ (sq _ _ hb4), s_rr _ _ hq, s_rr _ _ (sq _ _ hf4), hz, hs, ne_of_none hb4 nq, n2, (ne_of_none hf4 nq).symm⟩
end
end LP

namespace LP
open PySem L2 LT LG LQ LH LC LX LR
local macro_rules | `(tactic| array_mem_dec) => `(tactic| first
  | assumption
  | ((with_reducible apply LS.hp_s); assumption; array_mem_dec)
  | ((with_reducible apply LS.hp_f); assumption; array_mem_dec; array_mem_dec)
  | ((with_reducible apply LS.hp_t); assumption; array_mem_dec; array_mem_dec)
  | ((with_reducible apply LS.hp_l); assumption; array_mem_dec; array_mem_dec)
  | ((with_reducible apply LS.sq_o); array_mem_dec)
  | ((with_reducible apply LS.sq_s); assumption; array_mem_dec)
  | ((with_reducible apply LS.sq_f); assumption; array_mem_dec; array_mem_dec)
  | ((with_reducible apply LS.sq_t); assumption; array_mem_dec; array_mem_dec)
  | ((with_reducible apply LS.sq_l); assumption; array_mem_dec; array_mem_dec)
  | ((with_reducible apply LS.tu_o); array_mem_dec)
  | ((with_reducible apply LS.tu_s); assumption; array_mem_dec)
  | ((with_reducible apply LS.tu_f); assumption; array_mem_dec; array_mem_dec)
  | ((with_reducible apply LS.tu_t); assumption; array_mem_dec; array_mem_dec)
  | ((with_reducible apply LS.tu_l); assumption; array_mem_dec; array_mem_dec)
  | ((with_reducible apply LS.se_l); array_mem_dec)
  | ((with_reducible apply LS.se_t); array_mem_dec)
  | ((with_reducible apply LS.se_s); assumption; array_mem_dec)
  | ((with_reducible apply LS.se_f); assumption; array_mem_dec; array_mem_dec)
  | ((with_reducible apply LS.se_tt); assumption; array_mem_dec; array_mem_dec)
  | ((with_reducible exact Same.refl _))
  | ((with_reducible apply LS.sm_s); assumption; array_mem_dec)
  | ((with_reducible apply LS.sm_f); assumption; array_mem_dec; array_mem_dec)
  | ((with_reducible exact Fr.refl _ _))
  | ((with_reducible apply LS.fr_b); assumption; array_mem_dec)
  | ((with_reducible apply LS.fr_s); assumption; array_mem_dec)
  | ((with_reducible apply LS.fr_n); assumption; array_mem_dec; array_mem_dec)
  | ((with_reducible apply LS.fr_t); assumption; array_mem_dec)
  | ((with_reducible apply LS.no_s); assumption; array_mem_dec)
  | ((with_reducible apply LS.no_f); assumption; array_mem_dec; array_mem_dec)
  | ((with_reducible apply LS.no_t); assumption; array_mem_dec)
  | ((with_reducible apply LS.no_l); assumption; assumption)
  | ((with_reducible apply Ne.symm); assumption)
  | ((with_reducible apply LS.ne_a); assumption; array_mem_dec)
  | ((with_reducible apply LS.ne_b); assumption; array_mem_dec)
  | ((with_reducible apply LS.ne_ap); assumption)
  | ((with_reducible apply LS.ne_il); assumption; array_mem_dec)
  | ((with_reducible apply LS.ne_li); assumption; array_mem_dec)
  | ((with_reducible apply LS.ne_lt); assumption; assumption)
  | ((with_reducible apply LS.ne_tl); assumption; assumption)
  | ((with_reducible apply LS.ne_rl); assumption; array_mem_dec)
  | ((with_reducible apply LS.rl_t); assumption)
  | ((with_reducible apply LS.rl_s); assumption; array_mem_dec)
  | ((with_reducible apply LS.rl_f); assumption; array_mem_dec; array_mem_dec)
  | ((with_reducible apply LS.rl_l); assumption; array_mem_dec; array_mem_dec)
  | ((with_reducible apply LS.ap_new); assumption; assumption; array_mem_dec)
  | ((with_reducible apply LS.ap_t); assumption; array_mem_dec; array_mem_dec)
  | ((with_reducible apply LS.ap_s); assumption; array_mem_dec; array_mem_dec)
  | ((with_reducible apply LS.ap_f); assumption; array_mem_dec; array_mem_dec; array_mem_dec)
  | ((with_reducible apply LS.ap_l); assumption; array_mem_dec; array_mem_dec; array_mem_dec)
  | (with_reducible apply LS.ni_nil)
  | ((with_reducible apply LS.ni_cons); array_mem_dec; array_mem_dec)
  | (with_reducible apply LS.trk_nil)
  | ((with_reducible apply LS.trk_cons); array_mem_dec; array_mem_dec)
  | (with_reducible apply LS.al_nil)
  | ((with_reducible apply LS.al_cons); array_mem_dec; array_mem_dec)
  | (with_reducible apply LS.mem_hd)
  | ((with_reducible apply LS.mem_tl); array_mem_dec)
  | ((with_reducible apply LS.fl_refl); array_mem_dec)
  | ((with_reducible apply LS.fl_l); assumption; array_mem_dec)
  | ((with_reducible apply LS.fl_lm); assumption; array_mem_dec; array_mem_dec)
  | (with_reducible apply LS.sub_nil)
  | ((with_reducible apply LS.sub_cons); array_mem_dec; array_mem_dec)
  | ((with_reducible apply LS.fl_s); assumption; array_mem_dec)
  | ((with_reducible apply LS.fl_m); assumption; array_mem_dec; array_mem_dec; array_mem_dec)
  | ((with_reducible apply LS.fl_n); assumption; array_mem_dec; array_mem_dec; array_mem_dec)
  | ((with_reducible apply LS.rt_refl); array_mem_dec)
  | ((with_reducible apply LS.rt_t); assumption; array_mem_dec)
  | ((with_reducible apply LS.rt_s); assumption; array_mem_dec)
  | ((with_reducible apply LS.rt_f); assumption; array_mem_dec; array_mem_dec; array_mem_dec)
  | ((with_reducible apply LS.sz); (first | decide | (simp only [List.length_append, List.length_map, List.length_cons, List.length_nil, List.length_replicate]; omega)))
  | ((with_reducible apply LS.szl); (first | decide | (simp only [List.length_append, List.length_map, List.length_cons, List.length_nil, List.length_replicate]; omega))))
local macro_rules | `(tactic| array_get_dec) => `(tactic| first
  | ((with_reducible apply LS.var); exact rfl)
  | (with_reducible apply LS.con)
  | (with_reducible apply LS.op)
  | (with_reducible apply LS.ri0)
  | (with_reducible apply LS.tseq)
  | (with_reducible apply LS.tasg)
  | (with_reducible apply LS.gname)
  | (with_reducible apply LS.tcons)
  | (with_reducible apply LS.tnil)
  | (with_reducible apply LS.tcb)
  | (with_reducible apply LS.tcall)
  | (with_reducible apply LS.ttest)
  | (with_reducible apply LS.k_b)
  | (with_reducible apply LS.tb)
  | (with_reducible apply LS.tifs)
  | (with_reducible apply LS.ift)
  | (with_reducible apply LS.iff_)
  | (with_reducible apply LS.ifnt)
  | (with_reducible apply LS.ifnf)
  | (with_reducible apply LS.tnext)
  | (with_reducible apply LS.tdrop)
  | (with_reducible apply LS.tret)
  | (with_reducible apply LS.tretn)
  | (with_reducible apply LS.un)
  | (with_reducible apply LS.ru)
  | (with_reducible apply LS.tyes)
  | (with_reducible apply LS.tand)
  | (with_reducible apply LS.tor)
  | (with_reducible apply LS.tnot)
  | (with_reducible apply LS.tif)
  | (with_reducible apply LS.tandv)
  | (with_reducible apply LS.k_av)
  | (with_reducible apply LS.torv)
  | (with_reducible apply LS.k_ov)
  | (with_reducible apply LS.tnotv)
  | (with_reducible apply LS.k_nv)
  | (with_reducible apply LS.tchain)
  | (with_reducible apply LS.k_ch)
  | (with_reducible apply LS.req_i)
  | (with_reducible apply LS.rne_i)
  | (with_reducible apply LS.req_s)
  | (with_reducible apply LS.rne_s)
  | (with_reducible apply LS.req_b)
  | (with_reducible apply LS.rne_b)
  | ((with_reducible apply LS.rin_i); array_mem_dec)
  | ((with_reducible apply LS.rni_i); array_mem_dec)
  | ((with_reducible apply LS.rlen_li); array_mem_dec)
  | ((with_reducible apply LS.rlen_ls); array_mem_dec)
  | ((with_reducible apply LS.rlen_l); array_mem_dec)
  | ((with_reducible apply LS.rlen_Ei); array_mem_dec)
  | ((with_reducible apply LS.rlen_E); array_mem_dec)
  | ((with_reducible apply LS.rlen_t); array_mem_dec)
  | ((with_reducible apply LS.rixl); array_mem_dec; exact rfl)
  | ((with_reducible apply LS.rixt); array_mem_dec; exact rfl)
  | (with_reducible apply LS.isi_int_int)
  | (with_reducible apply LS.isi_int_bool)
  | (with_reducible apply LS.isi_int_str)
  | (with_reducible apply LS.isi_str_int)
  | (with_reducible apply LS.isi_str_bool)
  | (with_reducible apply LS.isi_str_str)
  | (with_reducible apply LS.isi_bool_int)
  | (with_reducible apply LS.isi_bool_bool)
  | (with_reducible apply LS.isi_bool_str)
  | (with_reducible apply LS.isi_non_int)
  | (with_reducible apply LS.isi_non_bool)
  | (with_reducible apply LS.isi_non_str)
  | ((with_reducible apply LS.isi_list_int); array_mem_dec)
  | ((with_reducible apply LS.isi_list_bool); array_mem_dec)
  | ((with_reducible apply LS.isi_list_str); array_mem_dec)
  | ((with_reducible apply LS.isi_list_list); array_mem_dec)
  | ((with_reducible apply LS.isi_list_tuple); array_mem_dec)
  | ((with_reducible apply LS.isi_tuple_int); array_mem_dec)
  | ((with_reducible apply LS.isi_tuple_bool); array_mem_dec)
  | ((with_reducible apply LS.isi_tuple_str); array_mem_dec)
  | ((with_reducible apply LS.isi_tuple_list); array_mem_dec)
  | ((with_reducible apply LS.isi_tuple_tuple); array_mem_dec)
  | ((with_reducible apply LS.isiT_i); array_mem_dec)
  | ((with_reducible apply LS.isiT_s); array_mem_dec)
  | ((with_reducible apply LS.isiT_E); array_mem_dec; array_mem_dec)
  | (with_reducible apply LS.tfld)
  | ((with_reducible apply LS.k_fl); array_mem_dec; assumption; assumption; exact rfl)
  | (with_reducible apply LS.tmeth)
  | ((with_reducible apply LS.k_me); array_mem_dec; exact rfl)
  | (with_reducible apply LS.tmake)
  | (with_reducible apply LS.tsfld)
  | (with_reducible apply LS.tprop)
  | ((with_reducible apply LS.k_pr); array_mem_dec)
  | ((with_reducible apply LS.rlen_own); array_mem_dec)
  | (with_reducible apply LS.rabs)
  | (with_reducible apply LS.rmin2)
  | (with_reducible apply LS.rmax2)
  | (with_reducible apply LS.tsl)
  | (with_reducible apply LS.tthen)
  | (with_reducible apply LS.tstep)
  | (with_reducible apply LS.tnop)
  | (with_reducible apply LS.tpart)
  | (with_reducible apply LS.k_part)
  | (with_reducible apply LS.ttup)
  | (with_reducible apply LS.tlst)
  | (with_reducible apply LS.tbm)
  | (with_reducible apply LS.tbm0)
  | ((with_reducible apply LS.ty_l); array_mem_dec)
  | (with_reducible apply LS.tpar)
  | (with_reducible apply LS.tfor)
  | (with_reducible apply LS.tlc)
  | (with_reducible apply LS.ilist)
  | ((with_reducible apply LS.k_il); array_mem_dec)
  | (with_reducible apply LS.itup)
  | ((with_reducible apply LS.k_it); array_mem_dec)
  | (with_reducible apply LS.istr)
  | (with_reducible apply LS.k_is)
  | (with_reducible apply LS.irng1)
  | ((with_reducible apply LS.k_r1n); omega)
  | ((with_reducible apply LS.k_r1); (first | omega | decide); (first | omega | decide))
  | (with_reducible apply LS.irng2)
  | ((with_reducible apply LS.k_r2); (first | omega | decide); (first | omega | decide); (first | omega | decide); (first | omega | decide))
  | (with_reducible apply LS.ienum)
  | ((with_reducible apply LS.k_en); array_mem_dec)
  | (with_reducible apply LS.izip)
  | ((with_reducible apply LS.k_zip); array_mem_dec; array_mem_dec)
  | (with_reducible apply LS.tlstrg)
  | (with_reducible apply LS.trg1)
  | (with_reducible apply LS.k_g1)
  | (with_reducible apply LS.risn_i)
  | (with_reducible apply LS.risn_s)
  | (with_reducible apply LS.risn_n)
  | (with_reducible apply LS.rnotn_i)
  | (with_reducible apply LS.rnotn_n)
  | (with_reducible apply LS.rint_b)
  | (with_reducible apply LS.rint_i)
  | (with_reducible apply LS.tm0)
  | (with_reducible apply LS.tm1)
  | (with_reducible apply LS.is_str)
  | (with_reducible apply LS.ex_s0)
  | (with_reducible apply LS.ex_int_b)
  | (with_reducible apply LS.k_par)
  | (with_reducible apply LS.tpar3)
  | (with_reducible apply LS.k_par3)
  | ((with_reducible apply LS.taug); exact rfl)
  | (with_reducible apply LS.ipi)
  | ((with_reducible apply LS.gtup); array_mem_dec; exact rfl)
  | ((with_reducible apply LS.gunl); array_mem_dec; exact rfl)
  | (with_reducible apply LS.gnil)
  | (with_reducible apply LS.gcons)
  | (with_reducible apply LS.gsub)
  | ((with_reducible apply LS.ri); first | omega | decide | assumption | exact ⟨by decide, by decide, by decide⟩ | exact .inl ⟨by decide, by decide⟩ | exact .inr ⟨by decide, by decide⟩ | exact .inl ⟨by omega, by omega⟩ | exact .inr ⟨by omega, by omega⟩)
  | (with_reducible apply LS.ex_ss)
  | (with_reducible apply LS.ex_s1)
  | (with_reducible apply LS.ex_i1)
  | (with_reducible apply LS.and_rfl)
  | (with_reducible apply LS.and_tr)
  | (with_reducible apply LS.is_non))
local macro_rules | `(tactic| array_mem_dec) => `(tactic| first
  | ((with_reducible apply LP.lv_s); assumption; array_mem_dec)
  | ((with_reducible apply LP.lv_l); assumption; array_mem_dec; array_mem_dec; array_mem_dec)
  | ((with_reducible apply LP.lv_f); assumption; array_mem_dec; array_mem_dec; array_mem_dec)
  | ((with_reducible apply LP.lv_t); assumption; array_mem_dec; array_mem_dec; array_mem_dec)
  | ((with_reducible apply LP.ops_s); assumption; array_mem_dec)
  | ((with_reducible apply LP.md_s); assumption; array_mem_dec)
  | ((with_reducible apply LP.md_l); assumption; array_mem_dec; array_mem_dec; array_mem_dec)
  | ((with_reducible apply LP.md_f); assumption; array_mem_dec; array_mem_dec; array_mem_dec)
  | ((with_reducible apply LP.md_t); assumption; array_mem_dec; array_mem_dec; array_mem_dec)
  | ((with_reducible apply LP.al_s); assumption; array_mem_dec; array_mem_dec)
  | ((with_reducible apply LP.al_t); assumption; array_mem_dec; array_mem_dec)
  | ((with_reducible apply LP.al_l); assumption; array_mem_dec; array_mem_dec; array_mem_dec)
  | ((with_reducible apply LP.al_f); assumption; array_mem_dec; array_mem_dec; array_mem_dec)
  | ((with_reducible apply LP.Lv.lists); array_mem_dec)
  | ((with_reducible apply LP.Lv.trk); array_mem_dec)
  | ((with_reducible apply LP.Mdl.trk); array_mem_dec)
  | ((with_reducible apply LP.al_no); assumption; array_mem_dec))
local macro_rules | `(tactic| array_get_dec) => `(tactic| first
  | (with_reducible apply LS.trg2)
  | (with_reducible apply LS.k_g2))

section
variable {P : Program} {w : World} {K : PySem.W.Frag} {mg : Str → Option Value} {base : Heap}

theorem cutH {A T : Hp → Prop} {G : Prop} (tk : ∀ H5, A H5 → T H5) (main : (∀ H5, A H5 → T H5) → G) : G := main tk
theorem no_books9 {n : Nat} {s : Sim} (g : Good n s) (h1 : 1 ≤ n) (h : thereL s.books = []) : s.out ≠ [] := fun e => by
  have p := g.perm.length_eq
  rw [e, List.append_nil, rangeI_length] at p
  obtain ⟨x, hx⟩ := List.exists_mem_of_length_pos (by omega : 0 < (s.books.filterMap id).length)
  obtain ⟨o, ho, q⟩ := List.mem_filterMap.mp hx
  obtain ⟨j, hj⟩ := List.mem_iff_getElem?.mp ho
  cases o with
  | none => cases q
  | some b => exact thereTo_nil h j (List.getElem?_eq_some_iff.mp hj).1 b hj
theorem kn_tr {H H1 H2 : Hp} (a : KN H H1) (b : KN H1 H2) : KN H H2 := fun x o h n => b x o (a x o h n) n
theorem seq_int9 {n : Nat} {z : Int} (h0 : 0 ≤ z) (h : z.toNat < n) : seqIndex? z n = some z.toNat := by
  unfold seqIndex?
  have e : (if z < 0 then z + (n : Int) else z) = z := if_neg (by omega)
  simp only [e]
  rw [if_pos (by rw [Bool.and_eq_true, decide_eq_true_iff, decide_eq_true_iff]; omega)]
theorem nd_ix9 {l : List Int} (h : l.Nodup) {j : Nat} {x : Int} (hj : l[j]? = some x) : l.idxOf x = j := by
  obtain ⟨hl, e⟩ := List.getElem?_eq_some_iff.mp hj
  rw [← e]
  exact h.idxOf_getElem j hl
theorem ok__law_told (e : Env K mg) : FnOk P w K mg base CX0 6 e.a__law_told e.d__law_told ["size", "rows"] (sp__law_told K) := by
  refine Fun.ok e.f__law_told sc__law_told (fun vs H Q E h => ?_) (fun cdv A outer s H vs Q E hr h => ?_)
  · obtain ⟨n, p, as, os, u, rfl, _⟩ := h; rfl
  · obtain ⟨n, p, as, os, u, rfl, hn1, hn, hp, hos, hrun, hl, k⟩ := h
    refine ⟨_, (pss_cons (ps_set (i := 2) sc__law_told.nd rfl (by first | exact Or.inl rfl | exact Or.inr rfl) (pe_lst (pa_cons (pe_call ((ok_books_after e).mono (by decide)) hr rfl e.g_books_after e.f_books_after.kp e.b_books_after .nil pass0 (pa_cons (pv 0) (pa_cons (pv 1) pa_nil))) (pa_cons (pe_call ((ok_books_out e).mono (by decide)) hr rfl e.g_books_out e.f_books_out.kp e.b_books_out .nil pass0 (pa_cons (pv 0) (pa_cons (pv 1) pa_nil))) (pa_cons (pe_call ((ok_places_filled e).mono (by decide)) hr rfl e.g_places_filled e.f_places_filled.kp e.b_places_filled .nil pass0 (pa_cons (pv 0) (pa_cons (pv 1) pa_nil))) (pa_cons (pe_call ((ok_most_out e).mono (by decide)) hr rfl e.g_most_out e.f_most_out.kp e.b_most_out .nil pass0 (pa_cons (pv 0) (pa_cons (pv 1) pa_nil))) pa_nil))))))
      (pss_one (ps_ret (pe_ifExp (pt_cmpR op_isBl (pe_call ((ok_is_schedule e).mono (by decide)) hr rfl e.g_is_schedule e.f_is_schedule.kp e.b_is_schedule .nil pass0 (pa_cons (pv 0) (pa_cons (pv 1) pa_nil))) pe_bl (nomark _)) (pv 2) pe_non)))), ?_⟩
    repeat array_get_dec
    refine ⟨n, p, as, os, u, rfl, hn1, hn, hp, hos, hrun, hl, fun H1 bl nb s1 hb => ?_⟩
    repeat array_get_dec
    refine ⟨n, p, as, os, u, rfl, hn1, hn, hp.same s1, hos.same s1, hrun, hl, fun H2 ol zs no s2 hz hs ho => ?_⟩
    have t2 := s1.trans s2
    repeat array_get_dec
    refine ⟨n, p, as, os, u, rfl, hn1, hn, hp.same t2, hos.same t2, hrun, hl, fun H3 fl nf s3 hf => ?_⟩
    have t3 := t2.trans s3
    repeat array_get_dec
    refine ⟨n, p, as, os, u, rfl, hn1, hn, hp.same t3, hos.same t3, hrun, hl, fun H4 s4 => ?_⟩
    have t4 := t3.trans s4
    repeat array_get_dec
    refine LS.k_lst (by array_mem_dec) fun q H_q n_q s_q h_q => ?_
    repeat array_get_dec
    have t5 := t4.trans s_q
    refine ⟨n, p, as, os, u, rfl, hn1, hn, hp.same t5, hos.same t5, hrun, hl, fun H6 s6 => ?_⟩
    repeat array_get_dec
    refine LS.risb ?_
    rw [decide_eq_true (rfl : true = true)]
    repeat array_get_dec
    exact k H6 q bl ol fl zs ⟨t5.trans s6, t4.free n_q, nb, s1.free no, t2.free nf, s6 _ _ h_q, s6 _ _ (s_q _ _ (s4 _ _ (s3 _ _ (s2 _ _ hb)))), s6 _ _ (s_q _ _ (s4 _ _ (s3 _ _ ho))), s6 _ _ (s_q _ _ (s4 _ _ hf)), hz, hs, ne_of_none hb no, ne_of_none (s2 _ _ hb) nf, ne_of_none ho nf⟩
theorem ok__law_schedule (e : Env K mg) : FnOk P w K mg base CX0 4 e.a__law_schedule e.d__law_schedule ["bag", "size", "most"] (sp__law_schedule) := by
  refine Fun.ok e.f__law_schedule sc__law_schedule (fun vs H Q E h => ?_) (fun cdv A outer s H vs Q E hr h => ?_)
  · obtain ⟨b, l, ns, d, n, m, rfl, _⟩ := h; rfl
  · obtain ⟨b, l, ns, d, n, m, rfl, G, hd, hl, hn1, hn2, hm, k⟩ := h
    refine ⟨_, (pss_cons (ps_asg (pe_tup (pa_cons (pe_listRg rfl (by rfl) e.n_list (prg_1 (by rfl) e.n_range (pv 1))) (pa_cons (pe_lst pa_nil) (pa_cons (pe_lst pa_nil) (pa_cons (pe_op op_add pe_int (pe_call ((ok__law_draw e).mono (by decide)) hr rfl e.g__law_draw e.f__law_draw.kp e.b__law_draw .nil pass0 (pa_cons (pv 0) (pa_cons pe_int pa_nil)))) pa_nil))))) (pg_tup (by rfl) (pgs_cons (pg_name (i := 3) sc__law_schedule.nd rfl (by first | exact Or.inl rfl | exact Or.inr rfl)) (pgs_cons (pg_name (i := 4) sc__law_schedule.nd rfl (by first | exact Or.inl rfl | exact Or.inr rfl)) (pgs_cons (pg_name (i := 5) sc__law_schedule.nd rfl (by first | exact Or.inl rfl | exact Or.inr rfl)) (pgs_cons (pg_name (i := 6) sc__law_schedule.nd rfl (by first | exact Or.inl rfl | exact Or.inr rfl)) pgs_nil))))))
      (pss_cons (ps_for PassesOwn.never rfl (pi_range1 (by rfl) e.n_range (pa_cons (pv 2) pa_nil)) (pg_name (i := 7) sc__law_schedule.nd rfl (by first | exact Or.inl rfl | exact Or.inr rfl))
      (pss_cons (ps_setLc (i := 8) (own := [("place", 9)]) rfl sc__law_schedule.nd rfl rfl (sw_true rfl rfl rfl (by decide +kernel)) (pi_range1 (by rfl) e.n_range (pa_cons (pv 1) pa_nil)) (blkOk_by (N := ["bag", "size", "most", "books", "out", "found", "share", "step", "places", "place", "book"]) (sc := defScope s__law_schedule) (by decide +kernel)) (fun _ _ _ _ _ => (pg_name (i := 9) sc__law_schedule.nd rfl (by first | exact Or.inl rfl | exact Or.inr rfl))) (fun _ _ _ _ _ => pts_one (pt_cmpR LS.op_notN (pe_ix (show IxR _ (rIxL K) from ix_list) (pv 3) (pv 9) (fun _ _ => rfl)) pe_non (nomark _))) (fun _ _ _ _ _ => (pv 9)))
      (pss_one (ps_if (PW.pt (pw_and (pt_cmpR (op_neD hr.units) (pv 8) (pe_lst pa_nil) (nomark _)) (pw_and1 (PW.pt (pw_or (pt_cmpR (op_eqD hr.units) (pv 4) (pe_lst pa_nil) (nomark _)) (pw_or1 (pt_cmpR op_lt (pe_call ((ok__law_draw e).mono (by decide)) hr rfl e.g__law_draw e.f__law_draw.kp e.b__law_draw .nil pass0 (pa_cons (pv 0) (pa_cons pe_int pa_nil))) (pv 6) (nomark _))))))))
        (pss_cons (ps_set (i := 9) sc__law_schedule.nd rfl (by first | exact Or.inl rfl | exact Or.inr rfl) (pe_ix ix_list (pv 8) (pe_call ((ok__law_draw e).mono (by decide)) hr rfl e.g__law_draw e.f__law_draw.kp e.b__law_draw .nil pass0 (pa_cons (pv 0) (pa_cons (pe_callB LS.call_len (by rfl) e.n_len PySem.boot_len (pa_cons (pv 8) pa_nil)) pa_nil))) (fun _ _ => rfl)))
      (pss_cons (ps_expr (pe_bm PySem.F.plainAttrs_list PySem.F.slot_list_append PySem.F.type_list_append mt_append (pv 4) (pa_cons (pe_ix ix_list (pv 3) (pv 9) (fun _ _ => rfl)) pa_nil)))
      (pss_cons (ps_asg pe_non (pg_sub (pv 3) (pv 9) set_list))
      (pss_one (ps_expr (pe_bm PySem.F.plainAttrs_list PySem.F.slot_list_append PySem.F.type_list_append mt_append (pv 5) (pa_cons (pe_tup (pa_cons pe_str (pa_cons (pv 9) pa_nil))) pa_nil)))))))
        (pss_cons (ps_set (i := 10) sc__law_schedule.nd rfl (by first | exact Or.inl rfl | exact Or.inr rfl) (pe_bm PySem.F.plainAttrs_list PySem.F.slot_list_pop PySem.F.type_list_pop mt_popAt (pv 4) (pa_cons (pe_call ((ok__law_draw e).mono (by decide)) hr rfl e.g__law_draw e.f__law_draw.kp e.b__law_draw .nil pass0 (pa_cons (pv 0) (pa_cons (pe_callB LS.call_len (by rfl) e.n_len PySem.boot_len (pa_cons (pv 4) pa_nil)) pa_nil))) pa_nil)))
      (pss_cons (ps_asg (pv 10) (pg_sub (pv 3) (pe_bm PySem.F.plainAttrs_list PySem.F.slot_list_index PySem.F.type_list_index mt_index (pv 3) (pa_cons pe_non pa_nil)) set_list))
      (pss_one (ps_expr (pe_bm PySem.F.plainAttrs_list PySem.F.slot_list_append PySem.F.type_list_append mt_append (pv 5) (pa_cons (pe_tup (pa_cons pe_str (pa_cons (pv 10) pa_nil))) pa_nil))))))))))
      (pss_one (ps_ret (pv 5))))), ?_⟩
    repeat array_get_dec
    refine LS.k_lr (by omega) fun bl H1 nb s1 hb => ?_
    repeat array_get_dec
    refine LS.k_lst (by array_mem_dec) fun ol H_ol n_ol s_ol h_ol => ?_
    repeat array_get_dec
    refine LS.k_lst (by array_mem_dec) fun fl H_fl n_fl s_fl h_fl => ?_
    repeat array_get_dec
    refine ⟨b, l, ns, d, 5, rfl, ((G.same s1).same s_ol).same s_fl, by decide, by decide +kernel, by omega, hl, fun H2 r1 a1 b1 G2 F2 => ?_⟩
    repeat array_get_dec
    refine LS.k_tup (by array_mem_dec) fun tq H_tq n_tq s_tq h_tq => ?_
    repeat array_get_dec
    have nol : H ol = none := s1.free n_ol
    have nfl : H fl = none := (s1.trans s_ol).free n_fl
    have e1 : bl ≠ b := G.ne_new nb
    have e2 : ol ≠ b := G.ne_new nol
    have e3 : fl ≠ b := G.ne_new nfl
    have m1 : bl ≠ ol := ne_of_none hb n_ol
    have m2 : bl ≠ fl := ne_of_none (s_ol _ _ hb) n_fl
    have m3 : ol ≠ fl := ne_of_none h_ol n_fl
    have l1 : l ≠ bl := G.l_ne nb
    have l2 : l ≠ ol := G.l_ne nol
    have l3 : l ≠ fl := G.l_ne nfl
    have hb2 : H_tq bl = some (.lst ((simInit n).books.map vo)) := by rw [init_books]; exact s_tq _ _ (F2 _ _ (s_fl _ _ (s_ol _ _ hb)) e1)
    have ho2 : H_tq ol = some (.lst ((simInit n).out.map V.int)) := s_tq _ _ (F2 _ _ (s_fl _ _ h_ol) e2)
    have hf2 : H_tq fl = some (.lst []) := s_tq _ _ (F2 _ _ h_fl e3)
    have F0 : Fr H H_tq b := ((Fr.of ((s1.trans s_ol).trans s_fl)).trans F2).trans (Fr.of s_tq)
    have G0 := G2.same s_tq
    clear s_tq h_tq n_tq F2 G2 h_fl s_fl n_fl h_ol s_ol n_ol hb s1
    repeat array_get_dec
    refine LS.for_ walk_range (fun i σ H2 => ∃ (ops : List Op) (s : Sim) (as : List Addr) (v7 v8 v9 v10 : Option V), ops.length = i ∧ LR.run (simInit n) ops = some s ∧
        σ = [some (.ref b), some (.int n), some (.int m), some (.ref bl), some (.ref ol), some (.ref fl), some (.int (1 + r1)), v7, v8, v9, v10] ∧
        Bag H2 b l ns (d + 1 + 2 * i) ∧ Fr H H2 b ∧ H2 bl = some (.lst (s.books.map vo)) ∧ H2 ol = some (.lst (s.out.map V.int)) ∧ H2 fl = some (.lst (as.map V.ref)) ∧ OpsOk H2 as ops)
      ⟨[], simInit n, [], _, _, _, _, rfl, rfl, rfl, G0, F0, hb2, ho2, hf2, rfl, fun i a o h => by simp at h⟩ (fun _ _ _ _ _ => trivial) ?_ ?_
    · clear hb2 ho2 hf2 F0 G0
      rintro i x σ Hq H2 hi ⟨ops, s, as, v7, v8, v9, v10, hlen, hrun, rfl, G2, F2, hb2, ho2, hf2, hO⟩ ⟨rfl, rfl⟩
      have hi4 : i < 400 := by omega
      have g := good_run (good_init n) hrun
      have gl := g.len
      have go := outs_le9 g
      have hal := hO.1
      repeat array_get_dec
      refine LS.comp (walk_range (lo := 0) (n := n)) (fun D j acc H' => Same H2 H' ∧ acc = (thereTo s.books j).map V.int) (fun D H' nD s' hD => ⟨s', rfl⟩) (fun _ _ _ _ _ _ _ _ => trivial) ?_ ?_
      · rintro D j acc x H2' H3' nD hj hlen hD ⟨s2, rfl⟩ ⟨rfl, rfl⟩
        have hjl : j < s.books.length := by omega
        have ej := List.getElem?_eq_getElem hjl
        have hb7 := s2 _ _ hb2
        refine ⟨rfl, ?_⟩
        repeat array_get_dec
        refine LS.rixl_n (j := j) (v := vo s.books[j]) (SqL.of hb7) (by rw [List.getElem?_map, ej]; rfl) (by omega) ?_
        cases q : s.books[j] with
        | none =>
          refine LS.rnotn_n ?_
          repeat array_get_dec
          exact LS.k_lc0 (acc := (thereTo s.books j).map V.int) hD hlen ⟨s2, by rw [thereTo, ej, q, List.append_nil]⟩
        | some b =>
          refine LS.rnotn_i ?_
          repeat array_get_dec
          exact LS.k_lc (acc := (thereTo s.books j).map V.int) hD hlen (by omega) fun H5 f5 h5 => ⟨LS.Same.fr_new s2 f5 nD, by rw [thereTo, ej, q, List.map_append]; show _ ++ [V.int (0 + (j : Int))] = _; rw [Int.zero_add]; rfl⟩
      rintro th acc H3 nth hth hl2 ⟨s3, rfl⟩
      have hth : H3 th = some (.lst ((thereL s.books).map V.int)) := by unfold thereL; rw [gl]; exact hth
      have thl := thereTo_len s.books s.books.length
      have thl2 : (thereL s.books).length ≤ 200 := by unfold thereL; omega
      have G3 := G2.same s3
      have F3 : Fr H2 H3 b := Fr.of s3
      have e4 : th ≠ b := G2.ne_new nth
      have n4 : H2 th = none := nth
      repeat array_get_dec
      refine' cutH (A := fun H5 : Hp => Bag H5 b l ns (d + 2 + 2 * i) ∧ Fr H2 H5 b ∧ H5 th = some (.lst ((thereL s.books).map V.int)) ∧ thereL s.books ≠ []) ?tk (fun take => ?main)
      case main =>
        refine' cutH (A := fun H5 : Hp => Bag H5 b l ns (d + 2 + 2 * i) ∧ Fr H2 H5 b ∧ s.out ≠ []) ?tk2 (fun ret => ?main2)
        case main2 =>
          refine LS.k_lst (by array_mem_dec) fun q1 H_q1 n_q1 s_q1 h_q1 => ?_
          repeat array_get_dec
          refine LS.rne_il (x := thereL s.books) (y := []) (SqL.of (s_q1 _ _ hth)) (SqL.of h_q1) ?_
          repeat array_get_dec
          refine LS.ifn2 (fun hne => ?_) fun he => ?_
          · repeat array_get_dec
            refine LS.k_lst (by array_mem_dec) fun q2 H_q2 n_q2 s_q2 h_q2 => ?_
            repeat array_get_dec
            have s5 := s_q1.trans s_q2
            refine LS.req_il (x := s.out) (y := []) (SqL.of (s5 _ _ (s3 _ _ ho2))) (SqL.of h_q2) ?_
            repeat array_get_dec
            refine LS.if2 (fun ho => ?_) fun hout => ?_
            · exact take _ ⟨(G3.same s5).mono (by omega), F3.trans (Fr.of s5), s5 _ _ hth, hne⟩
            · repeat array_get_dec
              refine ⟨b, l, ns, _, 6, rfl, G3.same s5, by decide, by decide +kernel, by omega, hl, fun H5 r5 a5 b5 G5 F5 => ?_⟩
              have F25 : Fr H2 H5 b := (F3.trans (Fr.of s5)).trans F5
              repeat array_get_dec
              refine LS.if2 (fun hw => ?_) fun hw => ?_
              · exact take _ ⟨G5.mono (by omega), F25, F5 _ _ (s5 _ _ hth) e4, hne⟩
              · exact ret _ ⟨G5.mono (by omega), F25, hout⟩
          · exact ret _ ⟨(G3.same s_q1).mono (by omega), F3.trans (Fr.of s_q1), no_books9 g hn1 he⟩
        case tk2 =>
          rintro H5 ⟨G5, F5, ho⟩
          have op : 0 < s.out.length := List.length_pos_iff.mpr ho
          have ho5 := F5 _ _ ho2 e2
          repeat array_get_dec
          refine ⟨b, l, ns, _, _, rfl, G5, by omega, log_small (by omega), by omega, hl, fun H6 r6 a6 b6 G6 F6 => ?_⟩
          have F26 := F5.trans F6
          have hb6 := F26 _ _ hb2 e1
          have ho6 := F26 _ _ ho2 e2
          have hf6 := F26 _ _ hf2 e3
          have hr : r6.toNat < s.out.length := by omega
          obtain ⟨x, hx⟩ : ∃ x, s.out[r6.toNat]? = some x := ⟨_, List.getElem?_eq_getElem hr⟩
          have hxm : x ∈ s.out := List.mem_of_getElem? hx
          have hg := g.gap hxm
          have hnd : s.out.Nodup := (List.nodup_append.mp g.nodup).2.1
          have hix : s.out.idxOf x = r6.toNat := nd_ix9 hnd hx
          repeat array_get_dec
          refine LS.rpopi (k := r6.toNat) ho6 (by omega) (by omega) (by rw [List.length_map]; exact seq_int9 a6 hr) (int_at hx) fun H7 f7 h7 => ?_
          have hb7 := f7 _ _ hb6 m1
          have hf7 := f7 _ _ hf6 m3.symm
          repeat array_get_dec
          refine LS.rindex (j := gap s.books) (SqL.of hb7) rfl (flat_vo _) (by rw [List.getElem?_map, gap_get hg]; rfl) rfl (fun m z hm hz => ?_) ?_
          · obtain ⟨o, ho2, rfl⟩ := vo_at hz
            have := gap_before hm ho2
            cases o with
            | none => exact absurd rfl this
            | some b => rfl
          repeat array_get_dec
          refine LS.rset (j := gap s.books) hb7 (by rw [List.length_map]; exact ixN_at (gap_lt hg)) fun H8 f8 h8 => ?_
          have hf8 := f8 _ _ hf7 m2.symm
          have ho8 := f8 _ _ h7 m1.symm
          repeat array_get_dec
          refine LS.k_tup (by array_mem_dec) fun t9 H_t9 n_t9 s_t9 h_t9 => ?_
          repeat array_get_dec
          refine LS.rapp (xs := as.map V.ref) (s_t9 _ _ hf8) (LS.szl (by rw [List.length_map]; omega)) fun H10 f10 h10 => ?_
          obtain ⟨_, _, _, _, hbag, _⟩ := G2.ex
          have kn : KN H2 H10 := kn_tr (kn_tr (kn_tr (kn_tr (kn_f F26 hbag) (kn_f f7 ho6)) (kn_f f8 hb7)) (kn_s s_t9)) (kn_f f10 (s_t9 _ _ hf8))
          have ht9 : H10 t9 = some (.tup [.str "return", .int x]) := f10 _ _ h_t9 fun z => by rw [z, s_t9 _ _ hf8] at h_t9; cases h_t9
          refine ⟨ops ++ [(false, x)], _, as ++ [t9], _, _, _, _, by rw [List.length_append, hlen]; rfl, run_snoc hrun (stp_ret_of hxm), rfl, ?_, ?_, ?_, ?_, ?_, ?_⟩
          · exact bag_fr ((bag_fr (bag_fr (G6.mono (by omega)) f7 e2 l2.symm) f8 e1 l1.symm).same s_t9) f10 e3 l3.symm
          · exact LS.Fr.fr_new ((LS.Fr.fr_new (LS.Fr.fr_new (F2.trans F26) f7 nol) f8 nb).trans (Fr.of s_t9)) f10 nfl
          · rw [f10 _ _ (s_t9 _ _ h8) m2, List.map_set]; rfl
          · rw [f10 _ _ (s_t9 _ _ ho8) m3, erase_map, List.erase_eq_eraseIdx_of_idxOf hix]
          · rw [h10, List.map_append]; rfl
          · exact (hO.kn kn).snoc ht9
      case tk =>
        rintro H5 ⟨G5, F5, hD5, hq⟩
        have thp : 0 < (thereL s.books).length := List.length_pos_iff.mpr hq
        refine LS.ift ?_
        repeat array_get_dec
        refine ⟨b, l, ns, _, _, rfl, G5, by omega, log_small (by omega), by omega, hl, fun H6 r6 a6 b6 G6 F6 => ?_⟩
        have F26 := F5.trans F6
        have hb6 := F26 _ _ hb2 e1
        have ho6 := F26 _ _ ho2 e2
        have hf6 := F26 _ _ hf2 e3
        have hD6 := F6 _ _ hD5 e4
        have hr : r6.toNat < (thereL s.books).length := by omega
        obtain ⟨pl, hpl⟩ : ∃ pl, (thereL s.books)[r6.toNat]? = some pl := ⟨_, List.getElem?_eq_getElem hr⟩
        obtain ⟨p0, bb, hx⟩ := thereTo_mem (List.mem_of_getElem? hpl)
        have hlt := (List.getElem?_eq_some_iff.mp hx).1
        repeat array_get_dec
        refine LS.rixl_n (j := r6.toNat) (v := .int pl) (SqL.of hD6) (int_at hpl) (by omega) ?_
        repeat array_get_dec
        refine LS.rixl_n (j := pl.toNat) (v := .int bb) (SqL.of hb6) (by rw [List.getElem?_map, hx]; rfl) (by omega) ?_
        repeat array_get_dec
        refine LS.rapp (xs := s.out.map V.int) ho6 (LS.szl (by rw [List.length_map]; omega)) fun H7 f7 h7 => ?_
        have hb7 := f7 _ _ hb6 m1
        have hf7 := f7 _ _ hf6 m3.symm
        repeat array_get_dec
        refine LS.rset (j := pl.toNat) hb7 (by rw [List.length_map]; exact ixN_int p0 hlt) fun H8 f8 h8 => ?_
        have hf8 := f8 _ _ hf7 m2.symm
        have ho8 := f8 _ _ h7 m1.symm
        repeat array_get_dec
        refine LS.k_tup (by array_mem_dec) fun t9 H_t9 n_t9 s_t9 h_t9 => ?_
        repeat array_get_dec
        refine LS.rapp (xs := as.map V.ref) (s_t9 _ _ hf8) (LS.szl (by rw [List.length_map]; omega)) fun H10 f10 h10 => ?_
        obtain ⟨_, _, _, _, hbag, _⟩ := G2.ex
        have kn : KN H2 H10 := kn_tr (kn_tr (kn_tr (kn_tr (kn_f F26 hbag) (kn_f f7 ho6)) (kn_f f8 hb7)) (kn_s s_t9)) (kn_f f10 (s_t9 _ _ hf8))
        have ht9 : H10 t9 = some (.tup [.str "take", .int pl]) := f10 _ _ h_t9 fun z => by rw [z, s_t9 _ _ hf8] at h_t9; cases h_t9
        refine ⟨ops ++ [(true, pl)], _, as ++ [t9], _, _, _, _, by rw [List.length_append, hlen]; rfl, run_snoc hrun (stp_take_of p0 hx), rfl, ?_, ?_, ?_, ?_, ?_, ?_⟩
        · exact bag_fr ((bag_fr (bag_fr (G6.mono (by omega)) f7 e2 l2.symm) f8 e1 l1.symm).same s_t9) f10 e3 l3.symm
        · exact LS.Fr.fr_new ((LS.Fr.fr_new (LS.Fr.fr_new (F2.trans F26) f7 nol) f8 nb).trans (Fr.of s_t9)) f10 nfl
        · rw [f10 _ _ (s_t9 _ _ h8) m2, List.map_set]; rfl
        · rw [f10 _ _ (s_t9 _ _ ho8) m3, List.map_append]; rfl
        · rw [h10, List.map_append]; rfl
        · exact (hO.kn kn).snoc ht9
    · rintro σ H2 ⟨ops, s, as, v7, v8, v9, v10, hlen, hrun, rfl, G2, F2, hb2, ho2, hf2, hO⟩
      repeat array_get_dec
      exact k H2 fl as ops s (G2.mono (by omega)) F2 nfl hf2 hO hrun (by omega)
end
end LP

/-! bounds of what the functions give: for repr -/
namespace LP
open PySem L2 LT LG LX LR LQ TL
/-- the data of what all functions tell -/
def dR (u : Sim) (zs : List Int) : PyData := .list [dB u.books, LS.dI zs, LS.dI u.filled, .int u.most]
theorem out_len {n : Nat} {s : Sim} (g : Good n s) : s.out.length ≤ n := by
  have := g.perm.length_eq
  rw [List.length_append, rangeI_length] at this
  omega
theorem run_rng {n : Nat} (hn : n ≤ 200) {os : List Op} {u : Sim} (h : LR.run (simInit n) os = some u) : ∀ i, i ≤ os.length → ∀ s, LR.run (simInit n) (os.take i) = some s → (∀ x ∈ s.filled, x.natAbs < 1024) ∧ s.filled.length ≤ i ∧ 0 ≤ s.most ∧ s.most ≤ 200 := by
  intro i
  induction i with
  | zero =>
    intro _ s hs
    rw [List.take_zero] at hs
    cases hs
    exact ⟨fun x hx => (by cases hx), Nat.le_refl _, Int.le_refl _, by show (0 : Int) ≤ 200; decide⟩
  | succ i ih =>
    intro hi s hs
    obtain ⟨o, ho⟩ : ∃ o, os[i]? = some o := ⟨_, List.getElem?_eq_getElem (by omega)⟩
    obtain ⟨t, w, h1, h2, h3⟩ := run_stp h ho
    obtain ⟨a, b, c, d⟩ := ih (by omega) t h1
    have g := good_run (good_init n) h1
    have gl := g.len
    have g' := good_stp g h2
    have go := out_len g'
    obtain rfl : w = s := Option.some.inj (h3.symm.trans hs)
    obtain ⟨kd, num⟩ := o
    cases kd with
    | true =>
      obtain ⟨_, bb, _, rfl⟩ := stp_take h2
      have go2 : (t.out ++ [bb]).length ≤ n := go
      refine ⟨a, by show t.filled.length ≤ i + 1; omega, ?_, ?_⟩
      · show 0 ≤ mx _ _
        unfold mx
        split <;> omega
      · show mx _ _ ≤ 200
        unfold mx
        split <;> omega
    | false =>
      obtain ⟨hin, rfl⟩ := stp_ret h2
      have hg := gap_lt (g.gap hin)
      have go2 : (t.out.erase num).length ≤ n := go
      refine ⟨fun x hx => ?_, by show (t.filled ++ [_]).length ≤ i + 1; rw [List.length_append, List.length_singleton]; omega, ?_, ?_⟩
      · rcases List.mem_append.mp hx with q | q
        · exact a x q
        · rw [List.mem_singleton.mp q]; omega
      · show 0 ≤ mx _ _
        unfold mx
        split <;> omega
      · show mx _ _ ≤ 200
        unfold mx
        split <;> omega
theorem run_all {n : Nat} (hn : n ≤ 200) {os : List Op} {u : Sim} (h : LR.run (simInit n) os = some u) : (∀ x ∈ u.filled, x.natAbs < 1024) ∧ u.filled.length ≤ os.length ∧ 0 ≤ u.most ∧ u.most ≤ 200 := run_rng hn h os.length (Nat.le_refl _) u (by rw [List.take_length]; exact h)
theorem ops_rng {n : Nat} (hn : n ≤ 200) {os : List Op} {u : Sim} (h : LR.run (simInit n) os = some u) : ∀ o ∈ os, 0 ≤ o.2 ∧ o.2 < n := fun o ho => by
  obtain ⟨i, hi⟩ := List.getElem?_of_mem ho
  obtain ⟨t, v, h1, h2, h3⟩ := run_stp h hi
  have := num_range (good_run (good_init n) h1) h2
  exact ⟨this.1, this.2⟩
theorem sm_R {n : Nat} (hn : n ≤ 200) {os : List Op} {u : Sim} {zs : List Int} (h : LR.run (simInit n) os = some u) (hl : os.length ≤ 400) (hz : zs.Perm u.out) : LG.Sm (dR u zs) 2 ((9000 + 1) * 4) := by
  have g := good_run (good_init n) h
  have gl := g.len
  have go := out_len g
  have pm := g.perm
  obtain ⟨f1, f2, f3, f4⟩ := run_all hn h
  have hb : ∀ x, some x ∈ u.books → x.natAbs < 1024 := fun x hx => by
    have := mem_rangeI.mp (pm.subset (List.mem_append_left _ (List.mem_filterMap.mpr ⟨some x, hx, rfl⟩)))
    omega
  have hou : ∀ x ∈ zs, x.natAbs < 1024 := fun x hx => by
    have := mem_rangeI.mp (pm.subset (List.mem_append_right _ (hz.subset hx)))
    omega
  have zl := hz.length_eq
  refine LG.Sm.list (k := 1) (w := 9000) (l := [dB u.books, LS.dI zs, LS.dI u.filled, .int u.most]) (fun d hd => ?_)
  simp only [List.mem_cons, List.not_mem_nil, or_false] at hd
  rcases hd with rfl | rfl | rfl | rfl
  · exact (sm_b hb).mono (by decide) (by omega)
  · exact (LS.sm_smalls hou).mono (by decide) (by omega)
  · exact (LS.sm_smalls f1).mono (by decide) (by omega)
  · exact (LS.sm_small (by omega)).mono (by decide) (by decide)
theorem sm_sc {n : Nat} (hn : n ≤ 200) {os : List Op} {u : Sim} {t : Bool} {ts : List Bool} (h : LR.run (simInit n) os = some u) (hl : os.length ≤ 400) : LG.Sm (scD t ts os) 2 9200 := by
  have := mk_sm (t := t) (k := 1) (w := 22) (l := (ts.zip os).map fun x => opD x.1 x.2) (fun d hd => by
    obtain ⟨x, hx, rfl⟩ := List.mem_map.mp hd
    have hr := ops_rng hn h x.2 (List.of_mem_zip (a := x.1) (b := x.2) hx).2
    refine mk_sm (t := x.1) (k := 0) (w := 10) (l := [.str (kst x.2.1), .int x.2.2]) (fun d hd => ?_)
    rcases List.mem_cons.mp hd with rfl | hd
    · exact (sm_kst _).mono (Nat.le_refl _) (by decide)
    · rw [List.mem_singleton.mp hd]; exact LS.sm_small (by omega))
  rw [List.length_map, List.length_zip] at this
  exact this.mono (Nat.le_refl _) (by omega)
theorem dp_R {K : PySem.W.Frag} {H H' : Hp} {q bl ol fl : Addr} {zs : List Int} {u : Sim} (t : Told H H' q bl ol fl zs u) : Dp K H' (.ref q) (dR u zs) := .lst (SqL.of t.ls) (.cons (dp_b (SqL.of t.lb)) (.cons (LS.dp_i (SqL.of t.lo)) (.cons (LS.dp_i (SqL.of t.lf)) (.cons (.int _) .nil))))
theorem dp_R' {K : PySem.W.Frag} {H H' H2 : Hp} {q bl ol fl : Addr} {zs : List Int} {u : Sim} (t : Told H H' q bl ol fl zs u) (s : Same H' H2) : Dp K H2 (.ref q) (dR u zs) := .lst (SqL.of (s _ _ t.ls)) (.cons (dp_b (SqL.of (s _ _ t.lb))) (.cons (LS.dp_i (SqL.of (s _ _ t.lo))) (.cons (LS.dp_i (SqL.of (s _ _ t.lf))) (.cons (.int _) .nil))))
theorem sh_done9 {os : List Op} : SeqAt.shaped (dDone os) = true := by
  have h1 : ∀ l : List Op, PyData.canLayAll0 (l.map dOp) = true := fun l => by
    induction l with
    | nil => rfl
    | cons i r ih =>
      have : PyData.strOk (kst i.1) = true := by cases i.1 <;> decide +kernel
      simp [PyData.canLayAll0, PyData.canLay0, dOp, ih, this]
  have h2 : ∀ l : List Op, PyData.depthAll (l.map dOp) ≤ 1 := fun l => by
    induction l with
    | nil => exact Nat.zero_le _
    | cons i r ih =>
      simp [PyData.depthAll, PyData.depth, dOp]
      omega
  have := h2 os
  simp [SeqAt.shaped, dDone, PyData.canLay0, PyData.depth, h1]
  omega
theorem dp_RF {K : PySem.W.Frag} {H H' H2 : Hp} {q bl ol fl p : Addr} {zs : List Int} {u : Sim} {o : HO} (t : Told H H' q bl ol fl zs u) (f : Fr H' H2 p) (hp : H p = some o) : Dp K H2 (.ref q) (dR u zs) := by
  have g : ∀ {a : Addr}, H a = none → a ≠ p := fun n z => by rw [z, hp] at n; cases n
  exact .lst (SqL.of (f _ _ t.ls (g t.nq))) (.cons (dp_b (SqL.of (f _ _ t.lb (g t.nb)))) (.cons (LS.dp_i (SqL.of (f _ _ t.lo (g t.no)))) (.cons (LS.dp_i (SqL.of (f _ _ t.lf (g t.nf)))) (.cons (.int _) .nil))))
theorem sm_RR {u v : Sim} {xs ys : List Int} (h1 : LG.Sm (dR u xs) 2 ((9000 + 1) * 4)) (h2 : LG.Sm (dR v ys) 2 ((9000 + 1) * 4)) : LG.Sm (.list [dR u xs, dR v ys]) 3 (((9000 + 1) * 4 + 1) * 2) := LG.Sm.list (k := 2) (w := (9000 + 1) * 4) (l := [dR u xs, dR v ys]) (fun d hd => by
  rcases List.mem_cons.mp hd with rfl | hd
  · exact h1
  · rw [List.mem_singleton.mp hd]; exact h2)
end LP

namespace LP
open PySem L2 LT LG LQ LH LC LX LR
local macro_rules | `(tactic| array_mem_dec) => `(tactic| first
  | assumption
  | ((with_reducible apply LS.hp_s); assumption; array_mem_dec)
  | ((with_reducible apply LS.hp_f); assumption; array_mem_dec; array_mem_dec)
  | ((with_reducible apply LS.hp_t); assumption; array_mem_dec; array_mem_dec)
  | ((with_reducible apply LS.hp_l); assumption; array_mem_dec; array_mem_dec)
  | ((with_reducible apply LS.sq_o); array_mem_dec)
  | ((with_reducible apply LS.sq_s); assumption; array_mem_dec)
  | ((with_reducible apply LS.sq_f); assumption; array_mem_dec; array_mem_dec)
  | ((with_reducible apply LS.sq_t); assumption; array_mem_dec; array_mem_dec)
  | ((with_reducible apply LS.sq_l); assumption; array_mem_dec; array_mem_dec)
  | ((with_reducible apply LS.tu_o); array_mem_dec)
  | ((with_reducible apply LS.tu_s); assumption; array_mem_dec)
  | ((with_reducible apply LS.tu_f); assumption; array_mem_dec; array_mem_dec)
  | ((with_reducible apply LS.tu_t); assumption; array_mem_dec; array_mem_dec)
  | ((with_reducible apply LS.tu_l); assumption; array_mem_dec; array_mem_dec)
  | ((with_reducible apply LS.se_l); array_mem_dec)
  | ((with_reducible apply LS.se_t); array_mem_dec)
  | ((with_reducible apply LS.se_s); assumption; array_mem_dec)
  | ((with_reducible apply LS.se_f); assumption; array_mem_dec; array_mem_dec)
  | ((with_reducible apply LS.se_tt); assumption; array_mem_dec; array_mem_dec)
  | ((with_reducible exact Same.refl _))
  | ((with_reducible apply LS.sm_s); assumption; array_mem_dec)
  | ((with_reducible apply LS.sm_f); assumption; array_mem_dec; array_mem_dec)
  | ((with_reducible exact Fr.refl _ _))
  | ((with_reducible apply LS.fr_b); assumption; array_mem_dec)
  | ((with_reducible apply LS.fr_s); assumption; array_mem_dec)
  | ((with_reducible apply LS.fr_n); assumption; array_mem_dec; array_mem_dec)
  | ((with_reducible apply LS.fr_t); assumption; array_mem_dec)
  | ((with_reducible apply LS.no_s); assumption; array_mem_dec)
  | ((with_reducible apply LS.no_f); assumption; array_mem_dec; array_mem_dec)
  | ((with_reducible apply LS.no_t); assumption; array_mem_dec)
  | ((with_reducible apply LS.no_l); assumption; assumption)
  | ((with_reducible apply Ne.symm); assumption)
  | ((with_reducible apply LS.ne_a); assumption; array_mem_dec)
  | ((with_reducible apply LS.ne_b); assumption; array_mem_dec)
  | ((with_reducible apply LS.ne_ap); assumption)
  | ((with_reducible apply LS.ne_il); assumption; array_mem_dec)
  | ((with_reducible apply LS.ne_li); assumption; array_mem_dec)
  | ((with_reducible apply LS.ne_lt); assumption; assumption)
  | ((with_reducible apply LS.ne_tl); assumption; assumption)
  | ((with_reducible apply LS.ne_rl); assumption; array_mem_dec)
  | ((with_reducible apply LS.rl_t); assumption)
  | ((with_reducible apply LS.rl_s); assumption; array_mem_dec)
  | ((with_reducible apply LS.rl_f); assumption; array_mem_dec; array_mem_dec)
  | ((with_reducible apply LS.rl_l); assumption; array_mem_dec; array_mem_dec)
  | ((with_reducible apply LS.ap_new); assumption; assumption; array_mem_dec)
  | ((with_reducible apply LS.ap_t); assumption; array_mem_dec; array_mem_dec)
  | ((with_reducible apply LS.ap_s); assumption; array_mem_dec; array_mem_dec)
  | ((with_reducible apply LS.ap_f); assumption; array_mem_dec; array_mem_dec; array_mem_dec)
  | ((with_reducible apply LS.ap_l); assumption; array_mem_dec; array_mem_dec; array_mem_dec)
  | (with_reducible apply LS.ni_nil)
  | ((with_reducible apply LS.ni_cons); array_mem_dec; array_mem_dec)
  | (with_reducible apply LS.trk_nil)
  | ((with_reducible apply LS.trk_cons); array_mem_dec; array_mem_dec)
  | (with_reducible apply LS.al_nil)
  | ((with_reducible apply LS.al_cons); array_mem_dec; array_mem_dec)
  | (with_reducible apply LS.mem_hd)
  | ((with_reducible apply LS.mem_tl); array_mem_dec)
  | ((with_reducible apply LS.fl_refl); array_mem_dec)
  | ((with_reducible apply LS.fl_l); assumption; array_mem_dec)
  | ((with_reducible apply LS.fl_lm); assumption; array_mem_dec; array_mem_dec)
  | (with_reducible apply LS.sub_nil)
  | ((with_reducible apply LS.sub_cons); array_mem_dec; array_mem_dec)
  | ((with_reducible apply LS.fl_s); assumption; array_mem_dec)
  | ((with_reducible apply LS.fl_m); assumption; array_mem_dec; array_mem_dec; array_mem_dec)
  | ((with_reducible apply LS.fl_n); assumption; array_mem_dec; array_mem_dec; array_mem_dec)
  | ((with_reducible apply LS.rt_refl); array_mem_dec)
  | ((with_reducible apply LS.rt_t); assumption; array_mem_dec)
  | ((with_reducible apply LS.rt_s); assumption; array_mem_dec)
  | ((with_reducible apply LS.rt_f); assumption; array_mem_dec; array_mem_dec; array_mem_dec)
  | ((with_reducible apply LS.sz); (first | decide | (simp only [List.length_append, List.length_map, List.length_cons, List.length_nil, List.length_replicate]; omega)))
  | ((with_reducible apply LS.szl); (first | decide | (simp only [List.length_append, List.length_map, List.length_cons, List.length_nil, List.length_replicate]; omega))))
local macro_rules | `(tactic| array_get_dec) => `(tactic| first
  | ((with_reducible apply LS.var); exact rfl)
  | (with_reducible apply LS.con)
  | (with_reducible apply LS.op)
  | (with_reducible apply LS.ri0)
  | (with_reducible apply LS.tseq)
  | (with_reducible apply LS.tasg)
  | (with_reducible apply LS.gname)
  | (with_reducible apply LS.tcons)
  | (with_reducible apply LS.tnil)
  | (with_reducible apply LS.tcb)
  | (with_reducible apply LS.tcall)
  | (with_reducible apply LS.ttest)
  | (with_reducible apply LS.k_b)
  | (with_reducible apply LS.tb)
  | (with_reducible apply LS.tifs)
  | (with_reducible apply LS.ift)
  | (with_reducible apply LS.iff_)
  | (with_reducible apply LS.ifnt)
  | (with_reducible apply LS.ifnf)
  | (with_reducible apply LS.tnext)
  | (with_reducible apply LS.tdrop)
  | (with_reducible apply LS.tret)
  | (with_reducible apply LS.tretn)
  | (with_reducible apply LS.un)
  | (with_reducible apply LS.ru)
  | (with_reducible apply LS.tyes)
  | (with_reducible apply LS.tand)
  | (with_reducible apply LS.tor)
  | (with_reducible apply LS.tnot)
  | (with_reducible apply LS.tif)
  | (with_reducible apply LS.tandv)
  | (with_reducible apply LS.k_av)
  | (with_reducible apply LS.torv)
  | (with_reducible apply LS.k_ov)
  | (with_reducible apply LS.tnotv)
  | (with_reducible apply LS.k_nv)
  | (with_reducible apply LS.tchain)
  | (with_reducible apply LS.k_ch)
  | (with_reducible apply LS.req_i)
  | (with_reducible apply LS.rne_i)
  | (with_reducible apply LS.req_s)
  | (with_reducible apply LS.rne_s)
  | (with_reducible apply LS.req_b)
  | (with_reducible apply LS.rne_b)
  | ((with_reducible apply LS.rin_i); array_mem_dec)
  | ((with_reducible apply LS.rni_i); array_mem_dec)
  | ((with_reducible apply LS.rlen_li); array_mem_dec)
  | ((with_reducible apply LS.rlen_ls); array_mem_dec)
  | ((with_reducible apply LS.rlen_l); array_mem_dec)
  | ((with_reducible apply LS.rlen_Ei); array_mem_dec)
  | ((with_reducible apply LS.rlen_E); array_mem_dec)
  | ((with_reducible apply LS.rlen_t); array_mem_dec)
  | ((with_reducible apply LS.rixl); array_mem_dec; exact rfl)
  | ((with_reducible apply LS.rixt); array_mem_dec; exact rfl)
  | (with_reducible apply LS.isi_int_int)
  | (with_reducible apply LS.isi_int_bool)
  | (with_reducible apply LS.isi_int_str)
  | (with_reducible apply LS.isi_str_int)
  | (with_reducible apply LS.isi_str_bool)
  | (with_reducible apply LS.isi_str_str)
  | (with_reducible apply LS.isi_bool_int)
  | (with_reducible apply LS.isi_bool_bool)
  | (with_reducible apply LS.isi_bool_str)
  | (with_reducible apply LS.isi_non_int)
  | (with_reducible apply LS.isi_non_bool)
  | (with_reducible apply LS.isi_non_str)
  | ((with_reducible apply LS.isi_list_int); array_mem_dec)
  | ((with_reducible apply LS.isi_list_bool); array_mem_dec)
  | ((with_reducible apply LS.isi_list_str); array_mem_dec)
  | ((with_reducible apply LS.isi_list_list); array_mem_dec)
  | ((with_reducible apply LS.isi_list_tuple); array_mem_dec)
  | ((with_reducible apply LS.isi_tuple_int); array_mem_dec)
  | ((with_reducible apply LS.isi_tuple_bool); array_mem_dec)
  | ((with_reducible apply LS.isi_tuple_str); array_mem_dec)
  | ((with_reducible apply LS.isi_tuple_list); array_mem_dec)
  | ((with_reducible apply LS.isi_tuple_tuple); array_mem_dec)
  | ((with_reducible apply LS.isiT_i); array_mem_dec)
  | ((with_reducible apply LS.isiT_s); array_mem_dec)
  | ((with_reducible apply LS.isiT_E); array_mem_dec; array_mem_dec)
  | (with_reducible apply LS.tfld)
  | ((with_reducible apply LS.k_fl); array_mem_dec; assumption; assumption; exact rfl)
  | (with_reducible apply LS.tmeth)
  | ((with_reducible apply LS.k_me); array_mem_dec; exact rfl)
  | (with_reducible apply LS.tmake)
  | (with_reducible apply LS.tsfld)
  | (with_reducible apply LS.tprop)
  | ((with_reducible apply LS.k_pr); array_mem_dec)
  | ((with_reducible apply LS.rlen_own); array_mem_dec)
  | (with_reducible apply LS.rabs)
  | (with_reducible apply LS.rmin2)
  | (with_reducible apply LS.rmax2)
  | (with_reducible apply LS.tsl)
  | (with_reducible apply LS.tthen)
  | (with_reducible apply LS.tstep)
  | (with_reducible apply LS.tnop)
  | (with_reducible apply LS.tpart)
  | (with_reducible apply LS.k_part)
  | (with_reducible apply LS.ttup)
  | (with_reducible apply LS.tlst)
  | (with_reducible apply LS.tbm)
  | (with_reducible apply LS.tbm0)
  | ((with_reducible apply LS.ty_l); array_mem_dec)
  | (with_reducible apply LS.tpar)
  | (with_reducible apply LS.tfor)
  | (with_reducible apply LS.tlc)
  | (with_reducible apply LS.ilist)
  | ((with_reducible apply LS.k_il); array_mem_dec)
  | (with_reducible apply LS.itup)
  | ((with_reducible apply LS.k_it); array_mem_dec)
  | (with_reducible apply LS.istr)
  | (with_reducible apply LS.k_is)
  | (with_reducible apply LS.irng1)
  | ((with_reducible apply LS.k_r1n); omega)
  | ((with_reducible apply LS.k_r1); (first | omega | decide); (first | omega | decide))
  | (with_reducible apply LS.irng2)
  | ((with_reducible apply LS.k_r2); (first | omega | decide); (first | omega | decide); (first | omega | decide); (first | omega | decide))
  | (with_reducible apply LS.ienum)
  | ((with_reducible apply LS.k_en); array_mem_dec)
  | (with_reducible apply LS.izip)
  | ((with_reducible apply LS.k_zip); array_mem_dec; array_mem_dec)
  | (with_reducible apply LS.tlstrg)
  | (with_reducible apply LS.trg1)
  | (with_reducible apply LS.k_g1)
  | (with_reducible apply LS.risn_i)
  | (with_reducible apply LS.risn_s)
  | (with_reducible apply LS.risn_n)
  | (with_reducible apply LS.rnotn_i)
  | (with_reducible apply LS.rnotn_n)
  | (with_reducible apply LS.rint_b)
  | (with_reducible apply LS.rint_i)
  | (with_reducible apply LS.tm0)
  | (with_reducible apply LS.tm1)
  | (with_reducible apply LS.is_str)
  | (with_reducible apply LS.ex_s0)
  | (with_reducible apply LS.ex_int_b)
  | (with_reducible apply LS.k_par)
  | (with_reducible apply LS.tpar3)
  | (with_reducible apply LS.k_par3)
  | ((with_reducible apply LS.taug); exact rfl)
  | (with_reducible apply LS.ipi)
  | ((with_reducible apply LS.gtup); array_mem_dec; exact rfl)
  | ((with_reducible apply LS.gunl); array_mem_dec; exact rfl)
  | (with_reducible apply LS.gnil)
  | (with_reducible apply LS.gcons)
  | (with_reducible apply LS.gsub)
  | ((with_reducible apply LS.ri); first | omega | decide | assumption | exact ⟨by decide, by decide, by decide⟩ | exact .inl ⟨by decide, by decide⟩ | exact .inr ⟨by decide, by decide⟩ | exact .inl ⟨by omega, by omega⟩ | exact .inr ⟨by omega, by omega⟩)
  | (with_reducible apply LS.ex_ss)
  | (with_reducible apply LS.ex_s1)
  | (with_reducible apply LS.ex_i1)
  | (with_reducible apply LS.and_rfl)
  | (with_reducible apply LS.and_tr)
  | (with_reducible apply LS.is_non))
local macro_rules | `(tactic| array_mem_dec) => `(tactic| first
  | ((with_reducible apply LP.lv_s); assumption; array_mem_dec)
  | ((with_reducible apply LP.lv_l); assumption; array_mem_dec; array_mem_dec; array_mem_dec)
  | ((with_reducible apply LP.lv_f); assumption; array_mem_dec; array_mem_dec; array_mem_dec)
  | ((with_reducible apply LP.lv_t); assumption; array_mem_dec; array_mem_dec; array_mem_dec)
  | ((with_reducible apply LP.ops_s); assumption; array_mem_dec)
  | ((with_reducible apply LP.md_s); assumption; array_mem_dec)
  | ((with_reducible apply LP.md_l); assumption; array_mem_dec; array_mem_dec; array_mem_dec)
  | ((with_reducible apply LP.md_f); assumption; array_mem_dec; array_mem_dec; array_mem_dec)
  | ((with_reducible apply LP.md_t); assumption; array_mem_dec; array_mem_dec; array_mem_dec)
  | ((with_reducible apply LP.al_s); assumption; array_mem_dec; array_mem_dec)
  | ((with_reducible apply LP.al_t); assumption; array_mem_dec; array_mem_dec)
  | ((with_reducible apply LP.al_l); assumption; array_mem_dec; array_mem_dec; array_mem_dec)
  | ((with_reducible apply LP.al_f); assumption; array_mem_dec; array_mem_dec; array_mem_dec)
  | ((with_reducible apply LP.Lv.lists); array_mem_dec)
  | ((with_reducible apply LP.Lv.trk); array_mem_dec)
  | ((with_reducible apply LP.Mdl.trk); array_mem_dec)
  | ((with_reducible apply LP.al_no); assumption; array_mem_dec))
local macro_rules | `(tactic| array_get_dec) => `(tactic| first
  | (with_reducible apply LS.trg2)
  | (with_reducible apply LS.k_g2))

section
variable {P : Program} {w : World} {K : PySem.W.Frag} {mg : Str → Option Value} {base : Heap}

theorem ok__law_right (e : Env K mg) : LG.FnG P w K mg base CX0 7 e.a__law_right e.d__law_right ["bag", "size", "rows"] (sp__law_right) := by
  refine LG.okG e.f__law_right sc__law_right (fun vs H Q E h => ?_) (fun cdv A outer s H vs Q E hgd hr h => ?_)
  · obtain ⟨b, l, ns, d, n, p, as, os, u, rfl, _⟩ := h; rfl
  · obtain ⟨b, l, ns, d, n, p, as, os, u, rfl, G, hd, hl, hn1, hn, hp, hpb, hO, hrun, h400, k⟩ := h
    refine ⟨_, (pss_cons (ps_set (i := 3) sc__law_right.nd rfl (by first | exact Or.inl rfl | exact Or.inr rfl) (pe_call ((ok__law_dressed e).mono (by decide)) hr rfl e.g__law_dressed e.f__law_dressed.kp e.b__law_dressed .nil pass0 (pa_cons (pv 0) (pa_cons (pv 2) pa_nil))))
      (pss_cons (ps_set (i := 4) sc__law_right.nd rfl (by first | exact Or.inl rfl | exact Or.inr rfl) (pe_callB (LX.call_reprN hgd (u66 hr)) (by rfl) e.n_repr (by decide +kernel) (pa_cons (pv 3) pa_nil)))
      (pss_cons (ps_set (i := 5) sc__law_right.nd rfl (by first | exact Or.inl rfl | exact Or.inr rfl) (pe_call ((ok__law_played e).mono (by decide)) hr rfl e.g__law_played e.f__law_played.kp e.b__law_played .nil pass0 (pa_cons (pv 1) (pa_cons (pv 2) pa_nil))))
      (pss_cons (ps_for PassesOwn.never rfl (pi_range1 (by rfl) e.n_range (pa_cons pe_int pa_nil)) (pg_name (i := 6) sc__law_right.nd rfl (by first | exact Or.inl rfl | exact Or.inr rfl))
      (pss_cons (ps_set (i := 7) sc__law_right.nd rfl (by first | exact Or.inl rfl | exact Or.inr rfl) (pe_call ((ok__law_told e).mono (by decide)) hr rfl e.g__law_told e.f__law_told.kp e.b__law_told .nil pass0 (pa_cons (pv 1) (pa_cons (pv 3) pa_nil))))
      (pss_cons (ps_if (PW.pt (pw_or (pt_cmpR op_ne (pe_callB (LX.call_reprN hgd (u66 hr)) (by rfl) e.n_repr (by decide +kernel) (pa_cons (pv 7) pa_nil)) (pe_callB (LX.call_reprN hgd (u66 hr)) (by rfl) e.n_repr (by decide +kernel) (pa_cons (pv 5) pa_nil)) (nomark _)) (pw_or1 (pt_cmpR op_ne (pe_callB (LX.call_reprN hgd (u66 hr)) (by rfl) e.n_repr (by decide +kernel) (pa_cons (pv 3) pa_nil)) (pv 4) (nomark _)))))
        (pss_one (ps_ret pe_bl))
        pss_nil)
      (pss_one (ps_for PassesOwn.never rfl (pi_list (pe_slice sl_list (pv 7) po_none (po_some pe_int))) (pg_name (i := 8) sc__law_right.nd rfl (by first | exact Or.inl rfl | exact Or.inr rfl))
      (pss_cons (ps_expr (pe_bm PySem.F.plainAttrs_list PySem.F.slot_list_append PySem.F.type_list_append mt_append (pv 8) (pa_cons pe_non pa_nil)))
      (pss_one (ps_expr (pe_bm0 PySem.F.plainAttrs_list PySem.F.slot_list_reverse PySem.F.type_list_reverse mt_reverse (pv 8))))))))))
      (pss_one (ps_ret pe_bl)))))), ?_⟩
    obtain ⟨_, _, _, _, hbag, _⟩ := G.ex
    repeat array_get_dec
    refine ⟨b, l, ns, d, p, as, os, rfl, G, hd, hl, hp, hpb, hO, h400, fun H1 q cs t ts G1 F1 hq hE hts dq => ?_⟩
    have hp1 := F1 _ _ hp hpb
    have hO1 := hO.kn (kn_f F1 hbag)
    have smc := sm_sc (t := t) (ts := ts) hn hrun h400
    repeat array_get_dec
    refine LS.rrepr dq smc (by decide) (by decide) ?_
    repeat array_get_dec
    refine ⟨n, p, as, os, u, rfl, hn1, hn, .inl (SqL.of hp1), hO1.toE, hrun, h400, fun H2 q2 bl2 ol2 fl2 zs2 T2 => ?_⟩
    repeat array_get_dec
    refine LS.for_ walk_range (fun i σ H' => ∃ w6 w7 w8 : Option V, Same H2 H' ∧ σ = [some (.ref b), some (.int n), some (.ref p), some (.ref q), some (.str (scD t ts os).shown), some (.ref q2), w6, w7, w8]) ⟨_, _, _, Same.refl _, rfl⟩ (fun _ _ _ _ _ => trivial) ?_ ?_
    · rintro i x σ Hq H3 hi ⟨w6, w7, w8, s3, rfl⟩ ⟨rfl, rfl⟩
      have s13 : Same H1 H3 := T2.sm.trans s3
      repeat array_get_dec
      refine ⟨n, q, cs, os, u, rfl, hn1, hn, hq.same s13, hE.same s13, hrun, h400, fun H4 qf bl ol fl zs T4 => ?_⟩
      have ez : zs = zs2 := sorted_one (T4.pm.trans T2.pm.symm) T4.so T2.so
      have s24 : Same H2 H4 := s3.trans T4.sm
      repeat array_get_dec
      refine LS.rrepr (dp_R T4) (sm_R hn hrun h400 T4.pm) (by decide) (by decide) ?_
      repeat array_get_dec
      refine LS.rrepr (dp_R' T2 s24) (sm_R hn hrun h400 T2.pm) (by decide) (by decide) ?_
      rw [ez]
      repeat array_get_dec
      rw [decide_eq_true rfl]
      repeat array_get_dec
      refine LS.rrepr (LS.dp_same (s13.trans T4.sm) dq) smc (by decide) (by decide) ?_
      repeat array_get_dec
      rw [decide_eq_true rfl]
      refine LS.ifnt ?_
      repeat array_get_dec
      refine LS.rsll (SqL.of T4.ls) fun sl H5 nsl ssl hsl => ?_
      rw [show cutV [V.ref bl, .ref ol, .ref fl, .int u.most] none (some 3) = [V.ref bl, .ref ol, .ref fl] from LS.cut_to _ 3] at hsl
      have ur := run_all hn hrun
      have gq := good_run (good_init n) hrun
      have gl := gq.len
      have go := out_len gq
      have zl := T4.pm.length_eq
      have nbl : H2 bl = none := s3.free T4.nb
      have nol : H2 ol = none := s3.free T4.no
      have nfl : H2 fl = none := s3.free T4.nf
      have lb5 := ssl _ _ T4.lb
      have lo5 := ssl _ _ T4.lo
      have lf5 := ssl _ _ T4.lf
      have nsb : sl ≠ bl := fun z => by rw [z, T4.lb] at nsl; cases nsl
      have nso : sl ≠ ol := fun z => by rw [z, T4.lo] at nsl; cases nsl
      have nsf : sl ≠ fl := fun z => by rw [z, T4.lf] at nsl; cases nsl
      repeat array_get_dec
      refine LS.for_ (walk_list (xs := [V.ref bl, .ref ol, .ref fl])) (fun j σ H' => ∃ w8 : Option V, Same H2 H' ∧ H' sl = some (.lst [V.ref bl, .ref ol, .ref fl]) ∧ (∀ t ∈ [bl, ol, fl], ∃ xs, H' t = some (.lst xs) ∧ xs.length ≤ 500 + j) ∧ σ = [some (.ref b), some (.int n), some (.ref p), some (.ref q), some (.str (scD t ts os).shown), some (.ref q2), some (.int (0 + (i : Int))), some (.ref qf), w8]) ⟨_, s24.trans ssl, hsl, fun t ht => ?_, rfl⟩ (fun j σ H' _ ⟨_, _, h, _⟩ => SqL.of h) ?_ ?_
      · simp only [List.mem_cons, List.not_mem_nil, or_false] at ht
        rcases ht with rfl | rfl | rfl
        · exact ⟨_, lb5, by rw [List.length_map]; omega⟩
        · exact ⟨_, lo5, by rw [List.length_map]; omega⟩
        · exact ⟨_, lf5, by rw [List.length_map]; omega⟩
      · rintro j x σ Hj' Hj hj ⟨w8, sj, hslj, hall, rfl⟩ ⟨rfl, hx⟩
        have hj3 : j < 3 := hj
        obtain ⟨z, hz, rfl⟩ : ∃ z, z ∈ [bl, ol, fl] ∧ x = .ref z := by
          have := List.mem_of_getElem? hx
          simp only [List.mem_cons, List.not_mem_nil, or_false] at this
          rcases this with rfl | rfl | rfl
          · exact ⟨bl, by simp, rfl⟩
          · exact ⟨ol, by simp, rfl⟩
          · exact ⟨fl, by simp, rfl⟩
        have nz : H2 z = none ∧ sl ≠ z := by
          simp only [List.mem_cons, List.not_mem_nil, or_false] at hz
          rcases hz with rfl | rfl | rfl
          · exact ⟨nbl, nsb⟩
          · exact ⟨nol, nso⟩
          · exact ⟨nfl, nsf⟩
        obtain ⟨xs, hzs, hlz⟩ := hall z hz
        repeat array_get_dec
        refine LS.rapp hzs (LS.szl (by omega)) fun H6 f6 h6 => ?_
        repeat array_get_dec
        refine LS.rrev h6 fun H7 f7 h7 => ?_
        repeat array_get_dec
        refine ⟨_, LS.Same.fr_new (LS.Same.fr_new sj f6 nz.1) f7 nz.1, f7 _ _ (f6 _ _ hslj nz.2) nz.2, fun y hy => ?_, rfl⟩
        by_cases e : y = z
        · rw [e]
          exact ⟨_, h7, by rw [List.length_reverse, List.length_append, List.length_singleton]; omega⟩
        · obtain ⟨ys, hys, hly⟩ := hall y hy
          exact ⟨ys, f7 _ _ (f6 _ _ hys e) e, by omega⟩
      · rintro σ H8 ⟨w8, s8, _, _, rfl⟩
        repeat array_get_dec
        exact ⟨_, _, _, s8, rfl⟩
    · rintro σ H3 ⟨w6, w7, w8, s3, rfl⟩
      repeat array_get_dec
      exact k H3 ((G1.same T2.sm).same s3) (F1.trans (Fr.of (T2.sm.trans s3)))
end
end LP

namespace LP
open PySem L2 LT LG LQ LH LC LX LR
local macro_rules | `(tactic| array_mem_dec) => `(tactic| first
  | assumption
  | ((with_reducible apply LS.hp_s); assumption; array_mem_dec)
  | ((with_reducible apply LS.hp_f); assumption; array_mem_dec; array_mem_dec)
  | ((with_reducible apply LS.hp_t); assumption; array_mem_dec; array_mem_dec)
  | ((with_reducible apply LS.hp_l); assumption; array_mem_dec; array_mem_dec)
  | ((with_reducible apply LS.sq_o); array_mem_dec)
  | ((with_reducible apply LS.sq_s); assumption; array_mem_dec)
  | ((with_reducible apply LS.sq_f); assumption; array_mem_dec; array_mem_dec)
  | ((with_reducible apply LS.sq_t); assumption; array_mem_dec; array_mem_dec)
  | ((with_reducible apply LS.sq_l); assumption; array_mem_dec; array_mem_dec)
  | ((with_reducible apply LS.tu_o); array_mem_dec)
  | ((with_reducible apply LS.tu_s); assumption; array_mem_dec)
  | ((with_reducible apply LS.tu_f); assumption; array_mem_dec; array_mem_dec)
  | ((with_reducible apply LS.tu_t); assumption; array_mem_dec; array_mem_dec)
  | ((with_reducible apply LS.tu_l); assumption; array_mem_dec; array_mem_dec)
  | ((with_reducible apply LS.se_l); array_mem_dec)
  | ((with_reducible apply LS.se_t); array_mem_dec)
  | ((with_reducible apply LS.se_s); assumption; array_mem_dec)
  | ((with_reducible apply LS.se_f); assumption; array_mem_dec; array_mem_dec)
  | ((with_reducible apply LS.se_tt); assumption; array_mem_dec; array_mem_dec)
  | ((with_reducible exact Same.refl _))
  | ((with_reducible apply LS.sm_s); assumption; array_mem_dec)
  | ((with_reducible apply LS.sm_f); assumption; array_mem_dec; array_mem_dec)
  | ((with_reducible exact Fr.refl _ _))
  | ((with_reducible apply LS.fr_b); assumption; array_mem_dec)
  | ((with_reducible apply LS.fr_s); assumption; array_mem_dec)
  | ((with_reducible apply LS.fr_n); assumption; array_mem_dec; array_mem_dec)
  | ((with_reducible apply LS.fr_t); assumption; array_mem_dec)
  | ((with_reducible apply LS.no_s); assumption; array_mem_dec)
  | ((with_reducible apply LS.no_f); assumption; array_mem_dec; array_mem_dec)
  | ((with_reducible apply LS.no_t); assumption; array_mem_dec)
  | ((with_reducible apply LS.no_l); assumption; assumption)
  | ((with_reducible apply Ne.symm); assumption)
  | ((with_reducible apply LS.ne_a); assumption; array_mem_dec)
  | ((with_reducible apply LS.ne_b); assumption; array_mem_dec)
  | ((with_reducible apply LS.ne_ap); assumption)
  | ((with_reducible apply LS.ne_il); assumption; array_mem_dec)
  | ((with_reducible apply LS.ne_li); assumption; array_mem_dec)
  | ((with_reducible apply LS.ne_lt); assumption; assumption)
  | ((with_reducible apply LS.ne_tl); assumption; assumption)
  | ((with_reducible apply LS.ne_rl); assumption; array_mem_dec)
  | ((with_reducible apply LS.rl_t); assumption)
  | ((with_reducible apply LS.rl_s); assumption; array_mem_dec)
  | ((with_reducible apply LS.rl_f); assumption; array_mem_dec; array_mem_dec)
  | ((with_reducible apply LS.rl_l); assumption; array_mem_dec; array_mem_dec)
  | ((with_reducible apply LS.ap_new); assumption; assumption; array_mem_dec)
  | ((with_reducible apply LS.ap_t); assumption; array_mem_dec; array_mem_dec)
  | ((with_reducible apply LS.ap_s); assumption; array_mem_dec; array_mem_dec)
  | ((with_reducible apply LS.ap_f); assumption; array_mem_dec; array_mem_dec; array_mem_dec)
  | ((with_reducible apply LS.ap_l); assumption; array_mem_dec; array_mem_dec; array_mem_dec)
  | (with_reducible apply LS.ni_nil)
  | ((with_reducible apply LS.ni_cons); array_mem_dec; array_mem_dec)
  | (with_reducible apply LS.trk_nil)
  | ((with_reducible apply LS.trk_cons); array_mem_dec; array_mem_dec)
  | (with_reducible apply LS.al_nil)
  | ((with_reducible apply LS.al_cons); array_mem_dec; array_mem_dec)
  | (with_reducible apply LS.mem_hd)
  | ((with_reducible apply LS.mem_tl); array_mem_dec)
  | ((with_reducible apply LS.fl_refl); array_mem_dec)
  | ((with_reducible apply LS.fl_l); assumption; array_mem_dec)
  | ((with_reducible apply LS.fl_lm); assumption; array_mem_dec; array_mem_dec)
  | (with_reducible apply LS.sub_nil)
  | ((with_reducible apply LS.sub_cons); array_mem_dec; array_mem_dec)
  | ((with_reducible apply LS.fl_s); assumption; array_mem_dec)
  | ((with_reducible apply LS.fl_m); assumption; array_mem_dec; array_mem_dec; array_mem_dec)
  | ((with_reducible apply LS.fl_n); assumption; array_mem_dec; array_mem_dec; array_mem_dec)
  | ((with_reducible apply LS.rt_refl); array_mem_dec)
  | ((with_reducible apply LS.rt_t); assumption; array_mem_dec)
  | ((with_reducible apply LS.rt_s); assumption; array_mem_dec)
  | ((with_reducible apply LS.rt_f); assumption; array_mem_dec; array_mem_dec; array_mem_dec)
  | ((with_reducible apply LS.sz); (first | decide | (simp only [List.length_append, List.length_map, List.length_cons, List.length_nil, List.length_replicate]; omega)))
  | ((with_reducible apply LS.szl); (first | decide | (simp only [List.length_append, List.length_map, List.length_cons, List.length_nil, List.length_replicate]; omega))))
local macro_rules | `(tactic| array_get_dec) => `(tactic| first
  | ((with_reducible apply LS.var); exact rfl)
  | (with_reducible apply LS.con)
  | (with_reducible apply LS.op)
  | (with_reducible apply LS.ri0)
  | (with_reducible apply LS.tseq)
  | (with_reducible apply LS.tasg)
  | (with_reducible apply LS.gname)
  | (with_reducible apply LS.tcons)
  | (with_reducible apply LS.tnil)
  | (with_reducible apply LS.tcb)
  | (with_reducible apply LS.tcall)
  | (with_reducible apply LS.ttest)
  | (with_reducible apply LS.k_b)
  | (with_reducible apply LS.tb)
  | (with_reducible apply LS.tifs)
  | (with_reducible apply LS.ift)
  | (with_reducible apply LS.iff_)
  | (with_reducible apply LS.ifnt)
  | (with_reducible apply LS.ifnf)
  | (with_reducible apply LS.tnext)
  | (with_reducible apply LS.tdrop)
  | (with_reducible apply LS.tret)
  | (with_reducible apply LS.tretn)
  | (with_reducible apply LS.un)
  | (with_reducible apply LS.ru)
  | (with_reducible apply LS.tyes)
  | (with_reducible apply LS.tand)
  | (with_reducible apply LS.tor)
  | (with_reducible apply LS.tnot)
  | (with_reducible apply LS.tif)
  | (with_reducible apply LS.tandv)
  | (with_reducible apply LS.k_av)
  | (with_reducible apply LS.torv)
  | (with_reducible apply LS.k_ov)
  | (with_reducible apply LS.tnotv)
  | (with_reducible apply LS.k_nv)
  | (with_reducible apply LS.tchain)
  | (with_reducible apply LS.k_ch)
  | (with_reducible apply LS.req_i)
  | (with_reducible apply LS.rne_i)
  | (with_reducible apply LS.req_s)
  | (with_reducible apply LS.rne_s)
  | (with_reducible apply LS.req_b)
  | (with_reducible apply LS.rne_b)
  | ((with_reducible apply LS.rin_i); array_mem_dec)
  | ((with_reducible apply LS.rni_i); array_mem_dec)
  | ((with_reducible apply LS.rlen_li); array_mem_dec)
  | ((with_reducible apply LS.rlen_ls); array_mem_dec)
  | ((with_reducible apply LS.rlen_l); array_mem_dec)
  | ((with_reducible apply LS.rlen_Ei); array_mem_dec)
  | ((with_reducible apply LS.rlen_E); array_mem_dec)
  | ((with_reducible apply LS.rlen_t); array_mem_dec)
  | ((with_reducible apply LS.rixl); array_mem_dec; exact rfl)
  | ((with_reducible apply LS.rixt); array_mem_dec; exact rfl)
  | (with_reducible apply LS.isi_int_int)
  | (with_reducible apply LS.isi_int_bool)
  | (with_reducible apply LS.isi_int_str)
  | (with_reducible apply LS.isi_str_int)
  | (with_reducible apply LS.isi_str_bool)
  | (with_reducible apply LS.isi_str_str)
  | (with_reducible apply LS.isi_bool_int)
  | (with_reducible apply LS.isi_bool_bool)
  | (with_reducible apply LS.isi_bool_str)
  | (with_reducible apply LS.isi_non_int)
  | (with_reducible apply LS.isi_non_bool)
  | (with_reducible apply LS.isi_non_str)
  | ((with_reducible apply LS.isi_list_int); array_mem_dec)
  | ((with_reducible apply LS.isi_list_bool); array_mem_dec)
  | ((with_reducible apply LS.isi_list_str); array_mem_dec)
  | ((with_reducible apply LS.isi_list_list); array_mem_dec)
  | ((with_reducible apply LS.isi_list_tuple); array_mem_dec)
  | ((with_reducible apply LS.isi_tuple_int); array_mem_dec)
  | ((with_reducible apply LS.isi_tuple_bool); array_mem_dec)
  | ((with_reducible apply LS.isi_tuple_str); array_mem_dec)
  | ((with_reducible apply LS.isi_tuple_list); array_mem_dec)
  | ((with_reducible apply LS.isi_tuple_tuple); array_mem_dec)
  | ((with_reducible apply LS.isiT_i); array_mem_dec)
  | ((with_reducible apply LS.isiT_s); array_mem_dec)
  | ((with_reducible apply LS.isiT_E); array_mem_dec; array_mem_dec)
  | (with_reducible apply LS.tfld)
  | ((with_reducible apply LS.k_fl); array_mem_dec; assumption; assumption; exact rfl)
  | (with_reducible apply LS.tmeth)
  | ((with_reducible apply LS.k_me); array_mem_dec; exact rfl)
  | (with_reducible apply LS.tmake)
  | (with_reducible apply LS.tsfld)
  | (with_reducible apply LS.tprop)
  | ((with_reducible apply LS.k_pr); array_mem_dec)
  | ((with_reducible apply LS.rlen_own); array_mem_dec)
  | (with_reducible apply LS.rabs)
  | (with_reducible apply LS.rmin2)
  | (with_reducible apply LS.rmax2)
  | (with_reducible apply LS.tsl)
  | (with_reducible apply LS.tthen)
  | (with_reducible apply LS.tstep)
  | (with_reducible apply LS.tnop)
  | (with_reducible apply LS.tpart)
  | (with_reducible apply LS.k_part)
  | (with_reducible apply LS.ttup)
  | (with_reducible apply LS.tlst)
  | (with_reducible apply LS.tbm)
  | (with_reducible apply LS.tbm0)
  | ((with_reducible apply LS.ty_l); array_mem_dec)
  | (with_reducible apply LS.tpar)
  | (with_reducible apply LS.tfor)
  | (with_reducible apply LS.tlc)
  | (with_reducible apply LS.ilist)
  | ((with_reducible apply LS.k_il); array_mem_dec)
  | (with_reducible apply LS.itup)
  | ((with_reducible apply LS.k_it); array_mem_dec)
  | (with_reducible apply LS.istr)
  | (with_reducible apply LS.k_is)
  | (with_reducible apply LS.irng1)
  | ((with_reducible apply LS.k_r1n); omega)
  | ((with_reducible apply LS.k_r1); (first | omega | decide); (first | omega | decide))
  | (with_reducible apply LS.irng2)
  | ((with_reducible apply LS.k_r2); (first | omega | decide); (first | omega | decide); (first | omega | decide); (first | omega | decide))
  | (with_reducible apply LS.ienum)
  | ((with_reducible apply LS.k_en); array_mem_dec)
  | (with_reducible apply LS.izip)
  | ((with_reducible apply LS.k_zip); array_mem_dec; array_mem_dec)
  | (with_reducible apply LS.tlstrg)
  | (with_reducible apply LS.trg1)
  | (with_reducible apply LS.k_g1)
  | (with_reducible apply LS.risn_i)
  | (with_reducible apply LS.risn_s)
  | (with_reducible apply LS.risn_n)
  | (with_reducible apply LS.rnotn_i)
  | (with_reducible apply LS.rnotn_n)
  | (with_reducible apply LS.rint_b)
  | (with_reducible apply LS.rint_i)
  | (with_reducible apply LS.tm0)
  | (with_reducible apply LS.tm1)
  | (with_reducible apply LS.is_str)
  | (with_reducible apply LS.ex_s0)
  | (with_reducible apply LS.ex_int_b)
  | (with_reducible apply LS.k_par)
  | (with_reducible apply LS.tpar3)
  | (with_reducible apply LS.k_par3)
  | ((with_reducible apply LS.taug); exact rfl)
  | (with_reducible apply LS.ipi)
  | ((with_reducible apply LS.gtup); array_mem_dec; exact rfl)
  | ((with_reducible apply LS.gunl); array_mem_dec; exact rfl)
  | (with_reducible apply LS.gnil)
  | (with_reducible apply LS.gcons)
  | (with_reducible apply LS.gsub)
  | ((with_reducible apply LS.ri); first | omega | decide | assumption | exact ⟨by decide, by decide, by decide⟩ | exact .inl ⟨by decide, by decide⟩ | exact .inr ⟨by decide, by decide⟩ | exact .inl ⟨by omega, by omega⟩ | exact .inr ⟨by omega, by omega⟩)
  | (with_reducible apply LS.ex_ss)
  | (with_reducible apply LS.ex_s1)
  | (with_reducible apply LS.ex_i1)
  | (with_reducible apply LS.and_rfl)
  | (with_reducible apply LS.and_tr)
  | (with_reducible apply LS.is_non))
local macro_rules | `(tactic| array_mem_dec) => `(tactic| first
  | ((with_reducible apply LP.lv_s); assumption; array_mem_dec)
  | ((with_reducible apply LP.lv_l); assumption; array_mem_dec; array_mem_dec; array_mem_dec)
  | ((with_reducible apply LP.lv_f); assumption; array_mem_dec; array_mem_dec; array_mem_dec)
  | ((with_reducible apply LP.lv_t); assumption; array_mem_dec; array_mem_dec; array_mem_dec)
  | ((with_reducible apply LP.ops_s); assumption; array_mem_dec)
  | ((with_reducible apply LP.md_s); assumption; array_mem_dec)
  | ((with_reducible apply LP.md_l); assumption; array_mem_dec; array_mem_dec; array_mem_dec)
  | ((with_reducible apply LP.md_f); assumption; array_mem_dec; array_mem_dec; array_mem_dec)
  | ((with_reducible apply LP.md_t); assumption; array_mem_dec; array_mem_dec; array_mem_dec)
  | ((with_reducible apply LP.al_s); assumption; array_mem_dec; array_mem_dec)
  | ((with_reducible apply LP.al_t); assumption; array_mem_dec; array_mem_dec)
  | ((with_reducible apply LP.al_l); assumption; array_mem_dec; array_mem_dec; array_mem_dec)
  | ((with_reducible apply LP.al_f); assumption; array_mem_dec; array_mem_dec; array_mem_dec)
  | ((with_reducible apply LP.Lv.lists); array_mem_dec)
  | ((with_reducible apply LP.Lv.trk); array_mem_dec)
  | ((with_reducible apply LP.Mdl.trk); array_mem_dec)
  | ((with_reducible apply LP.al_no); assumption; array_mem_dec))
local macro_rules | `(tactic| array_get_dec) => `(tactic| first
  | (with_reducible apply LS.trg2)
  | (with_reducible apply LS.k_g2))

section
variable {P : Program} {w : World} {K : PySem.W.Frag} {mg : Str → Option Value} {base : Heap}

theorem eqv_done_nil (os : List Op) : PyData.eqv (dDone os) (.list []) = decide (os = []) := by
  cases os with
  | nil => rw [decide_eq_true rfl]; rfl
  | cons o os => rw [decide_eq_false (by simp)]; rfl
theorem first_take {n : Nat} {o : Op} {os : List Op} {u : Sim} (h : LR.run (simInit n) (o :: os) = some u) : o.1 = true := by
  obtain ⟨t, v, h1, h2, _⟩ := run_stp h (i := 0) (o := o) rfl
  cases h1
  obtain ⟨kd, num⟩ := o
  cases kd with
  | true => rfl
  | false => have := (stp_ret h2).1; cases this
theorem take_run {n : Nat} {i : Int} (h0 : 0 ≤ i) (h1 : i < n) : ∃ u, LR.run (simInit n) [(true, i)] = some u := by
  have e : (simInit n).books[i.toNat]? = some (some i) := by
    show ((rangeI n).map some)[i.toNat]? = _
    unfold rangeI
    rw [List.map_map, List.getElem?_map, List.getElem?_range (by omega)]
    show some (some ((i.toNat : Nat) : Int)) = _
    rw [show ((i.toNat : Nat) : Int) = i by omega]
  exact ⟨_, run_snoc (a := []) rfl (stp_take_of h0 e)⟩
theorem ope_take {K : PySem.W.Frag} {H : Hp} {cs : List Addr} {os : List Op} (h : OpsE K H cs os) (i : Nat) : OpsE K H (cs.take i) (os.take i) := by
  refine ⟨by rw [List.length_take, List.length_take, h.1], fun j a o h1 h2 => ?_⟩
  rw [List.getElem?_take] at h1 h2
  split at h1
  · rename_i q
    rw [if_pos q] at h2
    exact h.2 j a o h1 h2
  · cases h1
def endO : List Op := [(true, 2), (true, 0), (false, 2)]
def endU : Sim := ⟨[some 2, some 1, none, some 3], [0], [0], 2⟩
theorem end_run : LR.run (simInit 4) endO = some endU := by rfl
def mostO : List Op := [(true, 2), (false, 2), (true, 1)]
def mostU : Sim := ⟨[some 0, none, some 2, some 3], [1], [2], 1⟩
theorem most_run : LR.run (simInit 4) mostO = some mostU := by rfl
theorem ok_law (e : Env K mg) : LG.FnG P w K mg base CX0 9 e.a_law e.d_law ["script"] (sp_law K) := by
  refine LG.okG e.f_law sc_law (fun vs H Q E h => ?_) (fun cdv A outer s H vs Q E hgd hr h => ?_)
  · obtain ⟨a, ns, rfl, _⟩ := h; rfl
  · obtain ⟨a, ns, rfl, hS, hl, k⟩ := h
    refine ⟨_, (pss_cons (ps_set (i := 1) sc_law.nd rfl (by first | exact Or.inl rfl | exact Or.inr rfl) (pe_call ((ok__law_bag e).mono (by decide)) hr rfl e.g__law_bag e.f__law_bag.kp e.b__law_bag .nil pass0 (pa_cons (pv 0) pa_nil)))
      (pss_cons (ps_for PassesOwn.never rfl (pi_range1 (by rfl) e.n_range (pa_cons (pe_op op_add pe_int (pe_callB (LS.call_min2 rfl) (by rfl) e.n_min (by decide +kernel) (pa_cons pe_int (pa_cons (pe_callB LS.call_len (by rfl) e.n_len PySem.boot_len (pa_cons (pv 0) pa_nil)) pa_nil)))) pa_nil)) (pg_name (i := 2) sc_law.nd rfl (by first | exact Or.inl rfl | exact Or.inr rfl))
      (pss_cons (ps_set (i := 3) sc_law.nd rfl (by first | exact Or.inl rfl | exact Or.inr rfl) (pe_call ((ok__law_size e).mono (by decide)) hr rfl e.g__law_size e.f__law_size.kp e.b__law_size .nil pass0 (pa_cons (pv 1) pa_nil)))
      (pss_cons (ps_set (i := 4) sc_law.nd rfl (by first | exact Or.inl rfl | exact Or.inr rfl) (pe_call ((ok__law_schedule e).mono (by decide)) hr rfl e.g__law_schedule e.f__law_schedule.kp e.b__law_schedule .nil pass0 (pa_cons (pv 1) (pa_cons (pv 3) (pa_cons (pe_ix ix_list (pe_lst (pa_cons pe_int (pa_cons (pe_call ((ok__law_draw e).mono (by decide)) hr rfl e.g__law_draw e.f__law_draw.kp e.b__law_draw .nil pass0 (pa_cons (pv 1) (pa_cons pe_int pa_nil))) pa_nil))) (pe_callB (LS.call_min2 rfl) (by rfl) e.n_min (by decide +kernel) (pa_cons pe_int (pa_cons (pv 2) pa_nil))) (fun _ _ => rfl)) pa_nil)))))
      (pss_cons (ps_if (pt_not (pt_val (pe_callG ((ok__law_right e).up (by decide)) hgd hr rfl e.g__law_right e.f__law_right.kp e.b__law_right .nil pass0 (pa_cons (pv 1) (pa_cons (pv 3) (pa_cons (pv 4) pa_nil))))))
        (pss_one (ps_ret pe_bl))
        pss_nil)
      (pss_cons (ps_setLc (i := 5) (own := [("one", 10)]) rfl sc_law.nd rfl rfl (sw_true rfl rfl rfl (by decide +kernel)) (pi_list (pv 4)) (blkOk_by (N := ["script", "bag", "turn", "size", "rows", "held", "step", "first", "short", "found", "one"]) (sc := defScope s_law) (by decide +kernel)) (fun _ _ _ _ _ => (pg_name (i := 10) sc_law.nd rfl (by first | exact Or.inl rfl | exact Or.inr rfl))) (fun _ _ _ _ _ => pts_nil) (fun _ _ _ _ _ => (pe_callTy (show CallR _ _ (LS.rListOf K) from LS.call_list) (by rfl) e.n_list (by decide +kernel) (pa_cons (pv 10) pa_nil))))
      (pss_cons (ps_for PassesOwn.never rfl (pi_range1 (by rfl) e.n_range (pa_cons (pe_callB (LS.call_min2 rfl) (by rfl) e.n_min (by decide +kernel) (pa_cons pe_int (pa_cons (pe_callB LS.call_len (by rfl) e.n_len PySem.boot_len (pa_cons (pv 5) pa_nil)) pa_nil))) pa_nil)) (pg_name (i := 6) sc_law.nd rfl (by first | exact Or.inl rfl | exact Or.inr rfl))
      (pss_cons (ps_expr (pe_bm0 PySem.F.plainAttrs_list PySem.F.slot_list_pop PySem.F.type_list_pop mt_pop (pv 5)))
      (pss_one (ps_if (pt_cmpR op_ne (pe_callB (LX.call_reprN hgd (u66 hr)) (by rfl) e.n_repr (by decide +kernel) (pa_cons (pe_call ((ok__law_told e).mono (by decide)) hr rfl e.g__law_told e.f__law_told.kp e.b__law_told .nil pass0 (pa_cons (pv 3) (pa_cons (pv 5) pa_nil))) pa_nil)) (pe_callB (LX.call_reprN hgd (u66 hr)) (by rfl) e.n_repr (by decide +kernel) (pa_cons (pe_call ((ok__law_played e).mono (by decide)) hr rfl e.g__law_played e.f__law_played.kp e.b__law_played .nil pass0 (pa_cons (pv 3) (pa_cons (pv 5) pa_nil))) pa_nil)) (nomark _))
        (pss_one (ps_ret pe_bl))
        pss_nil))))
      (pss_one (ps_if (PW.pt (pw_and (pt_cmpR (op_neD hr.units) (pv 4) (pe_lst pa_nil) (nomark _)) (pw_and1 (pt_cmpR op_lt (pe_op op_add (pe_ix ix_tup (pe_ix ix_list (pv 4) pe_int (fun _ _ => rfl)) pe_int (fun _ _ => rfl)) pe_int) (pv 3) (nomark _)))))
        (pss_cons (ps_set (i := 7) sc_law.nd rfl (by first | exact Or.inl rfl | exact Or.inr rfl) (pe_lst (pa_cons (pe_lst (pa_cons pe_str (pa_cons (pe_ix ix_tup (pe_ix ix_list (pv 4) pe_int (fun _ _ => rfl)) pe_int (fun _ _ => rfl)) pa_nil))) pa_nil)))
      (pss_cons (ps_set (i := 8) sc_law.nd rfl (by first | exact Or.inl rfl | exact Or.inr rfl) (pe_call ((ok__law_told e).mono (by decide)) hr rfl e.g__law_told e.f__law_told.kp e.b__law_told .nil pass0 (pa_cons (pv 3) (pa_cons (pv 7) pa_nil))))
      (pss_cons (ps_asg (pe_op op_add (pe_ix ix_tup (pe_ix ix_list (pv 4) pe_int (fun _ _ => rfl)) pe_int (fun _ _ => rfl)) pe_int) (pg_sub (pe_ix ix_list (pv 7) pe_int (fun _ _ => rfl)) pe_int set_list))
      (pss_one (ps_if (pt_cmpR op_ne (pe_callB (LX.call_reprN hgd (u66 hr)) (by rfl) e.n_repr (by decide +kernel) (pa_cons (pe_lst (pa_cons (pv 8) (pa_cons (pe_call ((ok__law_told e).mono (by decide)) hr rfl e.g__law_told e.f__law_told.kp e.b__law_told .nil pass0 (pa_cons (pv 3) (pa_cons (pv 7) pa_nil))) pa_nil))) pa_nil)) (pe_callB (LX.call_reprN hgd (u66 hr)) (by rfl) e.n_repr (by decide +kernel) (pa_cons (pe_lst (pa_cons (pe_call ((ok__law_played e).mono (by decide)) hr rfl e.g__law_played e.f__law_played.kp e.b__law_played .nil pass0 (pa_cons (pv 3) (pa_cons (pe_slice sl_list (pv 4) po_none (po_some pe_int)) pa_nil))) (pa_cons (pe_call ((ok__law_played e).mono (by decide)) hr rfl e.g__law_played e.f__law_played.kp e.b__law_played .nil pass0 (pa_cons (pv 3) (pa_cons (pv 7) pa_nil))) pa_nil))) pa_nil)) (nomark _))
        (pss_one (ps_ret pe_bl))
        pss_nil)))))
        pss_nil))))))))
      (pss_cons (ps_set (i := 9) sc_law.nd rfl (by first | exact Or.inl rfl | exact Or.inr rfl) (pe_lst (pa_cons (pe_call ((ok_books_after e).mono (by decide)) hr rfl e.g_books_after e.f_books_after.kp e.b_books_after .nil pass0 (pa_cons pe_int (pa_cons (pe_lst (pa_cons (pe_tup (pa_cons pe_str (pa_cons pe_int pa_nil))) (pa_cons (pe_tup (pa_cons pe_str (pa_cons pe_int pa_nil))) (pa_cons (pe_tup (pa_cons pe_str (pa_cons pe_int pa_nil))) pa_nil)))) pa_nil))) (pa_cons (pe_call ((ok_books_after e).mono (by decide)) hr rfl e.g_books_after e.f_books_after.kp e.b_books_after .nil pass0 (pa_cons pe_int (pa_cons (pe_lst pa_nil) pa_nil))) (pa_cons (pe_call ((ok_books_out e).mono (by decide)) hr rfl e.g_books_out e.f_books_out.kp e.b_books_out .nil pass0 (pa_cons pe_int (pa_cons (pe_tup pa_nil) pa_nil))) pa_nil)))))
      (pss_one (ps_ret (pe_and (pe_cmpR (op_eqD hr.units) (pv 9) (pe_lst (pa_cons (pe_lst (pa_cons pe_int (pa_cons pe_int (pa_cons pe_non (pa_cons pe_int pa_nil))))) (pa_cons (pe_lst (pa_cons pe_int pa_nil)) (pa_cons (pe_lst pa_nil) pa_nil)))) (nomark _)) (pe_one (pe_cmpR op_eq (pe_call ((ok_most_out e).mono (by decide)) hr rfl e.g_most_out e.f_most_out.kp e.b_most_out .nil pass0 (pa_cons pe_int (pa_cons (pe_lst (pa_cons (pe_tup (pa_cons pe_str (pa_cons pe_int pa_nil))) (pa_cons (pe_tup (pa_cons pe_str (pa_cons pe_int pa_nil))) (pa_cons (pe_tup (pa_cons pe_str (pa_cons pe_int pa_nil))) pa_nil)))) pa_nil))) pe_int (nomark _))))))))), ?_⟩
    have c_Shelf := e.cl_Shelf; have a_Shelf_books := e.nA_Shelf_books; have a_Shelf_out := e.nA_Shelf_out
    repeat array_get_dec
    refine ⟨a, ns, rfl, hS, hl, fun H1 b l s1 nb nl G => ?_⟩
    repeat array_get_dec
    refine LS.for_ walk_range (fun i σ H2 => ∃ v2 v3 v4 v5 v6 v7 v8 : Option V, Bag H2 b l ns (i * 1300) ∧ σ = [some (.ref a), some (.ref b), v2, v3, v4, v5, v6, v7, v8, none, none]) ⟨_, _, _, _, _, _, _, G, rfl⟩ (fun _ _ _ _ _ => trivial) ?_ ?_
    · clear G
      rintro i x σ Hq H2 hi ⟨v2, v3, v4, v5, v6, v7, v8, G, rfl⟩ ⟨rfl, rfl⟩
      have hi9 : i < 8 := by omega
      repeat array_get_dec
      refine ⟨b, l, ns, _, rfl, G, by omega, hl, fun H3 n hn1 hn G3 F3 => ?_⟩
      repeat array_get_dec
      refine ⟨b, l, ns, _, 60, rfl, G3, by decide, by decide +kernel, by omega, hl, fun H4 r r0 r1 G4 F4 => ?_⟩
      repeat array_get_dec
      refine LS.k_lst (by array_mem_dec) fun ls H_ls n_ls s_ls h_ls => ?_
      repeat array_get_dec
      repeat array_get_dec
      obtain ⟨m, hm, hat⟩ : ∃ m : Nat, m ≤ 400 ∧ atI [V.int 400, V.int r] (min 1 (0 + (i : Int))) = some (.int m) := by
        by_cases q : i = 0
        · rw [show min (1 : Int) (0 + (i : Int)) = 0 by omega]; exact ⟨400, by decide, rfl⟩
        · rw [show min (1 : Int) (0 + (i : Int)) = 1 by omega]; exact ⟨r.toNat, by omega, by show some (V.int r) = _; congr 2; omega⟩
      refine LS.rixl (SqL.of h_ls) hat ?_
      repeat array_get_dec
      refine ⟨b, l, ns, _, n, m, rfl, G4.same s_ls, by omega, hl, hn1, hn, hm, fun H5 p as os u G5 F5 np hp hO hrun hlen => ?_⟩
      have npb : p ≠ b := (G4.same s_ls).ne_new np
      have h400 : os.length ≤ 400 := by omega
      clear h_ls s_ls n_ls F5 np F4 F3 G3 G4
      repeat array_get_dec
      refine ⟨b, l, ns, _, n, p, as, os, u, rfl, G5, by omega, hl, hn1, hn, hp, npb, hO, hrun, h400, fun H6 G6 F6 => ?_⟩
      obtain ⟨_, _, _, _, hbag, _⟩ := G5.ex
      have hp6 := F6 _ _ hp npb
      have hO6 := hO.kn (kn_f F6 hbag)
      clear hbag hp hO F6 G5
      repeat array_get_dec
      refine LS.comp (walk_list (xs := as.map V.ref)) (fun D j acc H' => ∃ cs : List Addr, Same H6 H' ∧ acc = cs.map V.ref ∧ cs.length = j ∧ ∀ (j : Nat) c o, cs[j]? = some c → os[j]? = some o → SqE K H' c (opv o)) (fun D H' nD s' hD => ⟨[], s', rfl, rfl, fun j c o h => by simp at h⟩) (fun D j acc H' _ nD hD h => (by obtain ⟨_, h, _⟩ := h; exact SqL.of (h _ _ hp6))) ?_ ?_
      · rintro D j acc x H2 H3 nD hj hlen hD ⟨cs, s2, rfl, hcl, hc⟩ ⟨rfl, hx⟩
        rw [List.length_map] at hj
        obtain ⟨c0, ha, rfl⟩ : ∃ c0, as[j]? = some c0 ∧ x = .ref c0 := by
          rw [List.getElem?_map] at hx
          cases q : as[j]? with
          | none => rw [q] at hx; cases hx
          | some c0 => rw [q] at hx; cases hx; exact ⟨c0, rfl, rfl⟩
        obtain ⟨o, ho⟩ : ∃ o, os[j]? = some o := ⟨_, List.getElem?_eq_getElem (by have := hO6.1; omega)⟩
        have hat := s2 _ _ (hO6.2 j c0 o ha ho)
        refine ⟨rfl, ?_⟩
        repeat array_get_dec
        refine rlistE (.inr (SqT.of hat)) fun q H4 nq s4 hq => ?_
        have hD4 := s4 _ _ hD
        refine LS.k_lc hD4 hlen (by have := hO6.1; omega) fun H5 f5 h5 => ⟨cs ++ [q], LS.Same.fr_new (s2.trans s4) f5 nD, by rw [List.map_append]; rfl, by rw [List.length_append, hcl]; rfl, fun j' c o' h1 h2 => ?_⟩
        rcases Nat.lt_or_ge j' j with z | z
        · rw [List.getElem?_append_left (by omega)] at h1
          exact fr_sqEX f5 hD4 (fun w => by cases cs <;> cases w) ((hc j' c o' h1 h2).same s4)
        · rw [List.getElem?_append_right (by omega)] at h1
          obtain rfl : j' = j := by
            have := (List.getElem?_eq_some_iff.mp h1).1
            simp at this
            omega
          rw [hcl, Nat.sub_self] at h1
          cases h1
          rw [ho] at h2
          cases h2
          exact fr_sqEX f5 hD4 (fun w => by cases cs <;> cases w) (.inl (SqL.of hq))
      rintro hd acc H7 nhd hhd hl2 ⟨cs, s7, rfl, hcl, hc⟩
      rw [List.length_map] at hcl
      have hcl2 : cs.length = os.length := by rw [hcl, hO6.1]
      have hE : OpsE K H7 cs os := ⟨hcl2, hc⟩
      have G7 := G6.same s7
      have hp7 := s7 _ _ hp6
      have hO7 : OpsOk H7 as os := hO6.kn (kn_s s7)
      have nhb : hd ≠ b := G6.ne_new nhd
      have nhl : hd ≠ l := fun z => by have := G6.ls; rw [← z, nhd] at this; cases this
      have nph : p ≠ hd := fun z => by rw [← z, hp6] at nhd; cases nhd
      clear hc s7 hp6 hO6 G6
      repeat array_get_dec
      rw [List.length_map, hcl2]
      refine LS.for_ (walk_range (lo := 0) (n := (min 4 ((os.length : Nat) : Int)).toNat)) (fun j σ H' => ∃ v6 : Option V, H' hd = some (.lst ((cs.take (os.length - j)).map V.ref)) ∧ OpsE K H' cs os ∧ Bag H' b l ns (i * 1300 + 1210) ∧ H' p = some (.lst (as.map V.ref)) ∧ OpsOk H' as os ∧ σ = [some (.ref a), some (.ref b), some (.int (0 + (i : Int))), some (.int n), some (.ref p), some (.ref hd), v6, v7, v8, none, none]) ⟨_, by rw [Nat.sub_zero, ← hcl2, List.take_length]; exact hhd, hE, G7.mono (by omega), hp7, hO7, rfl⟩ (fun _ _ _ _ _ => trivial) ?_ ?_
      · clear hhd hE G7 hp7 hO7
        rintro j x σ Hq H8 hj ⟨v6, hhd, hE, G8, hp8, hO8, rfl⟩ ⟨rfl, rfl⟩
        have hjl : j < os.length := by omega
        obtain ⟨c0, hc0⟩ : ∃ c0, cs[os.length - (j + 1)]? = some c0 := ⟨_, List.getElem?_eq_getElem (by omega)⟩
        have esn : cs.take (os.length - j) = cs.take (os.length - (j + 1)) ++ [c0] := by
          rw [show os.length - j = os.length - (j + 1) + 1 by omega, List.take_add_one, hc0]; rfl
        rw [esn, List.map_append] at hhd
        repeat array_get_dec
        refine LS.rpop hhd fun H9 f9 h9 => ?_
        have hhd8 : H8 hd = some (.lst ((cs.take (os.length - (j + 1)) ++ [c0]).map V.ref)) := by rw [hhd, List.map_append]
        have hE9 := ope_fr f9 hhd8 hE
        have G9 := bag_fr G8 f9 nhb nhl
        have hp9 := f9 _ _ hp8 nph
        have hO9 := hO8.kn (kn_f f9 hhd8)
        obtain ⟨s, hs, _⟩ := run_take hrun (os.length - (j + 1))
        have hl9 : (os.take (os.length - (j + 1))).length ≤ 400 := by rw [List.length_take]; omega
        clear hhd hhd8 hE G8 hp8 hO8 f9
        repeat array_get_dec
        refine ⟨n, hd, _, _, s, rfl, hn1, hn, .inl (SqL.of h9), ope_take hE9 _, hs, hl9, fun H10 q bl ol fl zs T10 => ?_⟩
        repeat array_get_dec
        refine LS.rrepr (dp_R T10) (sm_R hn hs hl9 T10.pm) (by decide) (by decide) ?_
        repeat array_get_dec
        refine ⟨n, hd, _, _, s, rfl, hn1, hn, .inl (SqL.of (T10.sm _ _ h9)), (ope_take hE9 _).same T10.sm, hs, hl9, fun H11 q2 bl2 ol2 fl2 zs2 T11 => ?_⟩
        have ez : zs = zs2 := sorted_one (T10.pm.trans T11.pm.symm) T10.so T11.so
        repeat array_get_dec
        refine LS.rrepr (dp_R T11) (sm_R hn hs hl9 T11.pm) (by decide) (by decide) ?_
        rw [ez]
        repeat array_get_dec
        rw [decide_eq_true rfl]
        repeat array_get_dec
        have s11 := T10.sm.trans T11.sm
        exact ⟨_, s11 _ _ h9, hE9.same s11, G9.same s11, s11 _ _ hp9, hO9.kn (kn_s s11), rfl⟩
      · clear hhd hE G7 hp7 hO7
        rintro σ H8 ⟨v6, hhd, hE, G8, hp8, hO8, rfl⟩
        clear hhd hE
        have fin : ∀ (H' : Hp) (w6 w7 w8 : Option V), Bag H' b l ns (i * 1300 + 1210) → ∃ v2 v3 v4 v5 v6 v7 v8 : Option V, Bag H' b l ns ((i + 1) * 1300) ∧ [some (V.ref a), some (.ref b), some (.int (0 + (i : Int))), some (.int n), some (.ref p), some (.ref hd), w6, w7, w8, none, none] = [some (V.ref a), some (.ref b), v2, v3, v4, v5, v6, v7, v8, none, none] := fun H' w6 w7 w8 g => ⟨_, _, _, _, _, _, _, g.mono (by omega), rfl⟩
        repeat array_get_dec
        refine LS.k_lst (by array_mem_dec) fun e0 H_e0 n_e0 s_e0 h_e0 => ?_
        repeat array_get_dec
        have pE := s_e0 _ _ hp8
        have oE := hO8.kn (kn_s s_e0)
        have gE := G8.same s_e0
        refine LS.rned (dp_done (SqL.of pE) oE) (.lst (SqL.of h_e0) .nil) sh_done9 rfl ?_
        rw [eqv_done_nil]
        clear h_e0 s_e0 n_e0 hp8 hO8 G8
        by_cases hos : os = []
        · rw [decide_eq_true hos]
          repeat array_get_dec
          exact fin _ _ _ _ gE
        rw [decide_eq_false hos]
        obtain ⟨⟨kd, x0⟩, rest, rfl⟩ := List.exists_cons_of_ne_nil hos
        obtain rfl : kd = true := first_take hrun
        obtain ⟨a0, ha0⟩ : ∃ a0, as[0]? = some a0 := ⟨_, List.getElem?_eq_getElem (by have := oE.1; simp at this; omega)⟩
        obtain ⟨ar, rfl⟩ : ∃ ar, as = a0 :: ar := by
          cases as with
          | nil => simp at ha0
          | cons y ys => simp at ha0; exact ⟨ys, by rw [ha0]⟩
        have hat0 : H_e0 a0 = some (.tup [.str "take", .int x0]) := oE.2 0 a0 _ ha0 rfl
        have rng := ops_rng hn hrun (true, x0) (List.mem_cons_self ..)
        repeat array_get_dec
        refine LS.rixl_n (j := 0) (v := .ref a0) (SqL.of pE) (by rw [List.getElem?_map, ha0]; rfl) rfl ?_
        repeat array_get_dec
        by_cases hlt : x0 + 1 < (n : Int)
        · rw [decide_eq_true hlt]
          repeat array_get_dec
          refine LS.rixl_n (j := 0) (v := .ref a0) (SqL.of pE) (by rw [List.getElem?_map, ha0]; rfl) rfl ?_
          repeat array_get_dec
          refine LS.k_lst (by array_mem_dec) fun f1 H_f1 n_f1 s_f1 h_f1 => ?_
          repeat array_get_dec
          refine LS.k_lst (by array_mem_dec) fun f0 H_f0 n_f0 s_f0 h_f0 => ?_
          repeat array_get_dec
          obtain ⟨u1, hu1⟩ := take_run (n := n) rng.1 rng.2
          obtain ⟨u2, hu2⟩ := take_run (n := n) (i := x0 + 1) (by have := rng.1; show 0 ≤ x0 + 1; omega) hlt
          have F1 := s_f0 _ _ h_f1
          have sf := s_f1.trans s_f0
          have p0 := sf _ _ pE
          have o0 := oE.kn (kn_s sf)
          have g0 := gE.same sf
          have a00 := sf _ _ hat0
          have nf01 : f0 ≠ f1 := fun z => by rw [z, h_f1] at n_f0; cases n_f0
          have nfb : f1 ≠ b := gE.ne_new n_f1
          have nfl : f1 ≠ l := fun z => by have := gE.ls; rw [← z, n_f1] at this; cases this
          have npf : p ≠ f1 := fun z => by rw [z, n_f1] at pE; cases pE
          clear pE oE gE hat0 s_f1 s_f0 sf h_f1 n_f1 n_f0
          repeat array_get_dec
          refine ⟨n, f0, [f1], [(true, x0)], u1, rfl, hn1, hn, .inl (SqL.of h_f0), ⟨rfl, fun i a o h1 h2 => ?_⟩, hu1, by show 1 ≤ 400; decide, fun H1 q bl ol fl zs T1 => ?_⟩
          · match i, h1, h2 with
            | 0, h1, h2 => cases h1; cases h2; exact .inl (SqL.of F1)
            | i + 1, h1, h2 => simp at h1
          have p1 := T1.sm _ _ p0
          have F11 := T1.sm _ _ F1
          have f01 := T1.sm _ _ h_f0
          repeat array_get_dec
          refine LS.rixl_n (j := 0) (v := .ref a0) (SqL.of p1) (by rw [List.getElem?_map, ha0]; rfl) rfl ?_
          have a01 := T1.sm _ _ a00
          repeat array_get_dec
          refine LS.rset (j := 1) F11 rfl fun H2 f2 h2 => ?_
          have h2 : H2 f1 = some (.lst [.str "take", .int (x0 + 1)]) := h2
          have f02 := f2 _ _ f01 nf01
          have p2 := f2 _ _ p1 npf
          have a02 : H2 a0 = some (.tup [.str "take", .int x0]) := f2 _ _ a01 fun z => by rw [z, F11] at a01; cases a01
          have g2 := bag_fr (g0.same T1.sm) f2 nfb nfl
          have d2 := dp_RF (K := K) T1 f2 F1
          clear p1 f01 a01 F11 p0 o0 g0 a00 h_f0
          have E2 : ∀ {H' : Hp}, Same H2 H' → OpsE K H' [f1] [(true, x0 + 1)] := fun s' => ⟨rfl, fun i a o h1 h3 => by
            match i, h1, h3 with
            | 0, h1, h3 => cases h1; cases h3; exact .inl (SqL.of (s' _ _ h2))
            | i + 1, h1, h3 => simp at h1⟩
          repeat array_get_dec
          refine ⟨n, f0, [f1], [(true, x0 + 1)], u2, rfl, hn1, hn, .inl (SqL.of f02), E2 (Same.refl _), hu2, by show 1 ≤ 400; decide, fun H3 q3 bl3 ol3 fl3 zs3 T3 => ?_⟩
          repeat array_get_dec
          refine LS.k_lst (by array_mem_dec) fun r1 H_r1 n_r1 s_r1 h_r1 => ?_
          repeat array_get_dec
          have s3 := T3.sm.trans s_r1
          refine LS.rrepr (.lst (SqL.of h_r1) (.cons (LS.dp_same s3 d2) (.cons (dp_R' T3 s_r1) .nil))) (sm_RR (sm_R hn hu1 (by show 1 ≤ 400; decide) T1.pm) (sm_R hn hu2 (by show 1 ≤ 400; decide) T3.pm)) (by decide) (by decide) ?_
          clear h_r1
          repeat array_get_dec
          refine LS.rsll (SqL.of (s3 _ _ p2)) fun sl H4 nsl ssl hsl => ?_
          have s4 := s3.trans ssl
          have hcut : cutV ((a0 :: ar).map V.ref) none (some 1) = [V.ref a0] := LS.cut_to _ 1
          have hsl : H4 sl = some (.lst [.ref a0]) := by rw [hsl, hcut]
          repeat array_get_dec
          refine ⟨n, sl, [a0], [(true, x0)], u1, rfl, hn1, hn, .inl (SqL.of hsl), ⟨rfl, fun i a o h1 h3 => ?_⟩, hu1, by show 1 ≤ 400; decide, fun H5 q5 bl5 ol5 fl5 zs5 T5 => ?_⟩
          · match i, h1, h3 with
            | 0, h1, h3 => cases h1; cases h3; exact .inr (SqT.of (s4 _ _ a02))
            | i + 1, h1, h3 => simp at h1
          have s5 := s4.trans T5.sm
          repeat array_get_dec
          refine ⟨n, f0, [f1], [(true, x0 + 1)], u2, rfl, hn1, hn, .inl (SqL.of (s5 _ _ f02)), E2 s5, hu2, by show 1 ≤ 400; decide, fun H6 q6 bl6 ol6 fl6 zs6 T6 => ?_⟩
          repeat array_get_dec
          refine LS.k_lst (by array_mem_dec) fun r2 H_r2 n_r2 s_r2 h_r2 => ?_
          repeat array_get_dec
          refine LS.rrepr (.lst (SqL.of h_r2) (.cons (dp_R' T5 (T6.sm.trans s_r2)) (.cons (dp_R' T6 s_r2) .nil))) (sm_RR (sm_R hn hu1 (by show 1 ≤ 400; decide) T5.pm) (sm_R hn hu2 (by show 1 ≤ 400; decide) T6.pm)) (by decide) (by decide) ?_
          have e1 : zs = zs5 := sorted_one (T1.pm.trans T5.pm.symm) T1.so T5.so
          have e3 : zs3 = zs6 := sorted_one (T3.pm.trans T6.pm.symm) T3.so T6.so
          rw [e1, e3]
          repeat array_get_dec
          rw [decide_eq_true rfl]
          repeat array_get_dec
          exact fin _ _ _ _ (((g2.same s5).same T6.sm).same s_r2)
        · rw [decide_eq_false hlt]
          repeat array_get_dec
          exact fin _ _ _ _ gE
    · rintro σ H2 ⟨v2, v3, v4, v5, v6, v7, v8, G2, rfl⟩
      clear G2
      repeat array_get_dec
      refine LS.k_tup (by array_mem_dec) fun t1 H_t1 n_t1 s_t1 h_t1 => ?_
      repeat array_get_dec
      refine LS.k_tup (by array_mem_dec) fun t2 H_t2 n_t2 s_t2 h_t2 => ?_
      repeat array_get_dec
      refine LS.k_tup (by array_mem_dec) fun t3 H_t3 n_t3 s_t3 h_t3 => ?_
      repeat array_get_dec
      refine LS.k_lst (by array_mem_dec) fun l1 H_l1 n_l1 s_l1 h_l1 => ?_
      repeat array_get_dec
      have E1 : ∀ {H' : Hp}, Same H_l1 H' → OpsE K H' [t1, t2, t3] endO := fun s' => ⟨rfl, fun i a o h1 h3 => by
        match i, h1, h3 with
        | 0, h1, h3 => cases h1; cases h3; exact .inr (SqT.of (s' _ _ (s_l1 _ _ (s_t3 _ _ (s_t2 _ _ h_t1)))))
        | 1, h1, h3 => cases h1; cases h3; exact .inr (SqT.of (s' _ _ (s_l1 _ _ (s_t3 _ _ h_t2))))
        | 2, h1, h3 => cases h1; cases h3; exact .inr (SqT.of (s' _ _ (s_l1 _ _ h_t3)))
        | i + 3, h1, h3 => simp at h1⟩
      refine ⟨4, l1, [t1, t2, t3], endO, endU, rfl, by decide, by decide, .inl (SqL.of h_l1), E1 (Same.refl _), end_run, by decide, fun H3 q1 n1 s3 h3 => ?_⟩
      repeat array_get_dec
      refine LS.k_lst (by array_mem_dec) fun l2 H_l2 n_l2 s_l2 h_l2 => ?_
      repeat array_get_dec
      refine ⟨1, l2, [], [], simInit 1, rfl, by decide, by decide, .inl (SqL.of h_l2), ⟨rfl, fun i a o h1 h3 => by simp at h1⟩, rfl, by decide, fun H4 q2 n2 s4 h4 => ?_⟩
      repeat array_get_dec
      refine LS.k_tup (by array_mem_dec) fun l3 H_l3 n_l3 s_l3 h_l3 => ?_
      repeat array_get_dec
      refine ⟨3, l3, [], [], simInit 3, rfl, by decide, by decide, .inr (SqT.of h_l3), ⟨rfl, fun i a o h1 h3 => by simp at h1⟩, rfl, by decide, fun H5 q3 zs n3 s5 hz hs h5 => ?_⟩
      obtain rfl : zs = [] := List.perm_nil.mp hz
      repeat array_get_dec
      refine LS.k_lst (by array_mem_dec) fun fd H_fd n_fd s_fd h_fd => ?_
      repeat array_get_dec
      have g1 := s_fd _ _ (s5 _ _ (s_l3 _ _ (s4 _ _ (s_l2 _ _ h3))))
      have g2 := s_fd _ _ (s5 _ _ (s_l3 _ _ h4))
      have g3 := s_fd _ _ h5
      repeat array_get_dec
      refine LS.k_lst (by array_mem_dec) fun x1 H_x1 n_x1 s_x1 h_x1 => ?_
      repeat array_get_dec
      refine LS.k_lst (by array_mem_dec) fun x2 H_x2 n_x2 s_x2 h_x2 => ?_
      repeat array_get_dec
      refine LS.k_lst (by array_mem_dec) fun x3 H_x3 n_x3 s_x3 h_x3 => ?_
      repeat array_get_dec
      refine LS.k_lst (by array_mem_dec) fun x4 H_x4 n_x4 s_x4 h_x4 => ?_
      repeat array_get_dec
      have sx := s_x1.trans (s_x2.trans (s_x3.trans s_x4))
      have y1 := s_x4 _ _ (s_x3 _ _ (s_x2 _ _ h_x1))
      have y2 := s_x4 _ _ (s_x3 _ _ h_x2)
      have y3 := s_x4 _ _ h_x3
      refine LS.reqd (d := .list [dB endU.books, dB (simInit 1).books, LS.dI []]) (e := .list [dB endU.books, dB (simInit 1).books, LS.dI []]) (.lst (SqL.of (sx _ _ h_fd)) (.cons (dp_b (SqL.of (sx _ _ g1))) (.cons (dp_b (SqL.of (sx _ _ g2))) (.cons (LS.dp_i (ns := []) (SqL.of (sx _ _ g3))) .nil)))) (.lst (SqL.of h_x4) (.cons (dp_b (l := endU.books) (SqL.of y1)) (.cons (dp_b (l := (simInit 1).books) (SqL.of y2)) (.cons (LS.dp_i (ns := []) (SqL.of y3)) .nil)))) (by decide +kernel) (by decide +kernel) ?_
      rw [show PyData.eqv (.list [dB endU.books, dB (simInit 1).books, LS.dI []]) (.list [dB endU.books, dB (simInit 1).books, LS.dI []]) = true by decide +kernel]
      repeat array_get_dec
      refine LS.k_tup (by array_mem_dec) fun m1 H_m1 n_m1 s_m1 h_m1 => ?_
      repeat array_get_dec
      refine LS.k_tup (by array_mem_dec) fun m2 H_m2 n_m2 s_m2 h_m2 => ?_
      repeat array_get_dec
      refine LS.k_tup (by array_mem_dec) fun m3 H_m3 n_m3 s_m3 h_m3 => ?_
      repeat array_get_dec
      refine LS.k_lst (by array_mem_dec) fun ml H_ml n_ml s_ml h_ml => ?_
      repeat array_get_dec
      refine ⟨4, ml, [m1, m2, m3], mostO, mostU, rfl, by decide, by decide, .inl (SqL.of h_ml), ⟨rfl, fun i a o h1 h3 => ?_⟩, most_run, by decide, fun H7 s7 => ?_⟩
      · match i, h1, h3 with
        | 0, h1, h3 => cases h1; cases h3; exact .inr (SqT.of (s_ml _ _ (s_m3 _ _ (s_m2 _ _ h_m1))))
        | 1, h1, h3 => cases h1; cases h3; exact .inr (SqT.of (s_ml _ _ (s_m3 _ _ h_m2)))
        | 2, h1, h3 => cases h1; cases h3; exact .inr (SqT.of (s_ml _ _ h_m3))
        | i + 3, h1, h3 => simp at h1
      repeat array_get_dec
      exact k _
end
end LP

namespace LP
open PySem L2 LT LG LQ LH LC LX
set_option maxHeartbeats 4000000 in
theorem all_mk {l : PySem.W.OpenLaw} {w : World} {K : PySem.W.Frag} {h : Heap} {mg : Str → Option Value} {fa : Addr} (X : K.In h) (G : h.Ns mainGlobals mg) (hfa : mg "law" = some (.ref fa))
    {t_MOST_SIZE : Tok}
    {t_MOST_OPERATIONS : Tok}
    {C_Shelf : Addr}
    {a_is_whole : Addr} {od_is_whole an_is_whole : Option Addr} {sl_is_whole : Array (Option Value)} {oc_is_whole kV_is_whole dc_is_whole pm_is_whole cd_is_whole ct_is_whole : Value}
    {a_is_listed : Addr} {od_is_listed an_is_listed : Option Addr} {sl_is_listed : Array (Option Value)} {oc_is_listed kV_is_listed dc_is_listed pm_is_listed cd_is_listed ct_is_listed : Value}
    {a_check_size : Addr} {od_check_size an_check_size : Option Addr} {sl_check_size : Array (Option Value)} {oc_check_size kV_check_size dc_check_size pm_check_size cd_check_size ct_check_size : Value}
    {a_Shelf_init : Addr} {od_Shelf_init an_Shelf_init : Option Addr} {sl_Shelf_init : Array (Option Value)} {oc_Shelf_init kV_Shelf_init dc_Shelf_init pm_Shelf_init cd_Shelf_init ct_Shelf_init : Value}
    {a_Shelf_can_take : Addr} {od_Shelf_can_take an_Shelf_can_take : Option Addr} {sl_Shelf_can_take : Array (Option Value)} {oc_Shelf_can_take kV_Shelf_can_take dc_Shelf_can_take pm_Shelf_can_take cd_Shelf_can_take ct_Shelf_can_take : Value}
    {a_Shelf_can_return : Addr} {od_Shelf_can_return an_Shelf_can_return : Option Addr} {sl_Shelf_can_return : Array (Option Value)} {oc_Shelf_can_return kV_Shelf_can_return dc_Shelf_can_return pm_Shelf_can_return cd_Shelf_can_return ct_Shelf_can_return : Value}
    {a_Shelf_first_gap : Addr} {od_Shelf_first_gap an_Shelf_first_gap : Option Addr} {sl_Shelf_first_gap : Array (Option Value)} {oc_Shelf_first_gap kV_Shelf_first_gap dc_Shelf_first_gap pm_Shelf_first_gap cd_Shelf_first_gap ct_Shelf_first_gap : Value}
    {a_Shelf_take_from : Addr} {od_Shelf_take_from an_Shelf_take_from : Option Addr} {sl_Shelf_take_from : Array (Option Value)} {oc_Shelf_take_from kV_Shelf_take_from dc_Shelf_take_from pm_Shelf_take_from cd_Shelf_take_from ct_Shelf_take_from : Value}
    {a_Shelf_put_back : Addr} {od_Shelf_put_back an_Shelf_put_back : Option Addr} {sl_Shelf_put_back : Array (Option Value)} {oc_Shelf_put_back kV_Shelf_put_back dc_Shelf_put_back pm_Shelf_put_back cd_Shelf_put_back ct_Shelf_put_back : Value}
    {a_can_perform : Addr} {od_can_perform an_can_perform : Option Addr} {sl_can_perform : Array (Option Value)} {oc_can_perform kV_can_perform dc_can_perform pm_can_perform cd_can_perform ct_can_perform : Value}
    {a_run_schedule : Addr} {od_run_schedule an_run_schedule : Option Addr} {sl_run_schedule : Array (Option Value)} {oc_run_schedule kV_run_schedule dc_run_schedule pm_run_schedule cd_run_schedule ct_run_schedule : Value}
    {a_is_schedule : Addr} {od_is_schedule an_is_schedule : Option Addr} {sl_is_schedule : Array (Option Value)} {oc_is_schedule kV_is_schedule dc_is_schedule pm_is_schedule cd_is_schedule ct_is_schedule : Value}
    {a_books_after : Addr} {od_books_after an_books_after : Option Addr} {sl_books_after : Array (Option Value)} {oc_books_after kV_books_after dc_books_after pm_books_after cd_books_after ct_books_after : Value}
    {a_books_out : Addr} {od_books_out an_books_out : Option Addr} {sl_books_out : Array (Option Value)} {oc_books_out kV_books_out dc_books_out pm_books_out cd_books_out ct_books_out : Value}
    {a_places_filled : Addr} {od_places_filled an_places_filled : Option Addr} {sl_places_filled : Array (Option Value)} {oc_places_filled kV_places_filled dc_places_filled pm_places_filled cd_places_filled ct_places_filled : Value}
    {a_most_out : Addr} {od_most_out an_most_out : Option Addr} {sl_most_out : Array (Option Value)} {oc_most_out kV_most_out dc_most_out pm_most_out cd_most_out ct_most_out : Value}
    {a__law_bag : Addr} {od__law_bag an__law_bag : Option Addr} {sl__law_bag : Array (Option Value)} {oc__law_bag kV__law_bag dc__law_bag pm__law_bag cd__law_bag ct__law_bag : Value}
    {a__law_stir : Addr} {od__law_stir an__law_stir : Option Addr} {sl__law_stir : Array (Option Value)} {oc__law_stir kV__law_stir dc__law_stir pm__law_stir cd__law_stir ct__law_stir : Value}
    {a__law_draw : Addr} {od__law_draw an__law_draw : Option Addr} {sl__law_draw : Array (Option Value)} {oc__law_draw kV__law_draw dc__law_draw pm__law_draw cd__law_draw ct__law_draw : Value}
    {a__law_either : Addr} {od__law_either an__law_either : Option Addr} {sl__law_either : Array (Option Value)} {oc__law_either kV__law_either dc__law_either pm__law_either cd__law_either ct__law_either : Value}
    {a__law_size : Addr} {od__law_size an__law_size : Option Addr} {sl__law_size : Array (Option Value)} {oc__law_size kV__law_size dc__law_size pm__law_size cd__law_size ct__law_size : Value}
    {a__law_can : Addr} {od__law_can an__law_can : Option Addr} {sl__law_can : Array (Option Value)} {oc__law_can kV__law_can dc__law_can pm__law_can cd__law_can ct__law_can : Value}
    {a__law_played : Addr} {od__law_played an__law_played : Option Addr} {sl__law_played : Array (Option Value)} {oc__law_played kV__law_played dc__law_played pm__law_played cd__law_played ct__law_played : Value}
    {a__law_schedule : Addr} {od__law_schedule an__law_schedule : Option Addr} {sl__law_schedule : Array (Option Value)} {oc__law_schedule kV__law_schedule dc__law_schedule pm__law_schedule cd__law_schedule ct__law_schedule : Value}
    {a__law_dressed : Addr} {od__law_dressed an__law_dressed : Option Addr} {sl__law_dressed : Array (Option Value)} {oc__law_dressed kV__law_dressed dc__law_dressed pm__law_dressed cd__law_dressed ct__law_dressed : Value}
    {a__law_told : Addr} {od__law_told an__law_told : Option Addr} {sl__law_told : Array (Option Value)} {oc__law_told kV__law_told dc__law_told pm__law_told cd__law_told ct__law_told : Value}
    {a__law_right : Addr} {od__law_right an__law_right : Option Addr} {sl__law_right : Array (Option Value)} {oc__law_right kV__law_right dc__law_right pm__law_right cd__law_right ct__law_right : Value}
    {a_law : Addr} {od_law an_law : Option Addr} {sl_law : Array (Option Value)} {oc_law kV_law dc_law pm_law cd_law ct_law : Value}
    (z_len : PySem.W.nsIn K mainGlobals "len" = some none)
    (z_range : PySem.W.nsIn K mainGlobals "range" = some none)
    (z_list : PySem.W.nsIn K mainGlobals "list" = some none)
    (z_tuple : PySem.W.nsIn K mainGlobals "tuple" = some none)
    (z_int : PySem.W.nsIn K mainGlobals "int" = some none)
    (z_bool : PySem.W.nsIn K mainGlobals "bool" = some none)
    (z_isinstance : PySem.W.nsIn K mainGlobals "isinstance" = some none)
    (z_min : PySem.W.nsIn K mainGlobals "min" = some none)
    (z_max : PySem.W.nsIn K mainGlobals "max" = some none)
    (z_enumerate : PySem.W.nsIn K mainGlobals "enumerate" = some none)
    (z_str : PySem.W.nsIn K mainGlobals "str" = some none)
    (z_sorted : PySem.W.nsIn K mainGlobals "sorted" = some none)
    (z_repr : PySem.W.nsIn K mainGlobals "repr" = some none)
    (z_MOST_SIZE : PySem.W.nsIn K mainGlobals "MOST_SIZE" = some (some (.int 200 t_MOST_SIZE)))
    (z_MOST_OPERATIONS : PySem.W.nsIn K mainGlobals "MOST_OPERATIONS" = some (some (.int 400 t_MOST_OPERATIONS)))
    (z_Shelf : PySem.W.nsIn K mainGlobals "Shelf" = some (some (.ref C_Shelf)))
    (pg_Shelf : PySem.W.plainGet K C_Shelf Str.empty = true)
    (hd_Shelf : PySem.W.hasDictIn K C_Shelf = true)
    (po_Shelf : PySem.W.plainOver K C_Shelf = true)
    (sa_Shelf : PySem.W.findIn K (.ref C_Shelf) "__setattr__" = some (some (.builtin "object.__setattr__")))
    (mk_Shelf : PySem.W.makesIn K C_Shelf = true)
    (kc_Shelf : PySem.W.keepIn K (.ref C_Shelf) = true)
    (nA_Shelf_books : PySem.W.findIn K (.ref C_Shelf) "books" = some none)
    (nA_Shelf_out : PySem.W.findIn K (.ref C_Shelf) "out" = some none)
    (z_is_whole : PySem.W.nsIn K mainGlobals "is_whole" = some (some (.ref a_is_whole)))
    (l_is_whole : K.lookup a_is_whole = some ⟨oc_is_whole, od_is_whole, .func (PySem.W.fnOf "is_whole" "is_whole" (defArgs s_is_whole) (defBody s_is_whole) (defScope s_is_whole) .none kV_is_whole dc_is_whole pm_is_whole an_is_whole cd_is_whole ct_is_whole), sl_is_whole⟩)
    (c_is_whole : PySem.W.codeIn K cd_is_whole "is_whole" = true)
    (k_is_whole : PySem.W.keepIn K (.ref a_is_whole) = true)
    (z_is_listed : PySem.W.nsIn K mainGlobals "is_listed" = some (some (.ref a_is_listed)))
    (l_is_listed : K.lookup a_is_listed = some ⟨oc_is_listed, od_is_listed, .func (PySem.W.fnOf "is_listed" "is_listed" (defArgs s_is_listed) (defBody s_is_listed) (defScope s_is_listed) .none kV_is_listed dc_is_listed pm_is_listed an_is_listed cd_is_listed ct_is_listed), sl_is_listed⟩)
    (c_is_listed : PySem.W.codeIn K cd_is_listed "is_listed" = true)
    (k_is_listed : PySem.W.keepIn K (.ref a_is_listed) = true)
    (z_check_size : PySem.W.nsIn K mainGlobals "check_size" = some (some (.ref a_check_size)))
    (l_check_size : K.lookup a_check_size = some ⟨oc_check_size, od_check_size, .func (PySem.W.fnOf "check_size" "check_size" (defArgs s_check_size) (defBody s_check_size) (defScope s_check_size) .none kV_check_size dc_check_size pm_check_size an_check_size cd_check_size ct_check_size), sl_check_size⟩)
    (c_check_size : PySem.W.codeIn K cd_check_size "check_size" = true)
    (k_check_size : PySem.W.keepIn K (.ref a_check_size) = true)
    (z_Shelf_init : PySem.W.findIn K (.ref C_Shelf) "__init__" = some (some (.ref a_Shelf_init)))
    (i_Shelf_init : PySem.W.isFn K (.ref a_Shelf_init) = true)
    (l_Shelf_init : K.lookup a_Shelf_init = some ⟨oc_Shelf_init, od_Shelf_init, .func (PySem.W.fnOf "__init__" "Shelf.__init__" (defArgs s_Shelf_init) (defBody s_Shelf_init) (defScope s_Shelf_init) .none kV_Shelf_init dc_Shelf_init pm_Shelf_init an_Shelf_init cd_Shelf_init ct_Shelf_init), sl_Shelf_init⟩)
    (c_Shelf_init : PySem.W.codeIn K cd_Shelf_init "Shelf.__init__" = true)
    (k_Shelf_init : PySem.W.keepIn K (.ref a_Shelf_init) = true)
    (z_Shelf_can_take : PySem.W.findIn K (.ref C_Shelf) "can_take" = some (some (.ref a_Shelf_can_take)))
    (i_Shelf_can_take : PySem.W.isFn K (.ref a_Shelf_can_take) = true)
    (l_Shelf_can_take : K.lookup a_Shelf_can_take = some ⟨oc_Shelf_can_take, od_Shelf_can_take, .func (PySem.W.fnOf "can_take" "Shelf.can_take" (defArgs s_Shelf_can_take) (defBody s_Shelf_can_take) (defScope s_Shelf_can_take) .none kV_Shelf_can_take dc_Shelf_can_take pm_Shelf_can_take an_Shelf_can_take cd_Shelf_can_take ct_Shelf_can_take), sl_Shelf_can_take⟩)
    (c_Shelf_can_take : PySem.W.codeIn K cd_Shelf_can_take "Shelf.can_take" = true)
    (k_Shelf_can_take : PySem.W.keepIn K (.ref a_Shelf_can_take) = true)
    (z_Shelf_can_return : PySem.W.findIn K (.ref C_Shelf) "can_return" = some (some (.ref a_Shelf_can_return)))
    (i_Shelf_can_return : PySem.W.isFn K (.ref a_Shelf_can_return) = true)
    (l_Shelf_can_return : K.lookup a_Shelf_can_return = some ⟨oc_Shelf_can_return, od_Shelf_can_return, .func (PySem.W.fnOf "can_return" "Shelf.can_return" (defArgs s_Shelf_can_return) (defBody s_Shelf_can_return) (defScope s_Shelf_can_return) .none kV_Shelf_can_return dc_Shelf_can_return pm_Shelf_can_return an_Shelf_can_return cd_Shelf_can_return ct_Shelf_can_return), sl_Shelf_can_return⟩)
    (c_Shelf_can_return : PySem.W.codeIn K cd_Shelf_can_return "Shelf.can_return" = true)
    (k_Shelf_can_return : PySem.W.keepIn K (.ref a_Shelf_can_return) = true)
    (z_Shelf_first_gap : PySem.W.findIn K (.ref C_Shelf) "first_gap" = some (some (.ref a_Shelf_first_gap)))
    (i_Shelf_first_gap : PySem.W.isFn K (.ref a_Shelf_first_gap) = true)
    (l_Shelf_first_gap : K.lookup a_Shelf_first_gap = some ⟨oc_Shelf_first_gap, od_Shelf_first_gap, .func (PySem.W.fnOf "first_gap" "Shelf.first_gap" (defArgs s_Shelf_first_gap) (defBody s_Shelf_first_gap) (defScope s_Shelf_first_gap) .none kV_Shelf_first_gap dc_Shelf_first_gap pm_Shelf_first_gap an_Shelf_first_gap cd_Shelf_first_gap ct_Shelf_first_gap), sl_Shelf_first_gap⟩)
    (c_Shelf_first_gap : PySem.W.codeIn K cd_Shelf_first_gap "Shelf.first_gap" = true)
    (k_Shelf_first_gap : PySem.W.keepIn K (.ref a_Shelf_first_gap) = true)
    (z_Shelf_take_from : PySem.W.findIn K (.ref C_Shelf) "take_from" = some (some (.ref a_Shelf_take_from)))
    (i_Shelf_take_from : PySem.W.isFn K (.ref a_Shelf_take_from) = true)
    (l_Shelf_take_from : K.lookup a_Shelf_take_from = some ⟨oc_Shelf_take_from, od_Shelf_take_from, .func (PySem.W.fnOf "take_from" "Shelf.take_from" (defArgs s_Shelf_take_from) (defBody s_Shelf_take_from) (defScope s_Shelf_take_from) .none kV_Shelf_take_from dc_Shelf_take_from pm_Shelf_take_from an_Shelf_take_from cd_Shelf_take_from ct_Shelf_take_from), sl_Shelf_take_from⟩)
    (c_Shelf_take_from : PySem.W.codeIn K cd_Shelf_take_from "Shelf.take_from" = true)
    (k_Shelf_take_from : PySem.W.keepIn K (.ref a_Shelf_take_from) = true)
    (z_Shelf_put_back : PySem.W.findIn K (.ref C_Shelf) "put_back" = some (some (.ref a_Shelf_put_back)))
    (i_Shelf_put_back : PySem.W.isFn K (.ref a_Shelf_put_back) = true)
    (l_Shelf_put_back : K.lookup a_Shelf_put_back = some ⟨oc_Shelf_put_back, od_Shelf_put_back, .func (PySem.W.fnOf "put_back" "Shelf.put_back" (defArgs s_Shelf_put_back) (defBody s_Shelf_put_back) (defScope s_Shelf_put_back) .none kV_Shelf_put_back dc_Shelf_put_back pm_Shelf_put_back an_Shelf_put_back cd_Shelf_put_back ct_Shelf_put_back), sl_Shelf_put_back⟩)
    (c_Shelf_put_back : PySem.W.codeIn K cd_Shelf_put_back "Shelf.put_back" = true)
    (k_Shelf_put_back : PySem.W.keepIn K (.ref a_Shelf_put_back) = true)
    (z_can_perform : PySem.W.nsIn K mainGlobals "can_perform" = some (some (.ref a_can_perform)))
    (l_can_perform : K.lookup a_can_perform = some ⟨oc_can_perform, od_can_perform, .func (PySem.W.fnOf "can_perform" "can_perform" (defArgs s_can_perform) (defBody s_can_perform) (defScope s_can_perform) .none kV_can_perform dc_can_perform pm_can_perform an_can_perform cd_can_perform ct_can_perform), sl_can_perform⟩)
    (c_can_perform : PySem.W.codeIn K cd_can_perform "can_perform" = true)
    (k_can_perform : PySem.W.keepIn K (.ref a_can_perform) = true)
    (z_run_schedule : PySem.W.nsIn K mainGlobals "run_schedule" = some (some (.ref a_run_schedule)))
    (l_run_schedule : K.lookup a_run_schedule = some ⟨oc_run_schedule, od_run_schedule, .func (PySem.W.fnOf "run_schedule" "run_schedule" (defArgs s_run_schedule) (defBody s_run_schedule) (defScope s_run_schedule) .none kV_run_schedule dc_run_schedule pm_run_schedule an_run_schedule cd_run_schedule ct_run_schedule), sl_run_schedule⟩)
    (c_run_schedule : PySem.W.codeIn K cd_run_schedule "run_schedule" = true)
    (k_run_schedule : PySem.W.keepIn K (.ref a_run_schedule) = true)
    (z_is_schedule : PySem.W.nsIn K mainGlobals "is_schedule" = some (some (.ref a_is_schedule)))
    (l_is_schedule : K.lookup a_is_schedule = some ⟨oc_is_schedule, od_is_schedule, .func (PySem.W.fnOf "is_schedule" "is_schedule" (defArgs s_is_schedule) (defBody s_is_schedule) (defScope s_is_schedule) .none kV_is_schedule dc_is_schedule pm_is_schedule an_is_schedule cd_is_schedule ct_is_schedule), sl_is_schedule⟩)
    (c_is_schedule : PySem.W.codeIn K cd_is_schedule "is_schedule" = true)
    (k_is_schedule : PySem.W.keepIn K (.ref a_is_schedule) = true)
    (z_books_after : PySem.W.nsIn K mainGlobals "books_after" = some (some (.ref a_books_after)))
    (l_books_after : K.lookup a_books_after = some ⟨oc_books_after, od_books_after, .func (PySem.W.fnOf "books_after" "books_after" (defArgs s_books_after) (defBody s_books_after) (defScope s_books_after) .none kV_books_after dc_books_after pm_books_after an_books_after cd_books_after ct_books_after), sl_books_after⟩)
    (c_books_after : PySem.W.codeIn K cd_books_after "books_after" = true)
    (k_books_after : PySem.W.keepIn K (.ref a_books_after) = true)
    (z_books_out : PySem.W.nsIn K mainGlobals "books_out" = some (some (.ref a_books_out)))
    (l_books_out : K.lookup a_books_out = some ⟨oc_books_out, od_books_out, .func (PySem.W.fnOf "books_out" "books_out" (defArgs s_books_out) (defBody s_books_out) (defScope s_books_out) .none kV_books_out dc_books_out pm_books_out an_books_out cd_books_out ct_books_out), sl_books_out⟩)
    (c_books_out : PySem.W.codeIn K cd_books_out "books_out" = true)
    (k_books_out : PySem.W.keepIn K (.ref a_books_out) = true)
    (z_places_filled : PySem.W.nsIn K mainGlobals "places_filled" = some (some (.ref a_places_filled)))
    (l_places_filled : K.lookup a_places_filled = some ⟨oc_places_filled, od_places_filled, .func (PySem.W.fnOf "places_filled" "places_filled" (defArgs s_places_filled) (defBody s_places_filled) (defScope s_places_filled) .none kV_places_filled dc_places_filled pm_places_filled an_places_filled cd_places_filled ct_places_filled), sl_places_filled⟩)
    (c_places_filled : PySem.W.codeIn K cd_places_filled "places_filled" = true)
    (k_places_filled : PySem.W.keepIn K (.ref a_places_filled) = true)
    (z_most_out : PySem.W.nsIn K mainGlobals "most_out" = some (some (.ref a_most_out)))
    (l_most_out : K.lookup a_most_out = some ⟨oc_most_out, od_most_out, .func (PySem.W.fnOf "most_out" "most_out" (defArgs s_most_out) (defBody s_most_out) (defScope s_most_out) .none kV_most_out dc_most_out pm_most_out an_most_out cd_most_out ct_most_out), sl_most_out⟩)
    (c_most_out : PySem.W.codeIn K cd_most_out "most_out" = true)
    (k_most_out : PySem.W.keepIn K (.ref a_most_out) = true)
    (z__law_bag : PySem.W.nsIn K mainGlobals "_law_bag" = some (some (.ref a__law_bag)))
    (l__law_bag : K.lookup a__law_bag = some ⟨oc__law_bag, od__law_bag, .func (PySem.W.fnOf "_law_bag" "_law_bag" (defArgs s__law_bag) (defBody s__law_bag) (defScope s__law_bag) .none kV__law_bag dc__law_bag pm__law_bag an__law_bag cd__law_bag ct__law_bag), sl__law_bag⟩)
    (c__law_bag : PySem.W.codeIn K cd__law_bag "_law_bag" = true)
    (k__law_bag : PySem.W.keepIn K (.ref a__law_bag) = true)
    (z__law_stir : PySem.W.nsIn K mainGlobals "_law_stir" = some (some (.ref a__law_stir)))
    (l__law_stir : K.lookup a__law_stir = some ⟨oc__law_stir, od__law_stir, .func (PySem.W.fnOf "_law_stir" "_law_stir" (defArgs s__law_stir) (defBody s__law_stir) (defScope s__law_stir) .none kV__law_stir dc__law_stir pm__law_stir an__law_stir cd__law_stir ct__law_stir), sl__law_stir⟩)
    (c__law_stir : PySem.W.codeIn K cd__law_stir "_law_stir" = true)
    (k__law_stir : PySem.W.keepIn K (.ref a__law_stir) = true)
    (z__law_draw : PySem.W.nsIn K mainGlobals "_law_draw" = some (some (.ref a__law_draw)))
    (l__law_draw : K.lookup a__law_draw = some ⟨oc__law_draw, od__law_draw, .func (PySem.W.fnOf "_law_draw" "_law_draw" (defArgs s__law_draw) (defBody s__law_draw) (defScope s__law_draw) .none kV__law_draw dc__law_draw pm__law_draw an__law_draw cd__law_draw ct__law_draw), sl__law_draw⟩)
    (c__law_draw : PySem.W.codeIn K cd__law_draw "_law_draw" = true)
    (k__law_draw : PySem.W.keepIn K (.ref a__law_draw) = true)
    (z__law_either : PySem.W.nsIn K mainGlobals "_law_either" = some (some (.ref a__law_either)))
    (l__law_either : K.lookup a__law_either = some ⟨oc__law_either, od__law_either, .func (PySem.W.fnOf "_law_either" "_law_either" (defArgs s__law_either) (defBody s__law_either) (defScope s__law_either) .none kV__law_either dc__law_either pm__law_either an__law_either cd__law_either ct__law_either), sl__law_either⟩)
    (c__law_either : PySem.W.codeIn K cd__law_either "_law_either" = true)
    (k__law_either : PySem.W.keepIn K (.ref a__law_either) = true)
    (z__law_size : PySem.W.nsIn K mainGlobals "_law_size" = some (some (.ref a__law_size)))
    (l__law_size : K.lookup a__law_size = some ⟨oc__law_size, od__law_size, .func (PySem.W.fnOf "_law_size" "_law_size" (defArgs s__law_size) (defBody s__law_size) (defScope s__law_size) .none kV__law_size dc__law_size pm__law_size an__law_size cd__law_size ct__law_size), sl__law_size⟩)
    (c__law_size : PySem.W.codeIn K cd__law_size "_law_size" = true)
    (k__law_size : PySem.W.keepIn K (.ref a__law_size) = true)
    (z__law_can : PySem.W.nsIn K mainGlobals "_law_can" = some (some (.ref a__law_can)))
    (l__law_can : K.lookup a__law_can = some ⟨oc__law_can, od__law_can, .func (PySem.W.fnOf "_law_can" "_law_can" (defArgs s__law_can) (defBody s__law_can) (defScope s__law_can) .none kV__law_can dc__law_can pm__law_can an__law_can cd__law_can ct__law_can), sl__law_can⟩)
    (c__law_can : PySem.W.codeIn K cd__law_can "_law_can" = true)
    (k__law_can : PySem.W.keepIn K (.ref a__law_can) = true)
    (z__law_played : PySem.W.nsIn K mainGlobals "_law_played" = some (some (.ref a__law_played)))
    (l__law_played : K.lookup a__law_played = some ⟨oc__law_played, od__law_played, .func (PySem.W.fnOf "_law_played" "_law_played" (defArgs s__law_played) (defBody s__law_played) (defScope s__law_played) .none kV__law_played dc__law_played pm__law_played an__law_played cd__law_played ct__law_played), sl__law_played⟩)
    (c__law_played : PySem.W.codeIn K cd__law_played "_law_played" = true)
    (k__law_played : PySem.W.keepIn K (.ref a__law_played) = true)
    (z__law_schedule : PySem.W.nsIn K mainGlobals "_law_schedule" = some (some (.ref a__law_schedule)))
    (l__law_schedule : K.lookup a__law_schedule = some ⟨oc__law_schedule, od__law_schedule, .func (PySem.W.fnOf "_law_schedule" "_law_schedule" (defArgs s__law_schedule) (defBody s__law_schedule) (defScope s__law_schedule) .none kV__law_schedule dc__law_schedule pm__law_schedule an__law_schedule cd__law_schedule ct__law_schedule), sl__law_schedule⟩)
    (c__law_schedule : PySem.W.codeIn K cd__law_schedule "_law_schedule" = true)
    (k__law_schedule : PySem.W.keepIn K (.ref a__law_schedule) = true)
    (z__law_dressed : PySem.W.nsIn K mainGlobals "_law_dressed" = some (some (.ref a__law_dressed)))
    (l__law_dressed : K.lookup a__law_dressed = some ⟨oc__law_dressed, od__law_dressed, .func (PySem.W.fnOf "_law_dressed" "_law_dressed" (defArgs s__law_dressed) (defBody s__law_dressed) (defScope s__law_dressed) .none kV__law_dressed dc__law_dressed pm__law_dressed an__law_dressed cd__law_dressed ct__law_dressed), sl__law_dressed⟩)
    (c__law_dressed : PySem.W.codeIn K cd__law_dressed "_law_dressed" = true)
    (k__law_dressed : PySem.W.keepIn K (.ref a__law_dressed) = true)
    (z__law_told : PySem.W.nsIn K mainGlobals "_law_told" = some (some (.ref a__law_told)))
    (l__law_told : K.lookup a__law_told = some ⟨oc__law_told, od__law_told, .func (PySem.W.fnOf "_law_told" "_law_told" (defArgs s__law_told) (defBody s__law_told) (defScope s__law_told) .none kV__law_told dc__law_told pm__law_told an__law_told cd__law_told ct__law_told), sl__law_told⟩)
    (c__law_told : PySem.W.codeIn K cd__law_told "_law_told" = true)
    (k__law_told : PySem.W.keepIn K (.ref a__law_told) = true)
    (z__law_right : PySem.W.nsIn K mainGlobals "_law_right" = some (some (.ref a__law_right)))
    (l__law_right : K.lookup a__law_right = some ⟨oc__law_right, od__law_right, .func (PySem.W.fnOf "_law_right" "_law_right" (defArgs s__law_right) (defBody s__law_right) (defScope s__law_right) .none kV__law_right dc__law_right pm__law_right an__law_right cd__law_right ct__law_right), sl__law_right⟩)
    (c__law_right : PySem.W.codeIn K cd__law_right "_law_right" = true)
    (k__law_right : PySem.W.keepIn K (.ref a__law_right) = true)
    (z_law : PySem.W.nsIn K mainGlobals "law" = some (some (.ref a_law)))
    (l_law : K.lookup a_law = some ⟨oc_law, od_law, .func (PySem.W.fnOf "law" "law" (defArgs s_law) (defBody s_law) (defScope s_law) .none kV_law dc_law pm_law an_law cd_law ct_law), sl_law⟩)
    (c_law : PySem.W.codeIn K cd_law "law" = true)
    (k_law : PySem.W.keepIn K (.ref a_law) = true) :
    ∃ fd : FuncData, (∀ (s : Shared) (v : Value), BindsTo s fd ⟨[v], []⟩ [("script", v)]) ∧ ∀ base : Heap, K.In base → base.Ns mainGlobals mg → LG.FnG l.prog w K mg base CX0 9 fa fd ["script"] (sp_law K) := by
  have e0 := hfa.symm.trans (PySem.W.mg_of X G z_law)
  cases e0
  have F_is_whole := fun_mk (st := s_is_whole) l_is_whole c_is_whole k_is_whole
  have B_is_whole := F_is_whole.binds (ps := ["value"]) fun _ _ _ _ _ _ us hl => match us, hl with | [_], _ => rfl
  have F_is_listed := fun_mk (st := s_is_listed) l_is_listed c_is_listed k_is_listed
  have B_is_listed := F_is_listed.binds (ps := ["value"]) fun _ _ _ _ _ _ us hl => match us, hl with | [_], _ => rfl
  have F_check_size := fun_mk (st := s_check_size) l_check_size c_check_size k_check_size
  have B_check_size := F_check_size.binds (ps := ["size"]) fun _ _ _ _ _ _ us hl => match us, hl with | [_], _ => rfl
  have F_Shelf_init := fun_mk (st := s_Shelf_init) l_Shelf_init c_Shelf_init k_Shelf_init
  have B_Shelf_init := F_Shelf_init.binds (ps := ["self", "size"]) fun _ _ _ _ _ _ us hl => match us, hl with | [_, _], _ => rfl
  have F_Shelf_can_take := fun_mk (st := s_Shelf_can_take) l_Shelf_can_take c_Shelf_can_take k_Shelf_can_take
  have B_Shelf_can_take := F_Shelf_can_take.binds (ps := ["self", "place"]) fun _ _ _ _ _ _ us hl => match us, hl with | [_, _], _ => rfl
  have F_Shelf_can_return := fun_mk (st := s_Shelf_can_return) l_Shelf_can_return c_Shelf_can_return k_Shelf_can_return
  have B_Shelf_can_return := F_Shelf_can_return.binds (ps := ["self", "book"]) fun _ _ _ _ _ _ us hl => match us, hl with | [_, _], _ => rfl
  have F_Shelf_first_gap := fun_mk (st := s_Shelf_first_gap) l_Shelf_first_gap c_Shelf_first_gap k_Shelf_first_gap
  have B_Shelf_first_gap := F_Shelf_first_gap.binds (ps := ["self"]) fun _ _ _ _ _ _ us hl => match us, hl with | [_], _ => rfl
  have F_Shelf_take_from := fun_mk (st := s_Shelf_take_from) l_Shelf_take_from c_Shelf_take_from k_Shelf_take_from
  have B_Shelf_take_from := F_Shelf_take_from.binds (ps := ["self", "place"]) fun _ _ _ _ _ _ us hl => match us, hl with | [_, _], _ => rfl
  have F_Shelf_put_back := fun_mk (st := s_Shelf_put_back) l_Shelf_put_back c_Shelf_put_back k_Shelf_put_back
  have B_Shelf_put_back := F_Shelf_put_back.binds (ps := ["self", "book"]) fun _ _ _ _ _ _ us hl => match us, hl with | [_, _], _ => rfl
  have F_can_perform := fun_mk (st := s_can_perform) l_can_perform c_can_perform k_can_perform
  have B_can_perform := F_can_perform.binds (ps := ["shelf", "value"]) fun _ _ _ _ _ _ us hl => match us, hl with | [_, _], _ => rfl
  have F_run_schedule := fun_mk (st := s_run_schedule) l_run_schedule c_run_schedule k_run_schedule
  have B_run_schedule := F_run_schedule.binds (ps := ["size", "schedule"]) fun _ _ _ _ _ _ us hl => match us, hl with | [_, _], _ => rfl
  have F_is_schedule := fun_mk (st := s_is_schedule) l_is_schedule c_is_schedule k_is_schedule
  have B_is_schedule := F_is_schedule.binds (ps := ["size", "value"]) fun _ _ _ _ _ _ us hl => match us, hl with | [_, _], _ => rfl
  have F_books_after := fun_mk (st := s_books_after) l_books_after c_books_after k_books_after
  have B_books_after := F_books_after.binds (ps := ["size", "schedule"]) fun _ _ _ _ _ _ us hl => match us, hl with | [_, _], _ => rfl
  have F_books_out := fun_mk (st := s_books_out) l_books_out c_books_out k_books_out
  have B_books_out := F_books_out.binds (ps := ["size", "schedule"]) fun _ _ _ _ _ _ us hl => match us, hl with | [_, _], _ => rfl
  have F_places_filled := fun_mk (st := s_places_filled) l_places_filled c_places_filled k_places_filled
  have B_places_filled := F_places_filled.binds (ps := ["size", "schedule"]) fun _ _ _ _ _ _ us hl => match us, hl with | [_, _], _ => rfl
  have F_most_out := fun_mk (st := s_most_out) l_most_out c_most_out k_most_out
  have B_most_out := F_most_out.binds (ps := ["size", "schedule"]) fun _ _ _ _ _ _ us hl => match us, hl with | [_, _], _ => rfl
  have F__law_bag := fun_mk (st := s__law_bag) l__law_bag c__law_bag k__law_bag
  have B__law_bag := F__law_bag.binds (ps := ["script"]) fun _ _ _ _ _ _ us hl => match us, hl with | [_], _ => rfl
  have F__law_stir := fun_mk (st := s__law_stir) l__law_stir c__law_stir k__law_stir
  have B__law_stir := F__law_stir.binds (ps := ["number", "place"]) fun _ _ _ _ _ _ us hl => match us, hl with | [_, _], _ => rfl
  have F__law_draw := fun_mk (st := s__law_draw) l__law_draw c__law_draw k__law_draw
  have B__law_draw := F__law_draw.binds (ps := ["bag", "bound"]) fun _ _ _ _ _ _ us hl => match us, hl with | [_, _], _ => rfl
  have F__law_either := fun_mk (st := s__law_either) l__law_either c__law_either k__law_either
  have B__law_either := F__law_either.binds (ps := ["bag", "items"]) fun _ _ _ _ _ _ us hl => match us, hl with | [_, _], _ => rfl
  have F__law_size := fun_mk (st := s__law_size) l__law_size c__law_size k__law_size
  have B__law_size := F__law_size.binds (ps := ["bag"]) fun _ _ _ _ _ _ us hl => match us, hl with | [_], _ => rfl
  have F__law_can := fun_mk (st := s__law_can) l__law_can c__law_can k__law_can
  have B__law_can := F__law_can.binds (ps := ["books", "out", "one"]) fun _ _ _ _ _ _ us hl => match us, hl with | [_, _, _], _ => rfl
  have F__law_played := fun_mk (st := s__law_played) l__law_played c__law_played k__law_played
  have B__law_played := F__law_played.binds (ps := ["size", "rows"]) fun _ _ _ _ _ _ us hl => match us, hl with | [_, _], _ => rfl
  have F__law_schedule := fun_mk (st := s__law_schedule) l__law_schedule c__law_schedule k__law_schedule
  have B__law_schedule := F__law_schedule.binds (ps := ["bag", "size", "most"]) fun _ _ _ _ _ _ us hl => match us, hl with | [_, _, _], _ => rfl
  have F__law_dressed := fun_mk (st := s__law_dressed) l__law_dressed c__law_dressed k__law_dressed
  have B__law_dressed := F__law_dressed.binds (ps := ["bag", "rows"]) fun _ _ _ _ _ _ us hl => match us, hl with | [_, _], _ => rfl
  have F__law_told := fun_mk (st := s__law_told) l__law_told c__law_told k__law_told
  have B__law_told := F__law_told.binds (ps := ["size", "rows"]) fun _ _ _ _ _ _ us hl => match us, hl with | [_, _], _ => rfl
  have F__law_right := fun_mk (st := s__law_right) l__law_right c__law_right k__law_right
  have B__law_right := F__law_right.binds (ps := ["bag", "size", "rows"]) fun _ _ _ _ _ _ us hl => match us, hl with | [_, _, _], _ => rfl
  have F_law := fun_mk (st := s_law) l_law c_law k_law
  have B_law := F_law.binds (ps := ["script"]) fun _ _ _ _ _ _ us hl => match us, hl with | [_], _ => rfl
  refine ⟨PySem.W.fnOf "law" "law" (defArgs s_law) (defBody s_law) (defScope s_law) .none kV_law dc_law pm_law an_law cd_law ct_law, fun s v => .of_eq rfl, fun base _ _ => ?_⟩
  exact ok_law (({
    n_len := PySem.W.mg_none_of X G z_len,
    n_range := PySem.W.mg_none_of X G z_range,
    n_list := PySem.W.mg_none_of X G z_list,
    n_tuple := PySem.W.mg_none_of X G z_tuple,
    n_int := PySem.W.mg_none_of X G z_int,
    n_bool := PySem.W.mg_none_of X G z_bool,
    n_isinstance := PySem.W.mg_none_of X G z_isinstance,
    n_min := PySem.W.mg_none_of X G z_min,
    n_max := PySem.W.mg_none_of X G z_max,
    n_enumerate := PySem.W.mg_none_of X G z_enumerate,
    n_str := PySem.W.mg_none_of X G z_str,
    n_sorted := PySem.W.mg_none_of X G z_sorted,
    n_repr := PySem.W.mg_none_of X G z_repr,
    t_MOST_SIZE := t_MOST_SIZE, g_MOST_SIZE := PySem.W.mg_of X G z_MOST_SIZE,
    t_MOST_OPERATIONS := t_MOST_OPERATIONS, g_MOST_OPERATIONS := PySem.W.mg_of X G z_MOST_OPERATIONS,
    nA_Shelf_books := nA_Shelf_books,
    nA_Shelf_out := nA_Shelf_out,
    C_Shelf := C_Shelf, g_Shelf := PySem.W.mg_of X G z_Shelf, cl_Shelf := ⟨pg_Shelf, hd_Shelf, po_Shelf, sa_Shelf⟩,
    a_is_whole := a_is_whole, d_is_whole := _, f_is_whole := F_is_whole, b_is_whole := B_is_whole, g_is_whole := PySem.W.mg_of X G z_is_whole,
    a_is_listed := a_is_listed, d_is_listed := _, f_is_listed := F_is_listed, b_is_listed := B_is_listed, g_is_listed := PySem.W.mg_of X G z_is_listed,
    a_check_size := a_check_size, d_check_size := _, f_check_size := F_check_size, b_check_size := B_check_size, g_check_size := PySem.W.mg_of X G z_check_size,
    a_Shelf_init := a_Shelf_init, d_Shelf_init := _, f_Shelf_init := F_Shelf_init, b_Shelf_init := B_Shelf_init, mk_Shelf := ⟨mk_Shelf, z_Shelf_init, i_Shelf_init, kc_Shelf⟩,
    a_Shelf_can_take := a_Shelf_can_take, d_Shelf_can_take := _, f_Shelf_can_take := F_Shelf_can_take, b_Shelf_can_take := B_Shelf_can_take, m_Shelf_can_take := ⟨z_Shelf_can_take, i_Shelf_can_take, k_Shelf_can_take⟩,
    a_Shelf_can_return := a_Shelf_can_return, d_Shelf_can_return := _, f_Shelf_can_return := F_Shelf_can_return, b_Shelf_can_return := B_Shelf_can_return, m_Shelf_can_return := ⟨z_Shelf_can_return, i_Shelf_can_return, k_Shelf_can_return⟩,
    a_Shelf_first_gap := a_Shelf_first_gap, d_Shelf_first_gap := _, f_Shelf_first_gap := F_Shelf_first_gap, b_Shelf_first_gap := B_Shelf_first_gap, m_Shelf_first_gap := ⟨z_Shelf_first_gap, i_Shelf_first_gap, k_Shelf_first_gap⟩,
    a_Shelf_take_from := a_Shelf_take_from, d_Shelf_take_from := _, f_Shelf_take_from := F_Shelf_take_from, b_Shelf_take_from := B_Shelf_take_from, m_Shelf_take_from := ⟨z_Shelf_take_from, i_Shelf_take_from, k_Shelf_take_from⟩,
    a_Shelf_put_back := a_Shelf_put_back, d_Shelf_put_back := _, f_Shelf_put_back := F_Shelf_put_back, b_Shelf_put_back := B_Shelf_put_back, m_Shelf_put_back := ⟨z_Shelf_put_back, i_Shelf_put_back, k_Shelf_put_back⟩,
    a_can_perform := a_can_perform, d_can_perform := _, f_can_perform := F_can_perform, b_can_perform := B_can_perform, g_can_perform := PySem.W.mg_of X G z_can_perform,
    a_run_schedule := a_run_schedule, d_run_schedule := _, f_run_schedule := F_run_schedule, b_run_schedule := B_run_schedule, g_run_schedule := PySem.W.mg_of X G z_run_schedule,
    a_is_schedule := a_is_schedule, d_is_schedule := _, f_is_schedule := F_is_schedule, b_is_schedule := B_is_schedule, g_is_schedule := PySem.W.mg_of X G z_is_schedule,
    a_books_after := a_books_after, d_books_after := _, f_books_after := F_books_after, b_books_after := B_books_after, g_books_after := PySem.W.mg_of X G z_books_after,
    a_books_out := a_books_out, d_books_out := _, f_books_out := F_books_out, b_books_out := B_books_out, g_books_out := PySem.W.mg_of X G z_books_out,
    a_places_filled := a_places_filled, d_places_filled := _, f_places_filled := F_places_filled, b_places_filled := B_places_filled, g_places_filled := PySem.W.mg_of X G z_places_filled,
    a_most_out := a_most_out, d_most_out := _, f_most_out := F_most_out, b_most_out := B_most_out, g_most_out := PySem.W.mg_of X G z_most_out,
    a__law_bag := a__law_bag, d__law_bag := _, f__law_bag := F__law_bag, b__law_bag := B__law_bag, g__law_bag := PySem.W.mg_of X G z__law_bag,
    a__law_stir := a__law_stir, d__law_stir := _, f__law_stir := F__law_stir, b__law_stir := B__law_stir, g__law_stir := PySem.W.mg_of X G z__law_stir,
    a__law_draw := a__law_draw, d__law_draw := _, f__law_draw := F__law_draw, b__law_draw := B__law_draw, g__law_draw := PySem.W.mg_of X G z__law_draw,
    a__law_either := a__law_either, d__law_either := _, f__law_either := F__law_either, b__law_either := B__law_either, g__law_either := PySem.W.mg_of X G z__law_either,
    a__law_size := a__law_size, d__law_size := _, f__law_size := F__law_size, b__law_size := B__law_size, g__law_size := PySem.W.mg_of X G z__law_size,
    a__law_can := a__law_can, d__law_can := _, f__law_can := F__law_can, b__law_can := B__law_can, g__law_can := PySem.W.mg_of X G z__law_can,
    a__law_played := a__law_played, d__law_played := _, f__law_played := F__law_played, b__law_played := B__law_played, g__law_played := PySem.W.mg_of X G z__law_played,
    a__law_schedule := a__law_schedule, d__law_schedule := _, f__law_schedule := F__law_schedule, b__law_schedule := B__law_schedule, g__law_schedule := PySem.W.mg_of X G z__law_schedule,
    a__law_dressed := a__law_dressed, d__law_dressed := _, f__law_dressed := F__law_dressed, b__law_dressed := B__law_dressed, g__law_dressed := PySem.W.mg_of X G z__law_dressed,
    a__law_told := a__law_told, d__law_told := _, f__law_told := F__law_told, b__law_told := B__law_told, g__law_told := PySem.W.mg_of X G z__law_told,
    a__law_right := a__law_right, d__law_right := _, f__law_right := F__law_right, b__law_right := B__law_right, g__law_right := PySem.W.mg_of X G z__law_right,
    a_law := fa, d_law := _, f_law := F_law, b_law := B_law, g_law := PySem.W.mg_of X G z_law } : Env K mg))
theorem walk {l : PySem.W.OpenLaw} {q : Program} {loose : List Str} {XP : (Str → Option Value) → Heap → Prop} {YP : World → Heap → Prop} {d : DefRec} {K : Params → PySem.W.Frag} (hn : l.most = some 63) (hdf : d.params.defaults = [])
    (hY : ∀ (w : World) (h : Heap), YP w h → (K w.params).In h)
    (F : ∀ (w : World) (mg : Str → Option Value) (fa : Addr) (h : Heap), (K w.params).In h → h.Ns mainGlobals mg → mg d.name = some (.ref fa) →
      ∃ fd : FuncData, (∀ (s : Shared) (u : Value), BindsTo s fd ⟨[u], []⟩ [("script", u)]) ∧ ∀ base : Heap, (K w.params).In base → base.Ns mainGlobals mg → LG.FnG l.prog w (K w.params) mg base CX0 9 fa fd ["script"] (sp_law (K w.params))) :
    PySem.W.WalkO q loose XP YP l.row.toRowW d [] (fun f vs => PySem.call f vs) :=
  LG.walk_ofG (n := 63) (k := 9) (x := "script") (sp := sp_law) hn (by decide) hdf ⟨rfl, by decide, by decide⟩ hY F (fun _ _ a ns hl _ hS => ⟨a, ns, rfl, hS, hl, fun _ => rfl⟩)
end LP
open PySem PySem.W PyProof.Rows
set_option maxRecDepth 100000 in
set_option maxHeartbeats 0 in
theorem PySem.Challenge.cw_leftreturn_k01_schedules_performed_holds : PySem.Challenge.rw_leftreturn_k01_schedules_performed.Holds := by
  w_on; o_law; k_head; (case hw => w_witness2)
  k_fill
  refine LP.walk (l := PySem.Challenge.rw_leftreturn_k01_schedules_performed) rfl rfl (fun w h Y => PySem.W.kIn_of Y) ?F
  case F =>
    intro w mg fa h KX G hmg
    refine' LP.all_mk KX G hmg ?z_len ?z_range ?z_list ?z_tuple ?z_int ?z_bool ?z_isinstance ?z_min ?z_max ?z_enumerate ?z_str ?z_sorted ?z_repr ?z_MOST_SIZE ?z_MOST_OPERATIONS ?z_Shelf ?pg_Shelf ?hd_Shelf ?po_Shelf ?sa_Shelf ?mk_Shelf ?kc_Shelf ?nA_Shelf_books ?nA_Shelf_out ?z_is_whole ?l_is_whole ?c_is_whole ?k_is_whole ?z_is_listed ?l_is_listed ?c_is_listed ?k_is_listed ?z_check_size ?l_check_size ?c_check_size ?k_check_size ?z_Shelf_init ?i_Shelf_init ?l_Shelf_init ?c_Shelf_init ?k_Shelf_init ?z_Shelf_can_take ?i_Shelf_can_take ?l_Shelf_can_take ?c_Shelf_can_take ?k_Shelf_can_take ?z_Shelf_can_return ?i_Shelf_can_return ?l_Shelf_can_return ?c_Shelf_can_return ?k_Shelf_can_return ?z_Shelf_first_gap ?i_Shelf_first_gap ?l_Shelf_first_gap ?c_Shelf_first_gap ?k_Shelf_first_gap ?z_Shelf_take_from ?i_Shelf_take_from ?l_Shelf_take_from ?c_Shelf_take_from ?k_Shelf_take_from ?z_Shelf_put_back ?i_Shelf_put_back ?l_Shelf_put_back ?c_Shelf_put_back ?k_Shelf_put_back ?z_can_perform ?l_can_perform ?c_can_perform ?k_can_perform ?z_run_schedule ?l_run_schedule ?c_run_schedule ?k_run_schedule ?z_is_schedule ?l_is_schedule ?c_is_schedule ?k_is_schedule ?z_books_after ?l_books_after ?c_books_after ?k_books_after ?z_books_out ?l_books_out ?c_books_out ?k_books_out ?z_places_filled ?l_places_filled ?c_places_filled ?k_places_filled ?z_most_out ?l_most_out ?c_most_out ?k_most_out ?z__law_bag ?l__law_bag ?c__law_bag ?k__law_bag ?z__law_stir ?l__law_stir ?c__law_stir ?k__law_stir ?z__law_draw ?l__law_draw ?c__law_draw ?k__law_draw ?z__law_either ?l__law_either ?c__law_either ?k__law_either ?z__law_size ?l__law_size ?c__law_size ?k__law_size ?z__law_can ?l__law_can ?c__law_can ?k__law_can ?z__law_played ?l__law_played ?c__law_played ?k__law_played ?z__law_schedule ?l__law_schedule ?c__law_schedule ?k__law_schedule ?z__law_dressed ?l__law_dressed ?c__law_dressed ?k__law_dressed ?z__law_told ?l__law_told ?c__law_told ?k__law_told ?z__law_right ?l__law_right ?c__law_right ?k__law_right ?z_law ?l_law ?c_law ?k_law
    (case z_len => k_is)
    (case z_range => k_is)
    (case z_list => k_is)
    (case z_tuple => k_is)
    (case z_int => k_is)
    (case z_bool => k_is)
    (case z_isinstance => k_is)
    (case z_min => k_is)
    (case z_max => k_is)
    (case z_enumerate => k_is)
    (case z_str => k_is)
    (case z_sorted => k_is)
    (case z_repr => k_is)
    (case z_MOST_SIZE => k_is)
    (case z_MOST_OPERATIONS => k_is)
    (case z_Shelf => k_is)
    (case pg_Shelf => k_is)
    (case hd_Shelf => k_is)
    (case po_Shelf => k_is)
    (case sa_Shelf => k_is)
    (case mk_Shelf => k_is)
    (case kc_Shelf => k_is)
    (case nA_Shelf_books => k_is)
    (case nA_Shelf_out => k_is)
    (case z_is_whole => k_is)
    (case l_is_whole => k_is)
    (case c_is_whole => k_is)
    (case k_is_whole => k_is)
    (case z_is_listed => k_is)
    (case l_is_listed => k_is)
    (case c_is_listed => k_is)
    (case k_is_listed => k_is)
    (case z_check_size => k_is)
    (case l_check_size => k_is)
    (case c_check_size => k_is)
    (case k_check_size => k_is)
    (case z_Shelf_init => k_is)
    (case i_Shelf_init => k_is)
    (case l_Shelf_init => k_is)
    (case c_Shelf_init => k_is)
    (case k_Shelf_init => k_is)
    (case z_Shelf_can_take => k_is)
    (case i_Shelf_can_take => k_is)
    (case l_Shelf_can_take => k_is)
    (case c_Shelf_can_take => k_is)
    (case k_Shelf_can_take => k_is)
    (case z_Shelf_can_return => k_is)
    (case i_Shelf_can_return => k_is)
    (case l_Shelf_can_return => k_is)
    (case c_Shelf_can_return => k_is)
    (case k_Shelf_can_return => k_is)
    (case z_Shelf_first_gap => k_is)
    (case i_Shelf_first_gap => k_is)
    (case l_Shelf_first_gap => k_is)
    (case c_Shelf_first_gap => k_is)
    (case k_Shelf_first_gap => k_is)
    (case z_Shelf_take_from => k_is)
    (case i_Shelf_take_from => k_is)
    (case l_Shelf_take_from => k_is)
    (case c_Shelf_take_from => k_is)
    (case k_Shelf_take_from => k_is)
    (case z_Shelf_put_back => k_is)
    (case i_Shelf_put_back => k_is)
    (case l_Shelf_put_back => k_is)
    (case c_Shelf_put_back => k_is)
    (case k_Shelf_put_back => k_is)
    (case z_can_perform => k_is)
    (case l_can_perform => k_is)
    (case c_can_perform => k_is)
    (case k_can_perform => k_is)
    (case z_run_schedule => k_is)
    (case l_run_schedule => k_is)
    (case c_run_schedule => k_is)
    (case k_run_schedule => k_is)
    (case z_is_schedule => k_is)
    (case l_is_schedule => k_is)
    (case c_is_schedule => k_is)
    (case k_is_schedule => k_is)
    (case z_books_after => k_is)
    (case l_books_after => k_is)
    (case c_books_after => k_is)
    (case k_books_after => k_is)
    (case z_books_out => k_is)
    (case l_books_out => k_is)
    (case c_books_out => k_is)
    (case k_books_out => k_is)
    (case z_places_filled => k_is)
    (case l_places_filled => k_is)
    (case c_places_filled => k_is)
    (case k_places_filled => k_is)
    (case z_most_out => k_is)
    (case l_most_out => k_is)
    (case c_most_out => k_is)
    (case k_most_out => k_is)
    (case z__law_bag => k_is)
    (case l__law_bag => k_is)
    (case c__law_bag => k_is)
    (case k__law_bag => k_is)
    (case z__law_stir => k_is)
    (case l__law_stir => k_is)
    (case c__law_stir => k_is)
    (case k__law_stir => k_is)
    (case z__law_draw => k_is)
    (case l__law_draw => k_is)
    (case c__law_draw => k_is)
    (case k__law_draw => k_is)
    (case z__law_either => k_is)
    (case l__law_either => k_is)
    (case c__law_either => k_is)
    (case k__law_either => k_is)
    (case z__law_size => k_is)
    (case l__law_size => k_is)
    (case c__law_size => k_is)
    (case k__law_size => k_is)
    (case z__law_can => k_is)
    (case l__law_can => k_is)
    (case c__law_can => k_is)
    (case k__law_can => k_is)
    (case z__law_played => k_is)
    (case l__law_played => k_is)
    (case c__law_played => k_is)
    (case k__law_played => k_is)
    (case z__law_schedule => k_is)
    (case l__law_schedule => k_is)
    (case c__law_schedule => k_is)
    (case k__law_schedule => k_is)
    (case z__law_dressed => k_is)
    (case l__law_dressed => k_is)
    (case c__law_dressed => k_is)
    (case k__law_dressed => k_is)
    (case z__law_told => k_is)
    (case l__law_told => k_is)
    (case c__law_told => k_is)
    (case k__law_told => k_is)
    (case z__law_right => k_is)
    (case l__law_right => k_is)
    (case c__law_right => k_is)
    (case k__law_right => k_is)
    (case z_law => k_is)
    (case l_law => k_is)
    (case c_law => k_is)
    (case k_law => k_is)
