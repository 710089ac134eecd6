import PyProof.Rows.All
import Wide.All
import OpenK.AllK
import Wide.FinOn
import HandS.ForMost
import HandS.IsInst
import HandS.Conv
import HandS.Style
import HandS.Wide
import HandS.SortInts
import HandS.ForExc
import HandS.SetFor
import HandS.Walk
import HandS.Gcd
import HandS.SortKw
import HandS.Dict
import HandS.NoneIn
import HandS.List
import HandS.StrMore
import HandS.RaiseMore
import PyProof.ReprRoads
import PyProof.ReprLen
import HandS.Zip
import HandS.DictComp
import PyProof.TupleOfSeq
import KE.GoesMore
import KE.GoesZip
import HandS.Text
import HandS.More
import HandS.SlotsOwn
import HandS.Property
import HandS.ClsMeth
import KE.DataMinMax
import KE.KDictZip
import PyProof.StrOps2
import HandS.Comp
import HandS.CallLocal
import HandS.TryOnly
import HandS.ExcOwn
import HandS.ExcIs
import HandS.CallSlots
import HandS.RepeatKit
import HandS.Records
import KE.GoesEnum
import PySem.Challenge.RW_leftreturn_k31_parking_functions
set_option Elab.async false
set_option linter.all false
set_option maxRecDepth 100000
set_option maxHeartbeats 4000000
/-! defs that may be run only where no repr is under way: the promise FnG beside FnOk; repr of data -/
namespace LG
open PySem PySem.Spec PyProof.Rows L2
structure FnG (P : Program) (w : World) (K : PySem.W.Frag) (mg : Str → Option Value) (base : Heap) (CX : CXT) (k : Nat) (f : Addr) (fd : FuncData) (ps : List Str) (sp : Sp) : Prop where
  arity : ∀ vs H Q E, sp vs H Q E → vs.length = ps.length
  does : ∀ (A : Around) (out : List Env) (s : Shared) (H : Hp) (ar : Args) (us : List Value) (vs : List V) (Q : VK) (E : XK), A.guards = some [] →
    Room k A → Env0 P w K mg base A out s H → BindsTo s fd ar (ps.zip us) → Vals vs us → sp vs H Q E → codeAny (model P w) A (.call (.ref f) ar) (CR CX out P w H s Q E) s
section
variable {P : Program} {w : World} {K : PySem.W.Frag} {mg : Str → Option Value} {base : Heap} {CX : CXT}
theorem FnG.up {j k : Nat} {f : Addr} {fd : FuncData} {ps : List Str} {sp : Sp} (F : FnG P w K mg base CX j f fd ps sp) (h : j ≤ k) : FnG P w K mg base CX k f fd ps sp :=
  ⟨F.arity, fun A out s H ar us vs Q E hg hr => F.does A out s H ar us vs Q E hg (hr.mono h)⟩
theorem fnG_of {k : Nat} {f : Addr} {name qual : Str} {params : Arguments} {body : List Stmt} {scope : Scope} {dV kV doc pm cdv ct oc : Value} {an od : Option Addr} {osl : Array (Option Value)} {N ps : List Str} {sp : Sp}
    (lk : K.lookup f = some ⟨oc, od, .func (PySem.W.fnOf name qual params body scope dV kV doc pm an cdv ct), osl⟩) (cd : PySem.W.codeIn K cdv qual = true) (S : FnScope N ps scope) (ar : ∀ vs H Q E, sp vs H Q E → vs.length = ps.length)
    (hb : ∀ (A : Around) (out : List Env) (s : Shared) (H : Hp) (vs : List V) (Q : VK) (E : XK), A.guards = some [] → Room k (A.deeper (envOfC qual scope s.heap.objs.size f cdv)) → sp vs H Q E →
      ∃ t, PSs (cxOf CX P w K mg base N qual scope f cdv A out s H E) body t ∧ t ⟨fun _ H1 => Q .non H1, Q, fun _ _ => False, fun _ _ => False⟩ (start N vs) H) :
    FnG P w K mg base CX (k + 1) f (PySem.W.fnOf name qual params body scope dV kV doc pm an cdv ct) ps sp := by
  constructor
  · exact ar
  intro A out s H args us vs Q E hgd hr e0 bnd rel want
  obtain ⟨t, der, wish⟩ := hb A out s H vs Q E hgd (hr.deeper _) want
  have old := fun b o (e : base.get? b = some o) => (e0.bs b o e).1
  have kin : K.In s.heap := e0.mod.kin.keeps old
  have slots : ∀ y ∈ ps.zip us, scope.names.lookup y.1 = some .local ∨ scope.names.lookup y.1 = some .cell ∧ ((cellsFrom (s.heap.objs.size + 1) scope.names []).lookup y.1).isSome = true := by
    rintro ⟨nm, v⟩ mem
    have z := S.par nm (List.of_mem_zip mem).1
    exact z.imp id fun c => ⟨c, PySem.W.cellsFrom_some _ _ _ (Or.inl c)⟩
  apply codeAny_call_function hr.depth (kin _ _ lk) rfl S.co S.gen rfl (PySem.W.codeRec_of kin cd)
  apply bnd
  apply wpAny_newFunctionEnv_cells S.kind slots
  rintro env rfl s1 inC
  refine ⟨(e0.mod.nolimit.keeps old).keeps inC.toInCall.keep, ?_⟩
  apply codeAny_func
  have J := inv_start (CX := CX) (E := E) S hr.hd e0 (ar _ _ _ _ want) rel inC
  apply wpAny_mono (der.run [] s1 (start N vs) H _ J wish)
  · intro fl s2 got
    cases fl with
    | next => obtain ⟨σ2, H2, J2, q⟩ := got; exact ⟨V.non, H2, J2.os, J2.bare, J2.base, J2.hok, rfl, q⟩
    | ret u => obtain ⟨v, σ2, H2, J2, rv, q⟩ := got; exact ⟨v, H2, J2.os, J2.bare, J2.base, J2.hok, rv, q⟩
    | brk => obtain ⟨_, _, _, q⟩ := got; exact q.elim
    | cont => obtain ⟨_, _, _, q⟩ := got; exact q.elim
  · exact fun _ _ z => z
/-- a def of the text by its body, where nothing is raised -/
theorem okG {x qual : Str} {st : Stmt} {f : Addr} {fd : FuncData} {N ps : List Str} {k : Nat} {sp : Sp} (F : Fun K x qual st f fd) (S : FnScope N ps (defScope st)) (ar : ∀ vs H Q E, sp vs H Q E → vs.length = ps.length)
    (hb : ∀ (cdv : Value) (A : Around) (out : List Env) (s : Shared) (H : Hp) (vs : List V) (Q : VK) (E : XK), A.guards = some [] → Room k (A.deeper (envOfC qual (defScope st) s.heap.objs.size f cdv)) → sp vs H Q E →
      ∃ t, PSs (cxOf CX0 P w K mg base N qual (defScope st) f cdv A out s H E).nox (defBody st) t ∧ t ⟨fun _ H1 => Q .non H1, Q, fun _ _ => False, fun _ _ => False⟩ (start N vs) H) : FnG P w K mg base CX0 (k + 1) f fd ps sp := by
  obtain ⟨oc, od, kV, doc, pm, an, cdv, ct, osl, rfl, lk, cd⟩ := F.ex
  refine fnG_of lk cd S ar fun A out s H vs Q E hgd hr want => ?_
  obtain ⟨t, der, wish⟩ := hb cdv A out s H vs Q E hgd hr want
  exact ⟨t, der.nox, wish⟩
theorem of_ok {k : Nat} {f : Addr} {fd : FuncData} {ps : List Str} {sp : Sp} (F : FnOk P w K mg base CX k f fd ps sp) : FnG P w K mg base CX k f fd ps sp :=
  ⟨F.len, fun A out s H ar us vs Q E _ hr => F.run A out s H ar us vs Q E hr⟩
end
section
variable {X : Cx} {CX : CXT} {k : Nat} {f : Addr} {fd : FuncData} {ps : List Str} {sp : Sp} {dvs : List V} {ds : List Value} {E : XK} {x : Str} {p pos : Pos} {e : Expr} {es : List Expr} {t : TA}
/-- f(e, ..), f such a def -/
theorem pe_callG (F : FnG X.prog X.w X.K X.mg X.base CX k f fd ps sp) (hgd : X.A.guards = some []) (hr : Room k X.A) (hg : Gl X x) (hm : X.mg x = some (.ref f)) (hk : PySem.W.keepIn X.K (.ref f) = true) (hb : Binds X.K fd ps ds) (hd : Vals dvs ds) (hx : Passes CX X E)
    (ha : PA X (e :: es) t) (hdb : (x == ("__debug__" : Str)) = false := by decide) (he : starEach (e :: es) X.env = (false, eval e X.env) :: starEach es X.env := by rfl) (hpl : (backTo pos (starEach es X.env)).any (·.1) = false := by rfl) :
    PE X (.Call (.Name x p) (e :: es) [] pos) (tCall sp dvs E t) := by
  constructor
  intro pins s σ H Q I want
  apply wpAny_Call_Name_kw (ld_glob I hg hm _ hdb)
  apply PySem.W.callWith_K (h₀ := X.base) I.ok.mod.kin hk (thn (ha.run pos pins s σ H _ I want) _) he hpl
  rintro us s1 ⟨vs, H1, J, rel, q⟩
  have rel2 : Vals (vs ++ dvs) (us ++ ds) := rel.append hd
  have len : (us ++ ds).length = ps.length := rel2.length.symm.trans (F.arity _ _ _ _ q)
  refine ⟨J.kIn, wpAny_call (codeAny_mono (F.does X.A X.stack s1 H1 ⟨us, []⟩ _ _ Q E hgd hr J.env0 (hb s1 us J.kIn len) rel2 q) ?_)⟩
  intro r s2 got
  match r, got with
  | .error err, got => exact hx pins σ H1 s1 err s2 J got
  | .ok (.ret u), got => exact J.after got
  | .ok .next, got => exact got.elim
  | .ok .brk, got => exact got.elim
  | .ok .cont, got => exact got.elim
/-- repr of a list or a tuple of data -/
def rRepr (K : PySem.W.Frag) : List V → Hp → VK → Prop := fun xs H Q => ∃ (a : Addr) (d : PyData), xs = [.ref a] ∧ Dp K H (.ref a) d ∧ d.showable = true ∧ SeqAt.shaped d = true ∧ d.shown.length ≤ sizeLine ∧ Q (.str d.shown) H
theorem call_repr (hgd : X.A.guards = some []) (hu : X.A.units + 66 < cLine) : CallR X (.builtin "repr") (rRepr X.K) := by
  rintro pins s σ H xs us Q I rel ⟨a, d, rfl, hd, sh, sp, len, q⟩
  obtain ⟨u, rfl, ru⟩ := vals1 rel
  obtain ⟨as, rd⟩ := Dp.reads I d (.ref a) u hd ru
  cases ru
  have dep := SeqAt.depth_of_shaped sp
  refine repr_of_reads' rd sh (PyData.noDict_hsm (PyData.hasDict_of_canLay d (SeqAt.canLay_of_shaped sp))) hgd (by omega) (fun _ _ z => z) (fun h1 u1 tk keep => ?_) len
  exact ⟨.str d.shown, H, I.kept keep, ⟨_, rfl⟩, q⟩
end
/-! the end of a law's row -/
theorem law_callG {P : Program} {w : World} {K : PySem.W.Frag} {mg mb : Str → Option Value} {k : Nat} {fa a : Addr} {fd : FuncData} {x : Str} {sp : Sp} {s : Shared} {vs : List Value} {ns : List Int}
    (kin : K.In s.heap) (gns : s.heap.Ns mainGlobals mg) (bns : s.heap.Ns builtinsNs mb) (hbb : ∀ x : Str, x ≠ "__name__" → mb x = bootBuiltins x) (lim : s.heap.NoLimit) (gens : s.gens = #[])
    (obj : s.heap.get? a = some { cls := .type "list", data := .seq vs.toArray }) (hin : IntsAre vs ns) (len : ns.length ≤ sizeLine) (hr : Room k callerA)
    (F : ∀ base : Heap, K.In base → base.Ns mainGlobals mg → FnG P w K mg base CX0 k fa fd [x] sp) (bnd : ∀ (s : Shared) (u : Value), BindsTo s fd ⟨[u], []⟩ [(x, u)])
    (want : ∀ H : Hp, Only H → SqL K H a (ns.map V.int) → sp [.ref a] H (fun v _ => v = .bl true) fun _ _ _ => False) :
    codeAny (model P w) callerA (.call (.ref fa) ⟨[.ref a], []⟩) (fun r s1 => r = .ok (.ret (.bool true)) ∧ OldK s.heap s1.heap ∧ s1.os = s.os ∧ AllBare s1.gens) s := by
  have rel := vals_ints hin
  have nlen := hin.length
  obtain ⟨H, hH⟩ : ∃ H : Hp, ∀ b, H b = if b = a ∧ K.lookup a = none then some (.frz { cls := .type "list", data := .seq vs.toArray } (.lst (ns.map V.int))) else none := ⟨_, fun b => rfl⟩
  have off : ∀ {b o}, s.heap.get? b = some o → (b = a → K.lookup a ≠ none) → H b = none := fun {b o} _ hne => by
    rw [hH, if_neg fun z => hne z.1 z.2]
  have at_ : ∀ b u, H b = some u → b = a ∧ K.lookup a = none ∧ u = .frz { cls := .type "list", data := .seq vs.toArray } (.lst (ns.map V.int)) := fun b u z => by
    rw [hH] at z
    by_cases c : b = a ∧ K.lookup a = none
    · rw [if_pos c] at z; exact ⟨c.1, c.2, (Option.some.inj z).symm⟩
    · rw [if_neg c] at z; cases z
  have only : Only H := fun b => by
    cases z : H b with
    | none => exact Or.inl rfl
    | some u => obtain ⟨_, _, rfl⟩ := at_ b u z; exact Or.inr ⟨_, _, rfl⟩
  have seq : SqL K H a (ns.map V.int) := by
    cases z : K.lookup a with
    | none => exact Or.inl (Or.inr ⟨_, by rw [hH, if_pos ⟨rfl, z⟩]⟩)
    | some o =>
      have e := kin a o z
      rw [obj] at e
      cases e
      exact Or.inr ⟨_, vs.toArray, _, z, rfl, rfl, rfl, by rw [List.size_toArray, nlen]; exact len, by simpa using rel⟩
  have hok : HOk P w H s.heap := fun b u z => by
    obtain ⟨rfl, _, rfl⟩ := at_ b u z
    exact ⟨obj, by rw [List.length_map]; exact len, vs, _, rel, obj⟩
  have kept : ∀ {b o}, s.heap.get? b = some o → H b = none → (hidT s.heap H).get? b = some o := fun e z => hidT_get e z
  have dicts : ∀ {b o es n}, s.heap.get? b = some o → o.data = .dict es n → H b = none := fun {b o es n} e d => off e fun q => by
    rw [q, obj] at e
    cases e
    have d2 : Data.seq vs.toArray _ = Data.dict es n := d
    cases d2
  have names : ∀ {b m}, s.heap.Ns b m → (hidT s.heap H).Ns b m := fun ⟨o, es, n, e, d, r⟩ => ⟨o, es, n, kept e (dicts e d), d, r⟩
  have kin2 : K.In (hidT s.heap H) := fun b o e => kept (kin b o e) (off (kin b o e) fun q => by rw [← q, e]; exact fun z => nomatch z)
  have lim2 : (hidT s.heap H).NoLimit := let ⟨mc, l1, l2⟩ := lim; ⟨mc, names l1, l2⟩
  have e0 : Env0 P w K mg (hidT s.heap H) callerA [] s H := ⟨rfl, ⟨kin2, names gns, ⟨mb, names bns, hbb⟩, lim2⟩, fun b o e => of_hidT e, Nat.le_of_eq (hidT_size _ _), trivial, fun b m => (by cases (show b ∈ ([] : List Addr) from m)), hok, .of_eq gens⟩
  refine codeAny_mono ((F _ kin2 (names gns)).does callerA [] s H ⟨[.ref a], []⟩ [.ref a] [.ref a] _ _ rfl hr e0 (bnd s (.ref a)) (.cons rfl .nil) (want H only seq)) ?_
  intro r s1 got
  match r, got with
  | .error _, got => exact got.elim
  | .ok .next, got => exact got.elim
  | .ok .brk, got => exact got.elim
  | .ok .cont, got => exact got.elim
  | .ok (.ret u), got =>
    obtain ⟨v, H1, os, bare, un, hok1, ru, q⟩ := got
    cases (show v = .bl true from q)
    cases (show u = Value.bool true from ru)
    refine ⟨rfl, OldK.of_keep fun b o e => ?_, os, bare⟩
    cases z : H b with
    | none => exact un.keep b o e z (by intro y; cases (show b ∈ ([] : List Addr) from y)) (by simp)
    | some u =>
      obtain ⟨rfl, _, rfl⟩ := at_ b u z
      have y := un.frzs b _ _ z
      rw [obj] at e
      cases e
      exact (hok1 b _ y).1
theorem walk_ofG {l : PySem.W.OpenLaw} {n k : Nat} {q : Program} {loose : List Str} {XP : (Str → Option Value) → Heap → Prop} {YP : World → Heap → Prop} {d : DefRec} {K : Params → PySem.W.Frag} {sp : PySem.W.Frag → Sp} {x : Str}
    (hn : l.most = some n) (hn2 : n ≤ sizeLine) (hdf : d.params.defaults = []) (hr : Room k callerA) (hY : ∀ (w : World) (h : Heap), YP w h → (K w.params).In h)
    (F : ∀ (w : World) (mg : Str → Option Value) (fa : Addr) (h : Heap), (K w.params).In h → h.Ns mainGlobals mg → mg d.name = some (.ref fa) →
      ∃ fd : FuncData, (∀ (s : Shared) (u : Value), BindsTo s fd ⟨[u], []⟩ [(x, u)]) ∧ ∀ base : Heap, (K w.params).In base → base.Ns mainGlobals mg → FnG l.prog w (K w.params) mg base CX0 k fa fd [x] (sp (K w.params)))
    (want : ∀ (K : PySem.W.Frag) (H : Hp) (a : Addr) (ns : List Int), ns.length ≤ n → Only H → SqL K H a (ns.map V.int) → sp K [.ref a] H (fun v _ => v = .bl true) fun _ _ _ => False) :
    PySem.W.WalkO q loose XP YP l.row.toRowW d [] (fun f vs => PySem.call f vs) := by
  apply Att.attach_call hn hdf
  intro w s0 s1 mg mb fa o pm cd doc a vs ns G Y ho hd hcd hmg obj hin len gens
  have kin := hY w _ Y
  obtain ⟨fd, bnd, does⟩ := F w mg fa _ kin G.T.g hmg
  exact law_callG kin G.T.g G.T.b G.T.builtins G.T.nolimit gens obj hin (Nat.le_trans len hn2) hr does bnd fun H o q => want _ H a ns len o q
end LG

namespace LT
open PySem PySem.Spec PyProof.Rows L2
section
variable {prog : Program} {w : World} {A : Around} {E : Value → Shared → Prop} {s : Shared}
/-- what is to be iterated is gathered into a new list; the heap does not get shorter -/
theorem gather {Q : List Value → Shared → Prop} (l : Addr) {T : String} {o : Obj} {its : Array Value} {n : Nat} (hT : T = "list" ∨ T = "tuple") (ho : s.heap.get? l = some o) (hc : o.cls = .type T) (hd : o.data = .seq its n) (hz : its.size ≤ sizeLine)
    (fin : ∀ h1 : Heap, s.heap.objs.size ≤ h1.objs.size → (∀ b u, s.heap.get? b = some u → h1.get? b = some u) → Q its.toList { s with heap := h1 }) : wpAny (model prog w) A (collect (.ref l)) Q E s := by
  unfold collect
  refine wpAny_bind (wpAny_runValue (codeAny_builtin PySem.F.entry_proto_collect ?_))
  rw [Around.under_plainId PySem.F.plain_proto_collect _]
  refine wpAny_bind (m := newList []) (wpAny_newObj_type ?_)
  refine wpAny_pure ⟨plainId_quiet PySem.F.plain_list_iadd _, codeAny_builtin PySem.F.entry_list_iadd ?_⟩
  rw [Around.under_plainId PySem.F.plain_list_iadd _]
  generalize hp : s.heap.push { cls := .type "list", data := .seq ([] : List Value).toArray } = h0
  have e0 : h0.get? s.heap.objs.size = some { cls := .type "list", data := .seq #[] 0 } := by rw [← hp]; exact Heap.get?_push_size _ rfl
  have k0 : ∀ b u, s.heap.get? b = some u → h0.get? b = some u := fun b u q => by rw [← hp]; exact Heap.get?_push_of_some _ q
  have z0 : s.heap.objs.size ≤ h0.objs.size := by rw [← hp, Heap.size_push]; exact Nat.le_succ _
  have e1 := Heap.get?_update_self (Obj.mapSeq (· ++ its)) e0 rfl
  have last : Q its.toList { s with heap := h0.update s.heap.objs.size (Obj.mapSeq (· ++ its)) } :=
    fin _ (by rw [Heap.size_update]; exact z0) fun b u q => (Heap.get?_update_other _ _ (Nat.ne_of_gt (Heap.lt_size q))).trans (k0 b u q)
  have tail : wpAny (model prog w) A (do match (← load s.heap.objs.size).data with
      | Data.seq xs _ => pure xs.toList
      | _ => unsupported "internal:collect") Q E { s with heap := h0.update s.heap.objs.size (Obj.mapSeq (· ++ its)) } := by
    refine wpAny_bind (wpAny_load e1 (wpAny_pure ?_))
    show Q ((#[] : Array Value) ++ its).toList _
    rw [show ((#[] : Array Value) ++ its).toList = its.toList by simp]
    exact last
  refine wpAny_mono (wpAny_extend_seq (hsz := hz) (A := A) (R := fun r t => r = .ok (.ret (.ref s.heap.objs.size)) ∧ t = { s with heap := h0.update s.heap.objs.size (Obj.mapSeq (· ++ its)) })
    (s := { s with heap := h0 }) _ l _ 0 hT e0 (k0 _ _ ho) hc hd ⟨rfl, rfl⟩) (fun r t q => ?_) fun _ t q => absurd q.1 (by simp)
  cases r with
  | done f =>
    obtain ⟨e, rfl⟩ := q
    cases e
    exact tail
  | again c => exact ⟨q.1, codeAny_mono q.2 fun r u hr => by obtain ⟨rfl, rfl⟩ := hr; exact tail⟩
open Srt SrtO in
/-- sorted(x), x a list or a tuple: a new list -/
theorem sorted_seq {l : Addr} {T : String} {o : Obj} {vs : List Value} {n : Nat} {ltv : Value → Value → Bool} {Q : Value → Shared → Prop} (O : Swo ltv) (hT : T = "list" ∨ T = "tuple") (ho : s.heap.get? l = some o) (hc : o.cls = .type T) (hd : o.data = .seq vs.toArray n) (hz : vs.length ≤ sizeLine)
    (hS : 2 ≤ vs.length → ∀ (h₁ : Heap) (a : Addr), h₁.get? a = some (seqObj "list" vs.toArray 0) → (∀ b o, s.heap.get? b = some o → b ≠ a ∧ h₁.get? b = some o) → SortableO prog w A.in1.in1 { s with heap := h₁ } a vs ltv)
    (h : ∀ (out : List Value) (p : Addr) (h' : Heap), Srtd ltv out → Stb ltv out vs → s.heap.objs.size ≤ p → (∃ e, h'.get? p = some (seqObj "list" out.toArray e)) → (∀ b o, s.heap.get? b = some o → h'.get? b = some o) → Q (.ref p) { s with heap := h' }) :
    wpAny (model prog w) A (call (.builtin "sorted") [.ref l]) Q E s := by
  refine Calls.call_function_entry kind_sorted plain_sorted entry_sorted (args_sorted1 _) ?_
  unfold Builtin.«sorted»
  refine wpAny_bind (m := checkCount "sorted" 1 1 _) (wpAny_pure ?_)
  refine wpAny_bind (gather l hT ho hc hd (by rw [List.size_toArray]; exact hz) fun h1 hz2 k1 => ?_)
  refine wpAny_bind (wpAny_newList ?_ (by simpa using hz))
  have hoL : (h1.push (seqObj "list" vs.toArray 0)).get? h1.objs.size = some (seqObj "list" vs.toArray 0) := Heap.get?_push_size _ rfl
  have keep : ∀ b o, s.heap.get? b = some o → b ≠ h1.objs.size ∧ (h1.push (seqObj "list" vs.toArray 0)).get? b = some o := fun b o q =>
    ⟨Nat.ne_of_lt (Heap.lt_size (k1 b o q)), Heap.get?_push_of_some _ (k1 b o q)⟩
  show wpAny _ _ _ _ _ { s with heap := h1.push (seqObj "list" vs.toArray 0) }
  refine wpAny_bind (wpAny_holding (wpAny_call_entry slot_list_sort ⟨_, hoL, rfl⟩ entry_list_sort (list_sort_ord O hoL hz (fun h2 => hS h2 _ _ hoL keep) fun out hs hb => ⟨_, rfl, ?_⟩) (args_list_sort _)))
  refine wpAny_pure ⟨_, rfl, h out _ _ hs hb hz2 (sortedHeap_at hoL) fun b o q => ?_⟩
  obtain ⟨ne, q1⟩ := keep b o q
  rw [sortedHeap_old ne (Heap.lt_size q1)]
  exact q1
end
/-- sorted(xs), xs a list or a tuple of ints -/
def rSortedE (K : PySem.W.Frag) : List V → Hp → VK → Prop := fun vs H Q => ∃ (a : Addr) (ns : List Int), vs = [V.ref a] ∧ (SqL K H a (ns.map V.int) ∨ SqT K H a (ns.map V.int)) ∧
  ∀ (ns' : List Int) (p : Addr), ns'.Perm ns → ns'.Pairwise (· ≤ ·) → H p = none → Q (.ref p) (upd H p (.lst (ns'.map V.int)))
theorem cr_sortedE {X : Cx} : CallR X (.builtin "sorted") (rSortedE X.K) := by
  intro pins s σ H vs us Q I r h
  obtain ⟨a, ns, rfl, hs, q⟩ := h
  rcases hs with hs | hs
  · exact cr_sortedI pins s σ H _ us Q I r ⟨a, ns, rfl, hs, q⟩
  obtain ⟨its, rv, ⟨o, ho, hc, n, hd⟩, hz⟩ := I.tuple hs
  rw [Vals.ref1 r]
  have hi := rv.ints
  refine sorted_seq SrtO.swo_int (.inr rfl) ho hc hd (by rw [← rv.length]; exact hz) (fun h2 h₁ a' _ _ => SrtO.ints_sortable hi h2) fun out p h' h1 h2 le at_ keep => ?_
  obtain ⟨k1, k2, k3⟩ := SrtO.ints_out hi h1 h2
  obtain ⟨ep, he'⟩ := at_
  have hlen : ((out.map SrtO.iv).map V.int).length ≤ sizeLine := by
    rw [List.length_map, k2.length_eq]
    rw [List.length_map] at hz
    exact hz
  exact ⟨.ref p, upd H p (.lst ((out.map SrtO.iv).map V.int)), I.laid (t' := s.toks) keep le ⟨hlen, out, ep, vals_of_ints k1, he'⟩, rfl, q _ _ k2 k3 (I.hok.fresh le)⟩
/-- len(set(xs)), xs a list or a tuple of ints, each once -/
def tLenSetS (K : PySem.W.Frag) (ta : TE) : TE := fun σ H Q => ta σ H fun x H1 => ∃ (l : Addr) (ns : List Int), x = .ref l ∧ (SqL K H1 l (ns.map V.int) ∨ SqT K H1 l (ns.map V.int)) ∧ ns.Nodup ∧ ns.length ≤ 4000 ∧ Q (.int (ns.length : Nat)) H1
theorem pe_lenSetS {X : Cx} {a : Expr} {ta : TE} {p p2 q pos : Pos} (hg : Gl X "len") (hm : X.mg "len" = none) (hg2 : Gl X "set") (hm2 : X.mg "set" = none) (ha : PE X a ta) (hc : X.calm = true := by rfl)
    (na : starEach [a] X.env = (false, eval a X.env) :: starEach [] X.env := by rfl) : PE X (.Call (.Name "len" p) [.Call (.Name "set" p2) [a] [] q] [] pos) (tLenSetS X.K ta) := by
  refine ⟨fun pins s σ H Q I h => ?_⟩
  refine Call_ (ld_blt I hg hm boot_len ?_)
  refine PyProof.Rows.callWith_builtin1 (PyProof.Rows.args_cons ?_ rfl) rfl rfl
  refine Call_ (ld_blt I hg2 hm2 boot_set ?_)
  refine PyProof.Rows.callWith_type1 (PyProof.Rows.args_cons (thn (ha.run pins s σ H _ I h) fun v s1 ⟨x, H1, I1, r1, q1⟩ => PyProof.Rows.args_nil ?_) na) na rfl
  obtain ⟨l, ns, rfl, hq, hnd, hl, q1⟩ := q1
  cases r1
  rcases hq with hq | hq
  · obtain ⟨its, r, pl, hz⟩ := I1.list hq
    have hlen : its.toArray.size = ns.length := by rw [List.size_toArray, ← r.length, List.length_map]
    refine call_set_list (I1.ok.hd hc) pl.isList (by simpa using RZ.intsAre_vals r) (by rw [hlen]; unfold scanBound; omega) fun h' tk hS hk => ?_
    refine PyProof.Rows.args_nil ?_
    rw [hlen, RZ.firstMet_nodup hnd ns.length (Nat.le_refl _), List.take_length] at hS
    obtain ⟨o, es, ep, t, ho, hex, hd, _, _, _, hf, hn⟩ := hS
    have I2 : Inv X pins σ H1 { s1 with heap := h', toks := tk } := I1.kept fun b o e => hk b o (Heap.lt_size e) e
    exact call_len_set ho hex hd hf (by rw [hn] <;> omega) ⟨.int ns.length, H1, I2.tok _, ⟨_, by rw [hn]⟩, q1⟩
  · obtain ⟨its, r, pl, hz⟩ := I1.tuple hq
    refine call_set_tupI ns (I1.ok.hd hc) (show s1.heap.IsTuple l its.toArray from pl) (by simpa using r.ints) (by unfold scanBound; omega) fun h' tk c R hcn hk => ?_
    refine PyProof.Rows.args_nil ?_
    obtain ⟨o, es, ep, t, ho, hex, hd, g, nd, mem, _, hf, hn, _⟩ := R
    have I2 : Inv X pins σ H1 { s1 with heap := h', toks := tk } := I1.kept fun b o e => hk b o e
    have hperm : (es.toList.map keyOf).Perm ns := (List.perm_ext_iff_of_nodup nd hnd).mpr fun k => by rw [← mem k, decide_eq_true_iff]
    have hes : es.size = ns.length := by have := hperm.length_eq; simpa using this
    exact call_len_set ho hex hd hf (by omega) ⟨.int ns.length, H1, I2.tok _, ⟨_, by rw [hes]⟩, q1⟩
/-- a dict comprehension over it: Pv by the turn and the heap (the new dict at D within) -/
theorem dc_it {J : It} {n : Nat} {G : Hp → Prop} {Y : Nat → Hp → V → Hp → Prop} (w : Walk J n G Y) {g : TG} {tt : TT} {tk tv : TE} {vs : List Nat} {σ : L2.St} {H1 : Hp} {D : Addr} {Qd : Hp → Prop} (Pv : Nat → Hp → Prop) (h0 : Pv 0 (upd H1 D (.dK []))) (hG : ∀ i H, i ≤ n → Pv i H → G H)
    (hs : ∀ i x H H', i < n → Pv i H → Y i H x H' → g x (wipe σ vs) H' fun σ2 H2 => wipe σ2 vs = wipe σ vs ∧ tt σ2 H2 fun b H3 =>
      if b = true then tk σ2 H3 fun y H4 => tv σ2 H4 fun z H5 => ∃ kvs k, y = kV k ∧ H5 D = some (.dK kvs) ∧ kvs.length < sizeLine ∧ Pv (i + 1) (upd H5 D (.dK (putK kvs k z))) else Pv (i + 1) H3) (hd : ∀ H, Pv n H → Qd H) :
    ∃ W : Nat → Nat → Hp → Prop, (∃ m, W 0 m (upd H1 D (.dK []))) ∧ ∀ i m H, W i m H →
      (J.stop i H ∧ Qd H) ∨ (J.go i H ∧ ∃ Nx : Hp → Prop, (∀ H', Nx H' → ∃ m', m' < m ∧ W (i + 1) m' H') ∧ ∀ x H', J.yld i H x H' → g x (wipe σ vs) H' fun σ2 H2 => wipe σ2 vs = wipe σ vs ∧ tt σ2 H2 fun b H3 =>
        if b = true then tk σ2 H3 fun y H4 => tv σ2 H4 fun z H5 => ∃ kvs k, y = kV k ∧ H5 D = some (.dK kvs) ∧ kvs.length < sizeLine ∧ Nx (upd H5 D (.dK (putK kvs k z))) else Nx H3) := by
  refine ⟨fun i m H => m = n - i ∧ i ≤ n ∧ Pv i H, ⟨n, by simp, Nat.zero_le _, h0⟩, ?_⟩
  rintro i m H ⟨rfl, hi, p⟩
  have q := hG i H hi p
  by_cases hlt : i < n
  · refine .inr ⟨w.goes i H hlt q, Pv (i + 1), fun H' p' => ⟨n - (i + 1), by omega, rfl, hlt, p'⟩, fun x H' y => hs i x H H' hlt p (w.yields i H x H' hlt q y)⟩
  · obtain rfl : i = n := by omega
    exact .inl ⟨w.stops H q, hd H p⟩
end LT

namespace LT
open PySem PySem.Spec PyProof.Rows L2
open Sem (wp)
open AutoSeq1 (wpAny_loadPart')
theorem meets_enum_tup (l : Addr) (items : Array Value) (n : Nat) (dct : Option Addr) (sl : Array (Option Value)) :
    Meets (Builtin.«enumerate.__new__» ⟨[.type "enumerate", .ref l], []⟩) (fun _ R s => s.heap.get? l = some { cls := .type "tuple", dict := dct, data := .seq items n, slots := sl } ∧
      R (.ok (.ret (.ref (s.heap.objs.size + 1))))
        { s with heap := (s.heap.push { cls := .type "tuple_iterator", data := .fields #[.ref l, .int 0 0] }).push { cls := .type "enumerate", data := .fields #[.none, .bool false, .ref s.heap.objs.size, rawInt 0, .none, .none] } }) :=
  .of_wp fun prog w A R s h => by
    obtain ⟨hp, g, d, tk, os⟩ := s
    obtain ⟨hl, h⟩ := h
    have sub := sub_enumerate
    have tup : Heap.IsTuple (Shared.heap ⟨hp, g, d, tk, os⟩) l items := ⟨_, hl, rfl, n, rfl⟩
    wp_walk using wpAny_loadPart' hl
    refine wpAny_stack_any fun st => wpAny_pure ?_
    have z : (hp.push { cls := .type "tuple_iterator", data := .fields #[.ref l, .int 0 0] }).objs.size = hp.objs.size + 1 := Heap.size_push ..
    split
    · rename_i c _ _ _ _ _
      cases (c == Value.type "enumerate")
      · wp_walk using wpAny_loadPart' hl, wpAny_pyIter_tuple tup
        exact ⟨_, rfl, by rw [z]; exact h⟩
      · wp_walk using wpAny_loadPart' hl, wpAny_pyIter_tuple tup
        exact ⟨_, rfl, by rw [z]; exact h⟩
    · wp_walk using wpAny_loadPart' hl, wpAny_pyIter_tuple tup
      exact ⟨_, rfl, by rw [z]; exact h⟩
section
variable {prog : Program} {w : World} {A : Around} {E : Value → Shared → Prop} {s : Shared}
theorem call_enum_tup {l : Addr} {items : Array Value} {Q : Value → Shared → Prop} (hl : s.heap.IsTuple l items)
    (h : ∀ h', IsEnum h' (s.heap.objs.size + 1) s.heap.objs.size 0 .none → h'.IsTupleIter s.heap.objs.size l 0 →
      (∀ b o, s.heap.get? b = some o → h'.get? b = some o) → Q (.ref (s.heap.objs.size + 1)) { s with heap := h' }) :
    wpAny (model prog w) A (call (.type "enumerate") [.ref l]) Q E s := by
  obtain ⟨⟨c, dct, dt, sl⟩, get, hc, n, hd⟩ := hl
  cases (show c = .type "tuple" from hc)
  cases (show dt = .seq items n from hd)
  refine callType_new F.called_enumerate (by decide) (F.typeCall_enumerate_1 _) (F.newCall_enumerate_1 _) (fun obj => F.args_object_init_2 obj _) F.entry_enumerate_new (meets_enum_tup l items n dct sl) ⟨get, ?_⟩
  have z : (s.heap.push { cls := .type "tuple_iterator", data := .fields #[.ref l, .int 0 0] }).objs.size = s.heap.objs.size + 1 := Heap.size_push ..
  have he := Heap.get?_push_size (s.heap.push { cls := .type "tuple_iterator", data := .fields #[.ref l, .int 0 0] }) (o := { cls := .type "enumerate", data := .fields #[.none, .bool false, .ref s.heap.objs.size, rawInt 0, .none, .none] }) rfl
  rw [z] at he
  exact ⟨⟨_, he, rfl⟩, h _ he ⟨_, Heap.get?_push_of_some _ (Heap.get?_push_size _ rfl), rfl, rfl⟩ fun b o x => Heap.get?_push_of_some _ (Heap.get?_push_of_some _ x)⟩
end
/-- the tuple at a, each item in a new pair with its place -/
def IteT (K : PySem.W.Frag) (a : Addr) : It :=
  ⟨fun i H => ∃ (xs : List V) (x : V), SqT K H a xs ∧ xs[i]? = some x, fun i H v H' => ∃ T x, v = .ref T ∧ H T = none ∧ H' = upd H T (.tup [.int (i : Nat), x]) ∧ ∀ xs, SqT K H a xs → xs[i]? = some x, fun i H => ∃ xs : List V, SqT K H a xs ∧ xs.length = i⟩
theorem apart_it {h : Heap} {it a : Addr} {i : Nat} {items : Array Value} (x : h.IsTupleIter it a i) (p : h.IsTuple a items) : a ≠ it := by
  rintro rfl
  obtain ⟨o, g, c, _⟩ := x
  obtain ⟨o2, g2, c2, _⟩ := p
  rw [g] at g2
  cases g2
  rw [c] at c2
  exact absurd c2 (by decide)
theorem turn_enumT {P : Program} {w : World} {K : PySem.W.Frag} {elts : List Expr} {kk : Nat} {tpos : Pos} (a e it : Addr) :
    Turn P w K (.Tuple elts kk tpos) (IteT K a) [e, it] e (fun i h => (∃ old, IsEnum h e it ((i : Nat) : Int) old) ∧ h.IsTupleIter it a i ∧ e ≠ it) where
  mem := List.mem_cons_self
  obj := fun i h ⟨⟨old, he⟩, ⟨o, ho, _, hd⟩, _⟩ b hb => by
    rcases List.mem_cons.mp hb with rfl | hb
    · exact ⟨_, he, fun v q => by cases q⟩
    · rw [List.mem_singleton.mp hb]; exact ⟨o, ho, fun v q => by rw [hd] at q; cases q⟩
  keep := fun i h h' ⟨⟨old, he⟩, hi, ne⟩ k => ⟨⟨old, k e List.mem_cons_self _ he⟩, hi.at fun o q => k it (List.mem_cons_of_mem _ List.mem_cons_self) o q, ne⟩
  item := by
    intro X hP hw hK hc i pins s σ H E I hf ⟨⟨old, he⟩, hit, ne⟩ ⟨xs, x, hq, hx⟩
    subst hP hw hK
    obtain ⟨its, rv, p, hz⟩ := I.tuple hq
    have tup : s.heap.IsTuple a its.toArray := p
    obtain ⟨u, hu, ru⟩ := rv.get hx
    have hi : i < its.toArray.size := by
      have := (List.getElem?_eq_some_iff.mp hu).1
      simpa using this
    have nai := apart_it hit tup
    have nea : e ≠ a := by
      rintro rfl
      obtain ⟨o2, g2, c2, _⟩ := tup
      rw [show s.heap.get? e = _ from he] at g2
      cases g2
      have c3 : Value.type "enumerate" = Value.type "tuple" := c2
      exact absurd c3 (by decide)
    have lte : e < s.heap.objs.size := Heap.lt_size he
    have lti : it < s.heap.objs.size := let ⟨_, q, _⟩ := hit; Heap.lt_size q
    refine wpAny_pyNext_enum_itemD (Draws.tuple (A := X.A.in1) (show X.A.in1.handled = none from I.ok.hd hc) it a nai its.toArray) he ⟨hit, tup⟩ hi ne (by simp [ne, nea]) fun y h1 tk hy out st new sz kept => ?_
    have ey : y = u := by
      have q : its.toArray[i]? = some u := by simpa using hu
      rw [q] at hy; exact (Option.some.inj hy).symm
    subst ey
    refine ⟨_, rfl, wpAny_letOwnedTupleGo_enum (s := { s with heap := h1, toks := tk + 1 }) out fun h2 he2 sb => ?_⟩
    have new2 := (sb.2 _ (Nat.ne_of_gt lte)).trans new
    have ob : ObjOk X.prog X.w (upd H s.heap.objs.size (.tup [.int (i : Nat), x])) h2 s.heap.objs.size (.tup [.int (i : Nat), x]) :=
      ⟨by show 2 ≤ sizeLine; decide, [.int i tk, y], .cons ⟨_, rfl⟩ (.cons ru .nil), ⟨_, new2, rfl, _, rfl⟩⟩
    have J : Inv X pins σ (upd H s.heap.objs.size (.tup [.int (i : Nat), x])) { s with heap := h2, toks := tk + 1 } :=
      I.turnedNew (ch := [e, it]) (fun b o nb q => (sb.2 b fun z => nb (by simp [z])).trans (kept b o (fun z => nb (by simp [z])) (fun z => nb (by simp [z])) q)) hf (Nat.le_refl _) ob
    refine ⟨.ref s.heap.objs.size, _, J, rfl, ⟨_, x, rfl, I.hok.fresh (Nat.le_refl _), rfl, fun ys hy => by rw [I.tuple_inj hy hq]; exact hx⟩, ⟨⟨y, ?_⟩, st.1.at fun o q => (sb.2 it ne.symm).trans q, ne⟩, fun b hb => ?_⟩
    · rw [show ((i + 1 : Nat) : Int) = (i : Int) + 1 by omega]; exact he2
    · have lt : b < s.heap.objs.size := by
        rcases List.mem_cons.mp hb with rfl | hb
        · exact lte
        · rw [List.mem_singleton.mp hb]; exact lti
      rw [upd_ne (Nat.ne_of_lt lt)]
      exact (hf b hb).1
  done := by
    intro X hP hw hK hc i pins s σ H E I hf ⟨⟨old, he⟩, hit, ne⟩ ⟨xs, hq, hx⟩
    subst hP hw hK
    obtain ⟨its, rv, p, hz⟩ := I.tuple hq
    have tup : s.heap.IsTuple a its.toArray := p
    have nai := apart_it hit tup
    have hl := rv.length
    have ei : i = its.toArray.size := by rw [List.size_toArray, ← hl]; exact hx.symm
    subst ei
    obtain ⟨f0, f1, f2, f3, f4, f5⟩ := hf it (by simp)
    exact wpAny_pyNext_enum_endD (Draws.tuple (A := X.A.in1) (show X.A.in1.handled = none from I.ok.hd hc) it a nai its.toArray) he ⟨hit, tup⟩ fun h1 eb => ⟨rfl, I.turned (t' := s.toks) (fun b o nb q => eb b o nb q) f0 f1 f3 f4 f5⟩
  self := fun A i s Q E ⟨⟨_, he⟩, _⟩ h => wpAny_pyIter_enum he h
def iEnumT (K : PySem.W.Frag) (ta : TA) : TI := fun σ H R => ta σ H fun vs H1 => ∃ a xs, vs = [.ref a] ∧ SqT K H1 a xs ∧ R (IteT K a) H1
/-- enumerate(t), t a tuple -/
theorem pi_enumT {X : Cx} {e : Expr} {ta : TA} {p pos tpos : Pos} {elts : List Expr} {kk : Nat} (hg : Gl X "enumerate") (hm : X.mg "enumerate" = none) (ha : PA X [e] ta) (hs : starEach [e] X.env = [(false, eval e X.env)] := by rfl) :
    PI X (.Tuple elts kk tpos) (.Call (.Name "enumerate" p) [e] [] pos) (iEnumT X.K ta) := by
  constructor
  intro pins s σ H R I want
  refine Call_ (ld_blt I hg hm boot_enumerate (PyProof.Rows.callWith_type1 (thn (ha.run pos pins s σ H _ I want) ?_) hs rfl))
  rintro us s1 ⟨vs, H1, J, rel, a, xs, rfl, hq, q⟩
  obtain ⟨u, rfl, ru⟩ := vals1 rel
  cases ru
  obtain ⟨its, rv, p2, hz⟩ := J.tuple hq
  refine call_enum_tup p2 fun h1 he hit keep => wpAny_pyIter_enum he ?_
  have J2 : Inv X pins σ H1 { s1 with heap := h1 } := J.kept (t' := s1.toks) keep
  refine ⟨s1.heap.objs.size + 1, [s1.heap.objs.size + 1, s1.heap.objs.size], _, _, H1, rfl, J2, turn_enumT a _ _, ⟨⟨.none, he⟩, hit, Nat.succ_ne_self _⟩, fun b hb => ?_, q⟩
  have le : s1.heap.objs.size ≤ b := by
    rcases List.mem_cons.mp hb with rfl | hb
    · exact Nat.le_add_right _ _
    · rw [List.mem_singleton.mp hb]; exact Nat.le_refl _
  exact J.fpOk le (J.hok.fresh le)
theorem walk_enumT {K : PySem.W.Frag} {a : Addr} {xs : List V} : Walk (IteT K a) xs.length (fun H => SqT K H a xs) (YPair (fun i => some (.int (i : Nat))) (fun i => xs[i]?)) := by
  refine ⟨fun i _ hi q => ⟨xs, xs[i], q, by simp [hi]⟩, fun _ q => ⟨xs, q, rfl⟩, fun i H v H' _ q y => ?_⟩
  obtain ⟨T, x, h1, h2, h3, h4⟩ := y
  exact ⟨T, .int (i : Nat), x, h1, h2, h3, rfl, h4 xs q⟩
/-- two derivations of one expression: either reading serves -/
theorem PE.or {X : Cx} {e : Expr} {t u : TE} (h1 : PE X e t) (h2 : PE X e u) : PE X e (fun σ H Q => t σ H Q ∨ u σ H Q) :=
  ⟨fun pins s σ H Q I w => w.elim (h1.run pins s σ H Q I) (h2.run pins s σ H Q I)⟩
theorem PI.or {X : Cx} {tg e : Expr} {t u : TI} (h1 : PI X tg e t) (h2 : PI X tg e u) : PI X tg e (fun σ H R => t σ H R ∨ u σ H R) :=
  ⟨fun pins s σ H R I w => w.elim (h1.run pins s σ H R I) (h2.run pins s σ H R I)⟩
end LT

namespace LT
open PySem PySem.Spec PyProof.Rows L2
/-- zip of the tuple at a and the list at b, as many turns as both have -/
def ItzTL (K : PySem.W.Frag) (a b : Addr) : It :=
  ⟨fun i H => ∃ (xs ys : List V) (x y : V), SqT K H a xs ∧ SqL K H b ys ∧ xs[i]? = some x ∧ ys[i]? = some y,
    fun i H v H' => ∃ T x y, v = .ref T ∧ H T = none ∧ H' = upd H T (.tup [x, y]) ∧ (∀ xs, SqT K H a xs → xs[i]? = some x) ∧ ∀ ys, SqL K H b ys → ys[i]? = some y,
    fun i H => ∃ xs ys : List V, SqT K H a xs ∧ SqL K H b ys ∧ xs.length = i ∧ ys.length = i⟩
theorem sep_tl {z TI TO i1 i2 a b : Addr} (D : ZipApart z TI TO i1 i2 a b) : ZipSep2 z TI TO i1 i2 [i1, a] [i2, b] where
  TIz := D.TIz
  TOz := D.TOz
  TITO := D.TITO
  TIi1 := D.TIi1
  mem1 := List.mem_cons_self
  zf1 := by simp [D.i1z.symm, D.l1z.symm]
  Tf1 := by simp [D.TOi1, D.l1TO.symm]
  TIi2 := D.TIi2
  mem2 := List.mem_cons_self
  zf2 := by simp [D.i2z.symm, D.l2z.symm]
  Tf2 := by simp [D.TOi2, D.l2TO.symm]
  sep1_2 := by simp [D.i12, D.l2i1.symm]
  sep2_1 := by simp [D.i12.symm, D.l1i2.symm]
theorem turn_zipTL {P : Program} {w : World} {K : PySem.W.Frag} {elts : List Expr} {kk : Nat} {tpos : Pos} {a b z TI TO i1 i2 : Addr} (D : ZipApart z TI TO i1 i2 a b) :
    Turn P w K (.Tuple elts kk tpos) (ItzTL K a b) [z, TI, TO, i1, i2] z (fun i h => IsZip h z TI TO .none ∧ IsTupOf2 h TI (.ref i1) (.ref i2) ∧ (∃ x y, IsTupOf2 h TO x y) ∧ h.IsTupleIter i1 a i ∧ h.IsListIter i2 b i) where
  mem := List.mem_cons_self
  obj := fun i h ⟨hz, hTI, ⟨x, y, hTO⟩, ⟨o1, e1, _, d1⟩, ⟨o2, e2, _, d2⟩⟩ c hc => by
    simp only [List.mem_cons, List.not_mem_nil, or_false] at hc
    rcases hc with rfl | rfl | rfl | rfl | rfl
    · exact ⟨_, hz, fun v q => by cases q⟩
    · exact ⟨_, hTI, fun v q => by cases q⟩
    · exact ⟨_, hTO, fun v q => by cases q⟩
    · exact ⟨o1, e1, fun v q => by rw [d1] at q; cases q⟩
    · exact ⟨o2, e2, fun v q => by rw [d2] at q; cases q⟩
  keep := fun i h h' ⟨hz, hTI, ⟨x, y, hTO⟩, h1, h2⟩ k =>
    ⟨k z (by simp) _ hz, k TI (by simp) _ hTI, ⟨x, y, k TO (by simp) _ hTO⟩, h1.at fun o q => k i1 (by simp) o q, h2.at fun o q => k i2 (by simp) o q⟩
  item := by
    intro X hP hw hK hc i pins s σ H E I hf ⟨hz, hTI, ⟨x0, y0, hTO⟩, h1, h2⟩ ⟨xs, ys, x, y, qx, qy, hx, hy⟩
    subst hP hw hK
    obtain ⟨its, rv, p, _⟩ := I.tuple qx
    obtain ⟨its2, rv2, p2, _⟩ := I.list qy
    have tup : s.heap.IsTuple a its.toArray := p
    obtain ⟨u, hu, ru⟩ := rv.get hx
    obtain ⟨u2, hu2, ru2⟩ := rv2.get hy
    have li : i < its.toArray.size := by have := (List.getElem?_eq_some_iff.mp hu).1; simpa using this
    have li2 : i < its2.toArray.size := by have := (List.getElem?_eq_some_iff.mp hu2).1; simpa using this
    have hh : X.A.in1.handled = none := I.ok.hd hc
    have ltz : z < s.heap.objs.size := Heap.lt_size hz
    refine wpAny_pyNext_zipD2_item (sep_tl D) (Draws.tuple hh i1 a D.l1i1 its.toArray) (Draws.list hh i2 b D.l2i2 its2.toArray) hz hTI hTO ⟨h1, tup⟩ ⟨h2, p2.isList⟩ li li2 fun v1 v2 h3 tk y1 y2 z3 TO3 st1 st2 new sz kept => ?_
    have ev1 : v1 = u := by
      have q : its.toArray[i]? = some u := by simpa using hu
      rw [q] at y1; exact (Option.some.inj y1).symm
    have ev2 : v2 = u2 := by
      have q : its2.toArray[i]? = some u2 := by simpa using hu2
      rw [q] at y2; exact (Option.some.inj y2).symm
    subst ev1 ev2
    refine ⟨_, rfl, wpAny_letOwnedTupleGo_zip (s := { s with heap := h3, toks := tk }) z3 fun h4 z4 sb => ?_⟩
    have new4 := (sb.2 _ (Nat.ne_of_gt ltz)).trans new
    have ob : ObjOk X.prog X.w (upd H s.heap.objs.size (.tup [x, y])) h4 s.heap.objs.size (.tup [x, y]) :=
      ⟨by show 2 ≤ sizeLine; decide, [v1, v2], .cons ru (.cons ru2 .nil), ⟨_, new4, rfl, _, rfl⟩⟩
    have J : Inv X pins σ (upd H s.heap.objs.size (.tup [x, y])) { s with heap := h4, toks := tk } :=
      I.turnedNew (ch := [z, TI, TO, i1, i2]) (fun c o nb q => (sb.2 c fun e => nb (by simp [e])).trans (kept c o (fun e => nb (by simp [e])) (fun e => nb (by simp [e])) (fun e => nb (by simp [e])) (fun e => nb (by simp [e])) q)) hf (Nat.le_refl _) ob
    refine ⟨.ref s.heap.objs.size, _, J, rfl, ⟨_, x, y, rfl, I.hok.fresh (Nat.le_refl _), rfl, fun l hl => by rw [I.tuple_inj hl qx]; exact hx, fun l hl => by rw [I.list_inj hl qy]; exact hy⟩, ⟨z4, ?_, ⟨v1, v2, ?_⟩, ?_, ?_⟩, fun c hm => ?_⟩
    · exact (sb.2 _ D.TIz).trans (kept _ _ D.TIz D.TITO D.TIi1 D.TIi2 hTI)
    · exact (sb.2 _ D.TOz).trans TO3
    · exact st1.1.at fun o q => (sb.2 _ D.i1z).trans q
    · exact st2.1.at fun o q => (sb.2 _ D.i2z).trans q
    · have lt : c < s.heap.objs.size := by
        have hm2 := hm
        simp only [List.mem_cons, List.not_mem_nil, or_false] at hm2
        rcases hm2 with rfl | rfl | rfl | rfl | rfl
        · exact ltz
        · exact Heap.lt_size hTI
        · exact Heap.lt_size hTO
        · obtain ⟨_, e1, _⟩ := h1; exact Heap.lt_size e1
        · obtain ⟨_, e2, _⟩ := h2; exact Heap.lt_size e2
      rw [upd_ne (Nat.ne_of_lt lt)]
      exact (hf c hm).1
  done := by
    intro X hP hw hK hc i pins s σ H E I hf ⟨hz, hTI, ⟨x0, y0, hTO⟩, h1, h2⟩ ⟨xs, ys, qx, qy, e1, e2⟩
    subst hP hw hK
    obtain ⟨its, rv, p, _⟩ := I.tuple qx
    obtain ⟨its2, rv2, p2, _⟩ := I.list qy
    have tup : s.heap.IsTuple a its.toArray := p
    have n1 : i = its.toArray.size := by rw [List.size_toArray, ← rv.length]; exact e1.symm
    have n2 : i = its2.toArray.size := by rw [List.size_toArray, ← rv2.length]; exact e2.symm
    have hh : X.A.in1.handled = none := I.ok.hd hc
    exact wpAny_pyNext_zipD2_end (sep_tl D) (Draws.tuple hh i1 a D.l1i1 its.toArray) (Draws.list hh i2 b D.l2i2 its2.toArray) hz hTI hTO ⟨h1, tup⟩ ⟨h2, p2.isList⟩ (Nat.le_of_eq n1) (Nat.le_of_eq n2) (.inl n1) fun h3 tk kept =>
      ⟨rfl, I.turnedL (ch := [z, TI, TO, i1, i2]) (fun c o nb q => kept c o (fun e => nb (by simp [e])) (fun e => nb (by simp [e])) (fun e => nb (by simp [e])) (fun e => nb (by simp [e])) q) hf⟩
  self := fun A i s Q E st h => wpAny_pyIter_zip st.1 h
def iZipTL (K : PySem.W.Frag) (ta : TA) : TI := fun σ H R => ta σ H fun vs H1 => ∃ a b xs ys, vs = [.ref a, .ref b] ∧ SqT K H1 a xs ∧ SqL K H1 b ys ∧ R (ItzTL K a b) H1
theorem pi_zipTL {X : Cx} {e e2 : Expr} {ta : TA} {p pos tpos : Pos} {elts : List Expr} {kk : Nat} (hg : Gl X "zip") (hm : X.mg "zip" = none) (ha : PA X [e, e2] ta)
    (hs : starEach [e, e2] X.env = (false, eval e X.env) :: starEach [e2] X.env := by rfl) (hpl : (backTo pos (starEach [e2] X.env)).any (·.1) = false := by rfl) :
    PI X (.Tuple elts kk tpos) (.Call (.Name "zip" p) [e, e2] [] pos) (iZipTL X.K ta) := by
  constructor
  intro pins s σ H R I want
  refine Call_ (ld_blt I hg hm PyProof.Rows.boot_zip (PyProof.Rows.callWith_type1 (thn (ha.run pos pins s σ H _ I want) ?_) hs hpl))
  rintro us s1 ⟨vs, H1, J, rel, a, b, xs, ys, rfl, qx, qy, q⟩
  obtain ⟨u1, u2, rfl, r1, r2⟩ := vals2 rel
  cases r1
  cases r2
  obtain ⟨its, rv, p1, _⟩ := J.tuple qx
  obtain ⟨its2, rv2, p2, _⟩ := J.list qy
  have la : a < s1.heap.objs.size := let ⟨_, g, _⟩ := p1; Heap.lt_size g
  refine zip_begins2 (begins_tuple a its.toArray) (begins_list b its2.toArray) p1 p2.isList fun h' hz hTI hTO g1 g2 sz keep => wpAny_pyIter_zip hz ?_
  have J2 : Inv X pins σ H1 { s1 with heap := h' } := J.kept (t' := s1.toks) keep
  refine ⟨s1.heap.objs.size + 4, [s1.heap.objs.size + 4, s1.heap.objs.size + 2, s1.heap.objs.size + 3, s1.heap.objs.size, s1.heap.objs.size + 1], _, _, H1, rfl, J2, turn_zipTL (PySem.W.ktu_apart s1.heap.objs.size a b la p2.lt),
    ⟨hz, hTI, ⟨_, _, hTO⟩, ⟨_, g1, rfl, rfl⟩, ⟨_, g2, rfl, rfl⟩⟩, fun c hc => ?_, q⟩
  have le : s1.heap.objs.size ≤ c := by
    simp only [List.mem_cons, List.not_mem_nil, or_false] at hc
    rcases hc with rfl | rfl | rfl | rfl | rfl <;> first | exact Nat.le_add_right _ _ | exact Nat.le_refl _
  exact J.fpOk le (J.hok.fresh le)
theorem walk_zipTL {K : PySem.W.Frag} {a b : Addr} {xs ys : List V} (hl : xs.length = ys.length) : Walk (ItzTL K a b) xs.length (fun H => SqT K H a xs ∧ SqL K H b ys) (YPair (fun i => xs[i]?) (fun i => ys[i]?)) := by
  refine ⟨fun i _ hi q => ⟨xs, ys, xs[i], ys[i]'(by omega), q.1, q.2, by simp [hi], by simp [show i < ys.length by omega]⟩, fun _ q => ⟨xs, ys, q.1, q.2, rfl, hl.symm⟩, fun i H v H' _ q y => ?_⟩
  obtain ⟨T, x, y2, h1, h2, h3, h4, h5⟩ := y
  exact ⟨T, x, y2, h1, h2, h3, h4 xs q.1, h5 ys q.2⟩
end LT

namespace LG
open PySem PySem.Spec PyProof.Rows L2
section
variable {X : Cx}
/-- repr of a bool -/
theorem call_repr_bl : CallR X (.builtin "repr") (fun xs H Q => ∃ b : Bool, xs = [.bl b] ∧ Q (.str (if b then "True" else "False")) H) := by
  intro pins s σ H xs us Q I r h
  obtain ⟨b, rfl, q⟩ := h
  obtain ⟨u, rfl, ru⟩ := vals1 r
  cases ru
  exact PySem.P.repr_of_bool ⟨.str _, H, I.tok _, ⟨_, rfl⟩, q⟩
/-- repr of data: lists, tuples, ints, bools -/
def rReprA (K : PySem.W.Frag) : List V → Hp → VK → Prop := fun xs H Q => (∃ b : Bool, xs = [.bl b] ∧ Q (.str (if b then "True" else "False")) H) ∨ (∃ i : Int, xs = [.int i] ∧ i.natAbs.log2 < 1920 ∧ Q (.str (toString i)) H) ∨ rRepr K xs H Q
theorem call_reprA (hgd : X.A.guards = some []) (hu : X.A.units + 66 < cLine) : CallR X (.builtin "repr") (rReprA X.K) := by
  intro pins s σ H xs us Q I r h
  rcases h with h | h | h
  · exact call_repr_bl pins s σ H xs us Q I r h
  · exact SkE.call_repr_int pins s σ H xs us Q I r h
  · exact call_repr hgd hu pins s σ H xs us Q I r h
end
end LG

/-! what the laws share: tests, values, the bag, lists or tuples -/
namespace LP
open PySem L2 LT LG
theorem iteD {c A B : Prop} [Decidable c] (hc : c) (h : A) : if decide c = true then A else B := by
  rw [if_pos (decide_eq_true hc)]; exact h
theorem iteX {c A B : Prop} [Decidable c] (hc : ¬ c) (h : B) : if decide c = true then A else B := by
  rw [if_neg (by rw [decide_eq_false hc]; exact Bool.false_ne_true)]; exact h
theorem iteNX {c A B : Prop} [Decidable c] (hc : ¬ c) (h : A) : if (!decide c) = true then A else B := by
  rw [decide_eq_false hc]; exact iteT h
theorem ite2d {c A B : Prop} [Decidable c] (h1 : c → A) (h2 : ¬ c → B) : if decide c = true then A else B := by
  by_cases h : c
  · exact iteD h (h1 h)
  · exact iteX h (h2 h)
theorem iteNB {b : Bool} {A B : Prop} (hb : b = true) (h : B) : if (!b) = true then A else B := by
  subst hb; exact iteF h
theorem iteNF {b : Bool} {A B : Prop} (hb : b = false) (h : A) : if (!b) = true then A else B := by
  subst hb; exact iteT h
theorem iteB {b : Bool} {A B : Prop} (hb : b = true) (h : A) : if b = true then A else B := by
  subst hb; exact iteT h
theorem iteBF {b : Bool} {A B : Prop} (hb : b = false) (h : B) : if b = true then A else B := by
  subst hb; exact iteF h
theorem idx_before {α : Type} [BEq α] [LawfulBEq α] {a : α} : ∀ {l : List α} {m : Nat}, m < l.idxOf a → l[m]? ≠ some a
  | [], m, h => by simp at h
  | b :: r, 0, h => by
    intro e
    have e1 : b = a := Option.some.inj e
    subst e1
    rw [List.idxOf_cons] at h
    simp at h
  | b :: r, m + 1, h => by
    rw [List.idxOf_cons] at h
    by_cases q : (b == a) = true
    · simp [q] at h
    · rw [Bool.not_eq_true] at q
      rw [q] at h
      have h' : m + 1 < r.idxOf a + 1 := h
      exact idx_before (l := r) (m := m) (by omega)
theorem idx_get {α : Type} [BEq α] [LawfulBEq α] {a : α} {l : List α} (h : a ∈ l) : l[l.idxOf a]? = some a := by
  have h1 := List.idxOf_lt_length_iff.mpr h
  rw [List.getElem?_eq_getElem h1]
  have h2 := List.findIdx_getElem (p := (· == a)) (xs := l) (w := h1)
  exact congrArg some (eq_of_beq h2)

theorem same_upd {H : Hp} {p : Addr} {o : HO} (h : H p = Option.none) : Same H (upd H p o) := fun b x e => by rw [upd_ne (ne_of_none e h)]; exact e
/-- all but the bag at b is as it was -/
def Fr (H H' : Hp) (b : Addr) : Prop := ∀ a o, H a = some o → a ≠ b → H' a = some o
theorem Fr.refl (H : Hp) (b : Addr) : Fr H H b := fun _ _ h _ => h
theorem Fr.trans {H H1 H2 : Hp} {b : Addr} (a : Fr H H1 b) (c : Fr H1 H2 b) : Fr H H2 b := fun x o h n => c x o (a x o h n) n
theorem Fr.of {H H' : Hp} {b : Addr} (s : Same H H') : Fr H H' b := fun a o h _ => s a o h
theorem Fr.free {H H' : Hp} {b l : Addr} (e : Fr H H' b) (hb : ∃ o, H b = some o) (h : H' l = Option.none) (h' : ∃ o, H' b = some o) : H l = Option.none := by
  cases q : H l with
  | none => rfl
  | some o =>
    by_cases hl : l = b
    · subst hl; obtain ⟨o', h'⟩ := h'; rw [h'] at h; cases h
    · rw [e l o q hl] at h; cases h
abbrev M61 : Int := 2305843009213693951
/-- the bag: the script's copy at l, the place in it, the rest of a large cell, the number of draws (at most d), the script's sum -/
structure Bag (H : Hp) (b l : Addr) (ns : List Int) (d : Nat) : Prop where
  ex : ∃ i c k t : Int, H b = some (.lst [.ref l, .int i, .int c, .int k, .int t]) ∧ 0 ≤ i ∧ i ≤ ns.length ∧ 0 ≤ k ∧ k ≤ d ∧ 0 ≤ t ∧ t < M61
  ls : H l = some (.lst (ns.map V.int))
  ne : l ≠ b
theorem Bag.mono {H : Hp} {b l : Addr} {ns : List Int} {d d' : Nat} (g : Bag H b l ns d) (h : d ≤ d') : Bag H b l ns d' := by
  obtain ⟨⟨i, c, k, t, h1, h2, h3, h4, h5, h6⟩, ls, ne⟩ := g
  exact ⟨⟨i, c, k, t, h1, h2, h3, h4, by omega, h6⟩, ls, ne⟩
theorem Bag.same {H H' : Hp} {b l : Addr} {ns : List Int} {d : Nat} (g : Bag H b l ns d) (s : Same H H') : Bag H' b l ns d := by
  obtain ⟨⟨i, c, k, t, h1, h2⟩, ls, ne⟩ := g
  exact ⟨⟨i, c, k, t, s _ _ h1, h2⟩, s _ _ ls, ne⟩

theorem flat_ints (l : List Int) : (l.map V.int).all flatV = true := by
  rw [List.all_eq_true]; intro v hv; obtain ⟨i, _, rfl⟩ := List.mem_map.mp hv; rfl
theorem in_ints {p : Int} {l : List Int} : inV (.int p) (l.map V.int) = decide (p ∈ l) := by
  induction l with
  | nil => rfl
  | cons a r ih =>
    show (eqV (.int a) (.int p) || inV (.int p) (r.map V.int)) = _
    rw [ih]
    show ((a == p) || decide (p ∈ r)) = _
    by_cases h : a = p
    · subst h; simp
    · have h2 : ¬ p = a := fun q => h q.symm
      simp [h, h2]

theorem Bag.nb {H : Hp} {b l : Addr} {ns : List Int} {d : Nat} (g : Bag H b l ns d) : ∃ o, H b = some o := let ⟨⟨_, _, _, _, h, _⟩, _, _⟩ := g; ⟨_, h⟩
theorem Bag.ne_new {H : Hp} {b l p : Addr} {ns : List Int} {d : Nat} (g : Bag H b l ns d) (hp : H p = none) : p ≠ b := by
  obtain ⟨o, h⟩ := g.nb
  exact (ne_of_none h hp).symm
theorem Bag.l_ne {H : Hp} {b l p : Addr} {ns : List Int} {d : Nat} (g : Bag H b l ns d) (hp : H p = none) : l ≠ p := ne_of_none g.ls hp

section
variable (K : PySem.W.Frag)
def sp__law_bag : Sp := fun vs H Q _ => ∃ (a : Addr) (ns : List Int), vs = [.ref a] ∧ SqL K H a (ns.map V.int) ∧ ns.length ≤ 63 ∧ ∀ (H' : Hp) (b l : Addr), Same H H' → H b = none → H l = none → Bag H' b l ns 0 → Q (.ref b) H'
def sp__law_stir : Sp := fun vs H Q _ => ∃ x y : Int, vs = [.int x, .int y] ∧ 0 ≤ x ∧ x < M61 ∧ 0 ≤ y ∧ y < 2 ^ 40 ∧ ∀ r : Int, Q (.int r) H
def sp__law_draw : Sp := fun vs H Q _ => ∃ (b l : Addr) (ns : List Int) (d : Nat) (n : Int), vs = [.ref b, .int n] ∧ Bag H b l ns d ∧ 0 < n ∧ n.natAbs.log2 < 9000 ∧ d < 1000000 ∧ ns.length ≤ 63 ∧
  ∀ (H' : Hp) (r : Int), 0 ≤ r → r < n → Bag H' b l ns (d + 1) → Fr H H' b → Q (.int r) H'


end
/-- what len asks of a list or a tuple -/
def rLenS (K : PySem.W.Frag) : List V → Hp → VK → Prop := fun vs H Q => ∃ a xs, vs = [.ref a] ∧ (SqL K H a xs ∨ SqT K H a xs) ∧ Q (.int xs.length) H
theorem u1 {k : Nat} {A : Around} (r : Room k A) : A.units + 1 < cLine := by have := r.un; omega
theorem u66 {k : Nat} {A : Around} (r : Room k A) : A.units + 66 < cLine := by have := r.un; omega
theorem ixN_at {n j : Nat} (h : j < n) : ixN n (j : Int) = some j := by
  unfold ixN; rw [if_pos (by omega), if_pos (by omega)]; congr 1
/-- a list or a tuple -/
def SqE (K : PySem.W.Frag) (H : Hp) (a : Addr) (xs : List V) : Prop := SqL K H a xs ∨ SqT K H a xs
theorem same_tup {K : PySem.W.Frag} {H H' : Hp} {a : Addr} {xs : List V} (e : Same H H') (h : SqT K H a xs) : SqT K H' a xs := by
  rcases h with (h | ⟨o, h⟩) | h
  · exact .inl (.inl (e _ _ h))
  · exact .inl (.inr ⟨o, e _ _ h⟩)
  · exact .inr h
theorem SqE.same {K : PySem.W.Frag} {H H' : Hp} {a : Addr} {xs : List V} (h : SqE K H a xs) (e : Same H H') : SqE K H' a xs := h.imp e.seq (same_tup e)
theorem SqE.l {K : PySem.W.Frag} {H : Hp} {a : Addr} {xs : List V} (h : H a = some (.lst xs)) : SqE K H a xs := .inl (SqL.of h)
theorem SqE.t {K : PySem.W.Frag} {H : Hp} {a : Addr} {xs : List V} (h : H a = some (.tup xs)) : SqE K H a xs := .inr (SqT.of h)
theorem rd_ix {K : PySem.W.Frag} {H : Hp} {a : Addr} {Q : VK} {xs : List V} {j : Nat} {v : V} {z : Int} (h : SqL K H a xs) (e : xs[j]? = some v) (hz : z = (j : Int)) (q : Q v H) : rIxL K (.ref a) (.int z) H Q :=
  ⟨a, xs, z, v, rfl, rfl, h, at_of hz e, q⟩
theorem int_at {ns : List Int} {j : Nat} {x : Int} (h : ns[j]? = some x) : (ns.map V.int)[j]? = some (V.int x) := by rw [List.getElem?_map, h]; rfl
theorem at_int {ns : List Int} {j : Nat} {v : V} (h : (ns.map V.int)[j]? = some v) : ∃ x, ns[j]? = some x ∧ v = .int x := by
  rw [List.getElem?_map] at h
  cases q : ns[j]? with
  | none => rw [q] at h; cases h
  | some x => rw [q] at h; cases h; exact ⟨x, rfl, rfl⟩
/-! a walk over a list or a tuple: one turn for both -/
theorem or_E {K : PySem.W.Frag} {H : Hp} {a : Addr} {xs : List V} {σ : St} {i : Nat} {R : It → Hp → Prop} (hE : SqE K H a xs) (hv : σ[i]? = some (some (.ref a))) (k : ∀ (J : It) (G : Hp → Prop), Walk J xs.length G (YAt xs) → (∀ H', Same H H' → G H') → R J H) :
    iList K (tVar i) σ H R ∨ iTup K (tVar i) σ H R := by
  rcases hE with h | h
  · exact .inl ⟨_, hv, a, rfl, ⟨_, h⟩, k _ _ walk_list fun H' s => s.seq h⟩
  · exact .inr ⟨_, hv, a, rfl, ⟨_, h⟩, k _ _ walk_tup fun H' s => same_tup s h⟩
theorem or_enumE {K : PySem.W.Frag} {H : Hp} {a : Addr} {xs : List V} {σ : St} {R : It → Hp → Prop} {ta : TA} (hE : SqE K H a xs) (hv : ∀ Q : List V → Hp → Prop, Q [.ref a] H → ta σ H Q)
    (k : ∀ (J : It) (G : Hp → Prop), Walk J xs.length G (YPair (fun i => some (.int (i : Nat))) (fun i => xs[i]?)) → (∀ H', Same H H' → G H') → R J H) :
    iEnum K ta σ H R ∨ iEnumT K ta σ H R := by
  rcases hE with h | h
  · exact .inl (hv _ ⟨a, xs, rfl, h, k _ _ walk_enum fun H' s => s.seq h⟩)
  · exact .inr (hv _ ⟨a, xs, rfl, h, k _ _ walk_enumT fun H' s => same_tup s h⟩)
theorem or_zipE {K : PySem.W.Frag} {H : Hp} {a : Addr} {xs ys : List V} {σ : St} {R : It → Hp → Prop} {ta : TA} (hE : SqE K H a xs) (hl : xs.length = ys.length)
    (hv : ∀ Q : List V → Hp → Prop, (∀ H1 p, Same H H1 → H p = none → H1 p = some (.lst ys) → Q [.ref a, .ref p] H1) → ta σ H Q)
    (k : ∀ (H1 : Hp) (p : Addr) (J : It) (G : Hp → Prop), Same H H1 → H p = none → H1 p = some (.lst ys) → Walk J xs.length G (YPair (fun i => xs[i]?) (fun i => ys[i]?)) → (∀ H', Same H1 H' → G H') → R J H1) :
    iZip K ta σ H R ∨ iZipTL K ta σ H R := by
  rcases hE with h | h
  · exact .inl (hv _ fun H1 p s np hp => ⟨a, p, xs, ys, rfl, s.seq h, SqL.of hp, k _ p _ _ s np hp (walk_zip (by omega)) fun H' t => ⟨t.seq (s.seq h), SqL.of (t _ _ hp)⟩⟩)
  · exact .inr (hv _ fun H1 p s np hp => ⟨a, p, xs, ys, rfl, same_tup s h, SqL.of hp, k _ p _ _ s np hp (walk_zipTL hl) fun H' t => ⟨same_tup t (same_tup s h), SqL.of (t _ _ hp)⟩⟩)
theorem ty_E {K : PySem.W.Frag} {H : Hp} {a : Addr} {xs : List V} (h : SqE K H a xs) : TyX K H (.ref a) (.type "list") ∨ TyX K H (.ref a) (.type "tuple") := by
  rcases h with ((h | ⟨o, h⟩) | ⟨dd, its, n, h1, h2⟩) | ((h | ⟨o, h⟩) | ⟨dd, its, n, h1, h2⟩)
  · exact .inl (.base (.lst h))
  · exact .inl (.base (.frz h))
  · exact .inl (.kList h1 h2.1)
  · exact .inr (.base (.tup h))
  · exact .inr (.fTuple h)
  · exact .inr (.kTuple h1 h2.1)
theorem kit_lt {K : PySem.W.Frag} : PySem.W.kitAny K (.type "list") [.type "list", .type "tuple"] = some true := kitAny_cons (b := true) (kit_ty (by decide +kernel)) (fun z => nomatch z) fun _ => rfl
theorem kit_tt {K : PySem.W.Frag} : PySem.W.kitAny K (.type "tuple") [.type "list", .type "tuple"] = some true := kitAny_cons (b := false) (kit_ty (by decide +kernel)) (fun _ => kitAny_cons (b := true) (kit_ty (by decide +kernel)) (fun z => nomatch z) fun _ => rfl) fun z => nomatch z
/-! patterns as texts -/
def sgn (b : Bool) : Nat := if b = true then 84 else 82
def pstr (l : List Bool) : Str := ⟨(l.map sgn).toArray⟩
theorem pstr_nil : pstr [] = ("" : Str) := by decide +kernel
theorem pstr_T (l : List Bool) : pstr l ++ ("T" : Str) = pstr (l ++ [true]) := by
  show (⟨(l.map sgn).toArray ++ ("T" : Str).cps⟩ : Str) = _
  rw [show ("T" : Str).cps = #[84] by decide +kernel]
  simp [pstr, sgn]
theorem pstr_R (l : List Bool) : pstr l ++ ("R" : Str) = pstr (l ++ [false]) := by
  show (⟨(l.map sgn).toArray ++ ("R" : Str).cps⟩ : Str) = _
  rw [show ("R" : Str).cps = #[82] by decide +kernel]
  simp [pstr, sgn]
theorem pstr_size (l : List Bool) : (pstr l).cps.size = l.length := by simp [pstr]
theorem pstr_at {l : List Bool} {i c : Nat} (h : (pstr l).cps[i]? = some c) : ∃ b, l[i]? = some b ∧ c = sgn b := by
  simp only [pstr, List.getElem?_toArray, List.getElem?_map] at h
  cases q : l[i]? with
  | none => rw [q] at h; cases h
  | some b => rw [q] at h; cases h; exact ⟨b, rfl, rfl⟩
theorem sgnT : (⟨#[sgn true]⟩ : Str) = ("T" : Str) := by decide +kernel
theorem sgnR : (⟨#[sgn false]⟩ : Str) = ("R" : Str) := by decide +kernel
theorem R_ne_T : ¬ ((⟨#[sgn false]⟩ : Str) = ("T" : Str)) := by decide +kernel
theorem vsT : V.str ⟨#[sgn true]⟩ = V.str "T" := congrArg V.str sgnT
theorem vsR : ¬ (V.str ⟨#[sgn false]⟩ = V.str "T") := fun h => R_ne_T (V.str.inj h)
theorem vsRR : V.str ⟨#[sgn false]⟩ = V.str "R" := congrArg V.str sgnR
theorem count_T (l : List Bool) : Txt.count (pstr l) ("T" : Str) = ((l.count true : Nat) : Int) := by
  rw [show ("T" : Str) = ⟨#[84]⟩ by decide +kernel, PyProof.Rows.count_cnt]
  show PyProof.Rows.cnt 84 (l.map sgn).toArray.toList = _
  rw [List.toList_toArray]
  induction l with
  | nil => rfl
  | cons b r ih =>
    rw [List.map_cons, PyProof.Rows.cnt_cons, ih]
    cases b with
    | true => rw [if_pos (by decide)]; simp; omega
    | false => rw [if_neg (by decide)]; simp
/-! dicts by place -/
def numK (ns : List Int) : List (Key × V) := ns.zipIdx.map fun p => (.inl p.1, .int (p.2 : Nat))
theorem numK_len (ns : List Int) : (numK ns).length = ns.length := by simp [numK]
theorem putK_new {kvs : List (Key × V)} {k : Key} {v : V} (h : ∀ q ∈ kvs, q.1 ≠ k) : putK kvs k v = kvs ++ [(k, v)] := by
  unfold putK
  rw [if_neg]
  intro q
  obtain ⟨x, hx, e⟩ := List.any_eq_true.mp q
  exact h x hx (of_decide_eq_true e)
theorem numK_snoc (ns : List Int) (x : Int) : numK (ns ++ [x]) = numK ns ++ [(.inl x, .int (ns.length : Nat))] := by
  unfold numK
  rw [List.zipIdx_append]
  simp
theorem numK_put {ns : List Int} {x : Int} (h : x ∉ ns) : putK (numK ns) (.inl x) (.int (ns.length : Nat)) = numK (ns ++ [x]) := by
  rw [numK_snoc, putK_new]
  intro q hq e
  obtain ⟨⟨a, i⟩, hp, rfl⟩ := List.mem_map.mp hq
  cases e
  exact h (List.mem_of_getElem? (List.mem_zipIdx_iff_getElem?.mp hp))
theorem numK_val {ns : List Int} (nd : ns.Nodup) {j : Nat} {x : Int} (h : ns[j]? = some x) : valV (numK ns) (.inl x) = some (.int (j : Nat)) := by
  unfold valV
  have key : (numK ns).find? (fun kv => decide (kv.1 = Sum.inl x)) = some (.inl x, .int (j : Nat)) := by
    obtain ⟨hj, e⟩ := List.getElem?_eq_some_iff.mp h
    rw [List.find?_eq_some_iff_getElem]
    refine ⟨decide_eq_true rfl, j, by rw [numK_len]; exact hj, ?_, fun m hm => ?_⟩
    · simp [numK, e]
    · have hm2 : m < ns.length := by omega
      have e2 : ((numK ns)[m]'(by rw [numK_len]; omega)).1 = Sum.inl ns[m] := by simp [numK]
      rw [e2, decide_eq_false]
      · rfl
      · intro z
        cases z
        exact Nat.ne_of_lt hm ((List.getElem_inj nd).mp e.symm)
  rw [key]; rfl

theorem seq_int {n : Nat} {z : Int} (h0 : 0 ≤ z) (h : z.toNat < n) : seqIndex? z n = some z.toNat := by
  unfold seqIndex?
  have e : (if z < 0 then z + (n : Int) else z) = z := if_neg (by omega)
  simp only [e]
  rw [if_pos (by rw [Bool.and_eq_true, decide_eq_true_iff, decide_eq_true_iff]; omega)]
theorem ixN_int {n : Nat} {z : Int} (h0 : 0 ≤ z) (h : z.toNat < n) : ixN n z = some z.toNat := by
  unfold ixN
  rw [if_pos h0, if_pos (by omega)]
theorem log_small {n : Nat} (h : n < 1024) : ((n : Int)).natAbs.log2 < 9000 := by
  rw [Int.natAbs_natCast]
  by_cases h0 : n = 0
  · subst h0; decide
  · exact Nat.lt_trans ((Nat.log2_lt h0).mpr (show n < 2 ^ 10 from h)) (by decide)
theorem erase_map {α β : Type} (f : α → β) : ∀ (l : List α) (k : Nat), (l.map f).eraseIdx k = (l.eraseIdx k).map f
  | [], _ => rfl
  | _ :: _, 0 => rfl
  | a :: r, k + 1 => by
    show f a :: (r.map f).eraseIdx k = f a :: (r.eraseIdx k).map f
    rw [erase_map f r k]
end LP

/-! the draws of the laws with a reel -/
namespace LP
open PySem L2
abbrev M127 : Int := 2 ^ 140
theorem log_m {t : Int} (h0 : 0 ≤ t) (h1 : t < 2 ^ 140) : t.natAbs.log2 < 200 := by
  by_cases z : t.natAbs = 0
  · rw [z]; decide
  · exact Nat.lt_trans ((Nat.log2_lt z).mpr (show t.natAbs < 2 ^ 140 by omega)) (by decide)
structure Reel (H : Hp) (b : Addr) (d : Nat) : Prop where
  ex : ∃ (g c : Addr) (gs cs : List Int) (k t : Int), H b = some (.lst [.ref g, .ref c, .int k, .int t]) ∧ H g = some (.lst (gs.map V.int)) ∧ H c = some (.lst (cs.map V.int)) ∧ g ≠ b ∧ c ≠ b ∧ 0 < cs.length ∧ cs.length ≤ 64 ∧ gs.length ≤ 63 ∧ (∀ x ∈ cs, 0 ≤ x ∧ x < 1000003) ∧ 0 ≤ k ∧ k ≤ d ∧ 0 ≤ t ∧ t < M127
theorem Reel.mono {H : Hp} {b : Addr} {d d' : Nat} (r : Reel H b d) (h : d ≤ d') : Reel H b d' := by
  obtain ⟨g, c, gs, cs, k, t, a1, a2, a3, a4, a5, a6, a7, a8, a9, a10, a11, a12⟩ := r.ex
  exact ⟨⟨g, c, gs, cs, k, t, a1, a2, a3, a4, a5, a6, a7, a8, a9, a10, by omega, a12⟩⟩
theorem Reel.same {H H' : Hp} {b : Addr} {d : Nat} (r : Reel H b d) (s : Same H H') : Reel H' b d := by
  obtain ⟨g, c, gs, cs, k, t, a1, a2, a3, a4⟩ := r.ex
  exact ⟨⟨g, c, gs, cs, k, t, s _ _ a1, s _ _ a2, s _ _ a3, a4⟩⟩
theorem Reel.nb {H : Hp} {b : Addr} {d : Nat} (r : Reel H b d) : ∃ o, H b = some o := let ⟨_, _, _, _, _, _, h, _⟩ := r.ex; ⟨_, h⟩
theorem Reel.ne_new {H : Hp} {b p : Addr} {d : Nat} (r : Reel H b d) (hp : H p = none) : p ≠ b := by
  obtain ⟨o, h⟩ := r.nb
  exact (ne_of_none h hp).symm
/-- an address that is no part of the reel at b -/
def Apart (H : Hp) (b a : Addr) : Prop := a ≠ b ∧ ∀ xs, H b = some (.lst xs) → V.ref a ∉ xs
theorem Reel.new {H : Hp} {b p : Addr} {d : Nat} (r : Reel H b d) (hp : H p = none) : Apart H b p := by
  refine ⟨r.ne_new hp, fun xs hx hm => ?_⟩
  obtain ⟨g, c, gs, cs, k, t, a1, a2, a3, _⟩ := r.ex
  rw [a1] at hx; cases hx
  simp at hm
  rcases hm with rfl | rfl
  · rw [hp] at a2; cases a2
  · rw [hp] at a3; cases a3
theorem Reel.upd {H : Hp} {b a : Addr} {d : Nat} {o : HO} (r : Reel H b d) (h : Apart H b a) : Reel (L2.upd H a o) b d := by
  obtain ⟨g, c, gs, cs, k, t, a1, a2, a3, a4⟩ := r.ex
  have n := h.2 _ a1
  have n1 : g ≠ a := fun e => n (by rw [e]; simp)
  have n2 : c ≠ a := fun e => n (by rw [e]; simp)
  exact ⟨⟨g, c, gs, cs, k, t, by rw [upd_ne (Ne.symm h.1)]; exact a1, by rw [upd_ne n1]; exact a2, by rw [upd_ne n2]; exact a3, a4⟩⟩
theorem Apart.upd {H : Hp} {b a c : Addr} {o : HO} (h : Apart H b a) (hc : c ≠ b) : Apart (L2.upd H c o) b a := ⟨h.1, fun xs hx => h.2 xs (by rw [upd_ne (Ne.symm hc)] at hx; exact hx)⟩
section
variable (K : PySem.W.Frag)
def sp__law_reel : Sp := fun vs H Q _ => ∃ (a : Addr) (ns : List Int), vs = [.ref a] ∧ SqL K H a (ns.map V.int) ∧ ns.length ≤ 63 ∧ ∀ (H' : Hp) (b : Addr), Same H H' → H b = none → Reel H' b 0 → Q (.ref b) H'
def sp__law_draw_r : Sp := fun vs H Q _ => ∃ (b : Addr) (d : Nat) (n : Int), vs = [.ref b, .int n] ∧ Reel H b d ∧ 0 < n ∧ n.natAbs.log2 < 9000 ∧ d < 1000000 ∧
  ∀ (H' : Hp) (r : Int), 0 ≤ r → r < n → Reel H' b (d + 1) → Fr H H' b → (∀ a, Apart H b a → H a ≠ none → Apart H' b a) → Q (.int r) H'
def sp__law_shuffled_r : Sp := fun vs H Q _ => ∃ (b : Addr) (d : Nat) (p : Addr) (xs : List Int), vs = [.ref b, .ref p] ∧ Reel H b d ∧ d < 900000 ∧ H p = some (.lst (xs.map V.int)) ∧ xs.length ≤ 400 ∧ p ≠ b ∧
  ∀ (H' : Hp) (q : Addr) (ys : List Int), Reel H' b (d + xs.length) → Fr H H' b → (∀ a, Apart H b a → H a ≠ none → Apart H' b a) → H q = none → ys.Perm xs → H' q = some (.lst (ys.map V.int)) → Apart H' b q → Q (.ref q) H'
end
end LP

namespace LX
open PySem PySem.Spec PyProof.Rows L2 LG
/-- repr, of None too -/
def rReprN (K : PySem.W.Frag) : List V → Hp → VK → Prop := fun xs H Q => (xs = [.non] ∧ Q (.str "None") H) ∨ rReprA K xs H Q
theorem call_reprN {X : Cx} (hgd : X.A.guards = some []) (hu : X.A.units + 66 < cLine) : CallR X (.builtin "repr") (rReprN X.K) := by
  intro pins s σ H xs us Q I r h
  rcases h with h | h
  · obtain ⟨rfl, q⟩ := h
    obtain ⟨u, rfl, ru⟩ := vals1 r
    cases ru
    exact PySem.P.repr_of_none ⟨.str _, H, I.tok _, ⟨_, rfl⟩, q⟩
  · exact call_reprA hgd hu pins s σ H xs us Q I r h
end LX

/-! xs[::e], e of 1 or -1 -/
namespace LX
open PySem PySem.Spec PyProof.Rows L2
section
variable {X : Cx}
def kStep (K : PySem.W.Frag) (x : V) (Q : VK) : Option Int → Hp → Prop := fun o H2 => ∃ a xs, x = .ref a ∧ (o = some 1 ∨ o = some (-1)) ∧ SqL K H2 a xs ∧ ∀ p, H2 p = none → Q (.ref p) (upd H2 p (.lst (if o = some 1 then xs else xs.reverse)))
def tStepL (K : PySem.W.Frag) (te tk : TE) : TE := fun σ H Q => te σ H fun x H1 => tPart tk σ H1 (kStep K x Q)
theorem pick_one (its : List Value) : slicePick its.toArray none none (some 1) = its.toArray := by
  have e : slicePick its.toArray none none (some 1) = slicePick its.toArray none none none := rfl
  rw [e, slicePick_cut, HT.sIx_none, HT.sIx_none]
  simp
theorem pe_stepL {e st : Expr} {te tk : TE} {p3 pos : Pos} (he : PE X e te) (hk : PE X st tk) : PE X (.Subscript e (.Slice none none (some st) p3) pos) (tStepL X.K te tk) := by
  refine ⟨fun pins s σ H Q I h => ?_⟩
  refine Subscript_ (thn (he.run pins s σ H _ I h) fun v s1 ⟨x, H1, I1, r1, q1⟩ => ?_)
  have hst : PO X (some st) (tPart tk) := po_some hk
  refine wpAny_Slice (thn (po_none.run pins s1 σ H1 (fun o H2 => o = none ∧ H2 = H1) I1 ⟨rfl, rfl⟩) fun vl s2 ⟨l, H2, I2, pl, el, e2⟩ => ?_)
  subst el e2
  refine thn (po_none.run pins s2 σ H2 (fun o H3 => o = none ∧ H3 = H2) I2 ⟨rfl, rfl⟩) fun vu s3 ⟨u, H3, I3, pu, eu, e3⟩ => ?_
  subst eu e3
  refine thn (hst.run pins s3 σ H3 _ I3 q1) fun vs s4 ⟨o, H4, I4, ps, a, xs, ex, eo, hx, q⟩ => ?_
  subst ex
  cases r1
  have I5 : Inv X pins σ H4 { s4 with heap := s4.heap.push { cls := .type "slice", data := .fields #[vl, vu, vs] } } := I4.kept (t' := s4.toks) fun b ob q => Heap.get?_push_of_some _ q
  obtain ⟨its, r, ht, hz⟩ := I5.list hx
  have hlen := r.length
  show wpAny (model X.prog X.w) X.A (subscriptTail e (.Slice none none (some st) p3) (.ref a) (.ref s4.heap.objs.size)) (EP X pins σ Q) X.xe { s4 with heap := s4.heap.push { cls := .type "slice", data := .fields #[vl, vu, vs] } }
  refine tail_any (ops := [.ref a, .ref s4.heap.objs.size]) ht.isList.typeIs (PySem.slot_list_getitem.lookup) ?_ (by with_unfolding_all rfl)
  rcases eo with rfl | rfl
  · refine wpAny_getItem_list_slice ht.isList (Heap.IsSliceOf.new _ vl vu vs) pl pu ps (by decide) ?_ (by rw [List.size_toArray]; omega)
    rw [pick_one]
    refine ⟨.ref _, _, I5.laid (t' := s4.toks) (o := .lst (if (some 1 : Option Int) = some 1 then xs else xs.reverse)) (fun b ob q => Heap.get?_push_of_some _ q) (Nat.le_refl _) ?_, rfl, q _ (I5.hok.fresh (Nat.le_refl _))⟩
    rw [if_pos rfl]
    exact ⟨hz, _, 0, r, Heap.get?_push_size _ rfl⟩
  · refine wpAny_getItem_list_slice ht.isList (Heap.IsSliceOf.new _ vl vu vs) pl pu ps (by decide) ?_ (by rw [List.size_toArray]; omega)
    rw [PySem.W.krv_pick]
    refine ⟨.ref _, _, I5.laid (t' := s4.toks) (o := .lst (if (some (-1) : Option Int) = some 1 then xs else xs.reverse)) (fun b ob q => Heap.get?_push_of_some _ q) (Nat.le_refl _) ?_, rfl, q _ (I5.hok.fresh (Nat.le_refl _))⟩
    rw [if_neg (by decide)]
    exact ⟨by rw [List.length_reverse]; exact hz, _, 0, r.reverse, Heap.get?_push_size _ rfl⟩
end
end LX

/-! own __len__ and own == of instances -/
namespace LX
open PySem PySem.Spec PyProof.Rows L2
section
variable {X : Cx} {CX : CXT} {k : Nat} {C g : Addr} {fd : FuncData} {ps : List Str} {sp : Sp} {E : XK}
/-- len(x), x an instance whose class has its own __len__ -/
def rLenOwn (C : Addr) (sp : Sp) (E : XK) : List V → Hp → VK → Prop := fun xs H Q => ∃ a dx fs, xs = [.ref a] ∧ H a = some (.ins C dx fs) ∧ sp [.ref a] H (fun z H' => ∃ i, z = .int i ∧ 0 ≤ i ∧ i < 2 ^ 63 ∧ Q z H') E
theorem call_lenOwn (M : Meth X.K C "__len__" g) (F : FnOk X.prog X.w X.K X.mg X.base CX k g fd ps sp) (hr : Room (k + 1) X.A) (hb : Binds X.K fd ps []) (hx : Passes CX X E) : CallR X (.builtin "len") (rLenOwn C sp E) := by
  intro pins s σ H xs us Q I r h
  obtain ⟨a, dx, fs, rfl, ha, q⟩ := h
  obtain ⟨u, rfl, ru⟩ := r.one
  cases (show u = Value.ref a from ru)
  obtain ⟨mA, J, _⟩ := ins_get I.hok ha
  obtain ⟨od, J, _⟩ := J.look
  obtain ⟨m, hF⟩ := I.fr
  have G := F.raw hb (.nil)
  have run := wpAny_call (SlX.run_at (Q := fun z H' => ∃ i, z = .int i ∧ 0 ≤ i ∧ i < 2 ^ 63 ∧ Q z H') (us := [.ref a]) (ws := [.ref a]) G hr.in1 I.env0.in1 hx I (.cons rfl .nil) q)
  refine PySem.W.len_K hF I.ok.mod.kin J M.at_ M.fn (wpAny_mono run (fun w s' z => ?_) fun _ _ x => x)
  obtain ⟨z', H', I', rz, i, ei, i0, i1, qz⟩ := z
  subst ei
  obtain ⟨t, e⟩ := (show ∃ t, w = Value.int i t from rz)
  cases e
  exact ⟨⟨i0, i1⟩, .int i, H', I'.tok _, ⟨_, rfl⟩, qz⟩
/-- x == y, x an instance whose class has its own ==, y no instance of a class below -/
def rEqOwn (K : PySem.W.Frag) (C : Addr) (sp : Sp) (E : XK) : R2 := fun x y H Q => ∃ a dx fs b dy gs, x = .ref a ∧ y = .ref b ∧ H a = some (.ins C dx fs) ∧ H b = some (.ins C dy gs) ∧ sp [x, y] H Q E
theorem op_eqOwn (M : Meth X.K C "__eq__" g) (F : FnOk X.prog X.w X.K X.mg X.base CX k g fd ps sp) (hr : Room k X.A) (hb : Binds X.K fd ps []) (hx : Passes CX X E) : OpR X (compareOp .Eq) (rEqOwn X.K C sp E) := by
  intro pins s σ H x y v u Q I rx ry h
  obtain ⟨a, dx, fs, b, dy, gs, rfl, rfl, ha, hb', q⟩ := h
  cases (show v = Value.ref a from rx)
  cases (show u = Value.ref b from ry)
  obtain ⟨mA, J, _⟩ := ins_get I.hok ha
  obtain ⟨mB, J', _⟩ := ins_get I.hok hb'
  obtain ⟨od, J, _⟩ := J.look
  obtain ⟨od', J', _⟩ := J'.look
  obtain ⟨m, hF⟩ := I.fr
  have G := F.raw hb (.nil)
  show wpAny (model X.prog X.w) X.A (richCompare .Eq (.ref a) (.ref b)) (EP X pins σ Q) X.xe s
  refine PySem.W.cmp_K (op := .Eq) (tb := .ref C) hr.units0 hF I.ok.mod.kin J J'.type (by simp [PySem.W.notFirst]) M.at_ M.fn ?_
  have run := wpAny_call (run_fnR (Q := Q) (us := [.ref a, .ref b]) (vs := [.ref a, .ref b]) G hr hx I (.cons rfl (.cons rfl .nil)) q)
  refine wpAny_mono run (fun w s' z => ?_) fun _ _ x => x
  obtain ⟨z', H', I', rz, qz⟩ := z
  exact SlX.cmpback rz ⟨z', H', I', rz, qz⟩
end
end LX

namespace LX
open PySem PySem.Spec PyProof.Rows L2
/-! ### a sign, n times -/
def repS (c : Nat) (n : Int) : Str := ⟨Array.replicate n.toNat c⟩
theorem rep_fold (c : Nat) : ∀ (k : Nat) (a : Array Nat), (List.replicate k #[c]).foldl (· ++ ·) a = a ++ Array.replicate k c
  | 0, a => by simp
  | k + 1, a => by
    rw [List.replicate_succ, List.foldl_cons, rep_fold c k]
    apply Array.toList_inj.mp
    simp [List.replicate_succ]
theorem op_mulS {X : Cx} : OpR X (binaryOp .Mult) (fun x y H Q => ∃ (c : Nat) (n : Int), x = .str ⟨#[c]⟩ ∧ y = .int n ∧ -1000 ≤ n ∧ n ≤ 1000 ∧ Q (.str (repS c n)) H) := by
  intro pins s σ H x y v u Q I rx ry h
  obtain ⟨c, n, rfl, rfl, h0, h1, q⟩ := h
  obtain ⟨t, rfl⟩ := rx
  obtain ⟨t', rfl⟩ := ry
  have el : (⟨#[c]⟩ : Str).length = 1 := rfl
  refine P.mul_str (by
      have a1 : ¬ n < -(2 ^ 63 : Int) := by omega
      have a2 : ¬ n ≥ 2 ^ 63 := by omega
      rw [decide_eq_false a1, decide_eq_false a2]; rfl) (fun g1 _ g3 => ?_) (fun g1 _ => ?_) ?_
  · rw [el] at g3
    have : (1 : Int) ≤ (2 ^ 63 - 1) / n := by
      rw [Int.le_ediv_iff_mul_le (by omega)]; omega
    have g4 : ((1 : Nat) : Int) > (2 ^ 63 - 1) / n := g3
    omega
  · rw [el]
    refine decide_eq_false ?_
    have : n.toNat ≤ 1000 := by omega
    intro q2
    have q3 : 1 * n.toNat > 1000 := Nat.lt_of_lt_of_le (by decide +kernel) (Nat.le_of_lt q2)
    omega
  · by_cases g1 : n < 1
    · rw [if_pos g1]
      have e : repS c n = Str.empty := by
        unfold repS
        rw [show n.toNat = 0 by omega]; rfl
      rw [e] at q
      exact ⟨by decide, ⟨.str Str.empty, H, I.tok _, ⟨_, rfl⟩, q⟩⟩
    · rw [if_neg g1]
      by_cases g2 : n = 1
      · subst g2
        rw [if_pos (by rfl)]
        exact ⟨.str ⟨#[c]⟩, H, I, ⟨_, rfl⟩, q⟩
      · rw [if_neg (by
          rw [el]
          have : (n == 1) = false := by rw [beq_eq_false_iff_ne]; exact g2
          rw [this]; decide)]
        have e : (⟨(List.replicate n.toNat (⟨#[c]⟩ : Str).cps).foldl (· ++ ·) #[]⟩ : Str) = repS c n := by
          unfold repS
          rw [show (⟨#[c]⟩ : Str).cps = #[c] from rfl, rep_fold]
          simp
        rw [e]
        refine ⟨?_, ⟨.str _, H, I.tok _, ⟨_, rfl⟩, q⟩⟩
        show (repS c n).length ≤ sizeLine
        show (Array.replicate n.toNat c).size ≤ sizeLine
        rw [Array.size_replicate]
        exact Nat.le_trans (show n.toNat ≤ 1000 by omega) (by decide +kernel)
end LX

namespace LX
open PySem PySem.Spec PyProof.Rows L2
/-! ### t[::-1] of a tuple -/
theorem applied_rev {prog : Program} {w : World} {A : Around} {E : Value → Shared → Prop} {s : Shared} {sl : Addr} {vl vu vs : Value} {n : Nat} {Q : Int × Int × Nat → Shared → Prop} (hs : s.heap.IsSliceOf sl vl vu vs) (pl : IsPart vl none) (pu : IsPart vu none) (ps : IsPart vs (some (-1)))
    (h : Q ((n : Int) - 1, -1, n) s) : wpAny (model prog w) A (Builtin.Slice.sliceApplied (.ref sl) (pure (n : Int))) Q E s := by
  obtain ⟨os, hos, hcs, hds⟩ := id hs
  unfold Builtin.Slice.sliceApplied Builtin.Slice.sliceFields
  refine wpAny_bind (wpAny_bind (wpAny_field hos hds (x := vl) rfl (wpAny_bind (wpAny_field hos hds (x := vu) rfl (wpAny_bind (wpAny_field hos hds (x := vs) rfl (wpAny_pure ?_)))))))
  refine wpAny_bind (HT.slicePart_ ps ?_)
  show wpAny _ _ (if ((-1 : Int) == 0) = true then _ else _) _ _ s
  rw [if_neg (by decide)]
  refine wpAny_bind (HT.slicePart_ pl (wpAny_bind (HT.slicePart_ pu (wpAny_bind (wpAny_pure ?_)))))
  show wpAny _ _ (match Builtin.Slice.sliceAdjust none none (-1) (n : Int) with | (lo, hi) => pure (lo, (-1 : Int), Builtin.Slice.slicePlaces lo hi (-1))) _ _ s
  have e : Builtin.Slice.sliceAdjust none none (-1) (n : Int) = ((n : Int) - 1, -1) := by
    unfold Builtin.Slice.sliceAdjust
    simp
  rw [e]
  have e2 : Builtin.Slice.slicePlaces ((n : Int) - 1) (-1) (-1) = n := by
    unfold Builtin.Slice.slicePlaces
    by_cases z : n = 0
    · subst z; rfl
    · rw [if_neg (by decide), if_pos (by omega), show (n : Int) - 1 - -1 - 1 = (n : Int) - 1 by omega, show (- -1 : Int) = 1 by decide, Int.ediv_one]
      omega
  show wpAny _ _ (pure ((n : Int) - 1, (-1 : Int), Builtin.Slice.slicePlaces ((n : Int) - 1) (-1) (-1))) _ _ s
  rw [e2]
  exact wpAny_pure h
theorem fmc {α β : Type} {f g : α → Option β} : ∀ {l : List α}, (∀ a ∈ l, f a = g a) → l.filterMap f = l.filterMap g
  | [], _ => rfl
  | a :: r, h => by rw [List.filterMap_cons, List.filterMap_cons, h a List.mem_cons_self, fmc fun b hb => h b (List.mem_cons_of_mem _ hb)]
theorem pick_rev (xs : Array Value) : ((List.range xs.size).filterMap fun (m : Nat) => xs[((xs.size : Int) - 1 + (m : Int) * (-1)).toNat]?).toArray = xs.toList.reverse.toArray := by
  have e := PySem.W.krv_pick xs
  unfold slicePick at e
  rw [PySem.W.krv_bounds] at e
  rw [← e]
  show _ = ((sliceRange ((xs.size : Int) - 1) (-1) (-1)).filterMap (xs[·]?)).toArray
  rw [PySem.W.krv_sliceRange, List.filterMap_map]
  congr 1
  refine fmc fun m hm => ?_
  have := List.mem_range.mp hm
  show _ = xs[xs.size - 1 - m]?
  congr 1
  omega
theorem getItem_tuple_rev {prog : Program} {w : World} {A : Around} {E : Value → Shared → Prop} {s : Shared} {t sl : Addr} {items : Array Value} {vl vu vs : Value} {Q : Value → Shared → Prop} (ht : IsTup s.heap t items) (hs : s.heap.IsSliceOf sl vl vu vs) (pl : IsPart vl none) (pu : IsPart vu none) (ps : IsPart vs (some (-1)))
    (h : Q (.ref s.heap.objs.size) { s with heap := s.heap.push { cls := .type "tuple", data := .seq items.toList.reverse.toArray } })
    (hsz : items.size ≤ sizeLine) : wpAny (model prog w) A (getItem (.ref t) (.ref sl)) Q E s := by
  have htake : sizeOk (.seq items.toList.reverse.toArray) := by
    show items.toList.reverse.toArray.size ≤ sizeLine
    rw [List.size_toArray, List.length_reverse, Array.length_toList]
    exact hsz
  obtain ⟨os, hos, hcs, hds⟩ := id hs
  have hTs : s.TypeIs (.ref sl) "slice" := ⟨os, hos, hcs⟩
  unfold getItem
  try with_reducible refine wpAny_holding ?_
  first | refine wpAny_bind (wpAny_pure ?_) | skip
  refine wpAny_bind (wpAny_sequenceKey ht.typeIs (by decide) ?_)
  refine wpAny_bind (wpAny_callSpecial?_slot (name := Str.ofString "__getitem__") ht.typeIs PyProof.Rows.slot_tuple_getitem
    (wpAny_call_entry PyProof.Rows.slot_tuple_getitem ht.typeIs PyProof.Rows.entry_tuple_getitem ?_ (PyProof.Rows.args_tuple_getitem _ _)))
  show wpAny _ _ (Builtin.Tuple.tupleItemsOf (.ref t) >>= _) _ _ s
  refine wpAny_bind (tupleItemsOf_ ht ?_)
  refine wpAny_bind (wpAny_typeOf hTs ?_)
  rw [if_pos (by decide)]
  refine wpAny_bind (applied_rev hs pl pu ps ?_)
  have hno : ¬ ((((items.size : Int) - 1) == 0 && (-1 : Int) == 1 && items.size == items.size) = true) := by
    intro q
    rw [Bool.and_eq_true, Bool.and_eq_true] at q
    exact absurd q.1.2 (by decide)
  show wpAny _ _ (if (((items.size : Int) - 1) == 0 && (-1 : Int) == 1 && items.size == items.size) = true then _ else _) _ _ s
  rw [if_neg hno, pick_rev]
  first
    | exact wpAny_bind (m := Builtin.Tuple.tupleExact _) (wpAny_newObj_type (wpAny_pure ⟨_, rfl, wpAny_pure h⟩) htake)
    | exact wpAny_bind (m := Builtin.Tuple.tupleExact _) (wpAny_newObj_type (wpAny_bind (wpAny_pure (wpAny_pure ⟨_, rfl, wpAny_pure h⟩))) htake)
    | exact wpAny_bind (wpAny_bind (m := Builtin.Tuple.tupleExact _) (wpAny_newObj_type (wpAny_pure (wpAny_pure ⟨_, rfl, wpAny_pure h⟩)) htake))
    | exact wpAny_bind (wpAny_bind (m := Builtin.Tuple.tupleExact _) (wpAny_newObj_type (wpAny_pure ⟨_, rfl, wpAny_pure h⟩) htake))
def tRevT (K : PySem.W.Frag) (te : TE) : TE := fun σ H Q => te σ H fun x H1 => ∃ a xs, x = .ref a ∧ SqT K H1 a xs ∧ ∀ p, H1 p = none → Q (.ref p) (upd H1 p (.tup xs.reverse))
theorem pe_revT {X : Cx} {e : Expr} {te : TE} {k : Nat} {p1 p2 p3 pos : Pos} (he : PE X e te) : PE X (.Subscript e (.Slice none none (some (.UnaryOp .USub (.Constant (.int 1) k p1) p2)) p3) pos) (tRevT X.K te) := by
  refine ⟨fun pins s σ H Q I h => ?_⟩
  refine Subscript_ (thn (he.run pins s σ H _ I h) fun v s1 ⟨x, H1, I1, r1, q1⟩ => ?_)
  obtain ⟨a, xs, ex, hx, q⟩ := q1
  subst ex
  cases r1
  have hst : PO X (some (.UnaryOp .USub (.Constant (.int 1) k p1) p2)) (tPart (tUn (rU fun i => .int (-i)) (tC (.int 1)))) := po_some (pe_un un_neg pe_int)
  refine wpAny_Slice (thn (po_none.run pins s1 σ H1 (fun o H2 => o = none ∧ H2 = H1) I1 ⟨rfl, rfl⟩) fun vl s2 ⟨l, H2, I2, pl, el, e2⟩ => ?_)
  subst el e2
  refine thn (po_none.run pins s2 σ H2 (fun o H3 => o = none ∧ H3 = H2) I2 ⟨rfl, rfl⟩) fun vu s3 ⟨u, H3, I3, pu, eu, e3⟩ => ?_
  subst eu e3
  refine thn (hst.run pins s3 σ H3 (fun o H4 => o = some (-1) ∧ H4 = H3) I3 ⟨1, rfl, -1, rfl, rfl, rfl⟩) fun vs s4 ⟨o, H4, I4, ps, eo, e4⟩ => ?_
  subst eo e4
  have I5 : Inv X pins σ H4 { s4 with heap := s4.heap.push { cls := .type "slice", data := .fields #[vl, vu, vs] } } := I4.kept (t' := s4.toks) fun b ob q => Heap.get?_push_of_some _ q
  obtain ⟨its, r, ht, hz⟩ := I5.tuple hx
  have hlen := r.length
  show wpAny (model X.prog X.w) X.A (subscriptTail e (.Slice none none (some (.UnaryOp .USub (.Constant (.int 1) k p1) p2)) p3) (.ref a) (.ref s4.heap.objs.size)) (EP X pins σ Q) X.xe { s4 with heap := s4.heap.push { cls := .type "slice", data := .fields #[vl, vu, vs] } }
  refine tail_any (ops := [.ref a, .ref s4.heap.objs.size]) ht.typeIs (PyProof.Rows.slot_tuple_getitem.lookup) ?_ (by with_unfolding_all rfl)
  refine getItem_tuple_rev ht (Heap.IsSliceOf.new _ vl vu vs) pl pu ps ?_ (by rw [List.size_toArray]; omega)
  refine ⟨.ref _, _, I5.laid (t' := s4.toks) (o := .tup xs.reverse) (fun b ob q => Heap.get?_push_of_some _ q) (Nat.le_refl _) ?_, rfl, q _ (I5.hok.fresh (Nat.le_refl _))⟩
  exact ⟨by rw [List.length_reverse]; exact hz, _, r.reverse, IsTup.new _ _⟩
/-! ### max(xs, default=d) of a list of ints -/
def rMaxDef (K : PySem.W.Frag) : List V → List V → Hp → VK → Prop := fun vs zs H Q => ∃ (a : Addr) (ns : List Int) (d : V), vs = [.ref a] ∧ zs = [d] ∧ SqL K H a (ns.map V.int) ∧ (ns = [] → Q d H) ∧ (ns ≠ [] → ∀ m, m ∈ ns → (∀ y ∈ ns, y ≤ m) → Q (.int m) H)
theorem cr_maxDef {X : Cx} (hc : X.calm = true) : CallRK X (.builtin "max") [Str.ofString "default"] (rMaxDef X.K) := by
  intro pins s σ H vs zs us ws Q I r rz h
  obtain ⟨a, ns, d, rfl, rfl, hs, q0, q1⟩ := h
  obtain rfl := Vals.ref1 r
  obtain ⟨w1, rfl, e1⟩ := vals1 rz
  obtain ⟨its, rv, hl, _⟩ := I.list hs
  have hi := rv.ints
  have hh : X.A.handled = none := I.ok.hd hc
  obtain ⟨xs, e⟩ := hi.allInts.items
  have hn : numsOf (intItems xs).toList = ns := by rw [← e]; exact hi.numsOf
  rw [nums_intItems] at hn
  have hl2 := hl.isList
  rw [e] at hl2
  refine PySem.call_max_walkD (PySem.W.iter_listW (A := X.A.in1) hh hl2 fun s₂ e2 W st hfp hw hk => ?_)
  refine ⟨_, _, _, _, _, _, _, s.heap, (fun i j => decide (numAt xs i > numAt xs j)), rfl, W, st, hfp, hw, hk, fun hz s' m => ?_, fun hp => ⟨fun i j vi vj s3 Q3 E3 _ hi hj h3 => CmpOf.ints_gt (numAt xs) (fun _ _ => intItems_at) i j vi vj s3 Q3 E3 hi hj h3, fun v s' hP m => ?_⟩⟩
  · obtain ⟨h', tk, rfl, hk'⟩ := PySem.W.moved_old e2 rfl m
    refine ⟨d, H, I.kept hk', e1, q0 ?_⟩
    rw [← hn]
    have : xs.size = 0 := by simpa [intItems] using hz
    rw [Array.eq_empty_of_size_eq_zero this]; rfl
  · obtain ⟨h', tk, rfl, hk'⟩ := PySem.W.moved_old e2 rfl m
    have hp2 : 0 < xs.size := by simpa [intItems] using hp
    have hsz : (intItems xs).size = xs.size := by simp [intItems]
    rw [hsz] at hP
    obtain ⟨t, rfl⟩ := intItems_at hP
    obtain ⟨h1, h2⟩ := argBest_gt (numAt xs) (xs.size - 1)
    refine ⟨.int _, H, I.kept hk', ⟨_, rfl⟩, q1 ?_ _ ?_ fun y hy => ?_⟩
    · intro z
      rw [← hn] at z
      have := congrArg List.length z
      rw [List.length_map, Array.length_toList, List.length_nil] at this
      omega
    · rw [← hn, numAt_eq]; exact PySem.getD_mem (by rw [List.length_map, Array.length_toList]; omega)
    · rw [← hn] at hy
      obtain ⟨j, hj, rfl⟩ := mem_getD hy
      rw [List.length_map, Array.length_toList] at hj
      rw [← numAt_eq]; exact h2 j (by omega)
end LX

namespace LX
open PySem PySem.Spec PyProof.Rows L2
/-! ### list(zip(xs, ys)) of two lists -/
theorem nolen_zip : typeLookup (.type "zip") "__len__" = pure none := by rw [typeLookup_type, builtinLookup_eq_fast]; kernel_rfl
theorem nohint_zip : typeLookup (.type "zip") "__length_hint__" = pure none := by rw [typeLookup_type, builtinLookup_eq_fast]; kernel_rfl
def ZSt (z TI TO i1 i2 l1 l2 S : Addr) (h : Heap) (j : Nat) : Prop := IsPair h TI (.ref i1) (.ref i2) ∧ h.IsListIter i1 l1 j ∧ h.IsListIter i2 l2 j ∧
  ((IsZip h z TI TO .none ∧ ∃ a b, IsPair h TO a b) ∨ ∃ T f oT, IsZipHeld h z TI TO T f ∧ h.get? T = some oT ∧ T ≠ z ∧ T ≠ i1 ∧ T ≠ i2 ∧ T ≠ S)
theorem ZSt.at {z TI TO i1 i2 l1 l2 S : Addr} {h h' : Heap} {j : Nat} (x : ZSt z TI TO i1 i2 l1 l2 S h j) (hS : S ≠ z ∧ S ≠ TI ∧ S ≠ TO ∧ S ≠ i1 ∧ S ≠ i2) (k : ∀ b o, b ≠ S → h.get? b = some o → h'.get? b = some o) : ZSt z TI TO i1 i2 l1 l2 S h' j := by
  obtain ⟨a, b, c, d⟩ := x
  refine ⟨k _ _ hS.2.1.symm a, b.at fun o e => k _ o hS.2.2.2.1.symm e, c.at fun o e => k _ o hS.2.2.2.2.symm e, ?_⟩
  rcases d with ⟨d, u, v, e⟩ | ⟨T, f, oT, d, e, n1, n2, n3, n4⟩
  · exact .inl ⟨k _ _ hS.1.symm d, u, v, k _ _ hS.2.2.1.symm e⟩
  · exact .inr ⟨T, f, oT, k _ _ hS.1.symm d, k _ _ n4 e, n1, n2, n3, n4⟩
/-- the tuples made so far -/
def Zd (H1 H : Hp) (xs ys : List V) (Ts : List Addr) : Prop := ∀ (i : Nat) T x y, Ts[i]? = some T → xs[i]? = some x → ys[i]? = some y → H1 T = none ∧ H T = some (.tup [x, y])
section
variable {X : Cx} {pins : List (Addr × Obj)} {σ : L2.St} {z TI TO i1 i2 l1 l2 S : Addr} {H1 : Hp} {xs ys : List V} {A : Around} {R : Result → Shared → Prop} {res : Value}
theorem zip_loop (hh : A.handled = none) (D : ZipApart z TI TO i1 i2 l1 l2) (hS : S ≠ z ∧ S ≠ TI ∧ S ≠ TO ∧ S ≠ i1 ∧ S ≠ i2) (hl : xs.length = ys.length) (hz : xs.length ≤ 1000) (q1 : SqL X.K H1 l1 xs) (q2 : SqL X.K H1 l2 ys) (hS0 : H1 S = none) :
    ∀ (k j : Nat) (s : Shared) (H : Hp) (Ts : List Addr), xs.length - j = k → j ≤ xs.length → Inv X pins σ H s → (∀ b ∈ [z, TI, TO, i1, i2], FpOk X pins H b) → ZSt z TI TO i1 i2 l1 l2 S s.heap j → (∀ b ∈ [z, TI, TO, i1, i2], b < s.heap.objs.size) →
    Same H1 H → H S = some (.lst (Ts.map V.ref)) → Ts.length = j → Zd H1 H xs ys Ts →
    (∀ (s' : Shared) (H' : Hp) (Us : List Addr), Inv X pins σ H' s' → Same H1 H' → H' S = some (.lst (Us.map V.ref)) → Us.length = xs.length → Zd H1 H' xs ys Us → R (.ok (.ret res)) s') →
    codeAny (model X.prog X.w) A (.builtin "list.extend.loop" ⟨[.ref S, .ref z, res], []⟩) R s := by
  intro k
  induction k with
  | zero =>
    intro j s H Ts hk hj I hf st lt sm hHS hT zd fin
    have hj2 : j = xs.length := by omega
    obtain ⟨its, rv, p1, _⟩ := I.list (sm.seq q1)
    obtain ⟨its2, rv2, p2, _⟩ := I.list (sm.seq q2)
    have e1 := rv.length
    have hend : its.toArray[j]? = none ∨ its2.toArray[j]? = none := .inl (Array.getElem?_eq_none (by rw [List.size_toArray]; omega))
    refine codeAny_builtin F.entry_extend_loop ?_
    rw [Around.under_plainId F.plain_extend_loop _]
    show wpAny _ A.in1 (pyNext (.ref z) >>= _) _ _ s
    obtain ⟨s1, s2, s3, s4⟩ := st
    rcases s4 with ⟨g1, a, b, g2⟩ | ⟨T, f, oT, g1, g2, n1, n2, n3, n4⟩
    · refine wpAny_bind (wpAny_pyNext_zip_end (A := A.in1) hh D g1 s1 g2 s2 s3 p1.isList p2.isList hend fun h' hk' => ?_)
      refine wpAny_pure (fin _ H Ts (I.turnedL (ch := [z, TI, TO, i1, i2]) (t' := s.toks) (fun c o nb q => hk' c o (fun e => nb (by simp [e])) (fun e => nb (by simp [e])) (fun e => nb (by simp [e])) (fun e => nb (by simp [e])) q) hf) sm hHS (by omega) zd)
    · refine wpAny_bind (wpAny_pyNext_zip_end_held (A := A.in1) hh D g1 g2 s1 s2 s3 p1.isList p2.isList hend fun h' hk' => ?_)
      refine wpAny_pure (fin _ H Ts (I.turnedL (ch := [z, TI, TO, i1, i2]) (t' := s.toks) (fun c o nb q => hk' c o (fun e => nb (by simp [e])) (fun e => nb (by simp [e])) (fun e => nb (by simp [e])) q) hf) sm hHS (by omega) zd)
  | succ k ih =>
    intro j s H Ts hk hj I hf st lt sm hHS hT zd fin
    have hlt : j < xs.length := by omega
    obtain ⟨its, rv, p1, _⟩ := I.list (sm.seq q1)
    obtain ⟨its2, rv2, p2, _⟩ := I.list (sm.seq q2)
    have ex := List.getElem?_eq_getElem hlt
    have ey := List.getElem?_eq_getElem (l := ys) (i := j) (by omega)
    generalize xs[j] = x at ex
    generalize ys[j]'(by omega) = y at ey
    obtain ⟨u, hu, ru⟩ := rv.get ex
    obtain ⟨u2, hu2, ru2⟩ := rv2.get ey
    have hu' : its.toArray[j]? = some u := by simpa using hu
    have hu2' : its2.toArray[j]? = some u2 := by simpa using hu2
    refine codeAny_builtin F.entry_extend_loop ?_
    rw [Around.under_plainId F.plain_extend_loop _]
    show wpAny _ A.in1 (pyNext (.ref z) >>= _) _ _ s
    have hTn : H s.heap.objs.size = none := I.hok.fresh (Nat.le_refl _)
    have tail : ∀ (h' : Heap), IsPair h' s.heap.objs.size u u2 → h'.objs.size = s.heap.objs.size + 1 → ZSt z TI TO i1 i2 l1 l2 S h' (j + 1) → (∀ c o, c ∉ [z, TI, TO, i1, i2] → s.heap.get? c = some o → h'.get? c = some o) →
        wpAny (model X.prog X.w) A.in1 (do let x ← pure (some (Value.ref s.heap.objs.size)); match x with
          | none => ret res
          | some x => do Builtin.List.listUpdate (.ref S) (·.push x); again (.builtin "list.extend.loop" ⟨[.ref S, .ref z, res], []⟩)) (fun fin s' => match fin with | .done f => R (.ok f) s' | .again c' => c'.quiet = true ∧ codeAny (model X.prog X.w) A c' R s') (fun e s' => R (.error e) s') { s with heap := h' } := by
      intro h' pr sz st' kp
      have ob : ObjOk X.prog X.w (upd H s.heap.objs.size (.tup [x, y])) h' s.heap.objs.size (.tup [x, y]) :=
        ⟨by show 2 ≤ sizeLine; decide, [u, u2], .cons ru (.cons ru2 .nil), ⟨_, pr, rfl, _, rfl⟩⟩
      have J : Inv X pins σ (upd H s.heap.objs.size (.tup [x, y])) { s with heap := h', toks := s.toks } := I.turnedNew (ch := [z, TI, TO, i1, i2]) kp hf (Nat.le_refl _) ob
      have hST : S ≠ s.heap.objs.size := ne_of_none hHS hTn
      have hH2 : (upd H s.heap.objs.size (.tup [x, y])) S = some (.lst (Ts.map V.ref)) := by rw [upd_ne hST]; exact hHS
      obtain ⟨z0, itS, n, rS, lS, eS⟩ := J.lstM hH2
      rw [List.length_map] at lS
      have J2 := J.lset (its' := itS ++ [.ref s.heap.objs.size]) (ys := Ts.map V.ref ++ [V.ref s.heap.objs.size]) (f := fun a => a.push (.ref s.heap.objs.size)) (t' := s.toks) hH2 eS (by simp) (rS.append (.cons (show L2.RelV (V.ref s.heap.objs.size) (.ref s.heap.objs.size) from rfl) .nil)) (by
        rw [List.length_append, List.length_map]
        exact Nat.le_of_lt (small1000 (by show Ts.length + 1 ≤ 1000; omega)))
      refine wpAny_bind (wpAny_pure ?_)
      show wpAny _ A.in1 (updateSeq S (·.push (.ref s.heap.objs.size)) >>= _) _ _ _
      refine wpAny_bind (wpAny_updateSeq eS rfl (wpAny_pure ⟨plainId_quiet F.plain_extend_loop _, ?_⟩) (by rw [List.size_toArray]; exact Nat.le_of_lt (small1000 (by omega))) (by
        rw [Array.size_push, List.size_toArray]
        exact Nat.le_succ_of_le (Nat.le_of_lt (small1000 (by omega)))))
      refine ih (j + 1) _ _ (Ts ++ [s.heap.objs.size]) (by omega) hlt J2 (fun b hb => ?_) (st'.at hS fun b o hb e => (Heap.get?_update_other _ _ (Ne.symm hb)).trans e) (fun b hb => ?_) ?_ (by rw [upd_same, List.map_append]; rfl) (by rw [List.length_append, hT]; rfl) ?_ fin
      · have q := hf b hb
        refine ⟨?_, q.2⟩
        have nb : b ≠ S := fun e => by
          have q0 := q.1
          rw [e, hHS] at q0; cases q0
        rw [upd_ne nb, upd_ne (Nat.ne_of_lt (lt b hb))]
        exact q.1
      · have l0 := lt b hb
        show b < (h'.update S _).objs.size
        rw [Heap.size_update, sz]
        exact Nat.lt_succ_of_lt l0
      · intro b o hb
        rw [upd_ne (ne_of_none hb hS0), upd_ne (ne_of_none (sm _ _ hb) hTn)]
        exact sm _ _ hb
      · intro i T a b e1 e2 e3
        by_cases c : i < Ts.length
        · rw [List.getElem?_append_left c] at e1
          obtain ⟨w1, w2⟩ := zd i T a b e1 e2 e3
          have nT : T ≠ S := fun e => by rw [e, hHS] at w2; cases w2
          exact ⟨w1, by rw [upd_ne nT, upd_ne (ne_of_none w2 hTn)]; exact w2⟩
        · rw [List.getElem?_append_right (by omega)] at e1
          cases w : i - Ts.length with
          | zero =>
            rw [w] at e1
            cases e1
            have ij : i = j := by
              have c2 : Ts.length ≤ i := Nat.le_of_not_lt c
              have w2 : i - Ts.length = 0 := w
              omega
            subst ij
            rw [ex] at e2
            rw [ey] at e3
            cases e2; cases e3
            exact ⟨sm.free hTn, by rw [upd_ne hST.symm, upd_same]⟩
          | succ m => rw [w] at e1; simp at e1
    obtain ⟨s1, s2, s3, s4⟩ := st
    rcases s4 with ⟨g1, a, b, g2⟩ | ⟨T, f, oT, g1, g2, n1, n2, n3, n4⟩
    · refine wpAny_bind (wpAny_pyNext_zip_item (A := A.in1) D g1 s1 g2 s2 s3 p1.isList p2.isList hu' hu2' fun h' a1 a2 a3 a4 a5 a6 hk' => ?_)
      have n0 : s.heap.objs.size ≠ S := (ne_of_none hHS hTn).symm
      refine tail h' a5 a6 ⟨hk' _ _ D.TIz D.TITO D.TIi1 D.TIi2 s1, a3, a4, .inr ⟨_, false, _, a1, a5, Nat.ne_of_gt (lt z (by simp)), Nat.ne_of_gt (lt i1 (by simp)), Nat.ne_of_gt (lt i2 (by simp)), n0⟩⟩ fun c o nb q => hk' c o (fun e => nb (by simp [e])) (fun e => nb (by simp [e])) (fun e => nb (by simp [e])) (fun e => nb (by simp [e])) q
    · refine wpAny_bind (wpAny_pyNext_zip_item_held (A := A.in1) D g1 g2 s1 s2 s3 p1.isList p2.isList hu' hu2' fun h' a1 a3 a4 a5 a6 hk' => ?_)
      refine tail h' a5 a6 ⟨hk' _ _ D.TIz D.TIi1 D.TIi2 s1, a3, a4, .inr ⟨T, true, oT, a1, hk' _ _ n1 n2 n3 g2, n1, n2, n3, n4⟩⟩ fun c o nb q => hk' c o (fun e => nb (by simp [e])) (fun e => nb (by simp [e])) (fun e => nb (by simp [e])) q
theorem list_zip_call (hh : A.handled = none) {s : Shared} {H : Hp} {Q : Value → Shared → Prop} {E : Value → Shared → Prop} (I : Inv X pins σ H s) (D : ZipApart z TI TO i1 i2 l1 l2) (hl : xs.length = ys.length) (hz : xs.length ≤ 1000) (q1 : SqL X.K H l1 xs) (q2 : SqL X.K H l2 ys)
    (hf : ∀ b ∈ [z, TI, TO, i1, i2], FpOk X pins H b) (hZ : IsZip s.heap z TI TO .none) (hTI : IsPair s.heap TI (.ref i1) (.ref i2)) (hTO : ∃ a b, IsPair s.heap TO a b) (h1 : s.heap.IsListIter i1 l1 0) (h2 : s.heap.IsListIter i2 l2 0)
    (fin : ∀ (s' : Shared) (H' : Hp) (S : Addr) (Us : List Addr), Inv X pins σ H' s' → Same H H' → H S = none → H' S = some (.lst (Us.map V.ref)) → Us.length = xs.length → Zd H H' xs ys Us → Q (.ref S) s') :
    wpAny (model X.prog X.w) A (call (.type "list") [.ref z]) Q E s := by
  refine callType_codes (Q₁ := fun obj s₁ => obj = .ref s.heap.objs.size ∧ s₁ = { s with heap := s.heap.push { cls := .type "list", data := .seq #[] } }) PySem.F.called_list (PySem.F.typeCall_list_1 _) PySem.F.entry_list_init
    (code_list_new _ ⟨rfl, rfl⟩) fun obj s₁ h₁ => ?_
  obtain ⟨rfl, rfl⟩ := h₁
  have hS : (s.heap.push { cls := .type "list", data := .seq #[] }).get? s.heap.objs.size = some { cls := .type "list", data := .seq #[] } := Heap.get?_push_size _ rfl
  refine ⟨⟨_, hS, rfl⟩, PySem.F.args_list_init_2 _ _, ?_⟩
  have sz0 : (s.heap.push { cls := .type "list", data := .seq #[] }).objs.size = s.heap.objs.size + 1 := Heap.size_push ..
  have hSn : H s.heap.objs.size = none := I.hok.fresh (Nat.le_refl _)
  have ltz : z < s.heap.objs.size := Heap.lt_size hZ
  have lTI : TI < s.heap.objs.size := Heap.lt_size hTI
  have lTO : TO < s.heap.objs.size := let ⟨_, _, q⟩ := hTO; Heap.lt_size q
  have li1 : i1 < s.heap.objs.size := let ⟨_, q, _⟩ := h1; Heap.lt_size q
  have li2 : i2 < s.heap.objs.size := let ⟨_, q, _⟩ := h2; Heap.lt_size q
  have I1 : Inv X pins σ (upd H s.heap.objs.size (.lst [])) { s with heap := s.heap.push { cls := .type "list", data := .seq #[] }, toks := s.toks } := I.lnew (its := []) .nil (by decide)
  have hHS : (upd H s.heap.objs.size (.lst [])) s.heap.objs.size = some (.lst []) := upd_same
  show wpAny _ _ (do let old ← Builtin.List.listItems (.ref s.heap.objs.size); Builtin.List.listUpdate (.ref s.heap.objs.size) (fun _ => #[]); letGo old.toList.reverse; Builtin.List.listExtendWith (.ref s.heap.objs.size) (.ref z) .none) _ _ _
  refine wpAny_bind ?_
  unfold Builtin.List.listItems
  refine wpAny_bind (wpAny_seqItems hS rfl (wpAny_pure ?_))
  show wpAny _ _ (updateSeq s.heap.objs.size (fun _ => #[]) >>= fun _ => letGo (#[] : Array Value).toList.reverse >>= fun _ => Builtin.List.listExtendWith (.ref s.heap.objs.size) (.ref z) .none) _ _ _
  refine wpAny_bind (wpAny_updateSeq hS rfl ?_)
  have hS₂ := Heap.get?_update_self (Obj.mapSeq (fun _ => (#[] : Array Value))) hS rfl
  have I2 := I1.lset (its' := []) (ys := []) (f := fun _ => #[]) (t' := s.toks) hHS hS rfl .nil (by decide)
  rw [upd_upd] at I2
  have k2 : ∀ b o, b ≠ s.heap.objs.size → s.heap.get? b = some o → ((s.heap.push { cls := .type "list", data := .seq #[] }).update s.heap.objs.size (Obj.mapSeq (fun _ => (#[] : Array Value)))).get? b = some o := fun b o hb e => (Heap.get?_update_other _ _ (Ne.symm hb)).trans (Heap.get?_push_of_some _ e)
  have sz2 : ((s.heap.push { cls := .type "list", data := .seq #[] }).update s.heap.objs.size (Obj.mapSeq (fun _ => (#[] : Array Value)))).objs.size = s.heap.objs.size + 1 := by rw [Heap.size_update, sz0]
  generalize ((s.heap.push { cls := .type "list", data := .seq #[] }).update s.heap.objs.size (Obj.mapSeq (fun _ => (#[] : Array Value)))) = h2' at hS₂ I2 k2 sz2
  refine wpAny_bind (wpAny_letGo ?_)
  unfold Builtin.List.listExtendWith
  have hT2 : Shared.TypeIs { s with heap := h2' } (.ref z) "zip" := ⟨_, k2 _ _ (Nat.ne_of_lt ltz) hZ, rfl⟩
  refine wpAny_bind (wpAny_typeOf hT2 ?_)
  have e1 : Builtin.List.listSameRef (.ref s.heap.objs.size) (.ref z) = false := by simp [Builtin.List.listSameRef, Nat.ne_of_gt ltz]
  simp only [e1, show (Value.type "zip" == Value.type "list") = false by decide, show (Value.type "zip" == Value.type "tuple") = false by decide, Bool.or_false, Bool.false_eq_true, if_false]
  refine wpAny_bind (wpAny_pyIter_zip (k2 _ _ (Nat.ne_of_lt ltz) hZ) ?_)
  refine wpAny_bind (wpAny_holding ?_)
  unfold Builtin.List.listLengthHint
  refine wpAny_bind (wpAny_specialOf hT2 nolen_zip ?_)
  show wpAny _ _ (specialOf (Value.ref z) (Str.ofString "__length_hint__") >>= _) _ _ _
  refine wpAny_bind (wpAny_specialOf hT2 nohint_zip ?_)
  refine wpAny_pure ?_
  show wpAny _ _ (rule "list.extend.makes-room" >>= fun _ => Builtin.List.listTouch (.ref s.heap.objs.size) >>= fun _ =>
    again (.builtin "list.extend.loop" ⟨[.ref s.heap.objs.size, .ref z, .none], []⟩)) _ _ _
  refine wpAny_bind (wpAny_rule ?_)
  refine wpAny_bind ?_
  show wpAny _ _ (updateSeq s.heap.objs.size (·.push .none) >>= fun _ => updateSeq s.heap.objs.size (·.pop)) _ _ _
  refine wpAny_bind (wpAny_updateSeq hS₂ rfl ?_)
  have hS₃ := Heap.get?_update_self (Obj.mapSeq (·.push Value.none)) hS₂ rfl
  refine wpAny_updateSeq hS₃ rfl ?_
  have I4 := I2.lset (its' := []) (ys := []) (f := fun a => (a.push Value.none).pop) (t' := s.toks) upd_same hS₂ rfl .nil (by decide)
  have eqU : (h2'.update s.heap.objs.size (Obj.mapSeq (·.push Value.none))).update s.heap.objs.size (Obj.mapSeq (·.pop)) = (h2'.update s.heap.objs.size (Obj.mapSeq (·.push Value.none))).update s.heap.objs.size (Obj.mapSeq (·.pop)) := rfl
  have J4 : Inv X pins σ (upd H s.heap.objs.size (.lst [])) { s with heap := (h2'.update s.heap.objs.size (Obj.mapSeq (·.push Value.none))).update s.heap.objs.size (Obj.mapSeq (·.pop)), toks := s.toks } := by
    have z := I2.write (x := s.heap.objs.size) (e := s.heap.objs.size) (o := .lst []) (h' := (h2'.update s.heap.objs.size (Obj.mapSeq (·.push Value.none))).update s.heap.objs.size (Obj.mapSeq (·.pop))) (t' := s.toks) (by rw [upd_same]; exact trivial) (.inl rfl)
      (fun b u hb hu => (Heap.get?_update_other _ _ (Ne.symm hb)).trans ((Heap.get?_update_other _ _ (Ne.symm hb)).trans hu)) ⟨_, Heap.get?_update_self _ hS₃ rfl⟩ ⟨by decide, [], _, .nil, Heap.get?_update_self _ hS₃ rfl⟩
    rw [upd_upd] at z
    exact z
  have sm : Same H (upd H s.heap.objs.size (.lst [])) := fun b x e => by rw [upd_ne (ne_of_none e hSn)]; exact e
  have k4 : ∀ b o, b ≠ s.heap.objs.size → s.heap.get? b = some o → ((h2'.update s.heap.objs.size (Obj.mapSeq (·.push Value.none))).update s.heap.objs.size (Obj.mapSeq (·.pop))).get? b = some o := fun b o hb e => (Heap.get?_update_other _ _ (Ne.symm hb)).trans ((Heap.get?_update_other _ _ (Ne.symm hb)).trans (k2 b o hb e))
  refine wpAny_pure ⟨plainId_quiet F.plain_extend_loop _, zip_loop (A := A.in1) (S := s.heap.objs.size) hh D ⟨Nat.ne_of_gt ltz, Nat.ne_of_gt lTI, Nat.ne_of_gt lTO, Nat.ne_of_gt li1, Nat.ne_of_gt li2⟩ hl hz q1 q2 hSn _ 0 _ _ [] rfl (Nat.zero_le _) J4 (fun b hb => ?_) ?_ (fun b hb => ?_) sm upd_same rfl (fun i T x y e => by simp at e) fun s' H' Us J sm2 hU lU zd => ?_⟩
  · have q := hf b hb
    refine ⟨?_, q.2⟩
    have nb : b ≠ s.heap.objs.size := by
      simp only [List.mem_cons, List.not_mem_nil, or_false] at hb
      rcases hb with rfl | rfl | rfl | rfl | rfl
      · exact Nat.ne_of_lt ltz
      · exact Nat.ne_of_lt lTI
      · exact Nat.ne_of_lt lTO
      · exact Nat.ne_of_lt li1
      · exact Nat.ne_of_lt li2
    rw [upd_ne nb]
    exact q.1
  · obtain ⟨a, b, hTO⟩ := hTO
    exact ⟨k4 _ _ (Nat.ne_of_lt lTI) hTI, h1.at fun o e => k4 _ o (Nat.ne_of_lt li1) e, h2.at fun o e => k4 _ o (Nat.ne_of_lt li2) e, .inl ⟨k4 _ _ (Nat.ne_of_lt ltz) hZ, a, b, k4 _ _ (Nat.ne_of_lt lTO) hTO⟩⟩
  · have lt2 : b < s.heap.objs.size := by
      simp only [List.mem_cons, List.not_mem_nil, or_false] at hb
      rcases hb with rfl | rfl | rfl | rfl | rfl <;> assumption
    show b < ((h2'.update s.heap.objs.size (Obj.mapSeq (·.push Value.none))).update s.heap.objs.size (Obj.mapSeq (·.pop))).objs.size
    rw [Heap.size_update, Heap.size_update, sz2]
    exact Nat.lt_succ_of_lt lt2
  · exact ⟨rfl, fin s' H' _ Us J sm2 hSn hU lU zd⟩
end
/-- what list(zip(e, f)) asks: two lists of one length; behind it a new list of new pairs -/
def tListZip (K : PySem.W.Frag) (ta : TA) : TE := fun σ H Q => ta σ H fun vs H1 => ∃ (a b : Addr) (xs ys : List V), vs = [.ref a, .ref b] ∧ SqL K H1 a xs ∧ SqL K H1 b ys ∧ xs.length = ys.length ∧ xs.length ≤ 1000 ∧
  ∀ (H2 : Hp) (p : Addr) (Us : List Addr), Same H1 H2 → H1 p = none → H2 p = some (.lst (Us.map V.ref)) → Us.length = xs.length → Zd H1 H2 xs ys Us → Q (.ref p) H2
theorem pe_listZip {X : Cx} {e e2 : Expr} {ta : TA} {p p2 pos pos2 : Pos} (hc : X.calm = true) (hg : Gl X "list") (hm : X.mg "list" = none) (hg2 : Gl X "zip") (hm2 : X.mg "zip" = none) (ha : PA X [e, e2] ta)
    (hs : starEach [e, e2] X.env = (false, eval e X.env) :: starEach [e2] X.env := by rfl) (hpl : (backTo pos2 (starEach [e2] X.env)).any (·.1) = false := by rfl)
    (na : starEach [.Call (.Name "zip" p2) [e, e2] [] pos2] X.env = (false, eval (.Call (.Name "zip" p2) [e, e2] [] pos2) X.env) :: starEach [] X.env := by rfl) :
    PE X (.Call (.Name "list" p) [.Call (.Name "zip" p2) [e, e2] [] pos2] [] pos) (tListZip X.K ta) := by
  refine ⟨fun pins s σ H Q I want => ?_⟩
  refine Call_ (ld_blt I hg hm boot_list (PyProof.Rows.callWith_type1 (args_cons (Q := fun us s1 => wpAny (model X.prog X.w) X.A (call (.type "list") us) (EP X pins σ Q) X.xe s1) ?_ na) na))
  refine Call_ (ld_blt I hg2 hm2 PyProof.Rows.boot_zip (PyProof.Rows.callWith_type1 (thn (ha.run pos2 pins s σ H _ I want) ?_) hs hpl))
  rintro us s1 ⟨vs, H1, J, rel, a, b, xs, ys, rfl, qx, qy, hl, hz, q⟩
  obtain ⟨u1, u2, rfl, r1, r2⟩ := vals2 rel
  cases r1
  cases r2
  obtain ⟨its, rv, p1, _⟩ := J.list qx
  obtain ⟨its2, rv2, p3, _⟩ := J.list qy
  have la : a < s1.heap.objs.size := p1.lt
  refine zip_begins2 (begins_list a its.toArray) (begins_list b its2.toArray) p1.isList p3.isList fun h' hz2 hTI hTO g1 g2 sz keep => args_nil ?_
  have J2 : Inv X pins σ H1 { s1 with heap := h' } := J.kept (t' := s1.toks) keep
  refine list_zip_call (J.ok.hd hc) J2 (PySem.W.ktu_apart s1.heap.objs.size a b la p3.lt) hl hz qx qy (fun c hc2 => ?_) hz2 hTI ⟨_, _, hTO⟩ ⟨_, g1, rfl, rfl⟩ ⟨_, g2, rfl, rfl⟩ fun s' H' S Us I' sm n0 hU lU zd => ⟨.ref S, H', I', rfl, q H' S Us sm n0 hU lU zd⟩
  have le : s1.heap.objs.size ≤ c := by
    simp only [List.mem_cons, List.not_mem_nil, or_false] at hc2
    rcases hc2 with rfl | rfl | rfl | rfl | rfl <;> omega
  exact J.fpOk le (J.hok.fresh le)
end LX

namespace LX
open PySem PySem.Spec PyProof.Rows L2
variable {X : Cx}
/-- name = {k: v for ..} on one line, the name a local -/
theorem ps_setDc {i : Nat} {y : Str} {py : Pos} {kx vx tg iter : Expr} {ifs : List Expr} {scope : Scope} {own : List (Str × Nat)} {pos spos : Pos} {wi : TI} {g : TG} {tt : TT} {tk tv : TE} (hc : X.calm = true) (hN : X.N.Nodup) (hy : X.N[i]? = some y) (hyl : X.env.scope.names.lookup y = some .local)
    (hsw : swapsWith (.DictComp kx vx [⟨tg, iter, ifs, 0⟩] scope pos) (some (.Name y py)) spos.line X.env = pure true) (hi : PI X tg iter wi) (ok : BlkOk X.N X.env.scope scope own)
    (hg : ∀ (s : Shared) (H : Hp) (C : Addr) (cl : List (Str × Addr)) (fp : List Addr), PG (X.blk s H scope (compEnvC scope cl C X.env) fp) tg g) (ht : ∀ (s : Shared) (H : Hp) (C : Addr) (cl : List (Str × Addr)) (fp : List Addr), PTs (X.blk s H scope (compEnvC scope cl C X.env) fp) ifs tt)
    (hk : ∀ (s : Shared) (H : Hp) (C : Addr) (cl : List (Str × Addr)) (fp : List Addr), PE (X.blk s H scope (compEnvC scope cl C X.env) fp) kx tk)
    (he : ∀ (s : Shared) (H : Hp) (C : Addr) (cl : List (Str × Addr)) (fp : List Addr), PE (X.blk s H scope (compEnvC scope cl C X.env) fp) vx tv) (hs : ∀ x, foldedSetIterable iter X.env x = pure x := by intro _; rfl) :
    PS X (.Assign [.Name y py] (.DictComp kx vx [⟨tg, iter, ifs, 0⟩] scope pos) spos) (tAsg (tDc wi g tt tk tv (own.map (·.2))) (gName i)) := by
  refine ⟨fun pins s σ H D I h => ?_⟩
  rw [exec_Assign_Name_used _ _ _ _ hsw]
  refine wpAny_bind (wpAny_standAt (wpAny_bind ?_))
  show wpAny _ X.A (do let _ ← comprehension (.DictComp kx vx [⟨tg, iter, ifs, 0⟩] scope pos) scope X.env (firstIterPos [⟨tg, iter, ifs, 0⟩] pos) newDict false (eval iter X.env) (some (assign (.Name y py) X.env))) _ _ s
  have h : tDc wi g tt tk tv (own.map (·.2)) σ H (fun x H1 => gName i x σ H1 D.nx) := h
  refine wpAny_bind (thn (dc_core (Qf := fun _ s' => SP X pins D .next s') hc hN I hi ok hg ht hk he hs h fun L C s' m H' I' q hn f => ?_) fun _ s' hq => wpAny_pure (wpAny_pure hq))
  show wpAny _ _ (assign (.Name y py) X.env (.ref L)) _ _ _
  refine wpAny_assign_Name (store_ok2 (v := V.ref L) I' hN hy (.inl hyl) rfl (fun s2 I2 ⟨a, sb, ha⟩ => ?_) (.inr hyl))
  obtain ⟨f0, f1, f2, f3, f4, f5⟩ := f
  have haC : C ≠ a := by
    rcases ha with z | z
    · rw [z]; exact f1
    · exact fun e => f4 y a z e.symm
  refine ⟨m, hn.sameBut sb haC, fun h3 sb3 => ?_⟩
  exact ⟨_, H', I2.turned (t' := s2.toks) (fun b o hb e => (sb3.2 b hb).trans e) f0 f1 f3 f4 f5, q⟩
theorem sw_trueD {kx vx : Expr} {gs : List Comprehension} {scope : Scope} {pos py : Pos} {y : Str} {l : Nat} {env : Env} (hk : env.scope.kind = .function) (hy : env.scope.names.lookup y = some .local) (hl : (py.line == pos.line) = true)
    (ha : (scope.names.any fun (n, k) => n == y && (k == .local || k == .cell)) = false) : swapsWith (.DictComp kx vx gs scope pos) (some (.Name y py)) l env = pure true := by
  have ky : env.kindOf y = some .local := hy
  have hb : env.blockKind = .function := by unfold Env.blockKind; rw [hk]; rfl
  unfold swapsWith
  simp only [hb, ky, ha, Expr.pos, hl]
  rfl
end LX

/-! max of a list or a tuple of ints -/
namespace LX
open PySem PySem.Spec PyProof.Rows L2 LP
def rMaxE (K : PySem.W.Frag) : List V → Hp → VK → Prop := fun vs H Q => ∃ (a : Addr) (ns : List Int), vs = [.ref a] ∧ SqE K H a (ns.map V.int) ∧ ns ≠ [] ∧ ∀ m, m ∈ ns → (∀ y ∈ ns, y ≤ m) → Q (.int m) H
theorem cr_maxE {X : Cx} (hc : X.calm = true) : CallR X (.builtin "max") (rMaxE X.K) := by
  intro pins s σ H vs us Q I r h
  obtain ⟨a, ns, rfl, hs, hne, q1⟩ := h
  rcases hs with hs | hs
  · exact cr_max hc pins s σ H [.ref a] us Q I r ⟨a, ns, rfl, hs, List.length_pos_iff.mpr hne, fun m hm hy => q1 m hm hy⟩
  obtain rfl := Vals.ref1 r
  obtain ⟨its, rv, hl, _⟩ := I.tuple hs
  have hi := rv.ints
  have hh : X.A.handled = none := I.ok.hd hc
  obtain ⟨xs, e⟩ := hi.allInts.items
  have hn : numsOf (intItems xs).toList = ns := by rw [← e]; exact hi.numsOf
  rw [nums_intItems] at hn
  have hl2 : s.heap.IsTuple a its.toArray := by
    obtain ⟨o, h1, h2, n, h3⟩ := hl
    first | exact ⟨o, h1, h2, n, h3⟩ | exact ⟨o, h1, h2, ⟨n, h3⟩⟩ | exact ⟨o, n, h1, h2, h3⟩
  rw [e] at hl2
  have hp2 : 0 < xs.size := by
    rcases Nat.eq_zero_or_pos xs.size with z | z
    · exfalso; apply hne; rw [← hn, Array.eq_empty_of_size_eq_zero z]; rfl
    · exact z
  refine PySem.call_max_walkH (PySem.W.iter_tupleW (A := X.A.in1) hh hl2 fun s₂ e2 W st hfp hw hk => ?_)
  refine ⟨_, _, _, _, _, _, _, s.heap, (fun i j => decide (numAt xs i > numAt xs j)), rfl, W, st, hfp, by simpa [intItems] using hp2, hw, hk, fun i j vi vj s3 Q3 E3 _ hi hj h3 => CmpOf.ints_gt (numAt xs) (fun _ _ => intItems_at) i j vi vj s3 Q3 E3 hi hj h3, fun v s' hP m => ?_⟩
  obtain ⟨h', tk, rfl, hk'⟩ := PySem.W.moved_old e2 rfl m
  have hsz : (intItems xs).size = xs.size := by simp [intItems]
  rw [hsz] at hP
  obtain ⟨t, rfl⟩ := intItems_at hP
  obtain ⟨h1, h2⟩ := argBest_gt (numAt xs) (xs.size - 1)
  refine ⟨.int _, H, I.kept hk', ⟨_, rfl⟩, q1 _ ?_ fun y hy => ?_⟩
  · rw [← hn, numAt_eq]; exact PySem.getD_mem (by rw [List.length_map, Array.length_toList]; omega)
  · rw [← hn] at hy
    obtain ⟨j, hj, rfl⟩ := mem_getD hy
    rw [List.length_map, Array.length_toList] at hj
    rw [← numAt_eq]; exact h2 j (by omega)
end LX

/-! steps: one lemma a reading, by its head; heaps are told apart by names, not by what they are made of -/
namespace LS
open PySem L2 LT LG LP LX
/-! ## frames -/
theorem Same.fr_new {H0 H H' : Hp} {p : Addr} (s : Same H0 H) (f : Fr H H' p) (n : H0 p = none) : Same H0 H' := fun a o h => f a o (s a o h) (ne_of_none h n)
theorem Fr.same {H0 H H' : Hp} {b : Addr} (f : Fr H0 H b) (s : Same H H') : Fr H0 H' b := fun a o h n => s a o (f a o h n)
theorem Fr.fr_new {H0 H H' : Hp} {b p : Addr} (s : Fr H0 H b) (f : Fr H H' p) (n : H0 p = none) : Fr H0 H' b := fun a o h nb => f a o (s a o h nb) (ne_of_none h n)
theorem Fr.upd {H : Hp} {p : Addr} {o : HO} : Fr H (upd H p o) p := fun a u h n => by rw [upd_ne n]; exact h
theorem fr_seq {K : PySem.W.Frag} {H H' : Hp} {a p : Addr} {xs : List V} (f : Fr H H' p) (h : SqL K H a xs) (n : a ≠ p) : SqL K H' a xs := by
  rcases h with (h | ⟨o, h⟩) | h
  · exact .inl (.inl (f _ _ h n))
  · exact .inl (.inr ⟨o, f _ _ h n⟩)
  · exact .inr h
theorem fr_tup {K : PySem.W.Frag} {H H' : Hp} {a p : Addr} {xs : List V} (f : Fr H H' p) (h : SqT K H a xs) (n : a ≠ p) : SqT K H' a xs := by
  rcases h with (h | ⟨o, h⟩) | h
  · exact .inl (.inl (f _ _ h n))
  · exact .inl (.inr ⟨o, f _ _ h n⟩)
  · exact .inr h
theorem free_same {H H' : Hp} {p : Addr} (s : Same H H') (h : H' p = none) : H p = none := s.free h
theorem free_fr {H H' : Hp} {b p : Addr} {o : HO} (f : Fr H H' b) (hb : H' b = some o) (h : H' p = none) : H p = none := by
  cases q : H p with
  | none => rfl
  | some u =>
    by_cases e : p = b
    · subst e; rw [hb] at h; cases h
    · rw [f p u q e] at h; cases h
theorem ne_il {H : Hp} {a b C dx : Addr} {fs : List (Str × V)} {ys : List V} (h : H a = some (.ins C dx fs)) (h' : H b = some (.lst ys)) : a ≠ b := ne_of h h' (by intro z; cases z)
theorem ne_li {H : Hp} {a b C dx : Addr} {fs : List (Str × V)} {ys : List V} (h' : H b = some (.ins C dx fs)) (h : H a = some (.lst ys)) : a ≠ b := ne_of h h' (by intro z; cases z)
theorem ne_lt {H : Hp} {a b : Addr} {xs ys : List V} (h : H a = some (.lst xs)) (h' : H b = some (.tup ys)) : a ≠ b := ne_of h h' (by intro z; cases z)
theorem ne_tl {H : Hp} {a b : Addr} {xs ys : List V} (h : H a = some (.tup xs)) (h' : H b = some (.lst ys)) : a ≠ b := ne_of h h' (by intro z; cases z)
/-! ## what the search for facts about heaps goes by -/
theorem hp_s {H H' : Hp} {p : Addr} {o : HO} (s : Same H H') (h : H p = some o) : H' p = some o := s p o h
theorem hp_f {H H' : Hp} {b p : Addr} {o : HO} (f : Fr H H' b) (h : H p = some o) (n : p ≠ b) : H' p = some o := f p o h n
theorem sq_o {K : PySem.W.Frag} {H : Hp} {p : Addr} {xs : List V} (h : H p = some (.lst xs)) : SqL K H p xs := SqL.of h
theorem sq_s {K : PySem.W.Frag} {H H' : Hp} {p : Addr} {xs : List V} (s : Same H H') (h : SqL K H p xs) : SqL K H' p xs := s.seq h
theorem sq_f {K : PySem.W.Frag} {H H' : Hp} {b p : Addr} {xs : List V} (f : Fr H H' b) (h : SqL K H p xs) (n : p ≠ b) : SqL K H' p xs := fr_seq f h n
theorem tu_o {K : PySem.W.Frag} {H : Hp} {p : Addr} {xs : List V} (h : H p = some (.tup xs)) : SqT K H p xs := SqT.of h
theorem tu_s {K : PySem.W.Frag} {H H' : Hp} {p : Addr} {xs : List V} (s : Same H H') (h : SqT K H p xs) : SqT K H' p xs := same_tup s h
theorem tu_f {K : PySem.W.Frag} {H H' : Hp} {b p : Addr} {xs : List V} (f : Fr H H' b) (h : SqT K H p xs) (n : p ≠ b) : SqT K H' p xs := fr_tup f h n
theorem se_l {K : PySem.W.Frag} {H : Hp} {p : Addr} {xs : List V} (h : H p = some (.lst xs)) : SqE K H p xs := .inl (SqL.of h)
theorem se_t {K : PySem.W.Frag} {H : Hp} {p : Addr} {xs : List V} (h : H p = some (.tup xs)) : SqE K H p xs := .inr (SqT.of h)
theorem se_q {K : PySem.W.Frag} {H : Hp} {p : Addr} {xs : List V} (h : SqL K H p xs) : SqE K H p xs := .inl h
theorem se_u {K : PySem.W.Frag} {H : Hp} {p : Addr} {xs : List V} (h : SqT K H p xs) : SqE K H p xs := .inr h
theorem se_s {K : PySem.W.Frag} {H H' : Hp} {p : Addr} {xs : List V} (s : Same H H') (h : SqE K H p xs) : SqE K H' p xs := h.same s
theorem se_f {K : PySem.W.Frag} {H H' : Hp} {b p : Addr} {xs : List V} (f : Fr H H' b) (h : SqE K H p xs) (n : p ≠ b) : SqE K H' p xs := h.imp (fun h => fr_seq f h n) fun h => fr_tup f h n
theorem sm_s {H0 H H' : Hp} (s : Same H H') (h : Same H0 H) : Same H0 H' := h.trans s
theorem sm_f {H0 H H' : Hp} {p : Addr} (f : Fr H H' p) (h : Same H0 H) (n : H0 p = none) : Same H0 H' := Same.fr_new h f n
theorem fr_s {H0 H H' : Hp} {b : Addr} (s : Same H H') (h : Fr H0 H b) : Fr H0 H' b := Fr.same h s
theorem fr_b {H0 H H' : Hp} {b : Addr} (f : Fr H H' b) (h : Fr H0 H b) : Fr H0 H' b := h.trans f
theorem fr_n {H0 H H' : Hp} {b p : Addr} (f : Fr H H' p) (h : Fr H0 H b) (n : H0 p = none) : Fr H0 H' b := Fr.fr_new h f n
theorem ne_a {H : Hp} {a b : Addr} {o : HO} (h' : H b = none) (h : H a = some o) : a ≠ b := ne_of_none h h'
theorem ne_b {H : Hp} {a b : Addr} {o : HO} (h' : H a = none) (h : H b = some o) : a ≠ b := (ne_of_none h h').symm
theorem no_s {H H' : Hp} {p : Addr} (h : H' p = none) (s : Same H H') : H p = none := s.free h
theorem no_f {H H' : Hp} {b p : Addr} {o : HO} (h : H' p = none) (f : Fr H H' b) (hb : H' b = some o) : H p = none := free_fr f hb h
theorem sz {n : Nat} (h : n ≤ 100000) : n ≤ sizeLine := Nat.le_trans h (by decide)
theorem szl {n : Nat} (h : n < 100000) : n < sizeLine := Nat.lt_of_lt_of_le h (by decide)
theorem at_g {α : Type} {xs : List α} {j : Nat} {v : α} {z : Int} (hz : z = (j : Int)) (e : xs[j]? = some v) : atI xs z = some v := by
  subst hz
  unfold atI
  rw [ixN_at (List.getElem?_eq_some_iff.mp e).1]
  exact e
theorem cut_to (xs : List V) (i : Nat) : cutV xs none (some (i : Int)) = xs.take i := by
  unfold cutV
  rw [HT.sIx_none, HT.sIx_nat, List.drop_zero, Nat.sub_zero]
  rcases Nat.lt_or_ge i xs.length with h | h
  · rw [Nat.min_eq_left (by omega)]
  · rw [Nat.min_eq_right (by omega), List.take_of_length_le (Nat.le_refl _), List.take_of_length_le h]
theorem cut_from (xs : List V) (i : Nat) : cutV xs (some (i : Int)) none = xs.drop i := by
  unfold cutV
  rw [HT.sIx_none, HT.sIx_nat]
  rcases Nat.lt_or_ge i xs.length with h | h
  · rw [Nat.min_eq_left (by omega), List.take_of_length_le (by rw [List.length_drop]; omega)]
  · rw [Nat.min_eq_right (by omega), List.drop_of_length_le (Nat.le_refl _), List.drop_of_length_le h, List.take_nil]
theorem flat_rep {α : Type} (n : Nat) (x : α) : (List.replicate n [x]).flatten = List.replicate n x := by
  induction n with
  | zero => rfl
  | succ m ih => rw [List.replicate_succ, List.flatten_cons, List.replicate_succ, ih]; rfl
/-! ## rules by name -/
def rListOf (K : PySem.W.Frag) : List V → Hp → VK → Prop := fun xs H Q => ∃ p ys, xs = [.ref p] ∧ (SqL K H p ys ∨ SqT K H p ys) ∧ ∀ l, H l = none → Q (.ref l) (upd H l (.lst ys))
def rIsN : R2 := fun x y H Q => y = .non ∧ Q (.bl (decide (x = .non))) H
def rNotN : R2 := fun x y H Q => y = .non ∧ Q (.bl (!decide (x = .non))) H
def rInt1 : List V → Hp → VK → Prop := fun xs H Q => (∃ i, xs = [.int i] ∧ Q (.int i) H) ∨ ∃ k, xs = [.bl k] ∧ Q (.int (if k then 1 else 0)) H
def rStrI : List V → Hp → VK → Prop := fun xs H Q => ∃ i, xs = [.int i] ∧ i.natAbs.log2 < 1920 ∧ Q (.str (toString i)) H
def rIntS : List V → Hp → VK → Prop := fun xs H Q => ∃ a n, xs = [.str a] ∧ PySem.intText? a = some n ∧ a.length ≤ 640 ∧ Q (.int n) H
def rAddS : R2 := fun x y H Q => ∃ i j, x = .str i ∧ y = .str j ∧ i.length + j.length ≤ sizeLine ∧ Q (.str (i ++ j)) H
def rSplit : V → List V → Hp → VK → Prop := fun x xs H Q => ∃ a b, x = .str a ∧ xs = [.str b] ∧ (b.length == 0) = false ∧ a.length + 2 ≤ sizeLine ∧ rNewStrs (Txt.split a b) H Q
def rJoin (K : PySem.W.Frag) : V → List V → Hp → VK → Prop := fun x xs H Q => ∃ a p, ∃ ys : List Str, x = .str a ∧ xs = [.ref p] ∧ (SqL K H p (ys.map V.str) ∨ SqT K H p (ys.map V.str)) ∧
    (ys.map (·.length)).sum + ys.length * a.length ≤ 16777216 ∧ Q (.str (Txt.join a ys)) H
def rLenT : List V → Hp → VK → Prop := fun xs H Q => ∃ z, xs = [.str z] ∧ z.length ≤ sizeLine ∧ Q (.int z.length) H
def rAbs : List V → Hp → VK → Prop := fun xs H Q => ∃ i, xs = [.int i] ∧ Q (.int (if i < 0 then -i else i)) H
def rMin2 : List V → Hp → VK → Prop := fun xs H Q => ∃ i j, xs = [.int i, .int j] ∧ Q (.int (if j < i then j else i)) H
def rMax2 : List V → Hp → VK → Prop := fun xs H Q => ∃ i j, xs = [.int i, .int j] ∧ Q (.int (if j > i then j else i)) H
section
variable {X : Cx}
theorem call_abs : CallR X (.builtin "abs") rAbs := L2.call_abs
theorem call_min2 (hc : X.calm = true) : CallR X (.builtin "min") rMin2 := L2.call_min2 hc
theorem call_max2 (hc : X.calm = true) : CallR X (.builtin "max") rMax2 := L2.call_max2 hc
theorem call_len : CallR X (.builtin "len") (rLenS X.K) := call_len_seq
theorem call_lenT : CallR X (.builtin "len") rLenT := call_len_str
theorem call_list : CallR X (.type "list") (rListOf X.K) := call_list_of
theorem op_isN : OpR X (compareOp .Is) rIsN := L2.op_isN
theorem op_notN : OpR X (compareOp .IsNot) rNotN := L2.op_notN
theorem call_int1 : CallR X (.type "int") rInt1 := L2.call_int1
theorem call_strI : CallR X (.type "str") rStrI := L2.call_str_int
theorem call_intS : CallR X (.type "int") rIntS := L2.call_int_str
theorem op_addS : OpR X (binaryOp .Add) rAddS := L2.op_add_str
theorem mt_split : MtR X "str.split" rSplit := L2.mt_split
theorem mt_join : MtR X "str.join" (rJoin X.K) := L2.mt_join
end
/-! ## the reel -/
/-- from H to H' by draws, new objects and stores to what was new -/
structure RT (H H' : Hp) (b : Addr) (d : Nat) : Prop where
  r : Reel H' b d
  f : Fr H H' b
  a : ∀ a, Apart H b a → H a ≠ none → Apart H' b a
theorem Reel.up {H : Hp} {b : Addr} {d d' : Nat} (r : Reel H b d) (h : d ≤ d') : Reel H b d' := r.mono h
theorem reel_fr {H H' : Hp} {b p : Addr} {d : Nat} (r : Reel H b d) (f : Fr H H' p) (ap : Apart H b p) : Reel H' b d := by
  obtain ⟨g, c, gs, cs, k, t, a1, a2, a3, a4⟩ := r.ex
  have n := ap.2 _ a1
  exact ⟨⟨g, c, gs, cs, k, t, f _ _ a1 (Ne.symm ap.1), f _ _ a2 fun e => n (by rw [e]; simp), f _ _ a3 fun e => n (by rw [e]; simp), a4⟩⟩
theorem ap_same {H H' : Hp} {b a : Addr} {d : Nat} (s : Same H H') (r : Reel H b d) (h : Apart H b a) : Apart H' b a := by
  obtain ⟨g, c, gs, cs, k, t, a1, _⟩ := r.ex
  exact ⟨h.1, fun xs hx => by rw [s _ _ a1] at hx; cases hx; exact h.2 _ a1⟩
theorem ap_fr {H H' : Hp} {b a p : Addr} {d : Nat} (f : Fr H H' p) (ap : Apart H b p) (r : Reel H b d) (h : Apart H b a) : Apart H' b a := by
  obtain ⟨g, c, gs, cs, k, t, a1, _⟩ := r.ex
  exact ⟨h.1, fun xs hx => by rw [f _ _ a1 (Ne.symm ap.1)] at hx; cases hx; exact h.2 _ a1⟩
theorem rt_refl {H : Hp} {b : Addr} {d : Nat} (r : Reel H b d) : RT H H b d := ⟨r, Fr.refl _ _, fun _ h _ => h⟩
theorem rt_s {H H1 H' : Hp} {b : Addr} {d : Nat} (s : Same H1 H') (t : RT H H1 b d) : RT H H' b d := ⟨t.r.same s, Fr.same t.f s, fun a h n => ap_same s t.r (t.a a h n)⟩
theorem rt_t {H H1 H' : Hp} {b : Addr} {d d' : Nat} (u : RT H1 H' b d') (t : RT H H1 b d) : RT H H' b d' := ⟨u.r, t.f.trans u.f, fun a h n => u.a a (t.a a h n) (by
  obtain ⟨o, ho⟩ := Option.ne_none_iff_exists'.mp n
  rw [t.f _ _ ho h.1]; simp)⟩
theorem rt_f {H H1 H' : Hp} {b p : Addr} {d : Nat} (f : Fr H1 H' p) (t : RT H H1 b d) (n : H p = none) (ap : Apart H1 b p) : RT H H' b d := ⟨reel_fr t.r f ap, Fr.fr_new t.f f n, fun a h n => ap_fr f ap t.r (t.a a h n)⟩
theorem rt_mono {H H' : Hp} {b : Addr} {d d' : Nat} (t : RT H H' b d) (h : d ≤ d') : RT H H' b d' := ⟨t.r.mono h, t.f, t.a⟩
theorem rl_t {H H' : Hp} {b : Addr} {d : Nat} (t : RT H H' b d) : Reel H' b d := t.r
theorem rl_s {H H' : Hp} {b : Addr} {d : Nat} (s : Same H H') (r : Reel H b d) : Reel H' b d := r.same s
theorem rl_f {H H' : Hp} {b p : Addr} {d : Nat} (f : Fr H H' p) (r : Reel H b d) (ap : Apart H b p) : Reel H' b d := reel_fr r f ap
theorem ap_new {H H' : Hp} {b p : Addr} {d : Nat} (n : H p = none) (s : Same H H') (r : Reel H b d) : Apart H' b p := ap_same s r (r.new n)
theorem ap_s {H H' : Hp} {b a : Addr} {d : Nat} (s : Same H H') (h : Apart H b a) (r : Reel H b d) : Apart H' b a := ap_same s r h
theorem ap_t {H H' : Hp} {b a : Addr} {d : Nat} {o : HO} (t : RT H H' b d) (h : Apart H b a) (e : H a = some o) : Apart H' b a := t.a a h (by rw [e]; simp)
theorem ap_f {H H' : Hp} {b a p : Addr} {d : Nat} (f : Fr H H' p) (h : Apart H b a) (ap : Apart H b p) (r : Reel H b d) : Apart H' b a := ap_fr f ap r h
theorem ne_ap {H : Hp} {b a : Addr} (h : Apart H b a) : a ≠ b := h.1
theorem ne_rl {H : Hp} {b p : Addr} {d : Nat} (n : H p = none) (r : Reel H b d) : p ≠ b := r.ne_new n
theorem hp_t {H H' : Hp} {b p : Addr} {d : Nat} {o : HO} (t : RT H H' b d) (h : H p = some o) (n : p ≠ b) : H' p = some o := t.f p o h n
theorem sq_t {K : PySem.W.Frag} {H H' : Hp} {b p : Addr} {d : Nat} {xs : List V} (t : RT H H' b d) (h : SqL K H p xs) (n : p ≠ b) : SqL K H' p xs := fr_seq t.f h n
theorem tu_t {K : PySem.W.Frag} {H H' : Hp} {b p : Addr} {d : Nat} {xs : List V} (t : RT H H' b d) (h : SqT K H p xs) (n : p ≠ b) : SqT K H' p xs := fr_tup t.f h n
theorem se_tt {K : PySem.W.Frag} {H H' : Hp} {b p : Addr} {d : Nat} {xs : List V} (t : RT H H' b d) (h : SqE K H p xs) (n : p ≠ b) : SqE K H' p xs := se_f t.f h n
theorem no_t {H H' : Hp} {b p : Addr} {d : Nat} (h : H' p = none) (t : RT H H' b d) : H p = none := by
  obtain ⟨o, ho⟩ := t.r.nb
  exact free_fr t.f ho h
theorem fr_t {H0 H H' : Hp} {b : Addr} {d : Nat} (t : RT H H' b d) (h : Fr H0 H b) : Fr H0 H' b := h.trans t.f
/-! ## frames about some objects -/
structure FrL (H H' : Hp) (L : List Addr) : Prop where
  k : ∀ a o, H a = some o → a ∉ L → H' a = some o
  l : ∀ a ∈ L, H' a ≠ none
def Trk (H : Hp) (L : List Addr) : Prop := ∀ a ∈ L, H a ≠ none
theorem trk_nil {H : Hp} : Trk H [] := fun a h => by cases h
theorem trk_cons {H : Hp} {a : Addr} {o : HO} {L : List Addr} (h : H a = some o) (t : Trk H L) : Trk H (a :: L) := fun b hb => by
  rcases List.mem_cons.mp hb with rfl | hb
  · rw [h]; simp
  · exact t b hb
theorem ni_nil {a : Addr} : a ∉ ([] : List Addr) := by simp
theorem ni_cons {a b : Addr} {L : List Addr} (h : a ≠ b) (t : a ∉ L) : a ∉ b :: L := fun q => by
  rcases List.mem_cons.mp q with e | e
  · exact h e
  · exact t e
theorem mem_hd {a : Addr} {L : List Addr} : a ∈ a :: L := List.mem_cons_self ..
theorem mem_tl {a b : Addr} {L : List Addr} (h : a ∈ L) : a ∈ b :: L := List.mem_cons_of_mem _ h
theorem fl_refl {H : Hp} {L : List Addr} (t : Trk H L) : FrL H H L := ⟨fun _ _ h _ => h, t⟩
theorem fl_s {H H1 H' : Hp} {L : List Addr} (s : Same H1 H') (f : FrL H H1 L) : FrL H H' L := ⟨fun a o h n => s a o (f.k a o h n), fun a ha => by
  obtain ⟨o, ho⟩ := Option.ne_none_iff_exists'.mp (f.l a ha)
  rw [s _ _ ho]; simp⟩
theorem fl_m {H H1 H' : Hp} {L : List Addr} {p : Addr} {o : HO} (g : Fr H1 H' p) (f : FrL H H1 L) (hp : p ∈ L) (e : H' p = some o) : FrL H H' L := ⟨fun a u h n => g a u (f.k a u h n) fun z => n (z ▸ hp), fun a ha => by
  by_cases z : a = p
  · rw [z, e]; simp
  · obtain ⟨u, hu⟩ := Option.ne_none_iff_exists'.mp (f.l a ha)
    rw [g _ _ hu z]; simp⟩
theorem fl_n {H H1 H' : Hp} {L : List Addr} {p : Addr} {o : HO} (g : Fr H1 H' p) (f : FrL H H1 L) (n : H p = none) (e : H' p = some o) : FrL H H' L := ⟨fun a u h m => g a u (f.k a u h m) (ne_of_none h n), fun a ha => by
  by_cases z : a = p
  · rw [z, e]; simp
  · obtain ⟨u, hu⟩ := Option.ne_none_iff_exists'.mp (f.l a ha)
    rw [g _ _ hu z]; simp⟩
theorem fl_l {H H1 H' : Hp} {L : List Addr} (g : FrL H1 H' L) (f : FrL H H1 L) : FrL H H' L := ⟨fun a u h n => g.k a u (f.k a u h n) n, g.l⟩
theorem fl_lm {H H1 H' : Hp} {L M : List Addr} (g : FrL H1 H' M) (f : FrL H H1 L) (hs : ∀ a ∈ M, a ∈ L) : FrL H H' L := ⟨fun a u h n => g.k a u (f.k a u h n) fun q => n (hs a q), fun a ha => by
  by_cases q : a ∈ M
  · exact g.l a q
  · obtain ⟨u, hu⟩ := Option.ne_none_iff_exists'.mp (f.l a ha)
    rw [g.k _ _ hu q]; simp⟩
theorem sub_nil {L : List Addr} : ∀ a ∈ ([] : List Addr), a ∈ L := fun a h => by cases h
theorem sub_cons {a : Addr} {L M : List Addr} (h : a ∈ L) (t : ∀ b ∈ M, b ∈ L) : ∀ b ∈ a :: M, b ∈ L := fun b hb => by
  rcases List.mem_cons.mp hb with rfl | hb
  · exact h
  · exact t b hb
theorem sm_l {H0 H H' : Hp} {L : List Addr} (f : FrL H H' L) (s : Same H0 H) (n : ∀ a ∈ L, H0 a = none) : Same H0 H' := fun a o h => f.k a o (s a o h) fun q => by rw [n a q] at h; cases h
theorem hp_l {H H' : Hp} {L : List Addr} {p : Addr} {o : HO} (f : FrL H H' L) (h : H p = some o) (n : p ∉ L) : H' p = some o := f.k p o h n
theorem sq_l {K : PySem.W.Frag} {H H' : Hp} {L : List Addr} {p : Addr} {xs : List V} (f : FrL H H' L) (h : SqL K H p xs) (n : p ∉ L) : SqL K H' p xs := by
  rcases h with (h | ⟨o, h⟩) | h
  · exact .inl (.inl (f.k _ _ h n))
  · exact .inl (.inr ⟨o, f.k _ _ h n⟩)
  · exact .inr h
theorem tu_l {K : PySem.W.Frag} {H H' : Hp} {L : List Addr} {p : Addr} {xs : List V} (f : FrL H H' L) (h : SqT K H p xs) (n : p ∉ L) : SqT K H' p xs := by
  rcases h with (h | ⟨o, h⟩) | h
  · exact .inl (.inl (f.k _ _ h n))
  · exact .inl (.inr ⟨o, f.k _ _ h n⟩)
  · exact .inr h
theorem no_l {H H' : Hp} {L : List Addr} {p : Addr} (h : H' p = none) (f : FrL H H' L) : H p = none := by
  cases q : H p with
  | none => rfl
  | some u =>
    by_cases e : p ∈ L
    · exact absurd h (f.l p e)
    · rw [f.k p u q e] at h; cases h
def ApL (H : Hp) (b : Addr) (L : List Addr) : Prop := ∀ a ∈ L, Apart H b a
theorem al_nil {H : Hp} {b : Addr} : ApL H b [] := fun a h => by cases h
theorem al_cons {H : Hp} {b a : Addr} {L : List Addr} (h : Apart H b a) (t : ApL H b L) : ApL H b (a :: L) := fun c hc => by
  rcases List.mem_cons.mp hc with rfl | hc
  · exact h
  · exact t c hc
theorem rl_l {H H' : Hp} {b : Addr} {d : Nat} {L : List Addr} (f : FrL H H' L) (r : Reel H b d) (al : ApL H b L) : Reel H' b d := by
  obtain ⟨g, c, gs, cs, k, t, a1, a2, a3, a4⟩ := r.ex
  have n : ∀ x, V.ref x ∈ [V.ref g, .ref c, .int k, .int t] → x ∉ L := fun x hx hl => (al x hl).2 _ a1 hx
  exact ⟨⟨g, c, gs, cs, k, t, f.k _ _ a1 fun q => (al b q).1 rfl, f.k _ _ a2 (n g (by simp)), f.k _ _ a3 (n c (by simp)), a4⟩⟩
theorem ap_l {H H' : Hp} {b a : Addr} {d : Nat} {L : List Addr} (f : FrL H H' L) (h : Apart H b a) (al : ApL H b L) (r : Reel H b d) : Apart H' b a := by
  obtain ⟨g, c, gs, cs, k, t, a1, _⟩ := r.ex
  exact ⟨h.1, fun xs hx => by rw [f.k _ _ a1 fun q => (al b q).1 rfl] at hx; cases hx; exact h.2 _ a1⟩
section
variable {K : PySem.W.Frag} {σ : L2.St} {H : Hp} {Q : VK} {D : Ends} {QA : List V → Hp → Prop} {QB : Bool → Hp → Prop}
/-! ## expressions -/
theorem var {i : Nat} {v : V} (h : σ[i]? = some (some v)) (q : Q v H) : tVar i σ H Q := ⟨v, h, q⟩
theorem con {v : V} (q : Q v H) : tC v σ H Q := q
theorem op {r : R2} {ta tb : TE} (h : ta σ H fun x H1 => tb σ H1 fun y H2 => r x y H2 Q) : tOp r ta tb σ H Q := h
theorem un {r : V → Hp → VK → Prop} {ta : TE} (h : ta σ H fun x H1 => r x H1 Q) : tUn r ta σ H Q := h
theorem tcons {ta : TE} {tr : TA} (h : ta σ H fun x H1 => tr σ H1 fun xs H2 => QA (x :: xs) H2) : tCons ta tr σ H QA := h
theorem tnil (h : QA [] H) : tNil σ H QA := h
theorem tcb {r : List V → Hp → VK → Prop} {t : TA} (h : t σ H fun vs H1 => r vs H1 Q) : tCB r t σ H Q := h
theorem tcall {sp : Sp} {dvs : List V} {E : XK} {t : TA} (h : t σ H fun vs H1 => sp (vs ++ dvs) H1 Q E) : tCall sp dvs E t σ H Q := h
theorem tsl {r : V → Option Int → Option Int → Hp → VK → Prop} {te : TE} {tl th : TO} (h : te σ H fun x H1 => tl σ H1 fun l H2 => th σ H2 fun u H3 => r x l u H3 Q) : tSl r te tl th σ H Q := h
theorem tnop {QO : Option Int → Hp → Prop} (h : QO none H) : tNoPart σ H QO := h
def kPart (QO : Option Int → Hp → Prop) : VK := fun x H1 => ∃ i, x = .int i ∧ QO (some i) H1
theorem tpart {te : TE} {QO : Option Int → Hp → Prop} (h : te σ H (kPart QO)) : tPart te σ H QO := h
theorem k_part {i : Int} {QO : Option Int → Hp → Prop} (q : QO (some i) H) : kPart QO (.int i) H := ⟨i, rfl, q⟩
def kB (QB : Bool → Hp → Prop) : VK := fun x H1 => ∃ k, x = .bl k ∧ QB k H1
theorem k_b {b : Bool} (q : QB b H) : kB QB (.bl b) H := ⟨b, rfl, q⟩
theorem ttest {te : TE} (h : te σ H (kB QB)) : tTest te σ H QB := h
theorem tb {te : TE} (h : te σ H (kB QB)) : tB te σ H QB := h
theorem tyes (h : QB true H) : tYes σ H QB := h
theorem tand {t u : TT} (h : t σ H fun c H1 => if c = true then u σ H1 QB else QB false H1) : tAnd t u σ H QB := h
theorem tor {t u : TT} (h : t σ H fun c H1 => if c = true then QB true H1 else u σ H1 QB) : tOr t u σ H QB := h
theorem tnot {t : TT} (h : t σ H fun c H1 => QB (!c) H1) : tNot t σ H QB := h
theorem tif {t : TT} {ta tb : TE} (h : t σ H fun c H1 => if c = true then ta σ H1 Q else tb σ H1 Q) : tIf t ta tb σ H Q := h
def kAV (tb : TE) (σ : L2.St) (Q : VK) : VK := fun x H1 => ∃ c, x = .bl c ∧ if c = true then tb σ H1 Q else Q (.bl false) H1
theorem tandv {ta tb : TE} (h : ta σ H (kAV tb σ Q)) : tAndV ta tb σ H Q := h
theorem k_av {tb : TE} {c : Bool} (h : if c = true then tb σ H Q else Q (.bl false) H) : kAV tb σ Q (.bl c) H := ⟨c, rfl, h⟩
def kOV (tb : TE) (σ : L2.St) (Q : VK) : VK := fun x H1 => ∃ c, x = .bl c ∧ if c = true then Q (.bl true) H1 else tb σ H1 Q
theorem torv {ta tb : TE} (h : ta σ H (kOV tb σ Q)) : tOrV ta tb σ H Q := h
theorem k_ov {tb : TE} {c : Bool} (h : if c = true then Q (.bl true) H else tb σ H Q) : kOV tb σ Q (.bl c) H := ⟨c, rfl, h⟩
def kNV (Q : VK) : VK := fun x H1 => ∃ c, x = .bl c ∧ Q (.bl (!c)) H1
theorem tnotv {ta : TE} (h : ta σ H (kNV Q)) : tNotV ta σ H Q := h
theorem k_nv {c : Bool} (h : Q (.bl (!c)) H) : kNV Q (.bl c) H := ⟨c, rfl, h⟩
def kCh (r r' : R2) (tc : TE) (σ : L2.St) (y : V) (Q : VK) : VK := fun z H3 => ∃ k, z = .bl k ∧ if k = true then tc σ H3 fun x H4 => r' y x H4 Q else Q (.bl false) H3
theorem tchain {r r' : R2} {ta tb tc : TE} (h : ta σ H fun x H1 => tb σ H1 fun y H2 => r x y H2 (kCh r r' tc σ y Q)) : tChain r r' ta tb tc σ H Q := h
theorem k_ch {r r' : R2} {tc : TE} {y : V} {k : Bool} (h : if k = true then tc σ H fun x H4 => r' y x H4 Q else Q (.bl false) H) : kCh r r' tc σ y Q (.bl k) H := ⟨k, rfl, h⟩
theorem ift {A B : Prop} (h : A) : if true = true then A else B := by rw [if_pos rfl]; exact h
theorem iff_ {A B : Prop} (h : B) : if false = true then A else B := by rw [if_neg Bool.false_ne_true]; exact h
theorem ifnt {A B : Prop} (h : B) : if (!true) = true then A else B := by rw [if_neg (by decide)]; exact h
theorem ifnf {A B : Prop} (h : A) : if (!false) = true then A else B := by rw [if_pos (by decide)]; exact h
theorem if2 {c A B : Prop} [Decidable c] (h1 : c → A) (h2 : ¬ c → B) : if decide c = true then A else B := ite2d h1 h2
theorem ifn2 {c A B : Prop} [Decidable c] (h1 : ¬ c → A) (h2 : c → B) : if (!decide c) = true then A else B := by
  by_cases h : c
  · rw [decide_eq_true h]; exact ifnt (h2 h)
  · rw [decide_eq_false h]; exact ifnf (h1 h)
theorem of_iff {A B : Prop} (h : if false = true then A else B) : B := by rw [if_neg Bool.false_ne_true] at h; exact h
/-- two ways that go on alike -/
theorem tail_t {c A X : Prop} [Decidable c] (h : c → X → A) (x : X) : if decide c = true then A else X := ite2d (fun hc => h hc x) fun _ => x
theorem tail_e {c A X : Prop} [Decidable c] (h : ¬ c → X → A) (x : X) : if decide c = true then X else A := ite2d (fun _ => x) fun hc => h hc x
/-! ## values -/
theorem ri0 {g : Int → Int → V} {i j : Int} (q : Q (g i j) H) : rI0 g (.int i) (.int j) H Q := ⟨i, j, rfl, rfl, q⟩
theorem ri {C : Int → Int → Prop} {g : Int → Int → V} {i j : Int} (c : C i j) (q : Q (g i j) H) : rI C g (.int i) (.int j) H Q := ⟨i, j, rfl, rfl, c, q⟩
theorem ru {g : Int → V} {i : Int} (q : Q (g i) H) : rU g (.int i) H Q := ⟨i, rfl, q⟩
theorem req_i {x y : Int} (q : Q (.bl (decide (x = y))) H) : rEq (.int x) (.int y) H Q := ⟨rfl, by rw [show decide (V.int x = V.int y) = decide (x = y) from decide_eq_decide.mpr ⟨V.int.inj, congrArg _⟩]; exact q⟩
theorem rne_i {x y : Int} (q : Q (.bl (!decide (x = y))) H) : rNe (.int x) (.int y) H Q := ⟨rfl, by rw [show decide (V.int x = V.int y) = decide (x = y) from decide_eq_decide.mpr ⟨V.int.inj, congrArg _⟩]; exact q⟩
theorem req_s {x y : Str} (q : Q (.bl (decide (x = y))) H) : rEq (.str x) (.str y) H Q := ⟨rfl, by rw [show decide (V.str x = V.str y) = decide (x = y) from decide_eq_decide.mpr ⟨V.str.inj, congrArg _⟩]; exact q⟩
theorem rne_s {x y : Str} (q : Q (.bl (!decide (x = y))) H) : rNe (.str x) (.str y) H Q := ⟨rfl, by rw [show decide (V.str x = V.str y) = decide (x = y) from decide_eq_decide.mpr ⟨V.str.inj, congrArg _⟩]; exact q⟩
theorem req_b {x y : Bool} (q : Q (.bl (decide (x = y))) H) : rEq (.bl x) (.bl y) H Q := ⟨rfl, by rw [show decide (V.bl x = V.bl y) = decide (x = y) from decide_eq_decide.mpr ⟨V.bl.inj, congrArg _⟩]; exact q⟩
theorem rne_b {x y : Bool} (q : Q (.bl (!decide (x = y))) H) : rNe (.bl x) (.bl y) H Q := ⟨rfl, by rw [show decide (V.bl x = V.bl y) = decide (x = y) from decide_eq_decide.mpr ⟨V.bl.inj, congrArg _⟩]; exact q⟩
theorem rne_same {x : V} (h : scal x x = true) (q : Q (.bl false) H) : rNe x x H Q := ⟨h, by rw [decide_eq_true rfl]; exact q⟩
theorem req_same {x : V} (h : scal x x = true) (q : Q (.bl true) H) : rEq x x H Q := ⟨h, by rw [decide_eq_true rfl]; exact q⟩
theorem req {x y : V} (h : scal x y = true) (q : Q (.bl (decide (x = y))) H) : rEq x y H Q := ⟨h, q⟩
theorem rne {x y : V} (h : scal x y = true) (q : Q (.bl (!decide (x = y))) H) : rNe x y H Q := ⟨h, q⟩
theorem rixl {p : Addr} {xs : List V} {i : Int} {v : V} (h : SqL K H p xs) (e : atI xs i = some v) (q : Q v H) : rIxL K (.ref p) (.int i) H Q := ⟨p, xs, i, v, rfl, rfl, h, e, q⟩
theorem rixt {p : Addr} {xs : List V} {i : Int} {v : V} (h : SqT K H p xs) (e : atI xs i = some v) (q : Q v H) : rIxT K (.ref p) (.int i) H Q := ⟨p, xs, i, v, rfl, rfl, h, e, q⟩
theorem rixl_n {p : Addr} {xs : List V} {j : Nat} {i : Int} {v : V} (h : SqL K H p xs) (e : xs[j]? = some v) (hz : i = (j : Int)) (q : Q v H) : rIxL K (.ref p) (.int i) H Q := ⟨p, xs, i, v, rfl, rfl, h, at_of hz e, q⟩
theorem rixt_n {p : Addr} {xs : List V} {j : Nat} {i : Int} {v : V} (h : SqT K H p xs) (e : xs[j]? = some v) (hz : i = (j : Int)) (q : Q v H) : rIxT K (.ref p) (.int i) H Q := ⟨p, xs, i, v, rfl, rfl, h, at_of hz e, q⟩
theorem rixs {z : Str} {i : Int} {j c : Nat} (hz : z.length ≤ 100000) (e : z.cps.toList[j]? = some c) (hi : i = (j : Int)) (q : Q (.str ⟨#[c]⟩) H) : rIxS (.str z) (.int i) H Q := ⟨z, i, c, rfl, rfl, sz hz, at_g hi e, q⟩
theorem rin_l {neg : Bool} {x : V} {p : Addr} {xs : List V} (h : SqL K H p xs) (hx : flatV x = true) (ha : xs.all flatV = true) (q : Q (.bl (if neg then !inV x xs else inV x xs)) H) : rIn K neg x (.ref p) H Q := ⟨p, xs, rfl, .inl h, hx, ha, q⟩
theorem rin_i {n : Int} {p : Addr} {xs : List Int} (h : SqL K H p (xs.map V.int)) (q : Q (.bl (decide (n ∈ xs))) H) : rIn K false (.int n) (.ref p) H Q := rin_l h rfl (flat_ints _) (by rw [in_ints]; exact q)
theorem rni_i {n : Int} {p : Addr} {xs : List Int} (h : SqL K H p (xs.map V.int)) (q : Q (.bl (!decide (n ∈ xs))) H) : rIn K true (.int n) (.ref p) H Q := rin_l h rfl (flat_ints _) (by rw [in_ints]; exact q)
theorem rlen_l {p : Addr} {xs : List V} (h : SqL K H p xs) (q : Q (.int (xs.length : Nat)) H) : rLenS K [.ref p] H Q := ⟨p, xs, rfl, .inl h, q⟩
theorem rlen_t {p : Addr} {xs : List V} (h : SqT K H p xs) (q : Q (.int (xs.length : Nat)) H) : rLenS K [.ref p] H Q := ⟨p, xs, rfl, .inr h, q⟩
theorem rlen_li {p : Addr} {xs : List Int} (h : SqL K H p (xs.map V.int)) (q : Q (.int (xs.length : Nat)) H) : rLenS K [.ref p] H Q := ⟨p, _, rfl, .inl h, by rw [List.length_map]; exact q⟩
theorem rlen_ls {p : Addr} {xs : List Str} (h : SqL K H p (xs.map V.str)) (q : Q (.int (xs.length : Nat)) H) : rLenS K [.ref p] H Q := ⟨p, _, rfl, .inl h, by rw [List.length_map]; exact q⟩
theorem rlen_E {p : Addr} {xs : List V} (h : SqE K H p xs) (q : Q (.int (xs.length : Nat)) H) : rLenS K [.ref p] H Q := ⟨p, xs, rfl, h, q⟩
theorem rlen_Ei {p : Addr} {xs : List Int} (h : SqE K H p (xs.map V.int)) (q : Q (.int (xs.length : Nat)) H) : rLenS K [.ref p] H Q := ⟨p, _, rfl, h, by rw [List.length_map]; exact q⟩
/-! ## new objects -/
def kTup (Q : VK) : List V → Hp → Prop := fun xs H1 => xs.length ≤ sizeLine ∧ ∀ p, H1 p = none → Q (.ref p) (upd H1 p (.tup xs))
theorem ttup {t : TA} (h : t σ H (kTup Q)) : tTup t σ H Q := h
theorem k_tup {xs : List V} (hz : xs.length ≤ sizeLine) (k : ∀ (p : Addr) (H' : Hp), H p = none → Same H H' → H' p = some (.tup xs) → Q (.ref p) H') : kTup Q xs H := ⟨hz, fun p np => k p _ np (same_upd np) upd_same⟩
def kLst (Q : VK) : List V → Hp → Prop := fun xs H1 => xs.length ≤ sizeLine ∧ ∀ p, H1 p = none → Q (.ref p) (upd H1 p (.lst xs))
theorem tlst {t : TA} (h : t σ H (kLst Q)) : tLst t σ H Q := h
theorem k_lst {xs : List V} (hz : xs.length ≤ sizeLine) (k : ∀ (p : Addr) (H' : Hp), H p = none → Same H H' → H' p = some (.lst xs) → Q (.ref p) H') : kLst Q xs H := ⟨hz, fun p np => k p _ np (same_upd np) upd_same⟩
theorem rsll {a : Addr} {xs : List V} {lo hi : Option Int} (h : SqL K H a xs) (k : ∀ (p : Addr) (H' : Hp), H p = none → Same H H' → H' p = some (.lst (cutV xs lo hi)) → Q (.ref p) H') : rSlL K (.ref a) lo hi H Q := ⟨a, xs, rfl, h, fun p np => k p _ np (same_upd np) upd_same⟩
theorem rcat {l b : Addr} {xs zs : List V} (h1 : H l = some (.lst xs)) (h2 : H b = some (.lst zs)) (hz : xs.length + zs.length ≤ sizeLine) (k : ∀ (p : Addr) (H' : Hp), H p = none → Same H H' → H' p = some (.lst (xs ++ zs)) → Q (.ref p) H') : rCat (.ref l) (.ref b) H Q := ⟨l, b, xs, zs, rfl, rfl, h1, h2, hz, fun p np => k p _ np (same_upd np) upd_same⟩
theorem list_l {r : List V → Hp → VK → Prop} (hr : r = fun xs H Q => ∃ p ys, xs = [.ref p] ∧ (SqL K H p ys ∨ SqT K H p ys) ∧ ∀ l, H l = none → Q (.ref l) (upd H l (.lst ys))) {a : Addr} {xs : List V} (h : SqL K H a xs)
    (k : ∀ (p : Addr) (H' : Hp), H p = none → Same H H' → H' p = some (.lst xs) → Q (.ref p) H') : r [.ref a] H Q := by
  subst hr; exact ⟨a, xs, rfl, .inl h, fun p np => k p _ np (same_upd np) upd_same⟩
theorem new_strs {ys : List Str} (k : ∀ (p : Addr) (H' : Hp), H p = none → Same H H' → H' p = some (.lst (ys.map V.str)) → Q (.ref p) H') : rNewStrs ys H Q := fun p np => k p _ np (same_upd np) upd_same
theorem rlist_l {a : Addr} {xs : List V} (h : SqL K H a xs) (k : ∀ (p : Addr) (H' : Hp), H p = none → Same H H' → H' p = some (.lst xs) → Q (.ref p) H') : rListOf K [.ref a] H Q := ⟨a, xs, rfl, .inl h, fun p np => k p _ np (same_upd np) upd_same⟩
theorem risn_i {i : Int} (q : Q (.bl false) H) : rIsN (.int i) .non H Q := ⟨rfl, q⟩
theorem risn_b {i : Bool} (q : Q (.bl false) H) : rIsN (.bl i) .non H Q := ⟨rfl, q⟩
theorem risn_s {i : Str} (q : Q (.bl false) H) : rIsN (.str i) .non H Q := ⟨rfl, q⟩
theorem risn_n (q : Q (.bl true) H) : rIsN .non .non H Q := ⟨rfl, q⟩
theorem rnotn_i {i : Int} (q : Q (.bl true) H) : rNotN (.int i) .non H Q := ⟨rfl, q⟩
theorem rnotn_n (q : Q (.bl false) H) : rNotN .non .non H Q := ⟨rfl, q⟩
theorem rint_b {b : Bool} (q : Q (.int (if b then 1 else 0)) H) : rInt1 [.bl b] H Q := .inr ⟨b, rfl, q⟩
theorem rint_i {i : Int} (q : Q (.int i) H) : rInt1 [.int i] H Q := .inl ⟨i, rfl, q⟩
theorem rstr_i {i : Int} (h : i.natAbs.log2 < 1920) (q : Q (.str (toString i)) H) : rStrI [.int i] H Q := ⟨i, rfl, h, q⟩
theorem rint_s {a : Str} {n : Int} (h : PySem.intText? a = some n) (hl : a.length ≤ 640) (q : Q (.int n) H) : rIntS [.str a] H Q := ⟨a, n, rfl, h, hl, q⟩
theorem radds {a b : Str} (h : a.length + b.length ≤ 100000) (q : Q (.str (a ++ b)) H) : rAddS (.str a) (.str b) H Q := ⟨a, b, rfl, rfl, sz h, q⟩
theorem rsplit {a b : Str} (hb : (b.length == 0) = false) (hl : a.length ≤ 99998) (k : ∀ (p : Addr) (H' : Hp), H p = none → Same H H' → H' p = some (.lst ((Txt.split a b).map V.str)) → Q (.ref p) H') : rSplit (.str a) [.str b] H Q := ⟨a, b, rfl, rfl, hb, sz (by omega), new_strs k⟩
theorem rjoin {a : Str} {p : Addr} {ys : List Str} (h : SqL K H p (ys.map V.str)) (hz : (ys.map (·.length)).sum + ys.length * a.length ≤ 16777216) (q : Q (.str (Txt.join a ys)) H) : rJoin K (.str a) [.ref p] H Q := ⟨a, p, ys, rfl, rfl, .inl h, hz, q⟩
theorem tstep {te tk : TE} (h : te σ H fun x H1 => tPart tk σ H1 (kStep K x Q)) : tStepL K te tk σ H Q := h
theorem k_step {a : Addr} {xs : List V} {z : Int} (hz : z = 1 ∨ z = -1) (h : SqL K H a xs) (k : ∀ (p : Addr) (H' : Hp), H p = none → Same H H' → H' p = some (.lst (if z = 1 then xs else xs.reverse)) → Q (.ref p) H') : kStep K (.ref a) Q (some z) H :=
  ⟨a, xs, rfl, hz.imp (congrArg _) (congrArg _), h, fun p np => by
    have e : (if (some z : Option Int) = some 1 then xs else xs.reverse) = (if z = 1 then xs else xs.reverse) := by
      by_cases q : z = 1
      · rw [if_pos q, if_pos (by rw [q])]
      · rw [if_neg q, if_neg (fun w => q (Option.some.inj w))]
    rw [e]
    exact k p _ np (same_upd np) upd_same⟩
/-! ## isinstance -/
theorem isi {x : V} {c : String} {a : String} {b : Bool} (ty : TyX K H x (.type a)) (h : kitB a c = some b) (q : Q (.bl b) H) : rIsi K [x, .ty c] H Q := ⟨x, .ty c, .type a, .type c, b, rfl, .ty c, ty, kit_ty h, q⟩
theorem isi_i {n : Int} {c : String} {b : Bool} (h : kitB "int" c = some b) (q : Q (.bl b) H) : rIsi K [.int n, .ty c] H Q := isi (.base (.int n)) h q
theorem isi_s {n : Str} {c : String} {b : Bool} (h : kitB "str" c = some b) (q : Q (.bl b) H) : rIsi K [.str n, .ty c] H Q := isi (.base (.str n)) h q
theorem isi_l {a : Addr} {xs : List V} {c : String} {b : Bool} (s : SqL K H a xs) (h : kitB "list" c = some b) (q : Q (.bl b) H) : rIsi K [.ref a, .ty c] H Q := by
  refine isi (a := "list") ?_ h q
  rcases s with (s | ⟨o, s⟩) | ⟨dd, its, n, h1, h2⟩
  · exact .base (.lst s)
  · exact .base (.frz s)
  · exact .kList h1 h2.1
theorem isi_t {a : Addr} {xs : List V} {c : String} {b : Bool} (s : SqT K H a xs) (h : kitB "tuple" c = some b) (q : Q (.bl b) H) : rIsi K [.ref a, .ty c] H Q := by
  refine isi (a := "tuple") ?_ h q
  rcases s with (s | ⟨o, s⟩) | ⟨dd, its, n, h1, h2⟩
  · exact .base (.tup s)
  · exact .fTuple s
  · exact .kTuple h1 h2.1
theorem kit_no (a : String) (h1 : kitB a "list" = some false) (h2 : kitB a "tuple" = some false) : PySem.W.kitAny K (.type a) [.type "list", .type "tuple"] = some false :=
  kitAny_cons (b := false) (kit_ty h1) (fun _ => kitAny_cons (b := false) (kit_ty h2) (fun _ => kitAny_nil) fun z => nomatch z) fun z => nomatch z
theorem isi_int_int {n : Int} (q : Q (.bl true) H) : rIsi K [.int n, .ty "int"] H Q := isi (a := "int") (b := true) (.base (.int n)) (by decide +kernel) q
theorem isi_int_bool {n : Int} (q : Q (.bl false) H) : rIsi K [.int n, .ty "bool"] H Q := isi (a := "int") (b := false) (.base (.int n)) (by decide +kernel) q
theorem isi_int_str {n : Int} (q : Q (.bl false) H) : rIsi K [.int n, .ty "str"] H Q := isi (a := "int") (b := false) (.base (.int n)) (by decide +kernel) q
theorem isi_str_int {n : Str} (q : Q (.bl false) H) : rIsi K [.str n, .ty "int"] H Q := isi (a := "str") (b := false) (.base (.str n)) (by decide +kernel) q
theorem isi_str_bool {n : Str} (q : Q (.bl false) H) : rIsi K [.str n, .ty "bool"] H Q := isi (a := "str") (b := false) (.base (.str n)) (by decide +kernel) q
theorem isi_str_str {n : Str} (q : Q (.bl true) H) : rIsi K [.str n, .ty "str"] H Q := isi (a := "str") (b := true) (.base (.str n)) (by decide +kernel) q
theorem isi_bool_int {n : Bool} (q : Q (.bl true) H) : rIsi K [.bl n, .ty "int"] H Q := isi (a := "bool") (b := true) (.base (.bl n)) (by decide +kernel) q
theorem isi_bool_bool {n : Bool} (q : Q (.bl true) H) : rIsi K [.bl n, .ty "bool"] H Q := isi (a := "bool") (b := true) (.base (.bl n)) (by decide +kernel) q
theorem isi_bool_str {n : Bool} (q : Q (.bl false) H) : rIsi K [.bl n, .ty "str"] H Q := isi (a := "bool") (b := false) (.base (.bl n)) (by decide +kernel) q
theorem isi_non_int (q : Q (.bl false) H) : rIsi K [.non, .ty "int"] H Q := isi (a := "NoneType") (b := false) (.base .non) (by decide +kernel) q
theorem isi_non_bool (q : Q (.bl false) H) : rIsi K [.non, .ty "bool"] H Q := isi (a := "NoneType") (b := false) (.base .non) (by decide +kernel) q
theorem isi_non_str (q : Q (.bl false) H) : rIsi K [.non, .ty "str"] H Q := isi (a := "NoneType") (b := false) (.base .non) (by decide +kernel) q
theorem isi_list_int {a : Addr} {xs : List V} (s : SqL K H a xs) (q : Q (.bl false) H) : rIsi K [.ref a, .ty "int"] H Q := isi_l (b := false) s (by decide +kernel) q
theorem isi_list_bool {a : Addr} {xs : List V} (s : SqL K H a xs) (q : Q (.bl false) H) : rIsi K [.ref a, .ty "bool"] H Q := isi_l (b := false) s (by decide +kernel) q
theorem isi_list_str {a : Addr} {xs : List V} (s : SqL K H a xs) (q : Q (.bl false) H) : rIsi K [.ref a, .ty "str"] H Q := isi_l (b := false) s (by decide +kernel) q
theorem isi_list_list {a : Addr} {xs : List V} (s : SqL K H a xs) (q : Q (.bl true) H) : rIsi K [.ref a, .ty "list"] H Q := isi_l (b := true) s (by decide +kernel) q
theorem isi_list_tuple {a : Addr} {xs : List V} (s : SqL K H a xs) (q : Q (.bl false) H) : rIsi K [.ref a, .ty "tuple"] H Q := isi_l (b := false) s (by decide +kernel) q
theorem isi_tuple_int {a : Addr} {xs : List V} (s : SqT K H a xs) (q : Q (.bl false) H) : rIsi K [.ref a, .ty "int"] H Q := isi_t (b := false) s (by decide +kernel) q
theorem isi_tuple_bool {a : Addr} {xs : List V} (s : SqT K H a xs) (q : Q (.bl false) H) : rIsi K [.ref a, .ty "bool"] H Q := isi_t (b := false) s (by decide +kernel) q
theorem isi_tuple_str {a : Addr} {xs : List V} (s : SqT K H a xs) (q : Q (.bl false) H) : rIsi K [.ref a, .ty "str"] H Q := isi_t (b := false) s (by decide +kernel) q
theorem isi_tuple_list {a : Addr} {xs : List V} (s : SqT K H a xs) (q : Q (.bl false) H) : rIsi K [.ref a, .ty "list"] H Q := isi_t (b := false) s (by decide +kernel) q
theorem isi_tuple_tuple {a : Addr} {xs : List V} (s : SqT K H a xs) (q : Q (.bl true) H) : rIsi K [.ref a, .ty "tuple"] H Q := isi_t (b := true) s (by decide +kernel) q
/-- (list, tuple) made on the way -/
theorem isiT_i {n : Int} {p : Addr} (h : H p = some (.tup [.ty "list", .ty "tuple"])) (q : Q (.bl false) H) : rIsiT K [.int n, .ref p] H Q :=
  ⟨_, p, _, .type "int", [.type "list", .type "tuple"], false, rfl, h, .cons (.ty _) (.cons (.ty _) .nil), .base (.int n), kit_no "int" (by decide +kernel) (by decide +kernel), q⟩
theorem isiT_s {n : Str} {p : Addr} (h : H p = some (.tup [.ty "list", .ty "tuple"])) (q : Q (.bl false) H) : rIsiT K [.str n, .ref p] H Q :=
  ⟨_, p, _, .type "str", [.type "list", .type "tuple"], false, rfl, h, .cons (.ty _) (.cons (.ty _) .nil), .base (.str n), kit_no "str" (by decide +kernel) (by decide +kernel), q⟩
theorem isiT_b {n : Bool} {p : Addr} (h : H p = some (.tup [.ty "list", .ty "tuple"])) (q : Q (.bl false) H) : rIsiT K [.bl n, .ref p] H Q :=
  ⟨_, p, _, .type "bool", [.type "list", .type "tuple"], false, rfl, h, .cons (.ty _) (.cons (.ty _) .nil), .base (.bl n), kit_no "bool" (by decide +kernel) (by decide +kernel), q⟩
theorem isiT_n {p : Addr} (h : H p = some (.tup [.ty "list", .ty "tuple"])) (q : Q (.bl false) H) : rIsiT K [.non, .ref p] H Q :=
  ⟨_, p, _, .type "NoneType", [.type "list", .type "tuple"], false, rfl, h, .cons (.ty _) (.cons (.ty _) .nil), .base .non, kit_no "NoneType" (by decide +kernel) (by decide +kernel), q⟩
theorem isiT_E {a : Addr} {xs : List V} {p : Addr} (s : SqE K H a xs) (h : H p = some (.tup [.ty "list", .ty "tuple"])) (q : Q (.bl true) H) : rIsiT K [.ref a, .ref p] H Q := by
  rcases ty_E s with hx | hx
  · exact ⟨_, p, _, .type "list", [.type "list", .type "tuple"], true, rfl, h, .cons (.ty _) (.cons (.ty _) .nil), hx, kit_lt, q⟩
  · exact ⟨_, p, _, .type "tuple", [.type "list", .type "tuple"], true, rfl, h, .cons (.ty _) (.cons (.ty _) .nil), hx, kit_tt, q⟩
theorem tthen {te : TE} {k : V → Hp → VK → Prop} (h : te σ H fun x H1 => k x H1 Q) : tThen te k σ H Q := h
theorem tup_l {p : Addr} {xs : List V} (h : SqL K H p xs) (k : ∀ (q : Addr) (H' : Hp), H q = none → Same H H' → H' q = some (.tup xs) → Q (.ref q) H') : L2.kTup K (.ref p) H Q := .inl ⟨p, xs, rfl, h, fun q nq => k q _ nq (same_upd nq) upd_same⟩
theorem tup_t {p : Addr} {xs : List V} (h : SqT K H p xs) (q : Q (.ref p) H) : L2.kTup K (.ref p) H Q := .inr ⟨p, xs, rfl, h, q⟩
theorem rabs {i : Int} (q : Q (.int (i.natAbs : Nat)) H) : rAbs [.int i] H Q := ⟨i, rfl, by
  rw [show (if i < 0 then -i else i) = ((i.natAbs : Nat) : Int) by split <;> omega]; exact q⟩
theorem ixe {i j : Nat} {p : Addr} {z : Int} {m : Nat} {xs : List V} {v : V} (h1 : σ[i]? = some (some (.ref p))) (h2 : σ[j]? = some (some (.int z))) (h : SqE K H p xs) (e : xs[m]? = some v) (hz : z = (m : Int)) (q : Q v H) : tOp (rIxL K) (tVar i) (tVar j) σ H Q ∨ tOp (rIxT K) (tVar i) (tVar j) σ H Q := by
  rcases h with h | h
  · exact .inl ⟨_, h1, _, h2, p, xs, z, v, rfl, rfl, h, at_of hz e, q⟩
  · exact .inr ⟨_, h1, _, h2, p, xs, z, v, rfl, rfl, h, at_of hz e, q⟩
theorem rrep1 {p : Addr} {x : V} {n : Nat} (h : H p = some (.lst [x])) (hn : n ≤ 100000) (k : ∀ (q : Addr) (H' : Hp), H q = none → Same H H' → H' q = some (.lst (List.replicate n x)) → Q (.ref q) H') : rRep (.ref p) (.int n) H Q := ⟨p, n, [x], rfl, rfl, h, by omega, by omega, sz (by simp; exact hn), fun q nq => by
  have e : (List.replicate ((n : Nat) : Int).toNat [x]).flatten = List.replicate n x := by
    rw [show ((n : Nat) : Int).toNat = n by omega]
    exact flat_rep n x
  show Q (.ref q) (upd H q (.lst (List.replicate ((n : Nat) : Int).toNat [x]).flatten))
  rw [e]
  exact k q _ nq (same_upd nq) upd_same⟩
/-- while -/
def kWc (W : Nat → L2.St → Hp → Prop) (m : Nat) (tb : TS) (D : Ends) (σ : L2.St) : Bool → Hp → Prop := fun b H1 => if b = true then ∃ N : L2.St → Hp → Prop, (∀ σ' H', N σ' H' → ∃ m', m' < m ∧ W m' σ' H') ∧ tb { D with nx := N, ct := N, bk := D.nx } σ H1 else D.nx σ H1
theorem while_ {c : TT} {tb : TS} (W : Nat → L2.St → Hp → Prop) (m : Nat) (h0 : W m σ H) (hs : ∀ m σ H, W m σ H → c σ H (kWc W m tb D σ)) : tWhile c tb D σ H := ⟨W, ⟨m, h0⟩, hs⟩
theorem k_wt {W : Nat → L2.St → Hp → Prop} {m : Nat} {tb : TS} (h : tb { D with nx := fun σ' H' => ∃ m', m' < m ∧ W m' σ' H', ct := fun σ' H' => ∃ m', m' < m ∧ W m' σ' H', bk := D.nx } σ H) : kWc W m tb D σ true H := ⟨_, fun _ _ z => z, h⟩
theorem k_wf {W : Nat → L2.St → Hp → Prop} {m : Nat} {tb : TS} (h : D.nx σ H) : kWc W m tb D σ false H := h
theorem rmin2 {i j : Int} (q : Q (.int (min i j)) H) : rMin2 [.int i, .int j] H Q := ⟨i, j, rfl, by
  rw [show (if j < i then j else i) = min i j by rw [Int.min_def]; split <;> split <;> omega]; exact q⟩
theorem rmax2 {i j : Int} (q : Q (.int (max i j)) H) : rMax2 [.int i, .int j] H Q := ⟨i, j, rfl, by
  rw [show (if j > i then j else i) = max i j by rw [Int.max_def]; split <;> split <;> omega]; exact q⟩
/-! ## instances -/
def kFl (K : PySem.W.Frag) (f : Str) (Q : VK) : VK := fun x H1 => ∃ a C dx fs v, x = .ref a ∧ H1 a = some (.ins C dx fs) ∧ Cls K C ∧ NoAttr K C f ∧ fs.lookup f = some v ∧ Q v H1
theorem tfld {ta : TE} {f : Str} (h : ta σ H (kFl K f Q)) : tFld K ta f σ H Q := h
theorem k_fl {a C dx : Addr} {fs : List (Str × V)} {f : Str} {v : V} (h : H a = some (.ins C dx fs)) (c : Cls K C) (n : NoAttr K C f) (e : fs.lookup f = some v) (q : Q v H) : kFl K f Q (.ref a) H := ⟨a, C, dx, fs, v, rfl, h, c, n, e, q⟩
def kMe (C : Addr) (m : Str) (t : TA) (σ : L2.St) (R : List V → Hp → Prop) : VK := fun x H1 => ∃ a dx fs, x = .ref a ∧ H1 a = some (.ins C dx fs) ∧ fs.lookup m = none ∧ t σ H1 fun vs H2 => R (x :: vs) H2
theorem tmeth {C : Addr} {m : Str} {sp : Sp} {dvs : List V} {E : XK} {ta : TE} {t : TA} (h : ta σ H (kMe C m t σ fun vs H2 => sp (vs ++ dvs) H2 Q E)) : tMeth C m sp dvs E ta t σ H Q := h
theorem k_me {a C dx : Addr} {m : Str} {fs : List (Str × V)} {t : TA} {R : List V → Hp → Prop} (h : H a = some (.ins C dx fs)) (e : fs.lookup m = none) (q : t σ H fun vs H2 => R (.ref a :: vs) H2) : kMe C m t σ R (.ref a) H := ⟨a, dx, fs, rfl, h, e, q⟩
def kMk (C : Addr) (sp : Sp) (dvs : List V) (E : XK) (Q : VK) : List V → Hp → Prop := fun vs H1 => ∀ x dx, H1 x = none → H1 dx = none → dx ≠ x → sp (.ref x :: (vs ++ dvs)) (upd (upd H1 dx (.own x)) x (.ins C dx [])) (fun v H2 => v = .non ∧ Q (.ref x) H2) E
theorem tmake {C : Addr} {sp : Sp} {dvs : List V} {E : XK} {t : TA} (h : t σ H (kMk C sp dvs E Q)) : tMake C sp dvs E t σ H Q := h
theorem k_mk {C : Addr} {sp : Sp} {dvs : List V} {E : XK} {vs : List V} (k : ∀ (x dx : Addr) (H' : Hp), H x = none → H dx = none → Same H H' → H' x = some (.ins C dx []) → sp (.ref x :: (vs ++ dvs)) H' (fun v H2 => v = .non ∧ Q (.ref x) H2) E) : kMk C sp dvs E Q vs H :=
  fun x dx nx nd ne => k x dx _ nx nd (fun a o h => by rw [upd_ne (ne_of_none h nx), upd_ne (ne_of_none h nd)]; exact h) upd_same
def kSf (K : PySem.W.Frag) (f : Str) (y : V) (D : Ends) (σ : L2.St) : VK := fun x H2 => ∃ a C dx fs, x = .ref a ∧ H2 a = some (.ins C dx fs) ∧ Cls K C ∧ NoAttr K C f ∧ fs.length < 1000 ∧ D.nx σ (upd H2 a (.ins C dx (putF f y fs)))
theorem tsfld {ta tv : TE} {f : Str} (h : tv σ H fun y H1 => ta σ H1 (kSf K f y D σ)) : sFld K ta tv f D σ H := h
theorem k_sf {a C dx : Addr} {f : Str} {y : V} {fs gs : List (Str × V)} (h : H a = some (.ins C dx fs)) (c : Cls K C) (n : NoAttr K C f) (hl : fs.length < 1000) (e : putF f y fs = gs) (q : ∀ H' : Hp, Fr H H' a → H' a = some (.ins C dx gs) → D.nx σ H') : kSf K f y D σ (.ref a) H := ⟨a, C, dx, fs, rfl, h, c, n, hl, by
  subst e
  exact q _ Fr.upd upd_same⟩
def kPr (C : Addr) (sp : Sp) (dvs : List V) (E : XK) (Q : VK) : VK := fun x H1 => ∃ a dx fs, x = .ref a ∧ H1 a = some (.ins C dx fs) ∧ sp (.ref a :: dvs) H1 Q E
theorem tprop {C : Addr} {sp : Sp} {dvs : List V} {E : XK} {ta : TE} (h : ta σ H (kPr C sp dvs E Q)) : tProp C sp dvs E ta σ H Q := h
theorem k_pr {a C dx : Addr} {sp : Sp} {dvs : List V} {E : XK} {fs : List (Str × V)} (h : H a = some (.ins C dx fs)) (q : sp (.ref a :: dvs) H Q E) : kPr C sp dvs E Q (.ref a) H := ⟨a, dx, fs, rfl, h, q⟩
theorem rlen_own {a C dx : Addr} {fs : List (Str × V)} {sp : Sp} {E : XK} (h : H a = some (.ins C dx fs)) (q : sp [.ref a] H (fun z H' => ∃ i, z = .int i ∧ 0 ≤ i ∧ i < 2 ^ 63 ∧ Q z H') E) : LX.rLenOwn C sp E [.ref a] H Q := ⟨a, dx, fs, rfl, h, q⟩
theorem rmaxe {a : Addr} {ns : List Int} (h : SqE K H a (ns.map V.int)) (hne : ns ≠ []) (k : ∀ m, m ∈ ns → (∀ y ∈ ns, y ≤ m) → Q (.int m) H) : LX.rMaxE K [.ref a] H Q := ⟨a, ns, rfl, h, hne, k⟩
theorem rall {a : Addr} {bs : List Bool} (h : SqL K H a (bs.map V.bl)) (q : Q (.bl (bs.all id)) H) : rAll K [.ref a] H Q := ⟨a, bs, rfl, h, q⟩
def kRv (K : PySem.W.Frag) (Q : VK) : VK := fun x H1 => ∃ a xs, x = .ref a ∧ SqL K H1 a xs ∧ ∀ p, H1 p = none → Q (.ref p) (upd H1 p (.lst xs.reverse))
theorem trevl {te : TE} (h : te σ H (kRv K Q)) : tRevL K te σ H Q := h
theorem k_rv {a : Addr} {xs : List V} (h : SqL K H a xs) (k : ∀ (p : Addr) (H' : Hp), H p = none → Same H H' → H' p = some (.lst xs.reverse) → Q (.ref p) H') : kRv K Q (.ref a) H := ⟨a, xs, rfl, h, fun p np => k p _ np (same_upd np) upd_same⟩
def kR3 (R : It → Hp → Prop) : List V → Hp → Prop := fun vs H1 => ∃ (i j c : Int) (n : Nat), vs = [.int i, .int j, .int c] ∧ RgC i j c n ∧ R (Itc i c n) H1
theorem irng3 {ta : TA} {R : It → Hp → Prop} (h : ta σ H (kR3 R)) : iRng3 ta σ H R := h
theorem k_r3 {i j c : Int} {n : Nat} {R : It → Hp → Prop} (h : RgC i j c n) (q : R (Itc i c n) H) : kR3 R [.int i, .int j, .int c] H := ⟨i, j, c, n, rfl, h, q⟩
/-! ## stores -/
theorem rset {p : Addr} {xs : List V} {k : Int} {j : Nat} {v : V} {QH : Hp → Prop} (h : H p = some (.lst xs)) (e : ixN xs.length k = some j) (q : ∀ H' : Hp, Fr H H' p → H' p = some (.lst (xs.set j v)) → QH H') : rSetL (.ref p) (.int k) v H QH := ⟨p, xs, k, j, rfl, rfl, h, e, q _ Fr.upd upd_same⟩
theorem rapp {p : Addr} {xs : List V} {y : V} (h : H p = some (.lst xs)) (hz : xs.length < sizeLine) (q : ∀ H' : Hp, Fr H H' p → H' p = some (.lst (xs ++ [y])) → Q .non H') : rAppend (.ref p) [y] H Q := ⟨p, xs, y, rfl, rfl, h, hz, q _ Fr.upd upd_same⟩
theorem rpopi {p : Addr} {xs : List V} {i : Int} {k : Nat} {y : V} (h : H p = some (.lst xs)) (h1 : -(2 ^ 63) ≤ i) (h2 : i < 2 ^ 63) (e : seqIndex? i xs.length = some k) (hx : xs[k]? = some y) (q : ∀ H' : Hp, Fr H H' p → H' p = some (.lst (xs.eraseIdx k)) → Q y H') : rPopAt (.ref p) [.int i] H Q := ⟨p, xs, i, k, y, rfl, rfl, h, h1, h2, e, hx, q _ Fr.upd upd_same⟩
theorem rrem {p : Addr} {ns : List Int} {n : Int} {k : Nat} (h : H p = some (.lst (ns.map V.int))) (e : ns[k]? = some n) (hm : ∀ m : Nat, m < k → ns[m]? ≠ some n) (q : ∀ H' : Hp, Fr H H' p → H' p = some (.lst ((ns.eraseIdx k).map V.int)) → Q .non H') : rRemI (.ref p) [.int n] H Q := ⟨p, ns, n, k, rfl, rfl, h, e, hm, q _ Fr.upd upd_same⟩
theorem rindex {p : Addr} {ys : List V} {y z : V} {j : Nat} (h : SqL K H p ys) (fy : flatV y = true) (fl : ys.all flatV = true) (e : ys[j]? = some z) (ez : eqV z y = true) (hm : ∀ (m : Nat) (z' : V), m < j → ys[m]? = some z' → eqV z' y = false) (q : Q (.int (j : Nat)) H) : rIndex K (.ref p) [y] H Q := ⟨p, ys, y, j, z, rfl, rfl, h, fy, fl, e, ez, hm, q⟩
theorem rpop {p : Addr} {xs : List V} {y : V} (h : H p = some (.lst (xs ++ [y]))) (q : ∀ H' : Hp, Fr H H' p → H' p = some (.lst xs) → Q y H') : rPop (.ref p) [] H Q := ⟨p, xs ++ [y], y, rfl, rfl, h, by simp, by rw [List.dropLast_concat]; exact q _ Fr.upd upd_same⟩
theorem rrev {p : Addr} {xs : List V} (h : H p = some (.lst xs)) (q : ∀ H' : Hp, Fr H H' p → H' p = some (.lst xs.reverse) → Q .non H') : rReverse (.ref p) [] H Q := ⟨p, xs, rfl, rfl, h, q _ Fr.upd upd_same⟩
theorem tbm {T : String} {r : V → List V → Hp → VK → Prop} {to : TE} {t : TA} (h : to σ H fun x H1 => tyV K T x H1 ∧ t σ H1 fun xs H2 => r x xs H2 Q) : tBM K T r to t σ H Q := h
theorem tbm0 {T : String} {r : V → List V → Hp → VK → Prop} {to : TE} (h : to σ H fun x H1 => tyV K T x H1 ∧ r x [] H1 Q) : tBM0 K T r to σ H Q := h
theorem ty_l {p : Addr} {xs : List V} {P : Prop} (h : SqL K H p xs) (q : P) : tyV K "list" (.ref p) H ∧ P := ⟨.inl ⟨rfl, xs, h⟩, q⟩
theorem tm0 {r : V → List V → Hp → VK → Prop} {to : TE} (h : to σ H fun x H1 => (∃ a, x = .str a) ∧ r x [] H1 Q) : tM0 r to σ H Q := h
theorem tm1 {r : V → List V → Hp → VK → Prop} {to te : TE} (h : to σ H fun x H1 => (∃ a, x = .str a) ∧ te σ H1 fun y H2 => r x [y] H2 Q) : tM1 r to te σ H Q := h
theorem is_str {a : Str} {P : Prop} (h : P) : (∃ z, V.str a = V.str z) ∧ P := ⟨⟨a, rfl⟩, h⟩
theorem ex_s0 {P : Str → Prop} {a : Str} (h : P a) : ∃ z, V.str a = V.str z ∧ ([] : List V) = [] ∧ True ∧ P z := ⟨a, rfl, rfl, trivial, h⟩
/-! ## ways that meet -/
theorem if_join {c : Prop} [Decidable c] {t u : TS} (A : L2.St → Hp → Prop)
    (h1 : c → ∀ D' : Ends, D'.rt = D.rt → (∀ σ' H', A σ' H' → D'.nx σ' H') → t D' σ H) (h2 : ¬ c → ∀ D' : Ends, D'.rt = D.rt → (∀ σ' H', A σ' H' → D'.nx σ' H') → u D' σ H)
    (k : ∀ σ' H', A σ' H' → D.nx σ' H') : if decide c = true then t D σ H else u D σ H := ite2d (fun hc => h1 hc D rfl k) fun hc => h2 hc D rfl k
theorem ifn_join {c : Prop} [Decidable c] {t u : TS} (A : L2.St → Hp → Prop)
    (h1 : ¬ c → ∀ D' : Ends, D'.rt = D.rt → (∀ σ' H', A σ' H' → D'.nx σ' H') → t D' σ H) (h2 : c → ∀ D' : Ends, D'.rt = D.rt → (∀ σ' H', A σ' H' → D'.nx σ' H') → u D' σ H)
    (k : ∀ σ' H', A σ' H' → D.nx σ' H') : if (!decide c) = true then t D σ H else u D σ H := ifn2 (fun hc => h1 hc D rfl k) fun hc => h2 hc D rfl k
theorem ifb_join {b : Bool} {t u : TS} (A : L2.St → Hp → Prop)
    (h1 : b = true → ∀ D' : Ends, D'.rt = D.rt → (∀ σ' H', A σ' H' → D'.nx σ' H') → t D' σ H) (h2 : b = false → ∀ D' : Ends, D'.rt = D.rt → (∀ σ' H', A σ' H' → D'.nx σ' H') → u D' σ H)
    (k : ∀ σ' H', A σ' H' → D.nx σ' H') : if b = true then t D σ H else u D σ H := by
  cases b with
  | true => exact ift (h1 rfl D rfl k)
  | false => exact iff_ (h2 rfl D rfl k)
theorem exp_join {c : Prop} [Decidable c] {ta tb : TE} (A : V → Hp → Prop) (h1 : c → ∀ Q' : VK, (∀ v H', A v H' → Q' v H') → ta σ H Q') (h2 : ¬ c → ∀ Q' : VK, (∀ v H', A v H' → Q' v H') → tb σ H Q')
    (k : ∀ v H', A v H' → Q v H') : if decide c = true then ta σ H Q else tb σ H Q := ite2d (fun hc => h1 hc Q k) fun hc => h2 hc Q k
theorem seq_cut {t u : TS} (A : L2.St → Hp → Prop) (h1 : ∀ D' : Ends, D'.rt = D.rt → (∀ σ' H', A σ' H' → D'.nx σ' H') → t D' σ H) (h2 : ∀ σ' H', A σ' H' → u D σ' H') : tSeq t u D σ H := h1 { D with nx := u D } rfl h2
/-! ## statements -/
theorem tseq {t u : TS} (h : t { D with nx := u D } σ H) : tSeq t u D σ H := h
theorem tnext (h : D.nx σ H) : tNext D σ H := h
theorem tdrop {te : TE} (h : te σ H fun _ H1 => D.nx σ H1) : tDrop te D σ H := h
theorem tret {te : TE} (h : te σ H D.rt) : tRet te D σ H := h
theorem tretn (h : D.rt .non H) : tRetN D σ H := h
theorem tifs {c : TT} {t u : TS} (h : c σ H fun b H1 => if b = true then t D σ H1 else u D σ H1) : tIfS c t u D σ H := h
theorem tasg {te : TE} {g : TG} (h : te σ H fun x H1 => g x σ H1 D.nx) : tAsg te g D σ H := h
theorem gname {i : Nat} {v : V} {QG : L2.St → Hp → Prop} (h : QG (σ.set i (some v)) H) : gName i v σ H QG := h
theorem gtup {n : Nat} {t : TGs} {a : Addr} {xs : List V} {QG : L2.St → Hp → Prop} (h : SqT K H a xs) (hn : xs.length = n) (q : t xs σ H QG) : gTup K n t (.ref a) σ H QG := ⟨a, xs, rfl, h, hn, q⟩
theorem gunl {n : Nat} {t : TGs} {a : Addr} {xs : List V} {QG : L2.St → Hp → Prop} (h : SqL K H a xs) (hn : xs.length = n) (q : t xs σ H QG) : gUnl K n t (.ref a) σ H QG := ⟨a, xs, rfl, h, hn, q⟩
theorem gnil {QG : L2.St → Hp → Prop} (h : QG σ H) : gNil [] σ H QG := ⟨rfl, h⟩
theorem gcons {t : TG} {u : TGs} {v : V} {r : List V} {QG : L2.St → Hp → Prop} (h : t v σ H fun σ' H' => u r σ' H' QG) : gCons t u (v :: r) σ H QG := ⟨v, r, rfl, h⟩
theorem gsub {to ti : TE} {t : TSet} {v : V} {QG : L2.St → Hp → Prop} (h : to σ H fun o H1 => ti σ H1 fun i H2 => t o i v H2 fun H3 => QG σ H3) : gSub to ti t v σ H QG := h
def kPar (i j : Nat) (D : Ends) (σ : L2.St) : List V → Hp → Prop := fun vs H1 => ∃ v w, vs = [v, w] ∧ D.nx ((σ.set i (some v)).set j (some w)) H1
theorem tpar {i j : Nat} {ta : TA} (h : ta σ H (kPar i j D σ)) : tPar i j ta D σ H := h
theorem k_par {i j : Nat} {v w : V} (h : D.nx ((σ.set i (some v)).set j (some w)) H) : kPar i j D σ [v, w] H := ⟨v, w, rfl, h⟩
def kPar3 (i j l : Nat) (D : Ends) (σ : L2.St) : List V → Hp → Prop := fun vs H1 => ∃ u v w, vs = [u, v, w] ∧ D.nx (((σ.set i (some u)).set j (some v)).set l (some w)) H1
theorem tpar3 {i j l : Nat} {ta : TA} (h : ta σ H (kPar3 i j l D σ)) : tPar3 i j l ta D σ H := h
theorem k_par3 {i j l : Nat} {u v w : V} (h : D.nx (((σ.set i (some u)).set j (some v)).set l (some w)) H) : kPar3 i j l D σ [u, v, w] H := ⟨u, v, w, rfl, h⟩
theorem taug {i : Nat} {x : V} {te : TE} {ti : TIp} (e : σ[i]? = some (some x)) (h : te σ H fun y H1 => ti x y H1 fun z H2 => D.nx (σ.set i (some z)) H2) : tAug i te ti D σ H := ⟨x, e, h⟩
theorem ipi {f : Int → Int → Int} {i j : Int} (q : Q (.int (f i j)) H) : ipI f (.int i) (.int j) H Q := ⟨i, j, rfl, rfl, q⟩
/-! ## shapes of rules without a name -/
theorem ex_ss {P : Str → Str → Prop} {a b : Str} (h : P a b) : ∃ i j, V.str a = V.str i ∧ V.str b = V.str j ∧ P i j := ⟨a, b, rfl, rfl, h⟩
theorem ex_s1 {P : Str → Prop} {a : Str} (h : P a) : ∃ z, [V.str a] = [V.str z] ∧ P z := ⟨a, rfl, h⟩
theorem ex_i1 {P : Int → Prop} {a : Int} (h : P a) : ∃ z, [V.int a] = [V.int z] ∧ P z := ⟨a, rfl, h⟩
theorem ex_int_b {P R : Int → Prop} {b : Bool} (h : R (if b then 1 else 0)) : (∃ i, [V.bl b] = [V.int i] ∧ P i) ∨ ∃ k, [V.bl b] = [V.bl k] ∧ R (if k then 1 else 0) := .inr ⟨b, rfl, h⟩
theorem and_rfl {α : Type} {a : α} {P : Prop} (h : P) : a = a ∧ P := ⟨rfl, h⟩
theorem and_tr {P : Prop} (h : P) : True ∧ P := ⟨trivial, h⟩
theorem is_non {Q : Bool → Prop} (h : Q true) : Q (decide (V.non = V.non)) := by rw [decide_eq_true rfl]; exact h
end
/-! ## loops -/
section
variable {J : It} {n : Nat} {G : Hp → Prop} {Y : Nat → Hp → V → Hp → Prop} {K : PySem.W.Frag}
/-- what a comprehension has made so far stands at D -/
def lcP (D : Addr) (Pv : Nat → List V → Hp → Prop) (i : Nat) (H : Hp) : Prop := ∃ acc, H D = some (.lst acc) ∧ acc.length ≤ i ∧ Pv i acc H
def kLc (D : Addr) (Nx : Hp → Prop) : VK := fun y H4 => ∃ acc, H4 D = some (.lst acc) ∧ acc.length < sizeLine ∧ Nx (upd H4 D (.lst (acc ++ [y])))
theorem k_lc {D : Addr} {Pv : Nat → List V → Hp → Prop} {i : Nat} {y : V} {H : Hp} {acc : List V} (h : H D = some (.lst acc)) (hl : acc.length ≤ i) (hz : i ≤ 99999) (q : ∀ H5 : Hp, Fr H H5 D → H5 D = some (.lst (acc ++ [y])) → Pv (i + 1) (acc ++ [y]) H5) : kLc D (lcP D Pv (i + 1)) y H :=
  ⟨acc, h, Nat.lt_of_lt_of_le (Nat.lt_of_le_of_lt (Nat.le_trans hl hz) (by decide : 99999 < 100000)) (by decide), acc ++ [y], upd_same, by rw [List.length_append]; exact Nat.succ_le_succ hl, q _ Fr.upd upd_same⟩
theorem k_lc0 {D : Addr} {Pv : Nat → List V → Hp → Prop} {i : Nat} {H : Hp} {acc : List V} (h : H D = some (.lst acc)) (hl : acc.length ≤ i) (q : Pv (i + 1) acc H) : lcP D Pv (i + 1) H := ⟨acc, h, Nat.le_succ_of_le hl, q⟩
/-- a comprehension: Pv by the turn, what is made so far and the heap; the new list D is told apart -/
theorem lc_gen (w : Walk J n G Y) {g : TG} {tt : TT} {te : TE} {vs : List Nat} {σ : L2.St} {H1 : Hp} {D : Addr} {Qd : Hp → Prop} (hD : H1 D = none) (Pv : Nat → List V → Hp → Prop)
    (h0 : ∀ H', Same H1 H' → H' D = some (.lst []) → Pv 0 [] H') (hG : ∀ i acc H, i ≤ n → H D = some (.lst acc) → Pv i acc H → G H)
    (hs : ∀ i acc x H H', i < n → acc.length ≤ i → H D = some (.lst acc) → Pv i acc H → Y i H x H' → g x (wipe σ vs) H' fun σ2 H2 => wipe σ2 vs = wipe σ vs ∧ tt σ2 H2 fun b H3 =>
      if b = true then te σ2 H3 (kLc D (lcP D Pv (i + 1))) else lcP D Pv (i + 1) H3)
    (hd : ∀ acc H, H D = some (.lst acc) → acc.length ≤ n → Pv n acc H → Qd H) :
    ∃ W : Nat → Nat → Hp → Prop, (∃ m, W 0 m (upd H1 D (.lst []))) ∧ ∀ i m H, W i m H →
      (J.stop i H ∧ Qd H) ∨ (J.go i H ∧ ∃ Nx : Hp → Prop, (∀ H', Nx H' → ∃ m', m' < m ∧ W (i + 1) m' H') ∧ ∀ x H', J.yld i H x H' → g x (wipe σ vs) H' fun σ2 H2 => wipe σ2 vs = wipe σ vs ∧ tt σ2 H2 fun b H3 =>
        if b = true then te σ2 H3 fun y H4 => ∃ acc, H4 D = some (.lst acc) ∧ acc.length < sizeLine ∧ Nx (upd H4 D (.lst (acc ++ [y]))) else Nx H3) :=
  lc_it w (lcP D Pv) ⟨[], upd_same, Nat.le_refl _, h0 _ (same_upd hD) upd_same⟩ (fun i H hi ⟨acc, h1, _, h2⟩ => hG i acc H hi h1 h2) (fun i x H H' hi ⟨acc, h1, hl, h2⟩ y => hs i acc x H H' hi hl h1 h2 y) fun H ⟨acc, h1, hl, h2⟩ => hd acc H h1 hl h2
/-- a comprehension that makes one value of each item and changes nothing -/
theorem lc_map {xs : List V} (w : Walk J xs.length G (YAt xs)) (hz : xs.length ≤ 99999) {g : TG} {tt : TT} {te : TE} {vs : List Nat} {σ : L2.St} {H1 : Hp} {D : Addr} {Qd : Hp → Prop} (hD : H1 D = none) (F : V → V)
    (hG : ∀ H', Same H1 H' → G H')
    (hs : ∀ x Hq, x ∈ xs → Same H1 Hq → ∀ (KK : VK) (KN : Hp → Prop), (∀ H5, Same Hq H5 → KK (F x) H5) → g x (wipe σ vs) Hq fun σ2 H2 => wipe σ2 vs = wipe σ vs ∧ tt σ2 H2 fun b H3 => if b = true then te σ2 H3 KK else KN H3)
    (hd : ∀ H, Same H1 H → H D = some (.lst (xs.map F)) → Qd H) :
    ∃ W : Nat → Nat → Hp → Prop, (∃ m, W 0 m (upd H1 D (.lst []))) ∧ ∀ i m H, W i m H →
      (J.stop i H ∧ Qd H) ∨ (J.go i H ∧ ∃ Nx : Hp → Prop, (∀ H', Nx H' → ∃ m', m' < m ∧ W (i + 1) m' H') ∧ ∀ x H', J.yld i H x H' → g x (wipe σ vs) H' fun σ2 H2 => wipe σ2 vs = wipe σ vs ∧ tt σ2 H2 fun b H3 =>
        if b = true then te σ2 H3 fun y H4 => ∃ acc, H4 D = some (.lst acc) ∧ acc.length < sizeLine ∧ Nx (upd H4 D (.lst (acc ++ [y]))) else Nx H3) :=
  lc_gen w hD (fun i acc H => Same H1 H ∧ acc = (xs.take i).map F) (fun H' s _ => ⟨s, by rw [List.take_zero]; rfl⟩) (fun i acc H _ _ h => hG H h.1)
    (fun i acc x H H' hi hl hH ⟨s, ha⟩ ⟨e, hx⟩ => by
      subst e
      refine hs x H' (List.mem_of_getElem? hx) s _ _ fun H5 s5 => k_lc (s5 _ _ hH) hl (by omega) fun H6 f h6 => ⟨Same.fr_new (s.trans s5) f hD, ?_⟩
      rw [ha, List.take_add_one, hx, List.map_append]; rfl)
    fun acc H hH _ ⟨s, ha⟩ => hd H s (by rw [hH, ha, List.take_length])
end
theorem ypair {xs ys : Nat → Option V} {i : Nat} {H H' : Hp} {v : V} (h : YPair xs ys i H v H') : ∃ T x y, v = .ref T ∧ H T = none ∧ Same H H' ∧ H' T = some (.tup [x, y]) ∧ xs i = some x ∧ ys i = some y := by
  obtain ⟨T, x, y, e, nT, rfl, h1, h2⟩ := h
  exact ⟨T, x, y, e, nT, same_upd nT, upd_same, h1, h2⟩
/-! ## loops by name -/
section
variable {K : PySem.W.Frag} {σ : L2.St} {H : Hp} {Q : VK} {D : Ends} {R : It → Hp → Prop}
def kFor (g : TG) (tb : TS) (D : Ends) (σ : L2.St) : It → Hp → Prop := fun J H1 => ∃ W : Nat → Nat → L2.St → Hp → Prop, (∃ m, W 0 m σ H1) ∧ ∀ i m σ H, W i m σ H →
  (J.stop i H ∧ D.nx σ H) ∨ (J.go i H ∧ ∃ N : L2.St → Hp → Prop, (∀ σ' H', N σ' H' → ∃ m', m' < m ∧ W (i + 1) m' σ' H') ∧ ∀ x H', J.yld i H x H' → g x σ H' fun σ2 H2 => tb { D with nx := N, ct := N, bk := D.nx } σ2 H2)
theorem tfor {wi : TI} {g : TG} {tb : TS} (h : wi σ H (kFor g tb D σ)) : tFor wi g tb D σ H := h
def kLcS (g : TG) (tt : TT) (te : TE) (vs : List Nat) (σ : L2.St) (Q : VK) : It → Hp → Prop := fun J H1 => ∀ D, H1 D = none → ∃ W : Nat → Nat → Hp → Prop, (∃ m, W 0 m (upd H1 D (.lst []))) ∧ ∀ i m H, W i m H →
  (J.stop i H ∧ Q (.ref D) H) ∨ (J.go i H ∧ ∃ Nx : Hp → Prop, (∀ H', Nx H' → ∃ m', m' < m ∧ W (i + 1) m' H') ∧ ∀ x H', J.yld i H x H' → g x (wipe σ vs) H' fun σ2 H2 => wipe σ2 vs = wipe σ vs ∧ tt σ2 H2 fun b H3 =>
    if b = true then te σ2 H3 fun y H4 => ∃ acc, H4 D = some (.lst acc) ∧ acc.length < sizeLine ∧ Nx (upd H4 D (.lst (acc ++ [y]))) else Nx H3)
theorem tlc {wi : TI} {g : TG} {tt : TT} {te : TE} {vs : List Nat} (h : wi σ H (kLcS g tt te vs σ Q)) : tLc wi g tt te vs σ H Q := h
def kIL (K : PySem.W.Frag) (R : It → Hp → Prop) : VK := fun x H1 => ∃ a, x = .ref a ∧ (∃ xs, SqL K H1 a xs) ∧ R (Itl K a) H1
theorem ilist {tl : TE} (h : tl σ H (kIL K R)) : iList K tl σ H R := h
theorem k_il {a : Addr} {xs : List V} (h : SqL K H a xs) (q : R (Itl K a) H) : kIL K R (.ref a) H := ⟨a, rfl, ⟨xs, h⟩, q⟩
def kIT (K : PySem.W.Frag) (R : It → Hp → Prop) : VK := fun x H1 => ∃ a, x = .ref a ∧ (∃ xs, SqT K H1 a xs) ∧ R (Itt K a) H1
theorem itup {tl : TE} (h : tl σ H (kIT K R)) : iTup K tl σ H R := h
theorem k_it {a : Addr} {xs : List V} (h : SqT K H a xs) (q : R (Itt K a) H) : kIT K R (.ref a) H := ⟨a, rfl, ⟨xs, h⟩, q⟩
def kIS (R : It → Hp → Prop) : VK := fun v H1 => ∃ x, v = .str x ∧ R (Its x) H1
theorem istr {te : TE} (h : te σ H (kIS R)) : iStr te σ H R := h
theorem k_is {x : Str} (q : R (Its x) H) : kIS R (.str x) H := ⟨x, rfl, q⟩
def kR1 (R : It → Hp → Prop) : List V → Hp → Prop := fun vs H1 => ∃ j : Int, vs = [.int j] ∧ -(2 ^ 62) ≤ j ∧ j < 2 ^ 62 ∧ R (Itr 0 j.toNat) H1
theorem irng1 {ta : TA} (h : ta σ H (kR1 R)) : iRng1 ta σ H R := h
theorem k_r1 {j : Int} (h1 : -(2 ^ 62) ≤ j) (h2 : j < 2 ^ 62) (q : R (Itr 0 j.toNat) H) : kR1 R [.int j] H := ⟨j, rfl, h1, h2, q⟩
theorem k_r1n {n : Nat} (h2 : n < 2 ^ 62) (q : R (Itr 0 n) H) : kR1 R [.int n] H := ⟨n, rfl, by omega, by omega, q⟩
def kR2 (R : It → Hp → Prop) : List V → Hp → Prop := fun vs H1 => ∃ i j : Int, vs = [.int i, .int j] ∧ (-(2 ^ 62) ≤ i ∧ i < 2 ^ 62 ∧ -(2 ^ 62) ≤ j ∧ j < 2 ^ 62) ∧ R (Itr i (j - i).toNat) H1
theorem irng2 {ta : TA} (h : ta σ H (kR2 R)) : iRng2 ta σ H R := h
theorem k_r2 {i j : Int} (h1 : -(2 ^ 62) ≤ i) (h2 : i < 2 ^ 62) (h3 : -(2 ^ 62) ≤ j) (h4 : j < 2 ^ 62) (q : R (Itr i (j - i).toNat) H) : kR2 R [.int i, .int j] H := ⟨i, j, rfl, ⟨h1, h2, h3, h4⟩, q⟩
def kEn (K : PySem.W.Frag) (R : It → Hp → Prop) : List V → Hp → Prop := fun vs H1 => ∃ a xs, vs = [.ref a] ∧ SqL K H1 a xs ∧ R (Ite K a) H1
theorem ienum {ta : TA} (h : ta σ H (kEn K R)) : iEnum K ta σ H R := h
theorem k_en {a : Addr} {xs : List V} (h : SqL K H a xs) (q : R (Ite K a) H) : kEn K R [.ref a] H := ⟨a, xs, rfl, h, q⟩
def kZip (K : PySem.W.Frag) (R : It → Hp → Prop) : List V → Hp → Prop := fun vs H1 => ∃ a b xs ys, vs = [.ref a, .ref b] ∧ SqL K H1 a xs ∧ SqL K H1 b ys ∧ R (Itz K a b) H1
theorem izip {ta : TA} (h : ta σ H (kZip K R)) : iZip K ta σ H R := h
theorem k_zip {a b : Addr} {xs ys : List V} (h : SqL K H a xs) (h' : SqL K H b ys) (q : R (Itz K a b) H) : kZip K R [.ref a, .ref b] H := ⟨a, b, xs, ys, rfl, h, h', q⟩
/-- list(range(..)) -/
def kLR (Q : VK) : Int → Int → Hp → Prop := fun a b H1 => RgOk a b ∧ ∀ q, H1 q = none → Q (.ref q) (upd H1 q (.lst (rgV a b)))
theorem tlstrg {te : L2.St → Hp → (Int → Int → Hp → Prop) → Prop} (h : te σ H (kLR Q)) : tLstRg te σ H Q := h
theorem k_lr {n : Nat} (hn : n ≤ 100000) (k : ∀ (p : Addr) (H' : Hp), H p = none → Same H H' → H' p = some (.lst (rgV 0 n)) → Q (.ref p) H') : kLR Q 0 n H :=
  ⟨RgOk.of_le (by decide) (by omega) (by decide) (by omega), fun p np => k p _ np (same_upd np) upd_same⟩
def kG1 (QR : Int → Int → Hp → Prop) : VK := fun x H1 => ∃ n, x = .int n ∧ QR 0 n H1
theorem trg1 {ta : TE} {QR : Int → Int → Hp → Prop} (h : ta σ H (kG1 QR)) : tRg1 ta σ H QR := h
theorem k_g1 {n : Int} {QR : Int → Int → Hp → Prop} (q : QR 0 n H) : kG1 QR (.int n) H := ⟨n, rfl, q⟩
end
section
variable {J : It} {n : Nat} {G : Hp → Prop} {Y : Nat → Hp → V → Hp → Prop} {K : PySem.W.Frag}
theorem for_ (w : Walk J n G Y) {g : TG} {tb : TS} {D : Ends} {σ : L2.St} {H : Hp} (Pv : Nat → L2.St → Hp → Prop) (h0 : Pv 0 σ H) (hG : ∀ i σ H, i ≤ n → Pv i σ H → G H)
    (hs : ∀ i x σ H H', i < n → Pv i σ H → Y i H x H' → g x σ H' fun σ2 H2 => tb { D with nx := Pv (i + 1), ct := Pv (i + 1), bk := D.nx } σ2 H2) (hd : ∀ σ H, Pv n σ H → D.nx σ H) : kFor g tb D σ J H := for_it w Pv h0 hG hs hd
theorem comp (w : Walk J n G Y) {g : TG} {tt : TT} {te : TE} {vs : List Nat} {σ : L2.St} {H1 : Hp} {Q : VK} (Pv : Addr → Nat → List V → Hp → Prop)
    (h0 : ∀ D H', H1 D = none → Same H1 H' → H' D = some (.lst []) → Pv D 0 [] H') (hG : ∀ D i acc H, i ≤ n → H1 D = none → H D = some (.lst acc) → Pv D i acc H → G H)
    (hs : ∀ D i acc x H H', H1 D = none → i < n → acc.length ≤ i → H D = some (.lst acc) → Pv D i acc H → Y i H x H' → g x (wipe σ vs) H' fun σ2 H2 => wipe σ2 vs = wipe σ vs ∧ tt σ2 H2 fun b H3 =>
      if b = true then te σ2 H3 (kLc D (lcP D (Pv D) (i + 1))) else lcP D (Pv D) (i + 1) H3)
    (hd : ∀ D acc H, H1 D = none → H D = some (.lst acc) → acc.length ≤ n → Pv D n acc H → Q (.ref D) H) : kLcS g tt te vs σ Q J H1 :=
  fun D hD => lc_gen w hD (Pv D) (fun H' => h0 D H' hD) (fun i acc H hi => hG D i acc H hi hD) (fun i acc x H H' => hs D i acc x H H' hD) fun acc H => hd D acc H hD
theorem map_ {xs : List V} (w : Walk J xs.length G (YAt xs)) (hz : xs.length ≤ 99999) {g : TG} {tt : TT} {te : TE} {vs : List Nat} {σ : L2.St} {H1 : Hp} {Q : VK} (F : V → V)
    (hG : ∀ H', Same H1 H' → G H')
    (hs : ∀ x Hq, x ∈ xs → Same H1 Hq → ∀ (KK : VK) (KN : Hp → Prop), (∀ H5, Same Hq H5 → KK (F x) H5) → g x (wipe σ vs) Hq fun σ2 H2 => wipe σ2 vs = wipe σ vs ∧ tt σ2 H2 fun b H3 => if b = true then te σ2 H3 KK else KN H3)
    (hd : ∀ D H, H1 D = none → Same H1 H → H D = some (.lst (xs.map F)) → Q (.ref D) H) : kLcS g tt te vs σ Q J H1 :=
  fun D hD => lc_map w hz hD F hG hs fun H => hd D H hD
end
section
variable {P : Program} {w : World} {K : PySem.W.Frag} {mg : Str → Option Value} {base : Heap} {CX : CXT} {k : Nat} {f : Addr} {fd : FuncData} {ps : List Str} {sp sp' : Sp}
theorem fn_imp (F : FnOk P w K mg base CX k f fd ps sp) (h : ∀ vs H Q E, sp' vs H Q E → sp vs H Q E) : FnOk P w K mg base CX k f fd ps sp' :=
  ⟨fun vs H Q E x => F.len _ _ _ _ (h _ _ _ _ x), fun A out s H ar us vs Q E hr e b r x => F.run A out s H ar us vs Q E hr e b r (h _ _ _ _ x)⟩
theorem fn_no : FnOk P w K mg base CX 0 f fd ps (fun _ _ _ _ => False) := ⟨fun _ _ _ _ x => x.elim, fun _ _ _ _ _ _ _ _ _ _ _ _ _ x => x.elim⟩
end
end LS
namespace LP
open PySem L2 LT LG LX
def sp__law_draw_t : Sp := fun vs H Q _ => ∃ (b : Addr) (d : Nat) (n : Int), vs = [.ref b, .int n] ∧ Reel H b d ∧ 0 < n ∧ n.natAbs.log2 < 9000 ∧ d < 1000000 ∧
  ∀ (H' : Hp) (r : Int), 0 ≤ r → r < n → LS.RT H H' b (d + 1) → Q (.int r) H'
def sp__law_shuffled_t : Sp := fun vs H Q _ => ∃ (b : Addr) (d : Nat) (p : Addr) (xs : List Int), vs = [.ref b, .ref p] ∧ Reel H b d ∧ d < 900000 ∧ H p = some (.lst (xs.map V.int)) ∧ xs.length ≤ 400 ∧ p ≠ b ∧
  ∀ (H' : Hp) (q : Addr) (ys : List Int), LS.RT H H' b (d + xs.length) → H q = none → ys.Perm xs → H' q = some (.lst (ys.map V.int)) → Apart H' b q → Q (.ref q) H'
theorem draw_t {vs : List V} {H : Hp} {Q : VK} {E : XK} (h : sp__law_draw_t vs H Q E) : sp__law_draw_r vs H Q E := by
  obtain ⟨b, d, n, rfl, R, h1, h2, h3, k⟩ := h
  exact ⟨b, d, n, rfl, R, h1, h2, h3, fun H' r r0 r1 R' F A => k H' r r0 r1 ⟨R', F, A⟩⟩
end LP

/-! small data: what repr and == ask of it -/
namespace LG
open PySem L2
structure Sm (d : PyData) (k w : Nat) : Prop where
  sh : d.showable = true
  ls : d.leavesShort 40 = true
  cl : d.canLay0 = true
  dp : d.depth ≤ k
  wt : d.weight ≤ w
theorem Sm.mono {d : PyData} {k w k' w' : Nat} (h : Sm d k w) (hk : k ≤ k') (hw : w ≤ w') : Sm d k' w' := ⟨h.sh, h.ls, h.cl, Nat.le_trans h.dp hk, Nat.le_trans h.wt hw⟩
theorem Sm.int {i : Int} (hb : i.natAbs < 10 ^ 31) : Sm (.int i) 0 121 := by
  have hlog : i.natAbs.log2 < 1920 := by
    by_cases z : i.natAbs = 0
    · rw [z]; decide
    · exact Nat.lt_trans ((Nat.log2_lt z).mpr (show i.natAbs < 2 ^ 120 from Nat.lt_trans hb (by decide))) (by decide)
  have hlen : (PyData.shown (.int i)).length ≤ 40 := by
    have e := int_text_length_le10 (k := 31) (by decide) hb
    show (Str.ofString (toString i)).length ≤ 40
    rw [ofString_length]; omega
  refine ⟨?_, ?_, rfl, Nat.le_refl _, ?_⟩
  · simp only [PyData.showable, decide_eq_true_eq]; exact hlog
  · simp only [PyData.leavesShort, decide_eq_true_eq]; exact hlen
  · simp only [PyData.weight]
    split
    · omega
    · rename_i z
      have z2 : i.natAbs ≠ 0 := fun q => z (by simp [Int.natAbs_eq_zero.mp q])
      have := (Nat.log2_lt z2).mpr (show i.natAbs < 2 ^ 120 from Nat.lt_trans hb (by decide))
      omega
theorem Sm.non : Sm .none 0 0 := ⟨rfl, rfl, rfl, Nat.le_refl _, Nat.le_refl _⟩
theorem Sm.bl (b : Bool) : Sm (.bool b) 0 0 := ⟨rfl, rfl, rfl, Nat.le_refl _, Nat.le_refl _⟩
theorem Sm.all {k w : Nat} : ∀ {l : List PyData}, (∀ d ∈ l, Sm d k w) → PyData.showableAll l = true ∧ PyData.leavesShortAll 40 l = true ∧ PyData.canLayAll0 l = true ∧ PyData.depthAll l ≤ k ∧ PyData.weightAll l ≤ (w + 1) * l.length
  | [], _ => ⟨rfl, rfl, rfl, Nat.zero_le _, Nat.zero_le _⟩
  | d :: r, h => by
    obtain ⟨a, b, c, e, f⟩ := Sm.all (l := r) fun x hx => h x (List.mem_cons_of_mem _ hx)
    have g := h d List.mem_cons_self
    refine ⟨?_, ?_, ?_, ?_, ?_⟩
    · simp only [PyData.showableAll, Bool.and_eq_true]; exact ⟨g.sh, a⟩
    · simp only [PyData.leavesShortAll, Bool.and_eq_true]; exact ⟨g.ls, b⟩
    · simp only [PyData.canLayAll0, Bool.and_eq_true]; exact ⟨g.cl, c⟩
    · simp only [PyData.depthAll]
      have := g.dp
      omega
    · simp only [PyData.weightAll, List.length_cons]
      have := g.wt
      rw [Nat.mul_succ]
      omega
theorem Sm.list {k w : Nat} {l : List PyData} (h : ∀ d ∈ l, Sm d k w) : Sm (.list l) (k + 1) ((w + 1) * l.length) := by
  obtain ⟨a, b, c, e, f⟩ := Sm.all h
  exact ⟨by simp only [PyData.showable]; exact a, by simp only [PyData.leavesShort]; exact b, by simp only [PyData.canLay0]; exact c, by simp only [PyData.depth]; omega, by simp only [PyData.weight]; exact f⟩
theorem Sm.tup {k w : Nat} {l : List PyData} (h : ∀ d ∈ l, Sm d k w) : Sm (.tuple l) (k + 1) ((w + 1) * l.length) := by
  obtain ⟨a, b, c, e, f⟩ := Sm.all h
  exact ⟨by simp only [PyData.showable]; exact a, by simp only [PyData.leavesShort]; exact b, by simp only [PyData.canLay0]; exact c, by simp only [PyData.depth]; omega, by simp only [PyData.weight]; exact f⟩
theorem Sm.ok {d : PyData} {k w : Nat} (h : Sm d k w) (hk : k ≤ 64) (hw : w ≤ 200000) : d.showable = true ∧ SeqAt.shaped d = true ∧ d.shown.length ≤ sizeLine := by
  refine ⟨h.sh, ?_, ?_⟩
  · unfold SeqAt.shaped
    rw [Bool.and_eq_true, decide_eq_true_iff]
    exact ⟨h.cl, Nat.le_trans h.dp hk⟩
  · have := PyData.shown_le 40 (by decide) _ h.ls
    have e : (40 + 2) * d.weight ≤ 42 * 200000 := Nat.mul_le_mul_left _ (Nat.le_trans h.wt hw)
    exact Nat.le_trans this (Nat.le_trans (show _ ≤ 9000000 by omega) (by decide))
theorem dpAll_of {K : PySem.W.Frag} {H : Hp} : ∀ {vs : List V} {ds : List PyData}, vs.length = ds.length → (∀ (i : Nat) v d, vs[i]? = some v → ds[i]? = some d → Dp K H v d) → DpAll K H vs ds
  | [], [], _, _ => .nil
  | v :: vs, d :: ds, h, g => .cons (g 0 v d rfl rfl) (dpAll_of (by simpa using h) fun i x y h1 h2 => g (i + 1) x y h1 h2)
  | [], _ :: _, h, _ => by simp at h
  | _ :: _, [], h, _ => by simp at h
end LG

/-! data of lists and tuples: repr and == -/
namespace LS
open PySem L2 LT LG LP LX
section
variable {K : PySem.W.Frag} {H : Hp} {Q : VK}
def dI (ns : List Int) : PyData := .list (ns.map PyData.int)
def dS (ns : List Str) : PyData := .list (ns.map PyData.str)
theorem dpA_i : ∀ l : List Int, DpAll K H (l.map V.int) (l.map PyData.int)
  | [] => .nil
  | i :: r => .cons (.int i) (dpA_i r)
theorem dpA_s : ∀ l : List Str, DpAll K H (l.map V.str) (l.map PyData.str)
  | [] => .nil
  | i :: r => .cons (.str i) (dpA_s r)
theorem dp_i {p : Addr} {ns : List Int} (h : SqL K H p (ns.map V.int)) : Dp K H (.ref p) (dI ns) := .lst h (dpA_i _)
theorem dp_s {p : Addr} {ns : List Str} (h : SqL K H p (ns.map V.str)) : Dp K H (.ref p) (dS ns) := .lst h (dpA_s _)
theorem dp_it {p : Addr} {ns : List Int} (h : SqT K H p (ns.map V.int)) : Dp K H (.ref p) (.tuple (ns.map PyData.int)) := .tup h (dpA_i _)
theorem dp_E {p : Addr} {ns : List Int} (h : SqE K H p (ns.map V.int)) : ∃ d, (d = dI ns ∨ d = .tuple (ns.map PyData.int)) ∧ ∀ H', SqE K H' p (ns.map V.int) → True := ⟨_, .inl rfl, fun _ _ => trivial⟩
mutual
theorem dp_same {H' : Hp} (s : Same H H') : ∀ {v : V} {d : PyData}, Dp K H v d → Dp K H' v d
  | _, _, .non => .non
  | _, _, .bl b => .bl b
  | _, _, .int i => .int i
  | _, _, .str x => .str x
  | _, _, .lst h a => .lst (s.seq h) (dpA_same s a)
  | _, _, .tup h a => .tup (same_tup s h) (dpA_same s a)
theorem dpA_same {H' : Hp} (s : Same H H') : ∀ {vs : List V} {ds : List PyData}, DpAll K H vs ds → DpAll K H' vs ds
  | _, _, .nil => .nil
  | _, _, .cons h t => .cons (dp_same s h) (dpA_same s t)
end
theorem dpA_len : ∀ {vs : List V} {ds : List PyData}, DpAll K H vs ds → vs.length = ds.length
  | _, _, .nil => rfl
  | _, _, .cons _ t => by rw [List.length_cons, List.length_cons, dpA_len t]
theorem dpA_get : ∀ {vs : List V} {ds : List PyData} {i : Nat} {d : PyData}, DpAll K H vs ds → ds[i]? = some d → ∃ v, vs[i]? = some v ∧ Dp K H v d
  | _, _, _, _, .nil, e => by simp at e
  | _, _, 0, d, .cons h _, e => by simp at e; subst e; exact ⟨_, rfl, h⟩
  | _, _, i + 1, d, .cons _ t, e => by
    obtain ⟨v, h1, h2⟩ := dpA_get (i := i) (d := d) t (by simpa using e)
    exact ⟨v, by simpa using h1, h2⟩
theorem clA_i (l : List Int) : PyData.canLayAll0 (l.map PyData.int) = true := by
  induction l with
  | nil => rfl
  | cons i r ih => simp [PyData.canLayAll0, PyData.canLay0, ih]
theorem dpthA_i (l : List Int) : PyData.depthAll (l.map PyData.int) = 0 := by
  induction l with
  | nil => rfl
  | cons i r ih => simp [PyData.depthAll, PyData.depth, ih]
theorem clA_s (l : List Str) (h : ∀ x ∈ l, PyData.strOk x = true) : PyData.canLayAll0 (l.map PyData.str) = true := by
  induction l with
  | nil => rfl
  | cons i r ih => simp [PyData.canLayAll0, PyData.canLay0, ih fun x hx => h x (List.mem_cons_of_mem _ hx), h i (List.mem_cons_self ..)]
theorem dpthA_s (l : List Str) : PyData.depthAll (l.map PyData.str) = 0 := by
  induction l with
  | nil => rfl
  | cons i r ih => simp [PyData.depthAll, PyData.depth, ih]
theorem sh_i (l : List Int) : SeqAt.shaped (dI l) = true := by simp [SeqAt.shaped, dI, PyData.canLay0, PyData.depth, clA_i, dpthA_i]
theorem sh_s (l : List Str) (h : ∀ x ∈ l, PyData.strOk x = true) : SeqAt.shaped (dS l) = true := by simp [SeqAt.shaped, dS, PyData.canLay0, PyData.depth, clA_s l h, dpthA_s]
theorem eqvA_i : ∀ a b : List Int, PyData.eqvAll (a.map PyData.int) (b.map PyData.int) = decide (a = b)
  | [], [] => by simp [PyData.eqvAll]
  | [], _ :: _ => by simp [PyData.eqvAll]
  | _ :: _, [] => by simp [PyData.eqvAll]
  | x :: r, y :: t => by
    simp only [List.map_cons, PyData.eqvAll, eqvA_i r t]
    by_cases e : x = y
    · subst e; simp [PyData.eqv]
    · have : (x == y) = false := beq_eq_false_iff_ne.mpr e
      simp [PyData.eqv, e, this]
theorem eqvA_s : ∀ a b : List Str, PyData.eqvAll (a.map PyData.str) (b.map PyData.str) = decide (a = b)
  | [], [] => by simp [PyData.eqvAll]
  | [], _ :: _ => by simp [PyData.eqvAll]
  | _ :: _, [] => by simp [PyData.eqvAll]
  | x :: r, y :: t => by
    simp only [List.map_cons, PyData.eqvAll, eqvA_s r t]
    by_cases e : x = y
    · subst e; simp [PyData.eqv]
    · have : (x == y) = false := beq_eq_false_iff_ne.mpr e
      simp [PyData.eqv, e, this]
theorem eqv_i (a b : List Int) : PyData.eqv (dI a) (dI b) = decide (a = b) := by simp only [dI, PyData.eqv]; exact eqvA_i a b
theorem eqv_s (a b : List Str) : PyData.eqv (dS a) (dS b) = decide (a = b) := by simp only [dS, PyData.eqv]; exact eqvA_s a b
theorem reqd {x y : V} {d e : PyData} (h1 : Dp K H x d) (h2 : Dp K H y e) (s1 : SeqAt.shaped d = true) (s2 : SeqAt.shaped e = true) (q : Q (.bl (PyData.eqv d e)) H) : rEqD K x y H Q := ⟨d, e, h1, h2, s1, s2, q⟩
theorem rned {x y : V} {d e : PyData} (h1 : Dp K H x d) (h2 : Dp K H y e) (s1 : SeqAt.shaped d = true) (s2 : SeqAt.shaped e = true) (q : Q (.bl (!PyData.eqv d e)) H) : rNeD K x y H Q := ⟨d, e, h1, h2, s1, s2, q⟩
theorem req_il {a b : Addr} {x y : List Int} (h1 : SqL K H a (x.map V.int)) (h2 : SqL K H b (y.map V.int)) (q : Q (.bl (decide (x = y))) H) : rEqD K (.ref a) (.ref b) H Q := reqd (dp_i h1) (dp_i h2) (sh_i _) (sh_i _) (by rw [eqv_i]; exact q)
theorem rne_il {a b : Addr} {x y : List Int} (h1 : SqL K H a (x.map V.int)) (h2 : SqL K H b (y.map V.int)) (q : Q (.bl (!decide (x = y))) H) : rNeD K (.ref a) (.ref b) H Q := rned (dp_i h1) (dp_i h2) (sh_i _) (sh_i _) (by rw [eqv_i]; exact q)
theorem req_sl {a b : Addr} {x y : List Str} (o1 : ∀ z ∈ x, PyData.strOk z = true) (o2 : ∀ z ∈ y, PyData.strOk z = true) (h1 : SqL K H a (x.map V.str)) (h2 : SqL K H b (y.map V.str)) (q : Q (.bl (decide (x = y))) H) : rEqD K (.ref a) (.ref b) H Q := reqd (dp_s h1) (dp_s h2) (sh_s _ o1) (sh_s _ o2) (by rw [eqv_s]; exact q)
theorem rne_sl {a b : Addr} {x y : List Str} (o1 : ∀ z ∈ x, PyData.strOk z = true) (o2 : ∀ z ∈ y, PyData.strOk z = true) (h1 : SqL K H a (x.map V.str)) (h2 : SqL K H b (y.map V.str)) (q : Q (.bl (!decide (x = y))) H) : rNeD K (.ref a) (.ref b) H Q := rned (dp_s h1) (dp_s h2) (sh_s _ o1) (sh_s _ o2) (by rw [eqv_s]; exact q)
theorem rrepr {a : Addr} {d : PyData} {k w : Nat} (h : Dp K H (.ref a) d) (s : Sm d k w) (hk : k ≤ 64) (hw : w ≤ 200000) (q : Q (.str d.shown) H) : rReprN K [.ref a] H Q := by
  obtain ⟨a1, a2, a3⟩ := s.ok hk hw
  exact .inr (.inr (.inr ⟨a, d, rfl, h, a1, a2, a3, q⟩))
theorem rrepr_i {i : Int} (h : i.natAbs.log2 < 1920) (q : Q (.str (toString i)) H) : rReprN K [.int i] H Q := .inr (.inr (.inl ⟨i, rfl, h, q⟩))
theorem rrepr_n (q : Q (.str "None") H) : rReprN K [.non] H Q := .inl ⟨rfl, q⟩
theorem rrepr_b {b : Bool} (q : Q (.str (if b then "True" else "False")) H) : rReprN K [.bl b] H Q := .inr (.inl ⟨b, rfl, q⟩)
theorem sm_small {i : Int} (h : i.natAbs < 1024) : Sm (.int i) 0 10 := by
  have g := Sm.int (i := i) (Nat.lt_trans h (by decide))
  refine ⟨g.sh, g.ls, g.cl, g.dp, ?_⟩
  simp only [PyData.weight]
  split
  · omega
  · rename_i z
    have z2 : i.natAbs ≠ 0 := fun q => z (by simp [Int.natAbs_eq_zero.mp q])
    have := (Nat.log2_lt z2).mpr (show i.natAbs < 2 ^ 10 from h)
    omega
theorem sm_smalls {ns : List Int} (h : ∀ x ∈ ns, x.natAbs < 1024) : Sm (dI ns) 1 (11 * ns.length) := by
  have := Sm.list (k := 0) (w := 10) (l := ns.map PyData.int) (fun d hd => by obtain ⟨i, hi, rfl⟩ := List.mem_map.mp hd; exact sm_small (h i hi))
  rw [List.length_map] at this
  exact this
theorem sm_smallsT {ns : List Int} (h : ∀ x ∈ ns, x.natAbs < 1024) : Sm (.tuple (ns.map PyData.int)) 1 (11 * ns.length) := by
  have := Sm.tup (k := 0) (w := 10) (l := ns.map PyData.int) (fun d hd => by obtain ⟨i, hi, rfl⟩ := List.mem_map.mp hd; exact sm_small (h i hi))
  rw [List.length_map] at this
  exact this
theorem sm_ints {ns : List Int} (h : ∀ x ∈ ns, x.natAbs < 10 ^ 31) : Sm (dI ns) 1 (122 * ns.length) := by
  have := Sm.list (k := 0) (w := 121) (l := ns.map PyData.int) (fun d hd => by obtain ⟨i, hi, rfl⟩ := List.mem_map.mp hd; exact Sm.int (h i hi))
  rw [List.length_map] at this
  exact this
theorem sm_intsT {ns : List Int} (h : ∀ x ∈ ns, x.natAbs < 10 ^ 31) : Sm (.tuple (ns.map PyData.int)) 1 (122 * ns.length) := by
  have := Sm.tup (k := 0) (w := 121) (l := ns.map PyData.int) (fun d hd => by obtain ⟨i, hi, rfl⟩ := List.mem_map.mp hd; exact Sm.int (h i hi))
  rw [List.length_map] at this
  exact this
end
end LS

/-! == and != of an instance with its own ==, beside any value -/
namespace LX
open PySem PySem.Spec PySem.W PyProof.Rows L2
section
variable {prog : Program} {w : World} {A A₀ : Around} {E : Value → Shared → Prop} {s : Shared} {K : Frag} {x C L f : Addr} {h₀ : Heap} {m : Str → Option Value} {ox : Obj} {od : Option Obj} {b tb : Value}
theorem ne_entry {Q : Fin → Shared → Prop} (X : K.In s.heap) (I : InstAt s.heap x ox C od) (hs : findIn K (.ref C) "__eq__" = some (some (.ref f))) (hf : isFn K (.ref f) = true) (hu : A.units < cLine)
    (h : wpAny (model prog w) A (call (.ref f) [.ref x, b]) (fun v s' => ∃ r, v = .bool r ∧ Q (.done (.ret (.bool (!r)))) s') E s) : wpAny (model prog w) A (Builtin.«object.__ne__» ⟨[.ref x, b], []⟩) Q E s := by
  unfold Builtin.«object.__ne__»
  repeat (first
    | with_reducible refine wpAny_cRoomFor hu ?_
    | (refine wpAny_bind (m := callSpecialIfBound? (.ref x) (Str.ofString "__eq__") [b])
        (ifBound_K X I hs hf (wpAny_mono h (fun r s' hr => by
          obtain ⟨b, rfl, hq⟩ := hr
          repeat (first | exact hq | exact wpAny_pure hq | exact wpAny_truthy_bool hq | (refine wpAny_bind (m := truthy (.bool _)) (wpAny_truthy_bool ?_)) | wp_step)) fun _ _ e => e)))
    | wp_step)
theorem call_ne {Q : Value → Shared → Prop} (X : K.In s.heap) (I : InstAt s.heap x ox C od) (ho : mroIn K C (.type "object") = some true) (hs : findIn K (.ref C) "__eq__" = some (some (.ref f))) (hf : isFn K (.ref f) = true) (hu : A.units + 1 < cLine)
    (h : wpAny (model prog w) A.in1 (call (.ref f) [.ref x, b]) (fun v s' => ∃ r, v = .bool r ∧ Q (.bool (!r)) s') E s) : wpAny (model prog w) A (call (.builtin "object.__ne__") [.ref x, b]) Q E s := by
  refine wpAny_call (codeAny_call_builtin F.cmp_object.ne.plain F.cmpEntry_ne (check_slot F.cmpKind_ne F.cmpSplit_ne (I.type.andThen (looks_mroIn X ho)) (F.cmpArgs_ne _ _) (ne_entry (A := A.in1) X I hs hf hu (wpAny_mono h (fun v s' hv => ?_) fun _ _ e => e))))
  obtain ⟨b, rfl, hq⟩ := hv
  exact ⟨b, rfl, hq⟩
theorem cmp_ne {Q : Value → Shared → Prop} (hu : A.units + 1 < cLine) (FR : Fr h₀ L s.heap m) (X₀ : K.In h₀) (I : InstAt s.heap x ox C od) (hb : Looks (model prog w) s.heap (typeOf b) tb) (hn : notFirst K C tb = true)
    (ho : mroIn K C (.type "object") = some true) (hs : findIn K (.ref C) "__eq__" = some (some (.ref f))) (hf : isFn K (.ref f) = true) (hne : findIn K (.ref C) "__ne__" = some (some (.builtin "object.__ne__")))
    (h : wpAny (model prog w) A.in1 (call (.ref f) [.ref x, b]) (fun v s' => ∃ r, v = .bool r ∧ Q (.bool (!r)) s') E s) : wpAny (model prog w) A (richCompare .NotEq (.ref x) b) Q E s := by
  have X := X₀.keeps FR.keep
  have one : wpAny (model prog w) A (tryCompare (.ref x) "__ne__" b) (fun r s' => ∃ v, r = some v ∧ Q v s') E s := by
    unfold tryCompare
    have sp : wpAny (model prog w) A (callSpecialIfBound? (.ref x) "__ne__" [b]) (fun r s' => ∃ v, r = some (.bool v) ∧ Q (.bool v) s') E s := by
      simp only [callSpecialIfBound?, bindSpecialIfBound?]
      refine wpAny_holding (wpAny_bind (wpAny_bind (wpAny_bind (I.type.here ((looks_findIn X hne).here ?_)))))
      refine wpAny_bind (wpAny_askSetting (wpAny_ite ?_))
      have fin : wpAny (model prog w) A (call (.builtin "object.__ne__") ([.ref x] ++ [b]) >>= fun v => pure (some v)) (fun r s' => ∃ v, r = some (.bool v) ∧ Q (.bool v) s') E s :=
        wpAny_bind (call_ne X I ho hs hf hu (wpAny_mono h (fun v s' ⟨r, e, q⟩ => ⟨r, e, wpAny_pure ⟨_, rfl, q⟩⟩) fun _ _ e => e))
      rw [F.cmp_object.ne.bind]
      split
      · exact wpAny_bind (wpAny_pure (wpAny_pure (by exact fin)))
      · exact wpAny_tryCatch (wpAny_bind (wpAny_pure (wpAny_pure (by exact fin))))
    refine wpAny_bind (wpAny_mono sp (fun r s' z => ?_) fun _ _ e => e)
    obtain ⟨v, rfl, hq⟩ := z
    exact wpAny_pure ⟨_, rfl, hq⟩
  unfold richCompare
  simp only [oneThing_ref]
  refine wpAny_holding (wpAny_bind (wpAny_cRoomFor (Nat.lt_of_succ_lt hu) ?_))
  rw [cmpInfo_NotEq]
  dsimp only
  refine wpAny_bind (I.type.here (wpAny_bind (hb.here ?_)))
  split
  · rename_i q
    have e : subIn K tb (.ref C) = some false := by
      rcases Bool.or_eq_true_iff.mp hn with e | e
      · rw [beq_iff_eq.mp e] at q; simp at q
      · exact beq_iff_eq.mp e
    refine wpAny_bind ((looks_subIn X e).here ?_)
    simp only [Bool.false_eq_true, if_false]
    refine wpAny_bind (wpAny_mono one (fun r s' z => ?_) fun _ _ e => e)
    obtain ⟨v, rfl, hq⟩ := z
    exact wpAny_pure hq
  · refine wpAny_bind (wpAny_pure ?_)
    simp only [Bool.false_eq_true, if_false]
    refine wpAny_bind (wpAny_mono one (fun r s' z => ?_) fun _ _ e => e)
    obtain ⟨v, rfl, hq⟩ := z
    exact wpAny_pure hq
end
section
variable {X : Cx} {CX : CXT} {k : Nat} {C g : Addr} {fd : FuncData} {ps : List Str} {sp : Sp} {E : XK}
/-- x == y, x an instance of the class at C with its own ==; y any value that is no instance of a class below C -/
def rEqO (K : Frag) (C : Addr) (sp : Sp) (E : XK) : R2 := fun x y H Q => ∃ a dx fs t, x = .ref a ∧ H a = some (.ins C dx fs) ∧ TyX K H y t ∧ notFirst K C t = true ∧ sp [x, y] H Q E
def rNeO (K : Frag) (C : Addr) (sp : Sp) (E : XK) : R2 := fun x y H Q => ∃ a dx fs t, x = .ref a ∧ H a = some (.ins C dx fs) ∧ TyX K H y t ∧ notFirst K C t = true ∧ sp [x, y] H (fun z H' => ∃ b, z = .bl b ∧ Q (.bl (!b)) H') E
theorem op_eqO (M : Meth X.K C "__eq__" g) (F : FnOk X.prog X.w X.K X.mg X.base CX k g fd ps sp) (hr : Room k X.A) (hb : Binds X.K fd ps []) (hx : Passes CX X E) : OpR X (compareOp .Eq) (rEqO X.K C sp E) := by
  intro pins s σ H x y v u Q I rx ry h
  obtain ⟨a, dx, fs, t, rfl, ha, ty, hn, q⟩ := h
  cases (show v = Value.ref a from rx)
  obtain ⟨mA, J, _⟩ := ins_get I.hok ha
  obtain ⟨od, J, _⟩ := J.look
  obtain ⟨P, Z, p, _⟩ := kit_of I ry ty
  obtain ⟨m, hF⟩ := I.fr
  have G := F.raw hb (.nil)
  show wpAny (model X.prog X.w) X.A (richCompare .Eq (.ref a) u) (EP X pins σ Q) X.xe s
  refine PySem.W.cmp_K (op := .Eq) (tb := t) hr.units0 hF I.ok.mod.kin J (Z.ty _ _ I.kIn p) hn M.at_ M.fn ?_
  have run := wpAny_call (run_fnR (Q := Q) (us := [.ref a, u]) (vs := [.ref a, y]) G hr hx I (.cons rfl (.cons ry .nil)) q)
  refine wpAny_mono run (fun w s' z => ?_) fun _ _ x => x
  obtain ⟨z', H', I', rz, qz⟩ := z
  exact SlX.cmpback rz ⟨z', H', I', rz, qz⟩
theorem op_neO (M : Meth X.K C "__eq__" g) (ho : mroIn X.K C (.type "object") = some true) (hne : findIn X.K (.ref C) "__ne__" = some (some (.builtin "object.__ne__"))) (F : FnOk X.prog X.w X.K X.mg X.base CX k g fd ps sp) (hr : Room (k + 1) X.A) (hb : Binds X.K fd ps []) (hx : Passes CX X E) : OpR X (compareOp .NotEq) (rNeO X.K C sp E) := by
  intro pins s σ H x y v u Q I rx ry h
  obtain ⟨a, dx, fs, t, rfl, ha, ty, hn, q⟩ := h
  cases (show v = Value.ref a from rx)
  obtain ⟨mA, J, _⟩ := ins_get I.hok ha
  obtain ⟨od, J, _⟩ := J.look
  obtain ⟨P, Z, p, _⟩ := kit_of I ry ty
  obtain ⟨m, hF⟩ := I.fr
  have G := F.raw hb (.nil)
  show wpAny (model X.prog X.w) X.A (richCompare .NotEq (.ref a) u) (EP X pins σ Q) X.xe s
  refine cmp_ne (tb := t) (by have := hr.in1.units0; exact this) hF I.ok.mod.kin J (Z.ty _ _ I.kIn p) hn ho M.at_ M.fn hne ?_
  have run := wpAny_call (SlX.run_at (Q := fun z H' => ∃ b, z = .bl b ∧ Q (.bl (!b)) H') (us := [.ref a, u]) (ws := [.ref a, y]) G hr.in1 I.env0.in1 hx I (.cons rfl (.cons ry .nil)) q)
  refine wpAny_mono run (fun w s' z => ?_) fun _ _ x => x
  obtain ⟨z', H', I', rz, b, eb, qz⟩ := z
  subst eb
  cases (show w = Value.bool b from rz)
  exact ⟨b, rfl, .bl (!b), H', I', rfl, qz⟩
/-- the i-th slot holds the class at C -/
def tMakeL (i : Nat) (C : Addr) (sp : Sp) (dvs : List V) (E : XK) (t : TA) : TE := fun σ H Q => σ[i]? = some (some (.ref C)) ∧ tMake C sp dvs E t σ H Q
theorem pe_makeL {i : Nat} {x : Str} {p pos : Pos} {e : Expr} {es : List Expr} {t : TA} {ds : List Value} {dvs : List V} (M : Mk X.K C g) (F : FnOk X.prog X.w X.K X.mg X.base CX k g fd ps sp) (hr : Room (k + 1) X.A) (hN : X.N[i]? = some x) (hv : Vis X.env.scope x) (hb : Binds X.K fd ps ds) (hd : Vals dvs ds) (hx : Passes CX X E)
    (ha : PA X (e :: es) t) (hdb : (x == ("__debug__" : Str)) = false := by decide) (hcd : (x == ("__classdict__" : Str)) = false := by decide) (he : starEach (e :: es) X.env = (false, eval e X.env) :: starEach es X.env := by rfl) (hpl : (backTo pos (starEach es X.env)).any (·.1) = false := by rfl) :
    PE X (.Call (.Name x p) (e :: es) [] pos) (tMakeL i C sp dvs E t) := by
  refine ⟨fun pins s σ H Q I h => ?_⟩
  obtain ⟨hs, ht⟩ := h
  refine wpAny_Call_Name_kw (thn ((pe_var (pos := p) hN hv hdb hcd).run pins s σ H (fun v H1 => v = .ref C ∧ H1 = H) I ⟨.ref C, hs, rfl, rfl⟩) fun u s1 ⟨v, H1, I1, r1, q1⟩ => ?_)
  obtain ⟨rfl, rfl⟩ := q1
  cases r1
  refine PySem.W.callWith_K (h₀ := X.base) I.ok.mod.kin M.kp (thn (ha.run pos pins s1 σ _ _ I1 ht) fun us s2 ⟨vs, H2, I2, r, q⟩ => ⟨I2.kIn, ?_⟩) he hpl
  exact run_make M F hr hb hd hx I2 r q
theorem pe_cmethF {o e : Expr} {es : List Expr} {m : Str} {pos apos : Pos} {ta : TE} {t : TA} {pl : Sem Bool} {mc : Value} {p : Addr} {ds : List Value} {dvs : List V} (he : PE X o ta) (r : ClX.CRead X.K C mc) (c : ClX.CMet X.K C mc m p g) (F : FnOk X.prog X.w X.K X.mg X.base CX k g fd ps sp) (hr : Room k X.A) (hb : Binds X.K fd ps ds) (hd : Vals dvs ds) (hx : Passes CX X E) (ha : PA X (e :: es) t)
    (hst : starEach (e :: es) X.env = (false, eval e X.env) :: starEach es X.env := by rfl) (hpl : (backTo pos (starEach es X.env)).any (·.1) = false := by rfl)
    (ht : eval (.Call (.Attribute o m apos) (e :: es) [] pos) X.env = (do
      let ov ← eval o X.env
      standAt apos.atName
      let (f, first) ← holding [ov] (getMethod ov m pl)
      callWith pos f first (backTo pos (starEach (e :: es) X.env)) (backToKw pos (keywordEach [] X.env))) := by rfl) :
    PE X (.Call (.Attribute o m apos) (e :: es) [] pos) (ClX.tCMeth C (fun vs H Q E => sp (vs ++ dvs) H Q E) E ta t) := ClX.pe_cmeth he r c (F.raw hb hd) hr hx ha hst hpl ht
end
end LX

/-! more steps -/
namespace LX
open PySem L2
theorem pgor {X : Cx} {e : Expr} {t u : V → L2.St → Hp → (L2.St → Hp → Prop) → Prop} (h1 : PG X e t) (h2 : PG X e u) : PG X e (fun v σ H Q => t v σ H Q ∨ u v σ H Q) :=
  ⟨fun a1 a2 a3 a4 a5 a6 a7 a8 a9 w => w.elim (h1.run a1 a2 a3 a4 a5 a6 a7 a8 a9) (h2.run a1 a2 a3 a4 a5 a6 a7 a8 a9)⟩
end LX
namespace LS
open PySem L2 LT LG LP LX
section
variable {σ : L2.St} {H : Hp} {Q : VK}
def kG2 (QR : Int → Int → Hp → Prop) (x : V) : VK := fun y H2 => ∃ i j, x = .int i ∧ y = .int j ∧ QR i j H2
theorem trg2 {ta tb : TE} {QR : Int → Int → Hp → Prop} (h : ta σ H fun x H1 => tb σ H1 (kG2 QR x)) : tRg2 ta tb σ H QR := h
theorem k_g2 {i j : Int} {QR : Int → Int → Hp → Prop} (q : QR i j H) : kG2 QR (.int i) (.int j) H := ⟨i, j, rfl, rfl, q⟩
theorem k_lr2 {a b : Int} (ok : RgOk a b) (k : ∀ (p : Addr) (H' : Hp), H p = none → Same H H' → H' p = some (.lst (rgV a b)) → Q (.ref p) H') : kLR Q a b H :=
  ⟨ok, fun p np => k p _ np (same_upd np) upd_same⟩
theorem expn_join {c : Prop} [Decidable c] {ta tb : TE} (A : V → Hp → Prop) (h1 : ¬ c → ∀ Q' : VK, (∀ v H', A v H' → Q' v H') → ta σ H Q') (h2 : c → ∀ Q' : VK, (∀ v H', A v H' → Q' v H') → tb σ H Q')
    (k : ∀ v H', A v H' → Q v H') : if (!decide c) = true then ta σ H Q else tb σ H Q := by
  by_cases hc : c
  · rw [decide_eq_true hc]
    exact LS.ifnt (h2 hc Q k)
  · rw [decide_eq_false hc]
    exact LS.ifnf (h1 hc Q k)
theorem ifs_cut {c : TT} {t u : TS} {D : Ends} (A : Bool → Hp → Prop) (h1 : ∀ Qb : Bool → Hp → Prop, (∀ b H', A b H' → Qb b H') → c σ H Qb) (ht : ∀ H', A true H' → t D σ H') (hf : ∀ H', A false H' → u D σ H') : tIfS c t u D σ H :=
  h1 _ fun b H' h => by
    cases b with
    | true => exact LS.ift (ht H' h)
    | false => exact LS.iff_ (hf H' h)
theorem rlist_t {K : PySem.W.Frag} {a : Addr} {xs : List V} (h : SqT K H a xs) (k : ∀ (p : Addr) (H' : Hp), H p = none → Same H H' → H' p = some (.lst xs) → Q (.ref p) H') : rListOf K [.ref a] H Q := ⟨a, xs, rfl, .inr h, fun l nl => k l _ nl (same_upd nl) upd_same⟩
/-- a pair from a list or a tuple -/
theorem gorE {K : PySem.W.Frag} {n : Nat} {t : TGs} {a : Addr} {xs : List V} {QG : L2.St → Hp → Prop} (h : SqE K H a xs) (hn : xs.length = n) (q : t xs σ H QG) : gTup K n t (.ref a) σ H QG ∨ gUnl K n t (.ref a) σ H QG :=
  h.elim (fun h => .inr (gunl h hn q)) fun h => .inl (gtup h hn q)
end
end LS
namespace LP
open PySem L2 LT LG LX
theorem or_enumE0 {K : PySem.W.Frag} {H0 H : Hp} {a : Addr} {xs : List V} {σ : St} {R : It → Hp → Prop} {ta : TA} (hE : SqE K H0 a xs) (s0 : Same H0 H) (hv : ∀ Q : List V → Hp → Prop, Q [.ref a] H → ta σ H Q)
    (k : ∀ (J : It) (G : Hp → Prop), Walk J xs.length G (YPair (fun i => some (.int (i : Nat))) (fun i => xs[i]?)) → (∀ H', Same H0 H' → G H') → R J H) :
    iEnum K ta σ H R ∨ iEnumT K ta σ H R := by
  rcases hE with h | h
  · exact .inl (hv _ ⟨a, xs, rfl, s0.seq h, k _ _ walk_enum fun H' s => s.seq h⟩)
  · exact .inr (hv _ ⟨a, xs, rfl, same_tup s0 h, k _ _ walk_enumT fun H' s => same_tup s h⟩)
end LP

/-! a dict of the module with text keys; a local that holds one of several defs -/
namespace LX
open PySem PySem.Spec PyProof.Rows L2
def keyS : Value → Str
  | .str x _ => x
  | _ => ⟨#[]⟩
/-- the written dict at d: its keys and values -/
structure WDict (K : PySem.W.Frag) (w : World) (d : Addr) (kvs : List (Str × Value)) : Prop where
  ex : ∃ es n, KDict K w d es n ∧ es.toList.map (fun e => (keyS e.key, e.val)) = kvs
theorem wd_find {w : World} (z : Str) : ∀ l : List DictEntry, PySem.W.KeysLit w.params l → (l.find? fun e => e.key.isStr z).map (·.val) = (l.map fun e => (keyS e.key, e.val)).lookup z
  | [], _ => rfl
  | e :: r, ⟨⟨x, t, hk, _⟩, hr⟩ => by
    have ih := wd_find z r hr
    rw [List.find?_cons, List.map_cons, List.lookup_cons]
    have e1 : e.key.isStr z = (z == x) := by
      rw [hk, PySem.W.isStr_of]
      show (x == z) = (z == x)
      exact BEq.comm
    rw [e1, hk]
    show Option.map _ (match z == x with | true => some e | false => _) = match z == x with | true => some e.val | false => _
    cases z == x with
    | true => rfl
    | false => exact ih
theorem wd_any {w : World} : ∀ l : List DictEntry, PySem.W.KeysLit w.params l → l.any (·.refKey) = false
  | [], _ => rfl
  | e :: r, ⟨⟨x, t, hk, _⟩, hr⟩ => by
    rw [List.any_cons, wd_any r hr]
    have : e.refKey = false := by
      unfold DictEntry.refKey
      rw [hk]
    rw [this]; rfl
theorem WDict.ns {K : PySem.W.Frag} {w : World} {d : Addr} {kvs : List (Str × Value)} (D : WDict K w d kvs) (z : Str) : PySem.W.nsIn K d z = some (kvs.lookup z) := by
  obtain ⟨es, n, k, e⟩ := D.ex
  unfold PySem.W.nsIn
  rw [k.at_]
  dsimp only
  have h := wd_find z es.toList k.lit
  rw [e] at h
  rw [← h, wd_any es.toList k.lit]
  cases es.toList.find? (fun e => e.key.isStr z) <;> rfl
theorem WDict.kdct {K : PySem.W.Frag} {w : World} {d : Addr} {kvs : List (Str × Value)} (D : WDict K w d kvs) {z : Str} {u : Value} {v : V} (h : kvs.lookup z = some u) (r : RelV v u) : KDct K w d z v := by
  obtain ⟨es, n, k, e⟩ := D.ex
  exact ⟨es, n, u, k.at_, k.lit, by rw [D.ns, h], r⟩
def rInW (d : Addr) (kvs : List (Str × Value)) (neg : Bool) : R2 := fun x y H Q => ∃ z, x = .str z ∧ y = .ref d ∧ Q (.bl ((kvs.lookup z).isSome != neg)) H
section
variable {X : Cx} {d : Addr} {kvs : List (Str × Value)}
theorem op_inW (D : WDict X.K X.w d kvs) : OpR X (compareOp .In) (rInW d kvs false) := by
  obtain ⟨es, n, k, e⟩ := D.ex
  intro pins s σ H x y v u Q I rx ry h
  obtain ⟨z, rfl, rfl, q⟩ := h
  refine op_in_kd k pins s σ H _ _ v u Q I rx ry ⟨z, _, rfl, rfl, D.ns z, ?_⟩
  rw [Bool.bne_false] at q
  exact q
theorem op_notInW (D : WDict X.K X.w d kvs) : OpR X (compareOp .NotIn) (rInW d kvs true) := by
  obtain ⟨es, n, k, e⟩ := D.ex
  intro pins s σ H x y v u Q I rx ry h
  obtain ⟨z, rfl, rfl, q⟩ := h
  refine op_notIn_kd k pins s σ H _ _ v u Q I rx ry ⟨z, _, rfl, rfl, D.ns z, ?_⟩
  rw [Bool.bne_true] at q
  exact q
end
/-- the defs that a local may hold, each with its promise -/
inductive HeldL (P : Program) (w : World) (K : PySem.W.Frag) (mg : Str → Option Value) (base : Heap) (k : Nat) : List (Addr × Sp) → Prop
  | nil : HeldL P w K mg base k []
  | cons {f : Addr} {fd : FuncData} {ps : List Str} {sp : Sp} {r : List (Addr × Sp)} (F : FnOk P w K mg base (fun _ _ _ _ _ _ => False) k f fd ps sp) (hk : PySem.W.keepIn K (.ref f) = true) (hb : Binds K fd ps []) (t : HeldL P w K mg base k r) : HeldL P w K mg base k ((f, sp) :: r)
theorem HeldL.at {P : Program} {w : World} {K : PySem.W.Frag} {mg : Str → Option Value} {base : Heap} {k : Nat} {L : List (Addr × Sp)} (h : HeldL P w K mg base k L) : ∀ {j : Nat} {f : Addr} {sp : Sp}, L[j]? = some (f, sp) → Held P w K mg base k f sp := by
  induction h with
  | nil => intro j f sp e; simp at e
  | cons F hk hb t ih =>
    intro j f sp e
    cases j with
    | zero => cases e; exact ⟨⟨_, _, F, hk, hb⟩⟩
    | succ j => exact ih e
def tCallR (i : Nat) (L : List (Addr × Sp)) (t : TA) : TE := fun σ H Q => ∃ (j : Nat) (f : Addr) (sp : Sp), L[j]? = some (f, sp) ∧ σ[i]? = some (some (.ref f)) ∧ t σ H fun vs H1 => sp vs H1 Q (fun _ _ _ => False)
theorem pe_callR {X : Cx} {k i : Nat} {L : List (Addr × Sp)} {x : Str} {p pos : Pos} {e : Expr} {es : List Expr} {t : TA} (A : HeldL X.prog X.w X.K X.mg X.base k L) (hr : Room k X.A) (hN : X.N[i]? = some x) (hv : Vis X.env.scope x) (ha : PA X (e :: es) t)
    (hdb : (x == ("__debug__" : Str)) = false := by decide) (hcd : (x == ("__classdict__" : Str)) = false := by decide)
    (he : starEach (e :: es) X.env = (false, eval e X.env) :: starEach es X.env := by rfl) (hpl : (backTo pos (starEach es X.env)).any (·.1) = false := by rfl) : PE X (.Call (.Name x p) (e :: es) [] pos) (tCallR i L t) := by
  refine ⟨fun pins s σ H Q I h => ?_⟩
  obtain ⟨j, f, sp, hj, hs, ht⟩ := h
  obtain ⟨fd, ps, F, hk, hb⟩ := (A.at hj).ex
  refine (pe_callL (i := i) (f := f) (sp := sp) (dvs := []) (E := fun _ _ _ => False) F hr hN hv hk hb .nil (fun _ _ _ _ _ _ _ z => z.elim) ha hdb hcd he hpl).run pins s σ H Q I ⟨hs, ?_⟩
  have e0 : (fun (vs : List V) (H1 : Hp) => sp (vs ++ []) H1 Q (fun _ _ _ => False)) = fun vs H1 => sp vs H1 Q (fun _ _ _ => False) := by
    funext vs H1
    rw [List.append_nil]
  show t σ H (fun vs H1 => sp (vs ++ []) H1 Q (fun _ _ _ => False))
  rw [e0]
  exact ht
/-- x.partition(y) -/
def rPart : V → List V → Hp → VK → Prop := fun x xs H Q => ∃ a b, x = .str a ∧ xs = [.str b] ∧ (b.length == 0) = false ∧ a.length ≤ sizeLine ∧
    ∀ p, H p = none → Q (.ref p) (upd H p (.tup [.str (Txt.partition a b).1, .str (Txt.partition a b).2.1, .str (Txt.partition a b).2.2]))
theorem mt_partN {X : Cx} : MtR X "str.partition" rPart := L2.mt_partition
end LX

/-! defs that raise: a call of one of several by a subscript; what is raised where nothing is held -/
namespace LX
open PySem PySem.Spec PyProof.Rows L2
/-- defs in a list, each with its promise -/
inductive HeldX (P : Program) (w : World) (K : PySem.W.Frag) (mg : Str → Option Value) (base : Heap) (CX : CXT) (k : Nat) : List (Addr × Sp) → Prop
  | nil : HeldX P w K mg base CX k []
  | cons {f : Addr} {fd : FuncData} {ps : List Str} {sp : Sp} {r : List (Addr × Sp)} (F : FnOk P w K mg base CX k f fd ps sp) (hk : PySem.W.keepIn K (.ref f) = true) (hb : Binds K fd ps []) (t : HeldX P w K mg base CX k r) : HeldX P w K mg base CX k ((f, sp) :: r)
theorem HeldX.at {P : Program} {w : World} {K : PySem.W.Frag} {mg : Str → Option Value} {base : Heap} {CX : CXT} {k : Nat} {L : List (Addr × Sp)} (h : HeldX P w K mg base CX k L) : ∀ {j : Nat} {f : Addr} {sp : Sp}, L[j]? = some (f, sp) → ∃ (fd : FuncData) (ps : List Str), FnOk P w K mg base CX k f fd ps sp ∧ PySem.W.keepIn K (.ref f) = true ∧ Binds K fd ps [] := by
  induction h with
  | nil => intro j f sp e; simp at e
  | cons F hk hb t ih =>
    intro j f sp e
    cases j with
    | zero => cases e; exact ⟨_, _, F, hk, hb⟩
    | succ j => exact ih e
def kCE (L : List (Addr × Sp)) (E : L2.St → XK) (t : TA) (σ : L2.St) (Q : VK) : VK := fun v H1 => ∃ (j : Nat) (f : Addr) (sp : Sp), L[j]? = some (f, sp) ∧ v = .ref f ∧ t σ H1 fun vs H2 => sp vs H2 Q (E σ)
def tCallE (tf : TE) (L : List (Addr × Sp)) (E : L2.St → XK) (t : TA) : TE := fun σ H Q => tf σ H (kCE L E t σ Q)
theorem pe_callE {X : Cx} {CX : CXT} {k : Nat} {L : List (Addr × Sp)} {E : L2.St → XK} {o i : Expr} {p pos : Pos} {e : Expr} {es : List Expr} {tf : TE} {t : TA} (A : HeldX X.prog X.w X.K X.mg X.base CX k L) (hf : PE X (.Subscript o i p) tf) (hr : Room k X.A) (hx : ∀ σ, PassesAt CX X σ (E σ)) (ha : PA X (e :: es) t)
    (he : starEach (e :: es) X.env = (false, eval e X.env) :: starEach es X.env := by rfl) (hpl : (backTo pos (starEach es X.env)).any (·.1) = false := by rfl) : PE X (.Call (.Subscript o i p) (e :: es) [] pos) (tCallE tf L E t) := by
  refine ⟨fun pins s σ H Q I h => ?_⟩
  show wpAny _ _ (eval (.Subscript o i p) X.env >>= fun f => callWith pos f [] (backTo pos (starEach (e :: es) X.env)) (backToKw pos (keywordEach [] X.env))) _ _ _
  refine wpAny_bind (thn (hf.run pins s σ H _ I h) fun u s1 hh => ?_)
  obtain ⟨v, H1, I1, r1, j, f, sp, hj, ev, ht⟩ := hh
  subst ev
  cases r1
  obtain ⟨fd, ps, F, hk, hb⟩ := A.at hj
  refine PySem.W.callWith_K (h₀ := X.base) I.ok.mod.kin hk (thn (ha.run pos pins s1 σ _ _ I1 ht) fun us s2 hh => ?_) he hpl
  obtain ⟨vs, H2, I2, r, q⟩ := hh
  exact ⟨I2.kIn, run_fnS F hr hb (hx σ) I2 r q⟩
/-- an error of the class at S is what 'except C' names -/
theorem exm_mk {K : PySem.W.Frag} {S C : Addr} (h1 : PySem.W.subIn K (.ref C) (.type "BaseException") = some true) (h2 : PySem.W.isClsIn K C = true) (h3 : PySem.W.typeIn K (.ref C) = some (.type "type")) {b : Bool} (h4 : PySem.W.subIn K (.ref S) (.ref C) = some b) :
    PySem.W.exmOne K (.ref S) (.ref C) = some b := by
  have e1 : (PySem.W.subIn K (.ref C) (.type "BaseException") == some true) = true := by rw [h1] <;> rfl
  have e2 : ((PySem.W.clsIn K C).isSome && PySem.W.typeIn K (.ref C) == some (.type "type")) = true := by
    have h2' : (PySem.W.clsIn K C).isSome = true := h2
    rw [h2', h3] <;> rfl
  show (if (PySem.W.subIn K (.ref C) (.type "BaseException") == some true) = true then (if ((PySem.W.clsIn K C).isSome && PySem.W.typeIn K (.ref C) == some (.type "type")) = true then PySem.W.subIn K (.ref S) (.ref C) else none) else none) = some b
  rw [if_pos e1, if_pos e2]
  exact h4
/-- what is true of an own error class that holds nothing: C, its name in the module, its maker -/
structure ErrC (K : PySem.W.Frag) (C : Addr) : Prop where
  x : PySem.W.excIn K C [.type "ValueError", .type "Exception", .type "BaseException", .type "object"] "ValueError.__new__" = true
  k : PySem.W.keepIn K (.ref C) = true
  b : PySem.W.subIn K (.ref C) (.type "BaseException") = some true
  t : PySem.W.typeIn K (.ref C) = some (.type "type")
theorem ErrC.r {X : Cx} {C : Addr} (e : ErrC X.K C) : Raises X (.ref C) := raises_own e.b e.t
end LX
namespace LS
open PySem PySem.Spec PyProof.Rows L2 LX
section
variable {σ : L2.St} {H : Hp} {Q : VK} {D : Ends} {K : PySem.W.Frag}
theorem tcalle {tf : TE} {L : List (Addr × Sp)} {E : L2.St → XK} {t : TA} (h : tf σ H (kCE L E t σ Q)) : tCallE tf L E t σ H Q := h
theorem k_ce {L : List (Addr × Sp)} {E : L2.St → XK} {t : TA} {j : Nat} {f : Addr} {sp : Sp} (e : L[j]? = some (f, sp)) (q : t σ H fun vs H2 => sp vs H2 Q (E σ)) : kCE L E t σ Q (.ref f) H := ⟨j, f, sp, e, rfl, q⟩
theorem tcalls {sp : Sp} {E : L2.St → XK} {t : TA} (h : t σ H fun vs H1 => sp vs H1 Q (E σ)) : tCallS sp E t σ H Q := h
theorem w_yes {c cls : Value} {ts : Addr → Value → Option Addr → TS} {W : WX} {d : Option Addr} (h : PySem.W.exmOne K cls c = some true) (q : ∀ a, H a = none → ts a cls d D σ H) : wOnly K c ts W D cls d σ H := ⟨true, h, fun _ a na => q a na, fun z => nomatch z⟩
end
end LS

namespace LT
end LT
namespace LG
end LG
namespace LQ
end LQ
namespace LH
end LH
namespace LC
end LC
namespace LX
end LX
namespace LR
end LR
namespace LP
open PySem L2 LT LG LQ LH LC LX
def topS (i : Nat) : Stmt := PySem.Challenge.pw_leftreturn_k31_parking_functions.main.body.getD i (.Pass ⟨0, 0, 0, 0⟩)
abbrev s_is_whole : Stmt := topS 9
abbrev s_is_listed : Stmt := topS 10
abbrev s_is_number : Stmt := topS 11
abbrev s_is_place : Stmt := topS 12
abbrev s_is_place_list : Stmt := topS 13
abbrev s_check_places : Stmt := topS 14
abbrev s_stretch_lengths : Stmt := topS 16
abbrev s_check_offsets : Stmt := topS 17
abbrev s_takes_by : Stmt := topS 18
abbrev s_number_with : Stmt := topS 19
abbrev s_is_parking : Stmt := topS 21
abbrev s_check_wishes : Stmt := topS 22
abbrev s_cars_parked : Stmt := topS 23
abbrev s_first_fills : Stmt := topS 24
abbrev s_pair_of : Stmt := topS 25
abbrev s_code_bases : Stmt := topS 26
abbrev s_wishes_index : Stmt := topS 27
abbrev s__law_spring : Stmt := topS 29
abbrev s__law_draw : Stmt := topS 30
abbrev s__law_same : Stmt := topS 31
abbrev s__law_dressed : Stmt := topS 32
abbrev s__law_mixed : Stmt := topS 33
abbrev s__law_parked : Stmt := topS 35
abbrev s__law_parking : Stmt := topS 36
abbrev s__law_all : Stmt := topS 37
abbrev s__law_refused : Stmt := topS 38
abbrev s__law_right : Stmt := topS 39
abbrev s__law_odd_right : Stmt := topS 40
abbrev s_law : Stmt := topS 41
theorem sc_is_whole : FnScope ["value"] ["value"] (defScope s_is_whole) := ⟨rfl, rfl, rfl, by decide +kernel, rfl, by decide +kernel, by decide +kernel⟩
theorem sc_is_listed : FnScope ["value"] ["value"] (defScope s_is_listed) := ⟨rfl, rfl, rfl, by decide +kernel, rfl, by decide +kernel, by decide +kernel⟩
theorem sc_is_number : FnScope ["value", "count"] ["value", "count"] (defScope s_is_number) := ⟨rfl, rfl, rfl, by decide +kernel, rfl, by decide +kernel, by decide +kernel⟩
theorem sc_is_place : FnScope ["value"] ["value"] (defScope s_is_place) := ⟨rfl, rfl, rfl, by decide +kernel, rfl, by decide +kernel, by decide +kernel⟩
theorem sc_is_place_list : FnScope ["value", "item"] ["value"] (defScope s_is_place_list) := ⟨rfl, rfl, rfl, by decide +kernel, rfl, by decide +kernel, by decide +kernel⟩
theorem sc_check_places : FnScope ["value"] ["value"] (defScope s_check_places) := ⟨rfl, rfl, rfl, by decide +kernel, rfl, by decide +kernel, by decide +kernel⟩
theorem sc_stretch_lengths : FnScope ["fills", "lengths", "number", "place", "length"] ["fills"] (defScope s_stretch_lengths) := ⟨rfl, rfl, rfl, by decide +kernel, rfl, by decide +kernel, by decide +kernel⟩
theorem sc_check_offsets : FnScope ["value", "lengths", "offset", "length"] ["value", "lengths"] (defScope s_check_offsets) := ⟨rfl, rfl, rfl, by decide +kernel, rfl, by decide +kernel, by decide +kernel⟩
theorem sc_takes_by : FnScope ["fills", "offsets", "lengths", "takes", "place", "length", "offset"] ["fills", "offsets"] (defScope s_takes_by) := ⟨rfl, rfl, rfl, by decide +kernel, rfl, by decide +kernel, by decide +kernel⟩
theorem sc_number_with : FnScope ["digits", "bases", "number", "digit", "base"] ["digits", "bases"] (defScope s_number_with) := ⟨rfl, rfl, rfl, by decide +kernel, rfl, by decide +kernel, by decide +kernel⟩
theorem sc_is_parking : FnScope ["value", "wish", "spot"] ["value"] (defScope s_is_parking) := ⟨rfl, rfl, rfl, by decide +kernel, rfl, by decide +kernel, by decide +kernel⟩
theorem sc_check_wishes : FnScope ["value"] ["value"] (defScope s_check_wishes) := ⟨rfl, rfl, rfl, by decide +kernel, rfl, by decide +kernel, by decide +kernel⟩
theorem sc_cars_parked : FnScope ["wishes", "cars", "car", "wish", "spot"] ["wishes"] (defScope s_cars_parked) := ⟨rfl, rfl, rfl, by decide +kernel, rfl, by decide +kernel, by decide +kernel⟩
theorem sc_first_fills : FnScope ["fills", "number", "length"] ["fills"] (defScope s_first_fills) := ⟨rfl, rfl, rfl, by decide +kernel, rfl, by decide +kernel, by decide +kernel⟩
theorem sc_pair_of : FnScope ["wishes", "fills", "offsets", "car", "first"] ["wishes"] (defScope s_pair_of) := ⟨rfl, rfl, rfl, by decide +kernel, rfl, by decide +kernel, by decide +kernel⟩
theorem sc_code_bases : FnScope ["size"] ["size"] (defScope s_code_bases) := ⟨rfl, rfl, rfl, by decide +kernel, rfl, by decide +kernel, by decide +kernel⟩
theorem sc_wishes_index : FnScope ["wishes", "size", "code", "wish"] ["wishes"] (defScope s_wishes_index) := ⟨rfl, rfl, rfl, by decide +kernel, rfl, by decide +kernel, by decide +kernel⟩
theorem sc__law_spring : FnScope ["script", "digits", "seed", "cell"] ["script"] (defScope s__law_spring) := ⟨rfl, rfl, rfl, by decide +kernel, rfl, by decide +kernel, by decide +kernel⟩
theorem sc__law_draw : FnScope ["spring", "many", "found", "mix"] ["spring", "many"] (defScope s__law_draw) := ⟨rfl, rfl, rfl, by decide +kernel, rfl, by decide +kernel, by decide +kernel⟩
theorem sc__law_same : FnScope ["found", "due", "k"] ["found", "due"] (defScope s__law_same) := ⟨rfl, rfl, rfl, by decide +kernel, rfl, by decide +kernel, by decide +kernel⟩
theorem sc__law_dressed : FnScope ["spring", "value", "parts", "part"] ["spring", "value"] (defScope s__law_dressed) := ⟨rfl, rfl, rfl, by decide +kernel, rfl, by decide +kernel, by decide +kernel⟩
theorem sc__law_mixed : FnScope ["spring", "row", "left", "k"] ["spring", "row"] (defScope s__law_mixed) := ⟨rfl, rfl, rfl, by decide +kernel, rfl, by decide +kernel, by decide +kernel⟩
theorem sc__law_parked : FnScope ["wishes", "spots", "car", "wish", "free", "spot"] ["wishes"] (defScope s__law_parked) := ⟨rfl, rfl, rfl, by decide +kernel, rfl, by decide +kernel, by decide +kernel⟩
theorem sc__law_parking : FnScope ["spring", "size", "style", "wishes", "spot"] ["spring", "size"] (defScope s__law_parking) := ⟨rfl, rfl, rfl, by decide +kernel, rfl, by decide +kernel, by decide +kernel⟩
theorem sc__law_all : FnScope ["size", "found", "k", "longer", "row", "number"] ["size"] (defScope s__law_all) := ⟨rfl, rfl, rfl, by decide +kernel, rfl, by decide +kernel, by decide +kernel⟩
theorem sc__law_refused : FnScope ["wishes", "way"] ["wishes", "way"] (defScope s__law_refused) := ⟨rfl, rfl, rfl, by decide +kernel, rfl, by decide +kernel, by decide +kernel⟩
theorem sc__law_right : FnScope ["spring", "wishes", "due", "handed", "before", "again", "found", "way"] ["spring", "wishes"] (defScope s__law_right) := ⟨rfl, rfl, rfl, by decide +kernel, rfl, by decide +kernel, by decide +kernel⟩
theorem sc__law_odd_right : FnScope ["spring", "wishes", "at", "odd", "others", "value"] ["spring", "wishes"] (defScope s__law_odd_right) := ⟨rfl, rfl, rfl, by decide +kernel, rfl, by decide +kernel, by decide +kernel⟩
theorem sc_law : FnScope ["script", "spring", "wishes", "turn", "again", "at"] ["script"] (defScope s_law) := ⟨rfl, rfl, rfl, by decide +kernel, rfl, by decide +kernel, by decide +kernel⟩
structure Env (K : PySem.W.Frag) (mg : Str → Option Value) where
  n_len : mg "len" = none
  n_range : mg "range" = none
  n_list : mg "list" = none
  n_tuple : mg "tuple" = none
  n_int : mg "int" = none
  n_bool : mg "bool" = none
  n_str : mg "str" = none
  n_isinstance : mg "isinstance" = none
  n_min : mg "min" = none
  n_max : mg "max" = none
  n_set : mg "set" = none
  n_all : mg "all" = none
  n_zip : mg "zip" = none
  n_abs : mg "abs" = none
  n_sorted : mg "sorted" = none
  n_enumerate : mg "enumerate" = none
  n_repr : mg "repr" = none
  t_MOST_SIZE : Tok
  g_MOST_SIZE : mg "MOST_SIZE" = some (.int 200 t_MOST_SIZE)
  t_MOST_PLACES : Tok
  g_MOST_PLACES : mg "MOST_PLACES" = some (.int 200 t_MOST_PLACES)
  t_GREATEST_PLACE : Tok
  g_GREATEST_PLACE : mg "GREATEST_PLACE" = some (.int 1000000000000000000000000000000 t_GREATEST_PLACE)
  C_InvalidWishes : Addr
  g_InvalidWishes : mg "InvalidWishes" = some (.ref C_InvalidWishes)
  e_InvalidWishes : LX.ErrC K C_InvalidWishes
  te_InvalidWishes_InvalidWishes : PySem.W.exmOne K (.ref C_InvalidWishes) (.ref C_InvalidWishes) = some true
  a_is_whole : Addr
  d_is_whole : FuncData
  f_is_whole : Fun K "is_whole" "is_whole" s_is_whole a_is_whole d_is_whole
  b_is_whole : Binds K d_is_whole ["value"] []
  g_is_whole : mg "is_whole" = some (.ref a_is_whole)
  a_is_listed : Addr
  d_is_listed : FuncData
  f_is_listed : Fun K "is_listed" "is_listed" s_is_listed a_is_listed d_is_listed
  b_is_listed : Binds K d_is_listed ["value"] []
  g_is_listed : mg "is_listed" = some (.ref a_is_listed)
  a_is_number : Addr
  d_is_number : FuncData
  f_is_number : Fun K "is_number" "is_number" s_is_number a_is_number d_is_number
  b_is_number : Binds K d_is_number ["value", "count"] []
  g_is_number : mg "is_number" = some (.ref a_is_number)
  a_is_place : Addr
  d_is_place : FuncData
  f_is_place : Fun K "is_place" "is_place" s_is_place a_is_place d_is_place
  b_is_place : Binds K d_is_place ["value"] []
  g_is_place : mg "is_place" = some (.ref a_is_place)
  a_is_place_list : Addr
  d_is_place_list : FuncData
  f_is_place_list : Fun K "is_place_list" "is_place_list" s_is_place_list a_is_place_list d_is_place_list
  b_is_place_list : Binds K d_is_place_list ["value"] []
  g_is_place_list : mg "is_place_list" = some (.ref a_is_place_list)
  a_check_places : Addr
  d_check_places : FuncData
  f_check_places : Fun K "check_places" "check_places" s_check_places a_check_places d_check_places
  b_check_places : Binds K d_check_places ["value"] []
  g_check_places : mg "check_places" = some (.ref a_check_places)
  a_stretch_lengths : Addr
  d_stretch_lengths : FuncData
  f_stretch_lengths : Fun K "stretch_lengths" "stretch_lengths" s_stretch_lengths a_stretch_lengths d_stretch_lengths
  b_stretch_lengths : Binds K d_stretch_lengths ["fills"] []
  g_stretch_lengths : mg "stretch_lengths" = some (.ref a_stretch_lengths)
  a_check_offsets : Addr
  d_check_offsets : FuncData
  f_check_offsets : Fun K "check_offsets" "check_offsets" s_check_offsets a_check_offsets d_check_offsets
  b_check_offsets : Binds K d_check_offsets ["value", "lengths"] []
  g_check_offsets : mg "check_offsets" = some (.ref a_check_offsets)
  a_takes_by : Addr
  d_takes_by : FuncData
  f_takes_by : Fun K "takes_by" "takes_by" s_takes_by a_takes_by d_takes_by
  b_takes_by : Binds K d_takes_by ["fills", "offsets"] []
  g_takes_by : mg "takes_by" = some (.ref a_takes_by)
  a_number_with : Addr
  d_number_with : FuncData
  f_number_with : Fun K "number_with" "number_with" s_number_with a_number_with d_number_with
  b_number_with : Binds K d_number_with ["digits", "bases"] []
  g_number_with : mg "number_with" = some (.ref a_number_with)
  a_is_parking : Addr
  d_is_parking : FuncData
  f_is_parking : Fun K "is_parking" "is_parking" s_is_parking a_is_parking d_is_parking
  b_is_parking : Binds K d_is_parking ["value"] []
  g_is_parking : mg "is_parking" = some (.ref a_is_parking)
  a_check_wishes : Addr
  d_check_wishes : FuncData
  f_check_wishes : Fun K "check_wishes" "check_wishes" s_check_wishes a_check_wishes d_check_wishes
  b_check_wishes : Binds K d_check_wishes ["value"] []
  g_check_wishes : mg "check_wishes" = some (.ref a_check_wishes)
  a_cars_parked : Addr
  d_cars_parked : FuncData
  f_cars_parked : Fun K "cars_parked" "cars_parked" s_cars_parked a_cars_parked d_cars_parked
  b_cars_parked : Binds K d_cars_parked ["wishes"] []
  g_cars_parked : mg "cars_parked" = some (.ref a_cars_parked)
  a_first_fills : Addr
  d_first_fills : FuncData
  f_first_fills : Fun K "first_fills" "first_fills" s_first_fills a_first_fills d_first_fills
  b_first_fills : Binds K d_first_fills ["fills"] []
  g_first_fills : mg "first_fills" = some (.ref a_first_fills)
  a_pair_of : Addr
  d_pair_of : FuncData
  f_pair_of : Fun K "pair_of" "pair_of" s_pair_of a_pair_of d_pair_of
  b_pair_of : Binds K d_pair_of ["wishes"] []
  g_pair_of : mg "pair_of" = some (.ref a_pair_of)
  a_code_bases : Addr
  d_code_bases : FuncData
  f_code_bases : Fun K "code_bases" "code_bases" s_code_bases a_code_bases d_code_bases
  b_code_bases : Binds K d_code_bases ["size"] []
  g_code_bases : mg "code_bases" = some (.ref a_code_bases)
  a_wishes_index : Addr
  d_wishes_index : FuncData
  f_wishes_index : Fun K "wishes_index" "wishes_index" s_wishes_index a_wishes_index d_wishes_index
  b_wishes_index : Binds K d_wishes_index ["wishes"] []
  g_wishes_index : mg "wishes_index" = some (.ref a_wishes_index)
  a__law_spring : Addr
  d__law_spring : FuncData
  f__law_spring : Fun K "_law_spring" "_law_spring" s__law_spring a__law_spring d__law_spring
  b__law_spring : Binds K d__law_spring ["script"] []
  g__law_spring : mg "_law_spring" = some (.ref a__law_spring)
  a__law_draw : Addr
  d__law_draw : FuncData
  f__law_draw : Fun K "_law_draw" "_law_draw" s__law_draw a__law_draw d__law_draw
  b__law_draw : Binds K d__law_draw ["spring", "many"] []
  g__law_draw : mg "_law_draw" = some (.ref a__law_draw)
  a__law_same : Addr
  d__law_same : FuncData
  f__law_same : Fun K "_law_same" "_law_same" s__law_same a__law_same d__law_same
  b__law_same : Binds K d__law_same ["found", "due"] []
  g__law_same : mg "_law_same" = some (.ref a__law_same)
  a__law_dressed : Addr
  d__law_dressed : FuncData
  f__law_dressed : Fun K "_law_dressed" "_law_dressed" s__law_dressed a__law_dressed d__law_dressed
  b__law_dressed : Binds K d__law_dressed ["spring", "value"] []
  g__law_dressed : mg "_law_dressed" = some (.ref a__law_dressed)
  a__law_mixed : Addr
  d__law_mixed : FuncData
  f__law_mixed : Fun K "_law_mixed" "_law_mixed" s__law_mixed a__law_mixed d__law_mixed
  b__law_mixed : Binds K d__law_mixed ["spring", "row"] []
  g__law_mixed : mg "_law_mixed" = some (.ref a__law_mixed)
  a__law_parked : Addr
  d__law_parked : FuncData
  f__law_parked : Fun K "_law_parked" "_law_parked" s__law_parked a__law_parked d__law_parked
  b__law_parked : Binds K d__law_parked ["wishes"] []
  g__law_parked : mg "_law_parked" = some (.ref a__law_parked)
  a__law_parking : Addr
  d__law_parking : FuncData
  f__law_parking : Fun K "_law_parking" "_law_parking" s__law_parking a__law_parking d__law_parking
  b__law_parking : Binds K d__law_parking ["spring", "size"] []
  g__law_parking : mg "_law_parking" = some (.ref a__law_parking)
  a__law_all : Addr
  d__law_all : FuncData
  f__law_all : Fun K "_law_all" "_law_all" s__law_all a__law_all d__law_all
  b__law_all : Binds K d__law_all ["size"] []
  g__law_all : mg "_law_all" = some (.ref a__law_all)
  a__law_refused : Addr
  d__law_refused : FuncData
  f__law_refused : Fun K "_law_refused" "_law_refused" s__law_refused a__law_refused d__law_refused
  b__law_refused : Binds K d__law_refused ["wishes", "way"] []
  g__law_refused : mg "_law_refused" = some (.ref a__law_refused)
  a__law_right : Addr
  d__law_right : FuncData
  f__law_right : Fun K "_law_right" "_law_right" s__law_right a__law_right d__law_right
  b__law_right : Binds K d__law_right ["spring", "wishes"] []
  g__law_right : mg "_law_right" = some (.ref a__law_right)
  a__law_odd_right : Addr
  d__law_odd_right : FuncData
  f__law_odd_right : Fun K "_law_odd_right" "_law_odd_right" s__law_odd_right a__law_odd_right d__law_odd_right
  b__law_odd_right : Binds K d__law_odd_right ["spring", "wishes"] []
  g__law_odd_right : mg "_law_odd_right" = some (.ref a__law_odd_right)
  a_law : Addr
  d_law : FuncData
  f_law : Fun K "law" "law" s_law a_law d_law
  b_law : Binds K d_law ["script"] []
  g_law : mg "law" = some (.ref a_law)
end LP

/-! place lists: what the checks promise -/
namespace LP
open PySem L2 LT LG LX
def G30 : Int := 1000000000000000000000000000000
/-- a place list of these places -/
structure Pl (ns : List Int) : Prop where
  nd : ns.Nodup
  rg : ∀ x ∈ ns, 0 ≤ x ∧ x ≤ G30
  le : ns.length ≤ 200
theorem Pl.perm {ns ms : List Int} (p : Pl ns) (h : ms.Perm ns) : Pl ms := ⟨h.nodup_iff.mpr p.nd, fun x hx => p.rg x (h.subset hx), by rw [h.length_eq]; exact p.le⟩
section
variable (K : PySem.W.Frag)
abbrev Is (H : Hp) (a : Addr) (ns : List Int) : Prop := SqE K H a (ns.map V.int)
def sp_is_whole : Sp := fun vs H Q _ => ∃ n : Int, vs = [.int n] ∧ Q (.bl true) H
def sp_is_listed : Sp := fun vs H Q _ => ∃ (a : Addr) (xs : List V), vs = [.ref a] ∧ SqE K H a xs ∧ ∀ H', Same H H' → Q (.bl true) H'
def sp_is_place : Sp := fun vs H Q _ => ∃ n : Int, vs = [.int n] ∧ 0 ≤ n ∧ n ≤ G30 ∧ Q (.bl true) H
def sp_is_place_list : Sp := fun vs H Q _ => ∃ (a : Addr) (ns : List Int), vs = [.ref a] ∧ Is K H a ns ∧ Pl ns ∧ ∀ H', Same H H' → Q (.bl true) H'
def sp_check_places : Sp := fun vs H Q _ => ∃ (a : Addr) (ns : List Int), vs = [.ref a] ∧ Is K H a ns ∧ Pl ns ∧ ∀ H', Same H H' → Q .non H'
end
end LP

/-! binary heaps in lists: the mathematics -/
namespace LH
def IsH (ns : List Int) : Prop := ∀ (i : Nat) (x y : Int), 0 < i → ns[i]? = some x → ns[(i - 1) / 2]? = some y → y ≤ x
def Gr (ns : List Int) (p : Nat) : Prop := ∀ (i : Nat) (x y : Int), 0 < i → 0 < p → (i - 1) / 2 = p → ns[i]? = some x → ns[(p - 1) / 2]? = some y → y ≤ x
def Up (ns : List Int) (p : Nat) : Prop := (∀ (i : Nat) (x y : Int), 0 < i → i ≠ p → ns[i]? = some x → ns[(i - 1) / 2]? = some y → y ≤ x) ∧ Gr ns p
def Dn (ns : List Int) (p : Nat) : Prop := (∀ (i : Nat) (x y : Int), 0 < i → i ≠ p → (i - 1) / 2 ≠ p → ns[i]? = some x → ns[(i - 1) / 2]? = some y → y ≤ x) ∧ Gr ns p
def sw (ns : List Int) (i j : Nat) (x y : Int) : List Int := (ns.set i y).set j x
theorem sw_get {ns : List Int} {i j k : Nat} {x y : Int} (hi : ns[i]? = some x) (hj : ns[j]? = some y) : (sw ns i j x y)[k]? = if k = j then some x else if k = i then some y else ns[k]? := by
  have h1 := (List.getElem?_eq_some_iff.mp hi).1
  have h2 := (List.getElem?_eq_some_iff.mp hj).1
  unfold sw
  rw [List.getElem?_set, List.getElem?_set, List.length_set]
  by_cases a : k = j
  · subst a; rw [if_pos rfl, if_pos h2, if_pos rfl]
  · rw [if_neg (fun q => a q.symm), if_neg a]
    by_cases b : k = i
    · subst b; rw [if_pos rfl, if_pos h1, if_pos rfl]
    · rw [if_neg (fun q => b q.symm), if_neg b]
theorem sw_len (ns : List Int) (i j : Nat) (x y : Int) : (sw ns i j x y).length = ns.length := by unfold sw; rw [List.length_set, List.length_set]
theorem sw_perm {ns : List Int} {i j : Nat} {x y : Int} (hi : ns[i]? = some x) (hj : ns[j]? = some y) : (sw ns i j x y).Perm ns := by
  obtain ⟨h1, rfl⟩ := List.getElem?_eq_some_iff.mp hi
  obtain ⟨h2, rfl⟩ := List.getElem?_eq_some_iff.mp hj
  exact List.set_set_perm h1 h2
theorem up_zero {ns : List Int} (h : Up ns 0) : IsH ns := fun i x y h0 hx hy => h.1 i x y h0 (by omega) hx hy
theorem up_done {ns : List Int} {p : Nat} {x y : Int} (h : Up ns p) (hx : ns[p]? = some x) (hy : ns[(p - 1) / 2]? = some y) (hc : ¬ x < y) : IsH ns := fun i a b h0 ha hb => by
  by_cases e : i = p
  · subst e
    rw [hx] at ha; rw [hy] at hb
    cases ha; cases hb; omega
  · exact h.1 i a b h0 e ha hb
theorem up_step {ns : List Int} {p : Nat} {x y : Int} (h : Up ns p) (hp : 0 < p) (hx : ns[p]? = some x) (hy : ns[(p - 1) / 2]? = some y) (hc : x < y) : Up (sw ns ((p - 1) / 2) p y x) ((p - 1) / 2) := by
  refine ⟨fun i a b h0 hi ha hb => ?_, fun i a b h0 hq hi ha hb => ?_⟩
  · rw [sw_get hy hx] at ha hb
    by_cases e : i = p
    · subst e
      rw [if_pos rfl] at ha
      rw [if_neg (by omega), if_pos rfl] at hb
      cases ha; cases hb; omega
    · rw [if_neg e, if_neg hi] at ha
      by_cases e1 : (i - 1) / 2 = p
      · rw [if_pos e1] at hb; cases hb
        exact h.2 i a y h0 hp e1 ha hy
      · rw [if_neg e1] at hb
        by_cases e2 : (i - 1) / 2 = (p - 1) / 2
        · rw [if_pos e2] at hb; cases hb
          have := h.1 i a y h0 e ha (by rw [e2]; exact hy)
          omega
        · rw [if_neg e2] at hb
          exact h.1 i a b h0 e ha hb
  · rw [sw_get hy hx] at ha hb
    rw [if_neg (by omega), if_neg (by omega)] at hb
    have g := h.1 ((p - 1) / 2) y b hq (by omega) hy hb
    by_cases e : i = p
    · rw [if_pos e] at ha; cases ha; exact g
    · rw [if_neg e, if_neg (by omega)] at ha
      have := h.1 i a y h0 e ha (by rw [hi]; exact hy)
      omega
theorem dn_step {ns : List Int} {p c : Nat} {x z : Int} (h : Dn ns p) (hc0 : 0 < c) (hc : (c - 1) / 2 = p) (hx : ns[p]? = some x) (hz : ns[c]? = some z) (least : ∀ (i : Nat) (a : Int), 0 < i → (i - 1) / 2 = p → ns[i]? = some a → z ≤ a) : Dn (sw ns c p z x) c := by
  refine ⟨fun i a b h0 hi hpi ha hb => ?_, fun i a b h0 _ hi ha hb => ?_⟩
  · rw [sw_get hz hx] at ha hb
    by_cases e : i = p
    · rw [if_pos e] at ha; cases ha
      rw [if_neg (by omega), if_neg (by omega)] at hb
      subst e
      exact h.2 c z b hc0 h0 hc hz hb
    · rw [if_neg e, if_neg hi] at ha
      by_cases e1 : (i - 1) / 2 = p
      · rw [if_pos e1] at hb; cases hb
        exact least i a h0 e1 ha
      · rw [if_neg e1, if_neg hpi] at hb
        exact h.1 i a b h0 e e1 ha hb
  · rw [sw_get hz hx] at ha hb
    rw [if_neg (by omega), if_neg (by omega)] at ha
    rw [hc, if_pos rfl] at hb
    cases hb
    exact h.1 i a z h0 (by omega) (by omega) ha (by rw [hi]; exact hz)
theorem dn_leaf {ns : List Int} {p : Nat} (h : Dn ns p) (hp : ns.length ≤ 2 * p + 1) : Up ns p := by
  refine ⟨fun i x y h0 hi hx hy => ?_, h.2⟩
  by_cases e : (i - 1) / 2 = p
  · have := (List.getElem?_eq_some_iff.mp hx).1; omega
  · exact h.1 i x y h0 hi e hx hy
theorem up_push {ns : List Int} {x : Int} (h : IsH ns) : Up (ns ++ [x]) ns.length := by
  refine ⟨fun i a b h0 hi ha hb => ?_, fun i a b h0 hp hi ha hb => ?_⟩
  · have hl := (List.getElem?_eq_some_iff.mp ha).1
    rw [List.length_append] at hl
    have hl2 : i < ns.length := by simp at hl; omega
    rw [List.getElem?_append_left hl2] at ha
    rw [List.getElem?_append_left (by omega)] at hb
    exact h i a b h0 ha hb
  · have hl := (List.getElem?_eq_some_iff.mp ha).1
    simp at hl; omega
theorem dn_pop {f last : Int} {mid : List Int} (h : IsH (f :: (mid ++ [last]))) : Dn (last :: mid) 0 := by
  refine ⟨fun i x y h0 _ h1 hx hy => ?_, fun i x y _ h0 => by omega⟩
  obtain ⟨k, rfl⟩ : ∃ k, i = k + 1 := ⟨i - 1, by omega⟩
  obtain ⟨m, hm⟩ : ∃ m, (k + 1 - 1) / 2 = m + 1 := ⟨(k + 1 - 1) / 2 - 1, by omega⟩
  rw [hm] at hy
  have hx1 : mid[k]? = some x := hx
  have hy1 : mid[m]? = some y := hy
  have lx := (List.getElem?_eq_some_iff.mp hx1).1
  have ly := (List.getElem?_eq_some_iff.mp hy1).1
  refine h (k + 1) x y h0 ?_ ?_
  · show (mid ++ [last])[k]? = some x
    rw [List.getElem?_append_left lx]; exact hx1
  · rw [hm]
    show (mid ++ [last])[m]? = some y
    rw [List.getElem?_append_left ly]; exact hy1
theorem heap_min {ns : List Int} {m : Int} (h : IsH ns) (hm : ns[0]? = some m) : ∀ (i : Nat) (x : Int), ns[i]? = some x → m ≤ x := by
  intro i
  induction i using Nat.strongRecOn with
  | _ i ih =>
    intro x hx
    by_cases e : i = 0
    · subst e; rw [hm] at hx; cases hx; exact Int.le_refl _
    · have hl := (List.getElem?_eq_some_iff.mp hx).1
      have hq : ns[(i - 1) / 2]? = some (ns[(i - 1) / 2]'(by omega)) := List.getElem?_eq_getElem (by omega)
      exact Int.le_trans (ih _ (by omega) _ hq) (h i x _ (by omega) hx hq)
theorem heap_nil : IsH [] := fun i x y _ h => by simp at h
theorem heap_one (x : Int) : IsH [x] := fun i a b h0 ha => by
  have := (List.getElem?_eq_some_iff.mp ha).1
  simp at this; omega
end LH

namespace LH
open PySem PySem.Spec PyProof.Rows L2
open AutoSeq1 (wpAny_loadPart')
theorem plain_sift : plainId "_heapq.heapify.sift" = true := by decide +kernel
theorem entry_sift : entryFor table "_heapq.heapify.sift" = some Builtin.«_heapq.heapify.sift» := entryFor_of_fast (by kernel_rfl)
theorem plain_push : plainId "_heapq.heappush" = true := by decide +kernel
theorem entry_push : entryFor table "_heapq.heappush" = some Builtin.«_heapq.heappush» := entryFor_of_fast (by kernel_rfl)
theorem kind_push : builtinKind "_heapq.heappush" = none := by decide +kernel
theorem args_push (a b : Value) : argsOk "_heapq.heappush" ⟨[a, b], []⟩ := by unfold argsOk; kernel_rfl
theorem plain_pop : plainId "_heapq.heappop" = true := by decide +kernel
theorem entry_pop : entryFor table "_heapq.heappop" = some Builtin.«_heapq.heappop» := entryFor_of_fast (by kernel_rfl)
theorem kind_pop : builtinKind "_heapq.heappop" = none := by decide +kernel
theorem args_pop (a : Value) : argsOk "_heapq.heappop" ⟨[a], []⟩ := by unfold argsOk; kernel_rfl
/-- the list object at a holds these ints -/
def Li (h : Heap) (a : Addr) (vs : List Value) (ns : List Int) : Prop := (∃ n, h.get? a = some (seqObj "list" vs.toArray n)) ∧ IntsAre vs ns
/-- only the object at a is other than it was -/
def Ot (h h' : Heap) (a : Addr) : Prop := h'.objs.size = h.objs.size ∧ ∀ b, b ≠ a → h'.get? b = h.get? b
theorem Ot.refl (h : Heap) (a : Addr) : Ot h h a := ⟨rfl, fun _ _ => rfl⟩
theorem Ot.trans {h h1 h2 : Heap} {a : Addr} (x : Ot h h1 a) (y : Ot h1 h2 a) : Ot h h2 a := ⟨y.1.trans x.1, fun b hb => (y.2 b hb).trans (x.2 b hb)⟩
theorem Ot.up (h : Heap) (a : Addr) (f : Obj → Obj) : Ot h (h.update a f) a := ⟨Heap.size_update .., fun b hb => Heap.get?_update_ne _ _ _ _ hb⟩
theorem ints_get {vs : List Value} {ns : List Int} (h : IntsAre vs ns) {i : Nat} {x : Int} (hx : ns[i]? = some x) : ∃ t, vs[i]? = some (.int x t) := by
  induction h generalizing i with
  | nil => simp at hx
  | cons n t r ih =>
    cases i with
    | zero => cases hx; exact ⟨t, rfl⟩
    | succ k => exact ih hx
theorem ints_set {vs : List Value} {ns : List Int} (h : IntsAre vs ns) {i : Nat} {x : Int} {t : Tok} : IntsAre (vs.set i (.int x t)) (ns.set i x) := by
  induction h generalizing i with
  | nil => exact .nil
  | cons n u r ih =>
    cases i with
    | zero => exact .cons x t r
    | succ k => exact .cons n u ih
theorem ints_app {vs us : List Value} {ns ms : List Int} (h : IntsAre vs ns) (g : IntsAre us ms) : IntsAre (vs ++ us) (ns ++ ms) := by
  induction h with
  | nil => exact g
  | cons n u r ih => exact .cons n u ih
section
variable {prog : Program} {w : World} {A : Around} {E : Value → Shared → Prop} {s : Shared}
theorem lt_int {a b : Int} {t u : Tok} {Q : Value → Shared → Prop} (h : Q (.bool (decide (a < b))) s) : wpAny (model prog w) A (richCompare .Lt (.int a t) (.int b u)) Q E s :=
  richCompare_gives (op := .Lt) (typeIs_int s _ t) (typeIs_int s _ u) PySem.F.slot_int_lt PySem.F.entry_int_lt (PySem.F.args_int_lt_2 _ _) (gives_int_lt _ _ t u) (fun x => nomatch x) h
/-- two items exchanged -/
theorem swap_li {h : Heap} {a : Addr} {vs : List Value} {ns : List Int} {n i j : Nat} {x y : Int} {t u : Tok} (ho : h.get? a = some (seqObj "list" vs.toArray n)) (hI : IntsAre vs ns) :
    Li (h.update a (Obj.mapSeq fun xs => (xs.setIfInBounds i (.int y u)).setIfInBounds j (.int x t))) a ((vs.set i (.int y u)).set j (.int x t)) (sw ns i j x y) := by
  have e := get?_update_seq ho (fun xs => (xs.setIfInBounds i (.int y u)).setIfInBounds j (.int x t))
  rw [List.setIfInBounds_toArray, List.setIfInBounds_toArray] at e
  exact ⟨⟨_, e⟩, ints_set (ints_set hI)⟩
theorem sift_up {a : Addr} {R : Result → Shared → Prop} {res : Value} : ∀ (p : Nat) (s : Shared) (vs : List Value) (ns : List Int), Li s.heap a vs ns → ns.length ≤ 1000 → p < ns.length → Up ns p →
    (∀ (h' : Heap) (ws : List Value) (ms : List Int), IsH ms → ms.Perm ns → Li h' a ws ms → Ot s.heap h' a → R (.ok (.ret res)) { s with heap := h' }) →
    codeAny (model prog w) A (.builtin "_heapq.heapify.sift" ⟨[.ref a, .bool false, .bool false, rawInt (p : Nat), rawInt (0 : Nat), res, rawInt (-1)], []⟩) R s := by
  intro p
  induction p using Nat.strongRecOn with
  | _ p ih =>
  intro s vs ns hL hz hlt hup k
  obtain ⟨⟨n, ho⟩, hI⟩ := id hL
  refine codeAny_builtin entry_sift ?_
  rw [Around.under_plainId plain_sift _]
  wp_walk using wpAny_loadPart' ho
  simp only [Int.toNat_natCast]
  by_cases hp : p > 0
  · rw [if_pos (by simpa using hp)]
    have hx1 : ns[p]? = some ns[p] := List.getElem?_eq_getElem hlt
    have hy1 : ns[(p - 1) / 2]? = some (ns[(p - 1) / 2]'(by omega)) := List.getElem?_eq_getElem (by omega)
    generalize ns[p] = x at hx1
    generalize ns[(p - 1) / 2]'(by omega) = y at hy1
    obtain ⟨t, hx⟩ := ints_get hI hx1
    obtain ⟨u, hy⟩ := ints_get hI hy1
    have hxa : vs.toArray[p]? = some (.int x t) := by simpa using hx
    have hya : vs.toArray[(p - 1) / 2]? = some (.int y u) := by simpa using hy
    wp_step
    wp_step
    rw [hxa]
    wp_step
    wp_step
    wp_step
    rw [hya]
    wp_step
    wp_walk using wpAny_loadPart' ho, lt_int, wpAny_truthy_bool
    by_cases hc : x < y
    · rw [if_pos (decide_eq_true hc)]
      wp_walk using wpAny_loadPart' ho
      rw [hya]
      wp_step
      wp_step
      wp_step
      rw [hxa]
      wp_step
      have hvl := hI.length
      refine wpAny_updateSeq ho rfl ?_ (by rw [List.size_toArray, hvl]; exact Nat.le_of_lt (small1000 hz)) (by rw [Array.size_setIfInBounds, Array.size_setIfInBounds, List.size_toArray, hvl]; exact Nat.le_succ_of_le (Nat.le_of_lt (small1000 hz)))
      wp_walk
      refine ⟨plainId_quiet plain_sift _, ?_⟩
      have hL2 := swap_li (i := (p - 1) / 2) (j := p) (x := y) (y := x) (t := u) (u := t) ho hI
      refine ih ((p - 1) / 2) (by omega) _ _ _ hL2 (by rw [sw_len]; exact hz) (by rw [sw_len]; omega) (up_step hup hp hx1 hy1 hc) fun h' ws ms q1 q2 q3 q4 => ?_
      exact k h' ws ms q1 (q2.trans (sw_perm hy1 hx1)) q3 ((Ot.up _ _ _).trans q4)
    · rw [if_neg (by rw [decide_eq_false hc]; exact Bool.false_ne_true)]
      wp_walk
      exact k s.heap vs ns (up_done hup hx1 hy1 hc) (List.Perm.refl _) hL (Ot.refl _ _)
  · rw [if_neg (by simpa using hp)]
    have e : p = 0 := by omega
    subst e
    wp_walk
    exact k s.heap vs ns (up_zero hup) (List.Perm.refl _) hL (Ot.refl _ _)
end
end LH

namespace LH
open PySem PySem.Spec PyProof.Rows L2
open AutoSeq1 (wpAny_loadPart')
section
variable {prog : Program} {w : World} {A : Around} {E : Value → Shared → Prop} {s : Shared}
theorem sift_down {a : Addr} {R : Result → Shared → Prop} {res : Value} : ∀ (d p : Nat) (s : Shared) (vs : List Value) (ns : List Int), ns.length - p ≤ d → Li s.heap a vs ns → ns.length ≤ 1000 → p < ns.length → Dn ns p →
    (∀ (h' : Heap) (ws : List Value) (ms : List Int), IsH ms → ms.Perm ns → Li h' a ws ms → Ot s.heap h' a → R (.ok (.ret res)) { s with heap := h' }) →
    codeAny (model prog w) A (.builtin "_heapq.heapify.sift" ⟨[.ref a, .bool false, .bool true, rawInt (p : Nat), rawInt (0 : Nat), res, rawInt (-1)], []⟩) R s := by
  intro d
  induction d with
  | zero => intro p s vs ns hd _ _ hlt; omega
  | succ d ih =>
  intro p s vs ns hd hL hz hlt hdn k
  obtain ⟨⟨n, ho⟩, hI⟩ := id hL
  have hvl := hI.length
  have hsz : vs.toArray.size = ns.length := by rw [List.size_toArray, hvl]
  refine codeAny_builtin entry_sift ?_
  rw [Around.under_plainId plain_sift _]
  wp_walk using wpAny_loadPart' ho
  simp only [Int.toNat_natCast]
  by_cases hp : p < vs.toArray.size / 2
  · rw [if_pos hp]
    rw [hsz] at hp
    have hx1 : ns[p]? = some ns[p] := List.getElem?_eq_getElem hlt
    have hl1 : ns[2 * p + 1]? = some (ns[2 * p + 1]'(by omega)) := List.getElem?_eq_getElem (by omega)
    generalize ns[p] = x at hx1
    generalize ns[2 * p + 1]'(by omega) = y at hl1
    obtain ⟨t, hx⟩ := ints_get hI hx1
    obtain ⟨u, hy⟩ := ints_get hI hl1
    have hxa : vs.toArray[p]? = some (.int x t) := by simpa using hx
    have hya : vs.toArray[2 * p + 1]? = some (.int y u) := by simpa using hy
    by_cases hr : 2 * p + 1 + 1 < vs.toArray.size
    · rw [if_pos hr]
      rw [hsz] at hr
      have hr1 : ns[2 * p + 1 + 1]? = some (ns[2 * p + 1 + 1]'(by omega)) := List.getElem?_eq_getElem (by omega)
      generalize ns[2 * p + 1 + 1]'(by omega) = z at hr1
      obtain ⟨v, hz1⟩ := ints_get hI hr1
      have hz2a : vs.toArray[2 * p + 1 + 1]? = some (.int z v) := by simpa using hz1
      wp_step
      wp_step
      rw [hya]
      wp_step
      wp_step
      wp_step
      rw [hz2a]
      wp_step
      wp_walk using wpAny_loadPart' ho, lt_int, wpAny_truthy_bool
      by_cases hc : y < z
      · rw [decide_eq_true hc]
        wp_walk using wpAny_loadPart' ho
        rw [hya]
        wp_step
        wp_step
        wp_step
        rw [hxa]
        wp_step
        refine wpAny_updateSeq ho rfl ?_ (by rw [hsz]; exact Nat.le_of_lt (small1000 hz)) (by rw [Array.size_setIfInBounds, Array.size_setIfInBounds, hsz]; exact Nat.le_succ_of_le (Nat.le_of_lt (small1000 hz)))
        wp_walk
        refine ⟨plainId_quiet plain_sift _, ?_⟩
        have hL2 := swap_li (i := 2 * p + 1) (j := p) (x := y) (y := x) (t := u) (u := t) ho hI
        refine ih (2 * p + 1) _ _ _ (by rw [sw_len]; omega) hL2 (by rw [sw_len]; exact hz) (by rw [sw_len]; omega) (dn_step hdn (by omega) (by omega) hx1 hl1 (fun i b h0 hi hb => ?_)) fun h' ws ms q1 q2 q3 q4 => k h' ws ms q1 (q2.trans (sw_perm hl1 hx1)) q3 ((Ot.up _ _ _).trans q4)
        rcases (show i = 2 * p + 1 ∨ i = 2 * p + 1 + 1 by omega) with e | e
        · subst e; rw [hl1] at hb; cases hb; exact Int.le_refl _
        · subst e; rw [hr1] at hb; cases hb; omega
      · rw [decide_eq_false hc]
        wp_walk using wpAny_loadPart' ho
        rw [hz2a]
        wp_step
        wp_step
        wp_step
        rw [hxa]
        wp_step
        refine wpAny_updateSeq ho rfl ?_ (by rw [hsz]; exact Nat.le_of_lt (small1000 hz)) (by rw [Array.size_setIfInBounds, Array.size_setIfInBounds, hsz]; exact Nat.le_succ_of_le (Nat.le_of_lt (small1000 hz)))
        wp_walk
        refine ⟨plainId_quiet plain_sift _, ?_⟩
        have hL2 := swap_li (i := 2 * p + 1 + 1) (j := p) (x := z) (y := x) (t := v) (u := t) ho hI
        refine ih (2 * p + 1 + 1) _ _ _ (by rw [sw_len]; omega) hL2 (by rw [sw_len]; exact hz) (by rw [sw_len]; omega) (dn_step hdn (by omega) (by omega) hx1 hr1 (fun i b h0 hi hb => ?_)) fun h' ws ms q1 q2 q3 q4 => k h' ws ms q1 (q2.trans (sw_perm hr1 hx1)) q3 ((Ot.up _ _ _).trans q4)
        rcases (show i = 2 * p + 1 ∨ i = 2 * p + 1 + 1 by omega) with e | e
        · subst e; rw [hl1] at hb; cases hb; omega
        · subst e; rw [hr1] at hb; cases hb; exact Int.le_refl _
    · rw [if_neg hr]
      rw [hsz] at hr
      wp_walk using wpAny_loadPart' ho
      rw [hya]
      wp_step
      wp_step
      wp_step
      rw [hxa]
      wp_step
      refine wpAny_updateSeq ho rfl ?_ (by rw [hsz]; exact Nat.le_of_lt (small1000 hz)) (by rw [Array.size_setIfInBounds, Array.size_setIfInBounds, hsz]; exact Nat.le_succ_of_le (Nat.le_of_lt (small1000 hz)))
      wp_walk
      refine ⟨plainId_quiet plain_sift _, ?_⟩
      have hL2 := swap_li (i := 2 * p + 1) (j := p) (x := y) (y := x) (t := u) (u := t) ho hI
      refine ih (2 * p + 1) _ _ _ (by rw [sw_len]; omega) hL2 (by rw [sw_len]; exact hz) (by rw [sw_len]; omega) (dn_step hdn (by omega) (by omega) hx1 hl1 (fun i b h0 hi hb => ?_)) fun h' ws ms q1 q2 q3 q4 => k h' ws ms q1 (q2.trans (sw_perm hl1 hx1)) q3 ((Ot.up _ _ _).trans q4)
      have hlt2 := (List.getElem?_eq_some_iff.mp hb).1
      have e : i = 2 * p + 1 := by omega
      subst e; rw [hl1] at hb; cases hb; exact Int.le_refl _
  · rw [if_neg hp]
    rw [hsz] at hp
    wp_walk
    refine ⟨plainId_quiet plain_sift _, ?_⟩
    exact sift_up p s vs ns hL hz hlt (dn_leaf hdn (by omega)) k
end
end LH

namespace LH
open PySem PySem.Spec PyProof.Rows L2
open AutoSeq1 (wpAny_loadPart')
section
variable {prog : Program} {w : World} {A : Around} {E : Value → Shared → Prop} {s : Shared}
theorem push_li {h : Heap} {a : Addr} {vs : List Value} {ns : List Int} {n : Nat} {x : Int} {t : Tok} (ho : h.get? a = some (seqObj "list" vs.toArray n)) (hI : IntsAre vs ns) :
    Li (h.update a (Obj.mapSeq fun xs => xs.push (.int x t))) a (vs ++ [.int x t]) (ns ++ [x]) := by
  have e := get?_update_seq ho (fun xs => xs.push (.int x t))
  rw [List.push_toArray] at e
  exact ⟨⟨_, e⟩, ints_app hI (.cons x t .nil)⟩
theorem call_push {a : Addr} {vs : List Value} {ns : List Int} {x : Int} {t : Tok} {Q : Value → Shared → Prop} (hL : Li s.heap a vs ns) (hz : ns.length < 1000) (hH : IsH ns)
    (k : ∀ (h' : Heap) (ws : List Value) (ms : List Int), IsH ms → ms.Perm (ns ++ [x]) → Li h' a ws ms → Ot s.heap h' a → Q .none { s with heap := h' }) :
    wpAny (model prog w) A (call (.builtin "_heapq.heappush") [.ref a, .int x t]) Q E s := by
  obtain ⟨⟨n, ho⟩, hI⟩ := id hL
  have hvl := hI.length
  have hT : s.TypeIs (.ref a) "list" := ⟨_, ho, rfl⟩
  have hsub := sub_list_self
  refine call_function_tree kind_push plain_push entry_push (args_push _ _) ?_
  have U : ∀ {Q : Unit → Shared → Prop}, Q () { s with heap := s.heap.update a (Obj.mapSeq fun xs => xs.push (.int x t)) } → wpAny (model prog w) A.in1 (updateSeq a fun xs => xs.push (.int x t)) Q E s :=
    fun h => wpAny_updateSeq ho rfl h (by rw [List.size_toArray, hvl]; exact Nat.le_of_lt (small1000 (by omega))) (by rw [Array.size_push, List.size_toArray, hvl]; exact Nat.le_of_lt (Nat.lt_succ_of_lt (small1000 (by omega))))
  have hL2 := push_li (x := x) (t := t) ho hI
  obtain ⟨⟨n2, ho2⟩, hI2⟩ := id hL2
  have hOt := Ot.up s.heap a (Obj.mapSeq fun xs => xs.push (.int x t))
  generalize s.heap.update a (Obj.mapSeq fun xs => xs.push (.int x t)) = h2 at U hL2 ho2 hOt
  wp_walk using wpAny_typeOf hT, U, wpAny_loadPart' ho2
  refine ⟨plainId_quiet plain_sift _, ?_⟩
  have e : (vs ++ [Value.int x t]).toArray.size - 1 = ns.length := by rw [List.size_toArray, List.length_append, hvl]; rfl
  rw [e]
  exact sift_up ns.length { s with heap := h2 } _ _ hL2 (by rw [List.length_append]; exact hz) (by rw [List.length_append]; exact Nat.lt_succ_self _) (up_push hH) fun h' ws ms q1 q2 q3 q4 => k h' ws ms q1 q2 q3 (hOt.trans q4)
theorem ints_split {vs : List Value} : ∀ {ms ks : List Int}, IntsAre vs (ms ++ ks) → ∃ us ws, vs = us ++ ws ∧ IntsAre us ms ∧ IntsAre ws ks
  | [], ks, h => ⟨[], vs, rfl, .nil, h⟩
  | m :: ms, ks, h => by
    cases h with
    | cons n t r =>
      obtain ⟨us, ws, e, h1, h2⟩ := ints_split r
      exact ⟨.int m t :: us, ws, by rw [e]; rfl, .cons m t h1, h2⟩
theorem call_pop1 {a : Addr} {vs : List Value} {m : Int} {Q : Value → Shared → Prop} (hL : Li s.heap a vs [m])
    (k : ∀ (h' : Heap) (t : Tok), Li h' a [] [] → Ot s.heap h' a → Q (.int m t) { s with heap := h' }) :
    wpAny (model prog w) A (call (.builtin "_heapq.heappop") [.ref a]) Q E s := by
  obtain ⟨⟨n, ho⟩, hI⟩ := id hL
  have hT : s.TypeIs (.ref a) "list" := ⟨_, ho, rfl⟩
  have hsub := sub_list_self
  cases hI with
  | cons _ t r =>
    cases r
    have U : ∀ {Q : Unit → Shared → Prop}, Q () { s with heap := s.heap.update a (Obj.mapSeq fun xs => xs.pop) } → wpAny (model prog w) A.in1 (updateSeq a fun xs => xs.pop) Q E s :=
      fun h => wpAny_updateSeq ho rfl h (by show 1 ≤ sizeLine; decide) (by show 0 ≤ sizeLine + 1; exact Nat.zero_le _)
    have e := get?_update_seq ho (fun xs => xs.pop)
    have hOt := Ot.up s.heap a (Obj.mapSeq fun xs => xs.pop)
    generalize s.heap.update a (Obj.mapSeq fun xs => xs.pop) = h2 at U e hOt
    have hL2 : Li h2 a [] [] := ⟨⟨_, e⟩, .nil⟩
    refine call_function_tree kind_pop plain_pop entry_pop (args_pop _) ?_
    wp_walk using wpAny_typeOf hT, U, wpAny_loadPart' ho
    exact k h2 t hL2 hOt
theorem call_pop2 {a : Addr} {vs : List Value} {f last : Int} {mid : List Int} {Q : Value → Shared → Prop} (hL : Li s.heap a vs (f :: (mid ++ [last]))) (hz : mid.length < 900) (hH : IsH (f :: (mid ++ [last])))
    (k : ∀ (h' : Heap) (t : Tok) (ws : List Value) (ms : List Int), IsH ms → ms.Perm (last :: mid) → Li h' a ws ms → Ot s.heap h' a → Q (.int f t) { s with heap := h' }) :
    wpAny (model prog w) A (call (.builtin "_heapq.heappop") [.ref a]) Q E s := by
  obtain ⟨⟨n, ho⟩, hI⟩ := id hL
  have hT : s.TypeIs (.ref a) "list" := ⟨_, ho, rfl⟩
  have hsub := sub_list_self
  cases hI with
  | cons _ t r =>
    obtain ⟨um, ul, rfl, hm, hl⟩ := ints_split r
    cases hl with
    | cons _ t2 r2 =>
      cases r2
      have hml := hm.length
      have U : ∀ {Q : Unit → Shared → Prop}, Q () { s with heap := s.heap.update a (Obj.mapSeq fun xs => xs.pop) } → wpAny (model prog w) A.in1 (updateSeq a fun xs => xs.pop) Q E s :=
        fun h => wpAny_updateSeq ho rfl h (by simp only [List.size_toArray, List.length_cons, List.length_append, List.length_nil]; exact Nat.le_of_lt (small1000 (by omega))) (by rw [Array.size_pop]; simp only [List.size_toArray, List.length_cons, List.length_append, List.length_nil]; exact Nat.le_succ_of_le (Nat.le_of_lt (small1000 (by omega))))
      have e := get?_update_seq ho (fun xs => xs.pop)
      have hOt := Ot.up s.heap a (Obj.mapSeq fun xs => xs.pop)
      generalize s.heap.update a (Obj.mapSeq fun xs => xs.pop) = h2 at U e hOt
      refine call_function_tree kind_pop plain_pop entry_pop (args_pop _) ?_
      wp_walk using wpAny_typeOf hT, U, wpAny_loadPart' ho
      have hb : (Value.int f t :: (um ++ [Value.int last t2])).toArray.back? = some (.int last t2) := by
        show ((Value.int f t :: um) ++ [Value.int last t2]).toArray.back? = _
        simp only [List.back?_toArray, List.getLast?_concat]
      rw [hb]
      have ep : (Value.int f t :: (um ++ [Value.int last t2])).toArray.pop = (Value.int f t :: um).toArray := by
        show ((Value.int f t :: um) ++ [Value.int last t2]).toArray.pop = _
        simp only [List.pop_toArray, List.dropLast_concat]
      rw [ep] at e
      wp_step
      wp_step
      refine U ?_
      rw [if_neg (by simp)]
      wp_step
      wp_step
      show wpAny _ _ (pure (Value.int f t)) _ _ _
      wp_step
      have U2 : ∀ {Q : Unit → Shared → Prop}, Q () { s with heap := h2.update a (Obj.mapSeq fun xs => xs.setIfInBounds 0 (.int last t2)) } → wpAny (model prog w) A.in1 (updateSeq a fun xs => xs.setIfInBounds 0 (.int last t2)) Q E { s with heap := h2 } :=
        fun h => wpAny_updateSeq e rfl h (by simp only [List.size_toArray, List.length_cons]; exact Nat.le_of_lt (small1000 (by omega))) (by rw [Array.size_setIfInBounds]; simp only [List.size_toArray, List.length_cons]; exact Nat.le_succ_of_le (Nat.le_of_lt (small1000 (by omega))))
      have e2 := get?_update_seq e (fun xs => xs.setIfInBounds 0 (.int last t2))
      rw [List.setIfInBounds_toArray] at e2
      have hOt2 := hOt.trans (Ot.up h2 a (Obj.mapSeq fun xs => xs.setIfInBounds 0 (.int last t2)))
      generalize h2.update a (Obj.mapSeq fun xs => xs.setIfInBounds 0 (.int last t2)) = h3 at U2 e2 hOt2
      wp_walk using U2
      refine ⟨plainId_quiet plain_sift _, ?_⟩
      exact sift_down (last :: mid).length 0 { s with heap := h3 } (.int last t2 :: um) (last :: mid) (by omega) ⟨⟨_, e2⟩, .cons last t2 hm⟩ (by simp only [List.length_cons]; omega) (by simp) (dn_pop hH) fun h' ws ms q1 q2 q3 q4 => k h' t ws ms q1 q2 q3 (hOt2.trans q4)
end
/-! ### the rules -/
/-- heappush(xs, x), ints in heap order -/
def rPush : List V → Hp → VK → Prop := fun vs H Q => ∃ (a : Addr) (ns : List Int) (x : Int), vs = [.ref a, .int x] ∧ H a = some (.lst (ns.map V.int)) ∧ IsH ns ∧ ns.length < 900 ∧
  ∀ ms : List Int, ms.Perm (ns ++ [x]) → IsH ms → Q .non (upd H a (.lst (ms.map V.int)))
/-- heappop(xs), ints in heap order, at least one -/
def rPop : List V → Hp → VK → Prop := fun vs H Q => ∃ (a : Addr) (ns : List Int), vs = [.ref a] ∧ H a = some (.lst (ns.map V.int)) ∧ IsH ns ∧ ns ≠ [] ∧ ns.length < 900 ∧
  ∀ (m : Int) (ms : List Int), (m :: ms).Perm ns → (∀ x ∈ ns, m ≤ x) → IsH ms → Q (.int m) (upd H a (.lst (ms.map V.int)))
section
variable {X : Cx}
theorem li_of {P : Program} {w : World} {H : Hp} {h : Heap} {a : Addr} {ns : List Int} (x : ObjOk P w H h a (.lst (ns.map V.int))) : ∃ vs, Li h a vs ns := by
  obtain ⟨_, its, n, rv, hob⟩ := x
  exact ⟨its, ⟨n, hob⟩, rv.ints⟩
theorem cr_push : CallR X (.builtin "_heapq.heappush") rPush := by
  intro pins s σ H vs us Q I r h
  obtain ⟨a, ns, x, rfl, ha, hH, hz, q⟩ := h
  obtain ⟨u1, u2, rfl, r1, r2⟩ := vals2 r
  cases r1
  obtain ⟨t, rfl⟩ := r2
  obtain ⟨ws, hL⟩ := li_of (I.hok a _ ha)
  refine call_push hL (by omega) hH fun h' us ms h1 h2 h3 h4 => ?_
  obtain ⟨⟨n, hn⟩, hI⟩ := id h3
  have hlen : (ms.map V.int).length ≤ sizeLine := by rw [List.length_map, h2.length_eq, List.length_append]; exact Nat.le_of_lt (small1000 (by show ns.length + 1 ≤ 1000; omega))
  exact ⟨.non, upd H a (.lst (ms.map V.int)), I.write (e := a) (t' := s.toks) (by rw [ha]; trivial) (.inl rfl) (fun b u hb hu => (h4.2 b hb).trans hu) ⟨_, hn⟩ ⟨hlen, us, n, vals_of_ints hI, hn⟩, rfl, q ms h2 h1⟩
theorem cr_pop : CallR X (.builtin "_heapq.heappop") rPop := by
  intro pins s σ H vs us Q I r h
  obtain ⟨a, ns, rfl, ha, hH, hne, hz, q⟩ := h
  rw [Vals.ref1 r]
  obtain ⟨ws, hL⟩ := li_of (I.hok a _ ha)
  have fin : ∀ (m : Int) (t : Tok) (h' : Heap) (us : List Value) (ms : List Int), (m :: ms).Perm ns → (∀ x ∈ ns, m ≤ x) → IsH ms → Li h' a us ms → Ot s.heap h' a → EP X pins σ Q (.int m t) { s with heap := h' } := by
    intro m t h' us ms h1 hmin h2 h3 h4
    obtain ⟨⟨n, hn⟩, hI⟩ := id h3
    have hl := h1.length_eq
    rw [List.length_cons] at hl
    have hlen : (ms.map V.int).length ≤ sizeLine := by rw [List.length_map]; exact Nat.le_of_lt (small1000 (by omega))
    exact ⟨.int m, upd H a (.lst (ms.map V.int)), I.write (e := a) (t' := s.toks) (by rw [ha]; trivial) (.inl rfl) (fun b u hb hu => (h4.2 b hb).trans hu) ⟨_, hn⟩ ⟨hlen, us, n, vals_of_ints hI, hn⟩, ⟨t, rfl⟩, q m ms h1 hmin h2⟩
  have hmin : ∀ f r, ns = f :: r → ∀ x ∈ ns, f ≤ x := fun f r e x hx => by
    obtain ⟨i, hi⟩ := List.mem_iff_getElem?.mp hx
    exact heap_min hH (by rw [e]; rfl) i x hi
  match ns, hne, hL, hH, hmin, hz with
  | [m], _, hL, hH, hmin, hz => exact call_pop1 hL fun h' t h1 h2 => fin m t h' [] [] (List.Perm.refl _) (hmin m [] rfl) heap_nil h1 h2
  | f :: b :: r, _, hL, hH, hmin, hz =>
    obtain ⟨mid, last, e⟩ : ∃ mid last, b :: r = mid ++ [last] := ⟨(b :: r).dropLast, (b :: r).getLast (by simp), (List.dropLast_concat_getLast (by simp)).symm⟩
    rw [e] at hL hH hmin hz ha fin q
    refine call_pop2 hL (by simp only [List.length_cons, List.length_append, List.length_nil] at hz; omega) hH fun h' t ws ms h1 h2 h3 h4 => ?_
    refine fin f t h' ws ms ?_ (hmin f _ rfl) h1 h3 h4
    exact (h2.trans ((List.perm_append_singleton last mid).symm)).cons f
end
end LH

namespace LT
open PySem PySem.Spec PyProof.Rows L2
/-- sorted(d), d a dict by ints: its keys in a new list -/
def rSortedK : List V → Hp → VK → Prop := fun vs H Q => ∃ (a : Addr) (kvs : List (Key × V)) (ks : List Int), vs = [.ref a] ∧ Rd H a (.dK kvs) ∧ kvs.map (·.1) = ks.map Sum.inl ∧ ks.length ≤ 1000 ∧
  ∀ (ys : List Int) (p : Addr), ys.Perm ks → ys.Pairwise (· ≤ ·) → H p = none → Q (.ref p) (upd H p (.lst (ys.map V.int)))
theorem cr_sortedK {X : Cx} (hcalm : X.calm = true) : CallR X (.builtin "sorted") rSortedK := by
  intro pins s σ H vs us Q I r want
  obtain ⟨a, kvs, ks, rfl, hd, hks, hz, q⟩ := want
  rw [Vals.ref1 r]
  obtain ⟨z, lo, es, rel, dd⟩ := dk_rd I.hok hd
  obtain ⟨ep, hat⟩ := dd.dictAt
  have keys : es.map (·.1) = ks.map Sum.inl := rel.keys.symm.trans hks
  have len : es.length = ks.length := by simpa using congrArg List.length keys
  have fits : ks.length ≤ sizeLine := Nat.le_of_lt (small1000 hz)
  refine Calls.call_function_entry kind_sorted plain_sorted entry_sorted (args_sorted1 _) ?_
  unfold Builtin.«sorted»
  refine wpAny_bind (m := checkCount "sorted" 1 1 _) (wpAny_pure ?_)
  refine wpAny_bind (PySem.W.kdu_collect (A := X.A.in1) (PySem.W.kdl_dict (knd := mixKind X.prog X.w) (kvs := es) (ep := ep) lo) (I.ok.hd hcalm) hat (by rw [len]; exact fits) fun h1 tk acc kept items => ?_)
  have al : acc.toList.length = ks.length := by rw [Array.length_toList, items.1, len]
  have hints : IntsAre acc.toList ks := ints_each al fun j v e => by
    obtain ⟨k, x, e1, e2⟩ := items.2 j v (by rw [← Array.getElem?_toList]; exact e)
    have e3 : (ks.map (Sum.inl (β := Str)))[j]? = some k := by rw [← keys, List.getElem?_map, e1]; rfl
    rw [List.getElem?_map] at e3
    cases e4 : ks[j]? with
    | none => rw [e4] at e3; cases e3
    | some y =>
      rw [e4] at e3
      cases e3
      rcases keyIs_shape (show keyIs (Sum.inl y) v = true from e2) with ⟨i, t, ek, ev⟩ | ⟨w, t, ek, ev⟩
      · cases ek; exact ⟨y, t, rfl, ev⟩
      · cases ek
  have I1 : Inv X pins σ H { s with heap := h1, toks := tk } := I.kept kept
  refine wpAny_bind (wpAny_newList ?_ (by rw [al]; exact fits))
  have at1 : (h1.push (seqObj "list" acc.toList.toArray 0)).get? h1.objs.size = some (seqObj "list" acc.toList.toArray 0) := Heap.get?_push_size _ rfl
  show wpAny _ _ _ _ _ { s with heap := h1.push (seqObj "list" acc.toList.toArray 0), toks := tk }
  refine wpAny_bind (wpAny_holding (wpAny_call_entry slot_list_sort ⟨_, at1, rfl⟩ entry_list_sort (SrtO.list_sort_ord (s := { s with heap := h1.push (seqObj "list" acc.toList.toArray 0), toks := tk }) SrtO.swo_int at1 (by rw [al]; exact fits) (fun h2 => SrtO.ints_sortable hints h2) fun out g1 g2 => ⟨_, rfl, ?_⟩) (args_list_sort _)))
  obtain ⟨k1, k2, k3⟩ := SrtO.ints_out hints g1 g2
  obtain ⟨e', he⟩ := sortedHeap_at (vs := acc.toList) (out := out.toArray) at1
  have hlen : ((out.map SrtO.iv).map V.int).length ≤ sizeLine := by rw [List.length_map, k2.length_eq]; exact fits
  refine wpAny_pure ⟨_, rfl, .ref h1.objs.size, upd H h1.objs.size (.lst ((out.map SrtO.iv).map V.int)), I1.laid (t' := tk) (fun b u e => ?_) (Nat.le_refl _)
    (show ObjOk X.prog X.w _ _ _ (.lst ((out.map SrtO.iv).map V.int)) from ⟨hlen, out, e', vals_of_ints k1, he⟩), rfl, q _ _ k2 k3 (I1.hok.fresh (Nat.le_refl _))⟩
  have lt : b < h1.objs.size := Heap.lt_size e
  rw [sortedHeap_old (Nat.ne_of_lt lt) (by rw [size_push']; exact Nat.lt_succ_of_lt lt)]
  exact Heap.get?_push_of_some _ e
end LT

namespace LC
open PySem PySem.Spec PyProof.Rows
open Sem (wp)
theorem mro_co : mroOf (.type "itertools.combinations") = pure [.type "itertools.combinations", .type "object"] := by rw [mroOf_type]; kernel_rfl
theorem look_co : typeLookup (.type "itertools.combinations") "__new__" = pure (some (.builtin "itertools.combinations.__new__")) := by rw [typeLookup_type, builtinLookup_eq_fast]; kernel_rfl
theorem init_co : Slot "itertools.combinations" "__init__" "object.__init__" :=
  .of (owner := "object") (n := "__init__") (by rw [typeLookup_type, builtinLookup_eq_fast]; kernel_rfl) (by decide +kernel) (by decide +kernel) (by decide +kernel) (by first | exact .inl (by decide +kernel) | exact .inr (by decide +kernel)) (by rw [isSubtype_type]; kernel_rfl)
theorem self_co : isSubtype (.type "itertools.combinations") (.type "itertools.combinations") = pure true := by rw [isSubtype_type]; kernel_rfl
theorem called_co : TypeCalled "itertools.combinations" "itertools.combinations.__new__" "object.__init__" :=
  ⟨by decide +kernel, by decide +kernel, ⟨_, _, mro_co⟩, madeBy_type mro_co look_co (by decide +kernel), by decide +kernel, self_co, init_co⟩
theorem tcall_co (a b : Value) : checkTypeCall "itertools.combinations" ⟨[a, b], []⟩ = pure () := by kernel_rfl
theorem ncall_co (a b : Value) : checkBuiltinCall "itertools.combinations.__new__" ⟨[.type "itertools.combinations", a, b], []⟩ = pure () := by kernel_rfl
theorem enew_co : entryFor table "itertools.combinations.__new__" = some Builtin.«itertools.combinations.__new__» := entryFor_of_tree (by kernel_rfl)
theorem siter_co : Slot "itertools.combinations" "__iter__" "itertools.combinations.__iter__" :=
  .of (owner := "itertools.combinations") (n := "__iter__") (by rw [typeLookup_type, builtinLookup_eq_fast]; kernel_rfl) (by decide +kernel) (by decide +kernel) (by decide +kernel) (by first | exact .inl (by decide +kernel) | exact .inr (by decide +kernel)) self_co
theorem snext_co : Slot "itertools.combinations" "__next__" "itertools.combinations.__next__" :=
  .of (owner := "itertools.combinations") (n := "__next__") (by rw [typeLookup_type, builtinLookup_eq_fast]; kernel_rfl) (by decide +kernel) (by decide +kernel) (by decide +kernel) (by first | exact .inl (by decide +kernel) | exact .inr (by decide +kernel)) self_co
theorem eiter_co : entryFor table "itertools.combinations.__iter__" = some Builtin.«dict_keyiterator.__iter__» :=
  entryFor_alias (id' := "dict_keyiterator.__iter__") (by kernel_rfl) (by first | rfl | decide +kernel | (unfold String.splitOn; simp +decide [String.splitOnAux])) (by decide +kernel) (by kernel_rfl)
theorem enext_co : entryFor table "itertools.combinations.__next__" = some Builtin.«itertools.combinations.__next__» := entryFor_of_tree (by kernel_rfl)
theorem owner_co : Manifest.owners.lookup (String.ofList "itertools.combinations".toList) = some Manifest.sig_itertools_combinations := by kernel_rfl
theorem aiter_co (a : Value) : argsOk "itertools.combinations.__iter__" ⟨[a], []⟩ := by unfold argsOk; kernel_rfl
theorem anext_co (a : Value) : argsOk "itertools.combinations.__next__" ⟨[a], []⟩ := by unfold argsOk; kernel_rfl
theorem nodict_co : typeHasDict (.type "itertools.combinations") = false := by decide +kernel
theorem self_co2 : isSubtype (.type "itertools.combinations") (.type ("itertools." ++ "combinations")) = pure true := by
  rw [show ("itertools." ++ "combinations" : String) = "itertools.combinations" by decide]; exact self_co
end LC

namespace LC
open PySem PySem.Spec PyProof.Rows
open Sem (wp)
/-- a walk over pairs: the pool, the state, what was handed out, the two indices -/
def coObj (p : Addr) (st : Int) (old : Value) (i j : Nat) : Obj := { cls := .type "itertools.combinations", data := .fields #[.ref p, rawInt st, old, rawInt i, rawInt j] }
theorem meets_co (l : Addr) (T : String) (o : Obj) (its : Array Value) (n : Nat) (t : Tok) (hT : T = "list" ∨ T = "tuple") (hc : o.cls = .type T) (hd : o.data = .seq its n) (hz : its.size ≤ 1000) :
    Meets (Builtin.«itertools.combinations.__new__» ⟨[.type "itertools.combinations", .ref l, .int 2 t], []⟩)
      (fun _ R s => s.heap.get? l = some o ∧ ∀ h1 : Heap, s.heap.objs.size ≤ h1.objs.size → (∀ b u, s.heap.get? b = some u → h1.get? b = some u) →
        R (.ok (.ret (.ref (h1.objs.size + 1)))) { s with heap := (h1.push { cls := .type "tuple", data := .seq its.toList.toArray }).push (coObj h1.objs.size (if 2 > its.toList.length then 2 else 0) .none 0 1) }) :=
  .of_wp fun prog w A R s h => by
    obtain ⟨hp, g, dd, tk, os⟩ := s
    obtain ⟨ho, h⟩ := h
    have hsub := self_co
    have hsub2 := self_co2
    have hnd := nodict_co
    repeat (first
      | (with_reducible refine LT.gather (s := ⟨hp, g, dd, tk, os⟩) l hT ho hc hd (Nat.le_of_lt (L2.small1000 hz)) fun h1 z1 k1 => ?_)
      | (with_reducible refine wpAny_newTuple ?_ (by rw [Array.length_toList]; exact Nat.le_of_lt (L2.small1000 hz)))
      | wp_step
      | simp only [List.head?_cons, Option.some_or, List.getElem?_cons_succ, List.getElem?_cons_zero, List.length_cons, List.length_nil, List.forIn_nil])
    have z := h h1 z1 k1
    refine ⟨_, rfl, ?_⟩
    rw [Heap.size_push]
    exact z
section
variable {prog : Program} {w : World} {A : Around} {E : Value → Shared → Prop} {s : Shared}
theorem call_co {l : Addr} {T : String} {o : Obj} {its : Array Value} {n : Nat} {t : Tok} {Q : Value → Shared → Prop} (hT : T = "list" ∨ T = "tuple") (ho : s.heap.get? l = some o) (hc : o.cls = .type T) (hd : o.data = .seq its n) (hz : its.size ≤ 1000)
    (k : ∀ (h' : Heap) (p : Addr), s.heap.objs.size ≤ p → h'.get? (p + 1) = some (coObj p (if 2 > its.toList.length then 2 else 0) .none 0 1) → h'.get? p = some { cls := .type "tuple", data := .seq its.toList.toArray } → (∀ b u, s.heap.get? b = some u → h'.get? b = some u) → Q (.ref (p + 1)) { s with heap := h' }) :
    wpAny (model prog w) A (call (.type "itertools.combinations") [.ref l, .int 2 t]) Q E s := by
  refine callType_new called_co (by decide +kernel) (tcall_co _ _) (ncall_co _ _) (fun obj => PySem.F.args_object_init_3 obj _ _) enew_co (meets_co l T o its n t hT hc hd hz) ⟨ho, fun h1 z1 k1 => ?_⟩
  have e1 : ((h1.push { cls := .type "tuple", data := .seq its.toList.toArray }).push (coObj h1.objs.size (if 2 > its.toList.length then 2 else 0) .none 0 1)).get? (h1.objs.size + 1) = some (coObj h1.objs.size (if 2 > its.toList.length then 2 else 0) .none 0 1) := by
    have := Heap.get?_push_size (h1.push { cls := .type "tuple", data := .seq its.toList.toArray }) (o := coObj h1.objs.size (if 2 > its.toList.length then 2 else 0) .none 0 1) rfl
    rwa [Heap.size_push] at this
  have e2 : ((h1.push { cls := .type "tuple", data := .seq its.toList.toArray }).push (coObj h1.objs.size (if 2 > its.toList.length then 2 else 0) .none 0 1)).get? h1.objs.size = some { cls := .type "tuple", data := .seq its.toList.toArray } :=
    Heap.get?_push_of_some _ (Heap.get?_push_size _ rfl)
  exact ⟨⟨_, e1, rfl⟩, k _ h1.objs.size z1 e1 e2 fun b u q => Heap.get?_push_of_some _ (Heap.get?_push_of_some _ (k1 b u q))⟩
theorem iter_co {c p : Addr} {st : Int} {old : Value} {i j : Nat} {Q : Value → Shared → Prop} (hit : s.heap.get? c = some (coObj p st old i j)) (h : Q (.ref c) s) : wpAny (model prog w) A (pyIter (.ref c)) Q E s := by
  have hT : s.TypeIs (.ref c) "itertools.combinations" := ⟨_, hit, rfl⟩
  refine wpAny_pyIter_slot hT siter_co (wpAny_call_entry siter_co hT eiter_co ?_ (aiter_co _))
  show wpAny _ _ (ret (.ref c)) _ _ s
  exact wpAny_pure ⟨_, rfl, "itertools.combinations", _, hT, snext_co.lookup, h⟩
end
end LC

namespace LC
open PySem PySem.Spec PyProof.Rows
open Sem (wp)
open AutoSeq1 (wpAny_loadPart')
/-- only the object at c is other than it was, and new ones -/
def Oc (h h' : Heap) (c : Addr) : Prop := h.objs.size ≤ h'.objs.size ∧ ∀ b u, b ≠ c → h.get? b = some u → h'.get? b = some u
section
variable {prog : Program} {w : World} {A : Around} {E : Value → Shared → Prop} {s : Shared}
theorem next_first {c p : Addr} {its : Array Value} {n : Nat} {Q : Option Value → Shared → Prop} (hit : s.heap.get? c = some (coObj p 0 .none 0 1)) (hp : s.heap.get? p = some { cls := .type "tuple", data := .seq its n }) (hpc : p ≠ c)
    (k : ∀ (h' : Heap) (T : Addr), s.heap.objs.size ≤ T → h'.get? T = some { cls := .type "tuple", data := .seq #[its.getD 0 .none, its.getD 1 .none] } → h'.get? c = some (coObj p 1 (.ref T) 0 1) → (∀ b u, b ≠ c → s.heap.get? b = some u → h'.get? b = some u) → Q (some (.ref T)) { s with heap := h' }) :
    wpAny (model prog w) A (pyNext (.ref c)) Q E s := by
  have hT : s.TypeIs (.ref c) "itertools.combinations" := ⟨_, hit, rfl⟩
  unfold pyNext
  refine wpAny_bind (wpAny_attempt (wpAny_callSpecial?_slot (name := Str.ofString "__next__") hT snext_co (wpAny_call_entry snext_co hT enext_co ?_ (anext_co _))))
  wp_walk using wpAny_loadPart' hit, wpAny_loadPart' hp
  have e1 : (s.heap.update c (Obj.mapFields fun x => x.setIfInBounds 1 (rawInt 1))).get? c = some (coObj p 1 .none 0 1) := Heap.get?_update_self _ hit rfl
  have e2 := (Heap.get?_update_ne _ _ _ (Obj.mapFields fun x => x.setIfInBounds 1 (rawInt 1)) hpc).trans hp
  have e3 : ∀ b u, b ≠ c → s.heap.get? b = some u → (s.heap.update c (Obj.mapFields fun x => x.setIfInBounds 1 (rawInt 1))).get? b = some u := fun b u hb hu => (Heap.get?_update_ne _ _ _ _ hb).trans hu
  have e4 : (s.heap.update c (Obj.mapFields fun x => x.setIfInBounds 1 (rawInt 1))).objs.size = s.heap.objs.size := Heap.size_update ..
  generalize s.heap.update c (Obj.mapFields fun x => x.setIfInBounds 1 (rawInt 1)) = h2 at e1 e2 e3 e4
  wp_walk using wpAny_loadPart' e2
  have f1 := fun o => Heap.get?_push_of_some o e1
  refine ⟨_, rfl, wpAny_pure ?_⟩
  have lt := Heap.lt_size e1
  refine k _ h2.objs.size (by omega) ?_ (Heap.get?_update_self _ (f1 _) rfl) fun b u hb hu => ?_
  · exact (Heap.get?_update_ne _ _ _ _ (Nat.ne_of_gt lt)).trans (Heap.get?_push_size _ rfl)
  · exact (Heap.get?_update_ne _ _ _ _ hb).trans (Heap.get?_push_of_some _ (e3 b u hb hu))
end
end LC

namespace LC
open PySem PySem.Spec PyProof.Rows
open Sem (wp)
open AutoSeq1 (wpAny_loadPart')
/-- the pair of indices behind (i, j), as the walk finds it -/
def nx (n i j : Nat) : Option (List Nat) :=
  match (List.range 2).reverse.find? (fun k => [i, j].getD k 0 != k + n - 2) with
  | none => none
  | some k => some ([i, j].take k ++ (List.range (2 - k)).map fun m => [i, j].getD k 0 + 1 + m)
theorem nx_a {n i j : Nat} (h : j + 1 < n) : nx n i j = some [i, j + 1] := by
  have e : (List.range 2).reverse = [1, 0] := by decide
  unfold nx
  rw [e, List.find?_cons_of_pos (by simp; omega)]
  rfl
theorem nx_b {n i j : Nat} (h : j + 1 = n) (h2 : i + 2 < n) : nx n i j = some [i + 1, i + 2] := by
  have e : (List.range 2).reverse = [1, 0] := by decide
  unfold nx
  rw [e, List.find?_cons_of_neg (by simp; omega), List.find?_cons_of_pos (by simp; omega)]
  rfl
theorem nx_c {n i j : Nat} (h : j + 1 = n) (h2 : i + 2 = n) : nx n i j = none := by
  have e : (List.range 2).reverse = [1, 0] := by decide
  unfold nx
  rw [e, List.find?_cons_of_neg (by simp; omega), List.find?_cons_of_neg (by simp; omega)]
  rfl
section
variable {prog : Program} {w : World} {A : Around} {E : Value → Shared → Prop} {s : Shared}
theorem next_more {c p : Addr} {its : Array Value} {n i j i2 j2 : Nat} {old : Value} {Q : Option Value → Shared → Prop} (hit : s.heap.get? c = some (coObj p 1 old i j)) (hp : s.heap.get? p = some { cls := .type "tuple", data := .seq its n }) (hpc : p ≠ c) (hn : nx its.size i j = some [i2, j2])
    (k : ∀ (h' : Heap) (T : Addr), s.heap.objs.size ≤ T → h'.get? T = some { cls := .type "tuple", data := .seq #[its.getD i2 .none, its.getD j2 .none] } → h'.get? c = some (coObj p 1 (.ref T) i2 j2) → (∀ b u, b ≠ c → s.heap.get? b = some u → h'.get? b = some u) → Q (some (.ref T)) { s with heap := h' }) :
    wpAny (model prog w) A (pyNext (.ref c)) Q E s := by
  have hT : s.TypeIs (.ref c) "itertools.combinations" := ⟨_, hit, rfl⟩
  unfold pyNext
  refine wpAny_bind (wpAny_attempt (wpAny_callSpecial?_slot (name := Str.ofString "__next__") hT snext_co (wpAny_call_entry snext_co hT enext_co ?_ (anext_co _))))
  wp_walk using wpAny_loadPart' hit, wpAny_loadPart' hp
  split
  · rename_i nxt he
    change nx its.size i j = some nxt at he
    rw [hn] at he
    cases he
    have e1 : (s.heap.update c (Obj.mapFields fun fs => fs.extract 0 3 ++ (List.map (fun (n : Nat) => rawInt n) [i2, j2]).toArray)).get? c = some (coObj p 1 old i2 j2) := (Heap.get?_update_self _ hit rfl).trans (by simp [coObj, Obj.mapFields])
    have e2 := (Heap.get?_update_ne _ _ _ (Obj.mapFields fun fs => fs.extract 0 3 ++ (List.map (fun (n : Nat) => rawInt n) [i2, j2]).toArray) hpc).trans hp
    have e3 : ∀ b u, b ≠ c → s.heap.get? b = some u → (s.heap.update c (Obj.mapFields fun fs => fs.extract 0 3 ++ (List.map (fun (n : Nat) => rawInt n) [i2, j2]).toArray)).get? b = some u := fun b u hb hu => (Heap.get?_update_ne _ _ _ _ hb).trans hu
    have e4 : (s.heap.update c (Obj.mapFields fun fs => fs.extract 0 3 ++ (List.map (fun (n : Nat) => rawInt n) [i2, j2]).toArray)).objs.size = s.heap.objs.size := Heap.size_update ..
    wp_step
    wp_step
    wp_step
    refine wpAny_bind (wpAny_load hit ?_)
    show wpAny _ _ (update c (Obj.mapFields fun fs => fs.extract 0 3 ++ (List.map (fun (n : Nat) => rawInt n) [i2, j2]).toArray) >>= fun _ => lookBehind c) _ _ _
    wp_step
    with_reducible apply wpAny_update'
    · exact hit
    generalize s.heap.update c (Obj.mapFields fun fs => fs.extract 0 3 ++ (List.map (fun (n : Nat) => rawInt n) [i2, j2]).toArray) = h2 at e1 e2 e3 e4 ⊢
    wp_walk using wpAny_loadPart' e1, wpAny_loadPart' e2
    refine ⟨_, rfl, wpAny_pure ?_⟩
    have lt := Heap.lt_size e1
    have f1 := fun o => Heap.get?_push_of_some o e1
    refine k _ h2.objs.size (by omega) ?_ (Heap.get?_update_self _ (f1 _) rfl) fun b u hb hu => ?_
    · exact (Heap.get?_update_ne _ _ _ _ (Nat.ne_of_gt lt)).trans (Heap.get?_push_size _ rfl)
    · exact (Heap.get?_update_ne _ _ _ _ hb).trans (Heap.get?_push_of_some _ (e3 b u hb hu))
  · rename_i he
    change nx its.size i j = none at he
    rw [hn] at he
    cases he
theorem next_none {c p : Addr} {its : Array Value} {n i j : Nat} {old : Value} {Q : Option Value → Shared → Prop} (hh : A.handled = none) (hit : s.heap.get? c = some (coObj p 1 old i j)) (hp : s.heap.get? p = some { cls := .type "tuple", data := .seq its n }) (hpc : p ≠ c) (hn : nx its.size i j = none)
    (k : ∀ h' : Heap, s.heap.objs.size ≤ h'.objs.size → (∀ b u, b ≠ c → s.heap.get? b = some u → h'.get? b = some u) → Q none { s with heap := h' }) :
    wpAny (model prog w) A (pyNext (.ref c)) Q E s := by
  have hT : s.TypeIs (.ref c) "itertools.combinations" := ⟨_, hit, rfl⟩
  have hh1 : A.in1.handled = none := hh
  unfold pyNext
  refine wpAny_bind (wpAny_attempt (wpAny_callSpecial?_slot (name := Str.ofString "__next__") hT snext_co (wpAny_call_entry snext_co hT enext_co ?_ (anext_co _))))
  wp_walk using wpAny_loadPart' hit, wpAny_loadPart' hp
  split
  · rename_i nxt he
    change nx its.size i j = some nxt at he
    rw [hn] at he
    cases he
  · wp_walk using wpAny_loadPart' hit
    simp only [raiseNew]
    refine wpAny_bind (wpAny_handled ?_)
    rw [hh1]
    refine wpAny_bind (wpAny_pure (wpAny_throw ?_))
    refine wpAny_bind (wpAny_isInstance (T := "StopIteration") (b := true) ⟨_, Heap.get?_push_size _ rfl, rfl⟩ isSubtype_stop ?_)
    refine wpAny_pure (k _ (by simp only [Heap.size_push, Heap.size_update]; omega) fun b u hb hu => Heap.get?_push_of_some _ (Heap.get?_push_of_some _ ((Heap.get?_update_ne _ _ _ _ hb).trans hu)))
theorem next_over {c p : Addr} {i j : Nat} {old : Value} {Q : Option Value → Shared → Prop} (hh : A.handled = none) (hit : s.heap.get? c = some (coObj p 2 old i j))
    (k : ∀ h' : Heap, s.heap.objs.size ≤ h'.objs.size → (∀ b u, b ≠ c → s.heap.get? b = some u → h'.get? b = some u) → Q none { s with heap := h' }) :
    wpAny (model prog w) A (pyNext (.ref c)) Q E s := by
  have hT : s.TypeIs (.ref c) "itertools.combinations" := ⟨_, hit, rfl⟩
  have hh1 : A.in1.handled = none := hh
  unfold pyNext
  refine wpAny_bind (wpAny_attempt (wpAny_callSpecial?_slot (name := Str.ofString "__next__") hT snext_co (wpAny_call_entry snext_co hT enext_co ?_ (anext_co _))))
  wp_walk using wpAny_loadPart' hit
  simp only [raiseNew]
  refine wpAny_bind (wpAny_handled ?_)
  rw [hh1]
  refine wpAny_bind (wpAny_pure (wpAny_throw ?_))
  refine wpAny_bind (wpAny_isInstance (T := "StopIteration") (b := true) ⟨_, Heap.get?_push_size _ rfl, rfl⟩ isSubtype_stop ?_)
  refine wpAny_pure (k _ (by simp only [Heap.size_push, Heap.size_update]; omega) fun b u hb hu => Heap.get?_push_of_some _ (Heap.get?_push_of_some _ hu))
end
end LC

namespace LC
open PySem PySem.Spec PyProof.Rows L2
/-! ### the pairs, in their order -/
def nxp (n : Nat) (q : Nat × Nat) : Option (Nat × Nat) := if q.2 + 1 < n then some (q.1, q.2 + 1) else if q.1 + 2 < n then some (q.1 + 1, q.1 + 2) else none
def gop (n : Nat) : Nat → Nat × Nat → List (Nat × Nat)
  | 0, _ => []
  | f + 1, q => q :: match nxp n q with
    | none => []
    | some r => gop n f r
def prs (n : Nat) : List (Nat × Nat) := if n < 2 then [] else gop n (n * n + 1) (0, 1)
def mu (n : Nat) (q : Nat × Nat) : Nat := (n - q.1) * n - q.2
theorem nxp_ok {n : Nat} {q r : Nat × Nat} (h1 : q.1 < q.2) (h2 : q.2 < n) (h : nxp n q = some r) : r.1 < r.2 ∧ r.2 < n ∧ mu n r < mu n q := by
  unfold nxp at h
  have e : n ≤ (n - q.1) * n := Nat.le_mul_of_pos_left n (by omega)
  split at h
  · cases h
    refine ⟨by show q.1 < q.2 + 1; omega, by assumption, ?_⟩
    show (n - q.1) * n - (q.2 + 1) < (n - q.1) * n - q.2
    omega
  · split at h
    · cases h
      refine ⟨by show q.1 + 1 < q.1 + 2; omega, by assumption, ?_⟩
      show (n - (q.1 + 1)) * n - (q.1 + 2) < (n - q.1) * n - q.2
      have e2 : (n - q.1) * n = (n - (q.1 + 1)) * n + n := by
        rw [show n - q.1 = (n - (q.1 + 1)) + 1 by omega, Nat.add_mul, Nat.one_mul]
      omega
    · cases h
theorem gop_step {n : Nat} : ∀ (f : Nat) (q : Nat × Nat), q.1 < q.2 → q.2 < n → mu n q < f → ∀ (k : Nat) (r : Nat × Nat), (gop n f q)[k]? = some r → r.1 < r.2 ∧ r.2 < n ∧ (gop n f q)[k + 1]? = nxp n r
  | 0, q, _, _, h, _, _, _ => by omega
  | f + 1, q, h1, h2, h, k, r, hk => by
    cases e : nxp n q with
    | none =>
      have eg : gop n (f + 1) q = [q] := by rw [gop, e]
      rw [eg] at hk ⊢
      cases k with
      | zero => cases hk; exact ⟨h1, h2, by rw [e]; rfl⟩
      | succ k => simp at hk
    | some u =>
      obtain ⟨a, b, c⟩ := nxp_ok h1 h2 e
      have eg : gop n (f + 1) q = q :: gop n f u := by rw [gop, e]
      rw [eg] at hk ⊢
      cases k with
      | zero =>
        cases hk
        refine ⟨h1, h2, ?_⟩
        rw [e]
        show (gop n f u)[0]? = some u
        cases f with
        | zero => omega
        | succ f => rw [gop]; rfl
      | succ k => exact gop_step f u a b (by omega) k r hk
theorem prs_zero {n : Nat} (h : 2 ≤ n) : (prs n)[0]? = some (0, 1) := by
  unfold prs
  rw [if_neg (by omega), gop]; rfl
theorem prs_step {n k : Nat} {r : Nat × Nat} (h : (prs n)[k]? = some r) : r.1 < r.2 ∧ r.2 < n ∧ (prs n)[k + 1]? = nxp n r := by
  unfold prs at h ⊢
  by_cases c : n < 2
  · rw [if_pos c] at h; simp at h
  · rw [if_neg c] at h ⊢
    refine gop_step _ _ (by decide) (by show 1 < n; omega) ?_ k r h
    show (n - 0) * n - 1 < n * n + 1
    rw [Nat.sub_zero]; omega
theorem nx_of {n : Nat} {q r : Nat × Nat} (h1 : q.1 < q.2) (h2 : q.2 < n) (h : nxp n q = some r) : nx n q.1 q.2 = some [r.1, r.2] := by
  unfold nxp at h
  split at h
  · cases h; exact nx_a (by assumption)
  · split at h
    · cases h; exact nx_b (by omega) (by assumption)
    · cases h
theorem nx_of_none {n : Nat} {q : Nat × Nat} (h1 : q.1 < q.2) (h2 : q.2 < n) (h : nxp n q = none) : nx n q.1 q.2 = none := by
  unfold nxp at h
  split at h
  · cases h
  · split at h
    · cases h
    · exact nx_c (by omega) (by omega)
/-! ### the walk -/
/-- the pairs of the items xs, in their order, as new tuples -/
def Ico (xs : List V) : It :=
  ⟨fun k _ => k < (prs xs.length).length,
    fun k H v H' => ∃ (T : Addr) (q : Nat × Nat) (x y : V), v = .ref T ∧ H T = none ∧ H' = upd H T (.tup [x, y]) ∧ (prs xs.length)[k]? = some q ∧ xs[q.1]? = some x ∧ xs[q.2]? = some y,
    fun k _ => k = (prs xs.length).length⟩
def coSt (c p : Addr) (its : List Value) (k : Nat) (h : Heap) : Prop :=
  h.get? p = some { cls := .type "tuple", data := .seq its.toArray } ∧
    ((k = 0 ∧ h.get? c = some (coObj p (if 2 > its.length then 2 else 0) .none 0 1)) ∨ ∃ old q, 0 < k ∧ (prs its.length)[k - 1]? = some q ∧ h.get? c = some (coObj p 1 old q.1 q.2))
theorem coSt.c {c p : Addr} {its : List Value} {k : Nat} {h : Heap} (s : coSt c p its k h) : ∃ st old i j, h.get? c = some (coObj p st old i j) := by
  rcases s.2 with ⟨_, e⟩ | ⟨old, q, _, _, e⟩
  · exact ⟨_, _, _, _, e⟩
  · exact ⟨_, _, _, _, e⟩
theorem turn_co {P : Program} {w : World} {K : PySem.W.Frag} {tg : Expr} {c p : Addr} {xs : List V} {its : List Value} (rv : Vals xs its) (hpc : p ≠ c) :
    Turn P w K tg (Ico xs) [c, p] c (coSt c p its) where
  mem := List.mem_cons_self
  obj := fun k h st b hb => by
    rcases List.mem_cons.mp hb with rfl | hb
    · obtain ⟨_, _, _, _, e⟩ := st.c
      exact ⟨_, e, fun v q => by cases q⟩
    · rw [List.mem_singleton.mp hb]; exact ⟨_, st.1, fun v q => by cases q⟩
  keep := fun k h h' st kp => by
    refine ⟨kp p (by simp) _ st.1, ?_⟩
    rcases st.2 with ⟨k0, e⟩ | ⟨old, q, k0, e1, e⟩
    · exact .inl ⟨k0, kp c (by simp) _ e⟩
    · exact .inr ⟨old, q, k0, e1, kp c (by simp) _ e⟩
  item := by
    intro X hP hw hK hc k pins s σ H E I hf st hk
    subst hP hw hK
    replace hk : k < (prs xs.length).length := hk
    have hl := rv.length
    obtain ⟨q, hq⟩ : ∃ q, (prs xs.length)[k]? = some q := ⟨_, List.getElem?_eq_getElem hk⟩
    obtain ⟨q1, q2, _⟩ := prs_step hq
    have hx := List.getElem?_eq_getElem (l := xs) (i := q.1) (by omega)
    have hy := List.getElem?_eq_getElem (l := xs) (i := q.2) (by omega)
    obtain ⟨u, hu, ru⟩ := rv.get hx
    obtain ⟨v, hv, rv2⟩ := rv.get hy
    have hfc : ∀ b ∈ [c], FpOk X pins H b := fun b hb => hf b (by simp at hb; simp [hb])
    have fin : ∀ (h' : Heap) (T : Addr), s.heap.objs.size ≤ T → h'.get? T = some { cls := .type "tuple", data := .seq #[its.toArray.getD q.1 .none, its.toArray.getD q.2 .none] } → h'.get? c = some (coObj p 1 (.ref T) q.1 q.2) → (∀ b u, b ≠ c → s.heap.get? b = some u → h'.get? b = some u) →
        (∃ u, (some (Value.ref T)) = some u ∧ wpAny (model X.prog X.w) X.A (letOwnedTupleGo tg (.ref c) u) (fun _ s2 => ∃ x H', Inv X pins σ H' s2 ∧ RelV x u ∧ (Ico xs).yld k H x H' ∧ coSt c p its (k + 1) s2.heap ∧ ∀ b ∈ [c, p], H' b = none) E { s with heap := h' }) := by
      intro h' T hT eT ec kp
      refine ⟨_, rfl, go_of ec rfl rfl (by decide) ?_⟩
      have e1 : its.toArray.getD q.1 .none = u := by simp [hu]
      have e2 : its.toArray.getD q.2 .none = v := by simp [hv]
      rw [e1, e2] at eT
      have ob : ObjOk X.prog X.w (upd H T (.tup [xs[q.1]'(by omega), xs[q.2]'(by omega)])) h' T (.tup [xs[q.1]'(by omega), xs[q.2]'(by omega)]) :=
        ⟨by show 2 ≤ sizeLine; decide, [u, v], .cons ru (.cons rv2 .nil), ⟨_, eT, rfl, _, rfl⟩⟩
      have hTn := I.hok.fresh hT
      refine ⟨.ref T, _, I.turnedNew (ch := [c]) (t' := s.toks) (fun b o nb e => kp b o (fun z => nb (by simp [z])) e) hfc hT ob, rfl, ⟨T, q, _, _, rfl, hTn, rfl, hq, hx, hy⟩, ⟨kp p _ hpc st.1, .inr ⟨_, q, Nat.succ_pos k, by rw [Nat.add_sub_cancel, ← hl]; exact hq, ec⟩⟩, fun b hb => ?_⟩
      have lt : b < s.heap.objs.size := by
        rcases List.mem_cons.mp hb with rfl | hb
        · obtain ⟨_, _, _, _, e⟩ := st.c; exact Heap.lt_size e
        · rw [List.mem_singleton.mp hb]; exact Heap.lt_size st.1
      rw [upd_ne (Nat.ne_of_lt (Nat.lt_of_lt_of_le lt hT))]
      exact (hf b hb).1
    rcases st.2 with ⟨rfl, e⟩ | ⟨old, q0, k0, e1, e⟩
    · have hn : 2 ≤ its.length := by
        rw [← hl]
        rcases Nat.lt_or_ge xs.length 2 with z | z
        · unfold prs at hk; rw [if_pos z] at hk; simp at hk
        · exact z
      rw [if_neg (by omega)] at e
      have e0 := prs_zero (n := xs.length) (by omega)
      rw [hq] at e0
      cases e0
      exact next_first e st.1 hpc fun h' T hT eT ec kp => fin h' T hT eT ec kp
    · obtain ⟨a1, a2, a3⟩ := prs_step e1
      rw [← hl, show k - 1 + 1 = k by omega] at a3
      have hn : nxp xs.length q0 = some q := a3.symm.trans hq
      refine next_more e st.1 hpc (i2 := q.1) (j2 := q.2) ?_ fun h' T hT eT ec kp => fin h' T hT eT ec kp
      rw [List.size_toArray, ← hl]
      exact nx_of a1 (by omega) hn
  done := by
    intro X hP hw hK hc k pins s σ H E I hf st hk
    subst hP hw hK
    replace hk : k = (prs xs.length).length := hk
    have hl := rv.length
    have hfc : ∀ b ∈ [c], FpOk X pins H b := fun b hb => hf b (by simp at hb; simp [hb])
    have hh : X.A.handled = none := I.ok.hd hc
    rcases st.2 with ⟨rfl, e⟩ | ⟨old, q0, k0, e1, e⟩
    · have hn : 2 > its.length := by
        rw [← hl]
        rcases Nat.lt_or_ge xs.length 2 with z | z
        · exact z
        · have := (List.getElem?_eq_some_iff.mp (prs_zero z)).1; omega
      rw [if_pos hn] at e
      exact next_over hh e fun h' _ kp => ⟨rfl, I.turnedL (ch := [c]) (t' := s.toks) (fun b o nb q => kp b o (fun z => nb (by simp [z])) q) hfc⟩
    · obtain ⟨a1, a2, a3⟩ := prs_step e1
      rw [← hl, show k - 1 + 1 = k by omega, hk, List.getElem?_eq_none (Nat.le_refl _)] at a3
      exact next_none hh e st.1 hpc (by rw [List.size_toArray, ← hl]; exact nx_of_none a1 (by omega) a3.symm) fun h' _ kp => ⟨rfl, I.turnedL (ch := [c]) (t' := s.toks) (fun b o nb q => kp b o (fun z => nb (by simp [z])) q) hfc⟩
  self := fun A k s Q E st h => by
    obtain ⟨_, _, _, _, e⟩ := st.c
    exact iter_co e h
def iCo (K : PySem.W.Frag) (ta : TA) : TI := fun σ H R => ta σ H fun vs H1 => ∃ a xs, vs = [.ref a, .int 2] ∧ SqL K H1 a xs ∧ xs.length ≤ 1000 ∧ R (Ico xs) H1
theorem pi_co {X : Cx} {x : Str} {e e2 tg : Expr} {ta : TA} {p pos : Pos} (hg : Gl X x) (hm : X.mg x = some (.type "itertools.combinations")) (ha : PA X [e, e2] ta) (hdb : (x == ("__debug__" : Str)) = false := by decide)
    (hs : starEach [e, e2] X.env = (false, eval e X.env) :: starEach [e2] X.env := by rfl) (hpl : (backTo pos (starEach [e2] X.env)).any (·.1) = false := by rfl) :
    PI X tg (.Call (.Name x p) [e, e2] [] pos) (iCo X.K ta) := by
  constructor
  intro pins s σ H R I want
  refine wpAny_Call_Name_kw (ld_glob I hg hm ?_ hdb)
  refine PyProof.Rows.callWith_type1 (thn (ha.run pos pins s σ H _ I want) ?_) hs hpl
  rintro us s1 ⟨vs, H1, J, rel, a, xs, rfl, qx, hz, q⟩
  obtain ⟨u1, u2, rfl, r1, r2⟩ := vals2 rel
  cases r1
  obtain ⟨t, rfl⟩ := r2
  obtain ⟨its, rv, p1, _⟩ := J.list qx
  have hl := rv.length
  obtain ⟨o, ho, hc, n, hd⟩ := p1.isList
  refine call_co (.inl rfl) ho hc hd (by rw [List.size_toArray, ← hl]; exact hz) fun h' pp hpp e1 e2 kp => iter_co e1 ?_
  have J2 : Inv X pins σ H1 { s1 with heap := h' } := J.kept (t' := s1.toks) kp
  refine ⟨pp + 1, [pp + 1, pp], _, _, H1, rfl, J2, turn_co rv (Nat.ne_of_lt (Nat.lt_succ_self pp)), ⟨by simpa using e2, .inl ⟨rfl, by simpa using e1⟩⟩, fun b hb => ?_, q⟩
  have le : s1.heap.objs.size ≤ b := by
    rcases List.mem_cons.mp hb with rfl | hb
    · omega
    · rw [List.mem_singleton.mp hb]; exact hpp
  exact J.fpOk le (J.hok.fresh le)
theorem walk_co {xs : List V} : Walk (Ico xs) (prs xs.length).length (fun _ => True) (fun k H v H' => ∃ (T : Addr) (q : Nat × Nat) (x y : V), v = .ref T ∧ H T = none ∧ H' = upd H T (.tup [x, y]) ∧ (prs xs.length)[k]? = some q ∧ xs[q.1]? = some x ∧ xs[q.2]? = some y) :=
  ⟨fun _ _ h _ => h, fun _ _ => rfl, fun _ _ _ _ _ _ y => y⟩
end LC

namespace LX
open PySem L2
theorem lookup_map {α β : Type} [BEq α] (g : α → β → β) (n : α) : ∀ l : List (α × β), List.lookup n (l.map fun x => (x.1, g x.1 x.2)) = (l.find? fun x => n == x.1).map fun x => g x.1 x.2
  | [] => rfl
  | (a, b) :: r => by
    rw [List.map_cons]
    show List.lookup n ((a, g a b) :: _) = _
    rw [List.lookup_cons, List.find?_cons]
    show (match n == a with | true => _ | false => _) = _
    cases q : n == a with
    | true => rfl
    | false => exact lookup_map g n r
theorem lookup_find {α β : Type} [BEq α] (n : α) : ∀ l : List (α × β), List.lookup n l = (l.find? fun x => n == x.1).map fun x => x.2
  | [] => rfl
  | (a, b) :: r => by
    rw [List.lookup_cons, List.find?_cons]
    cases q : n == a with
    | true => rfl
    | false => exact lookup_find n r
theorem relabel_or {sc : Scope} {env : Env} {n : Str} (h : List.lookup n sc.names = some NameKind.cell ∨ List.lookup n sc.names = some NameKind.free) :
    List.lookup n (relabel sc env).names = some NameKind.cell ∨ List.lookup n (relabel sc env).names = some NameKind.free := by
  have e : (relabel sc env).names = sc.names.map fun x => (x.1, (fun (n : Str) (k : NameKind) => if (k == NameKind.free && env.scope.kind == ScopeKind.function && env.kindOf n == some NameKind.cell) = true then NameKind.cell else k) x.1 x.2) := by
    unfold relabel
    apply List.map_congr_left
    rintro ⟨a, b⟩ _
    show (if _ then _ else _) = _
    split
    · rename_i q
      show _ = (a, if _ then _ else _)
      rw [if_pos q]
    · rename_i q
      show _ = (a, if _ then _ else _)
      rw [if_neg q]
  rw [e]
  generalize hg : (fun (n : Str) (k : NameKind) => if (k == NameKind.free && env.scope.kind == ScopeKind.function && env.kindOf n == some NameKind.cell) = true then NameKind.cell else k) = g
  rw [lookup_map g]
  have g1 : ∀ n, g n NameKind.cell = NameKind.cell := fun n => by rw [← hg]; exact if_neg (by simp)
  have g2 : ∀ n, g n NameKind.free = NameKind.cell ∨ g n NameKind.free = NameKind.free := fun n => by
    rw [← hg]
    show (if _ then _ else _) = _ ∨ (if _ then _ else _) = _
    split
    · exact .inl rfl
    · exact .inr rfl
  rw [lookup_find] at h
  cases q : sc.names.find? fun x => n == x.1 with
  | none => rw [q] at h; rcases h with h | h <;> cases h
  | some y =>
    rw [q] at h
    rcases h with h | h
    · left
      have h2 : y.2 = NameKind.cell := Option.some.inj h
      show some (g y.1 y.2) = _
      rw [h2, g1]
    · have h2 : y.2 = NameKind.free := Option.some.inj h
      show some (g y.1 y.2) = _ ∨ some (g y.1 y.2) = _
      rw [h2]
      exact (g2 y.1).imp (congrArg some) (congrArg some)
/-- a comprehension within a comprehension's block -/
theorem blkOk_in {X : Cx} {s : Shared} {H : Hp} {sc : Scope} {cl : List (Str × Addr)} {C : Addr} {fp : List Addr} {N : List Str} {scope : Scope} {own : List (Str × Nat)} (h : blkC N sc scope own = true) : BlkOk N (X.blk s H sc (compEnvC sc cl C X.env) fp).env.scope scope own := by
  obtain ⟨a, b, c, d, e⟩ := blkOk_by h
  exact ⟨a, b, c, fun y hy q => relabel_or (d y hy q), e⟩
end LX

/-! zip of three, each a list or a tuple -/
namespace LX
open PySem PySem.Spec PyProof.Rows L2 LT LP
def SqB (K : PySem.W.Frag) (t : Bool) (H : Hp) (a : Addr) (xs : List V) : Prop := match t with | true => SqT K H a xs | false => SqL K H a xs
def ItB (t : Bool) (h : Heap) (it a : Addr) (i : Nat) : Prop := match t with | true => h.IsTupleIter it a i | false => h.IsListIter it a i
def HasB (t : Bool) (h : Heap) (a : Addr) (items : Array Value) : Prop := match t with | true => h.IsTuple a items | false => h.IsList a items
def itO (t : Bool) (a : Addr) : Obj := match t with | true => { cls := .type "tuple_iterator", data := .fields #[.ref a, .int 0 0] } | false => { cls := .type "list_iterator", data := .fields #[.ref a, .int 0 0] }
theorem drawsB {prog : Program} {w : World} {A : Around} (hh : A.handled = none) (t : Bool) (it a : Addr) (hne : a ≠ it) (items : Array Value) :
    Draws prog w A it [it, a] items.size (fun i v => items[i]? = some v) (fun i h => ItB t h it a i ∧ HasB t h a items) := by
  cases t
  · exact Draws.list hh it a hne items
  · exact Draws.tuple hh it a hne items
theorem beginsB (t : Bool) (a : Addr) (items : Array Value) : Begins (.ref a) (itO t a) fun h => HasB t h a items := by
  cases t
  · exact begins_list a items
  · exact begins_tuple a items
theorem itB_0 {t : Bool} {h : Heap} {it a : Addr} (g : h.get? it = some (itO t a)) : ItB t h it a 0 := by
  cases t
  · exact ⟨_, g, rfl, rfl⟩
  · exact ⟨_, g, rfl, rfl⟩
theorem itB_ex {t : Bool} {h : Heap} {it a : Addr} {i : Nat} (g : ItB t h it a i) : ∃ o, h.get? it = some o ∧ ∃ fs, o.data = .fields fs := by
  cases t
  · obtain ⟨o, e, _, d⟩ := g; exact ⟨o, e, _, d⟩
  · obtain ⟨o, e, _, d⟩ := g; exact ⟨o, e, _, d⟩
theorem itB_at {t : Bool} {h h' : Heap} {it a : Addr} {i : Nat} (g : ItB t h it a i) (k : ∀ o, h.get? it = some o → h'.get? it = some o) : ItB t h' it a i := by
  cases t
  · exact Heap.IsListIter.at g k
  · exact Heap.IsTupleIter.at g k
section
variable {X : Cx} {pins : List (Addr × Obj)} {σ : L2.St} {H : Hp} {s : Shared}
theorem invB (I : Inv X pins σ H s) {t : Bool} {a : Addr} {xs : List V} (q : SqB X.K t H a xs) : ∃ its, Vals xs its ∧ HasB t s.heap a its.toArray ∧ a < s.heap.objs.size := by
  cases t
  · obtain ⟨its, rv, p, _⟩ := I.list q
    exact ⟨its, rv, p.isList, p.lt⟩
  · obtain ⟨its, rv, p, _⟩ := I.tuple q
    exact ⟨its, rv, p, let ⟨_, g, _⟩ := p; Heap.lt_size g⟩
theorem injB (I : Inv X pins σ H s) {t : Bool} {a : Addr} {xs ys : List V} (q : SqB X.K t H a xs) (r : SqB X.K t H a ys) : xs = ys := by
  cases t
  · exact I.list_inj q r
  · exact I.tuple_inj q r
end

def ItzB (K : PySem.W.Frag) (t1 t2 t3 : Bool) (a b c : Addr) : It :=
  ⟨fun i H => ∃ (xs ys zs : List V) (x y z : V), SqB K t1 H a xs ∧ SqB K t2 H b ys ∧ SqB K t3 H c zs ∧ xs[i]? = some x ∧ ys[i]? = some y ∧ zs[i]? = some z,
    fun i H v H' => ∃ T x y z, v = .ref T ∧ H T = none ∧ H' = upd H T (.tup [x, y, z]) ∧ (∀ xs, SqB K t1 H a xs → xs[i]? = some x) ∧ (∀ ys, SqB K t2 H b ys → ys[i]? = some y) ∧ ∀ zs, SqB K t3 H c zs → zs[i]? = some z,
    fun i H => ∃ xs ys zs : List V, SqB K t1 H a xs ∧ SqB K t2 H b ys ∧ SqB K t3 H c zs ∧ xs.length = i ∧ ys.length = i ∧ zs.length = i⟩
theorem turn_zip3 {P : Program} {w : World} {K : PySem.W.Frag} {elts : List Expr} {kk : Nat} {tpos : Pos} {t1 t2 t3 : Bool} {a b c z TI TO i1 i2 i3 : Addr} (D : ZipSep3 z TI TO i1 i2 i3 [i1, a] [i2, b] [i3, c]) (m1 : a ≠ i1) (m2 : b ≠ i2) (m3 : c ≠ i3) :
    Turn P w K (.Tuple elts kk tpos) (ItzB K t1 t2 t3 a b c) [z, TI, TO, i1, i2, i3] z (fun i h => IsZip h z TI TO .none ∧ IsTupOf3 h TI (.ref i1) (.ref i2) (.ref i3) ∧ (∃ x y u, IsTupOf3 h TO x y u) ∧ ItB t1 h i1 a i ∧ ItB t2 h i2 b i ∧ ItB t3 h i3 c i) where
  mem := List.mem_cons_self
  obj := fun i h ⟨hz, hTI, ⟨x, y, u, hTO⟩, s1, s2, s3⟩ c hc => by
    obtain ⟨o1, e1, f1, d1⟩ := itB_ex s1
    obtain ⟨o2, e2, f2, d2⟩ := itB_ex s2
    obtain ⟨o3, e3, f3, d3⟩ := itB_ex s3
    simp only [List.mem_cons, List.not_mem_nil, or_false] at hc
    rcases hc with rfl | rfl | rfl | rfl | rfl | rfl
    · exact ⟨_, hz, fun v q => by cases q⟩
    · exact ⟨_, hTI, fun v q => by cases q⟩
    · exact ⟨_, hTO, fun v q => by cases q⟩
    · exact ⟨o1, e1, fun v q => by rw [d1] at q; cases q⟩
    · exact ⟨o2, e2, fun v q => by rw [d2] at q; cases q⟩
    · exact ⟨o3, e3, fun v q => by rw [d3] at q; cases q⟩
  keep := fun i h h' ⟨hz, hTI, ⟨x, y, u, hTO⟩, h1, h2, h3⟩ k =>
    ⟨k z (by simp) _ hz, k TI (by simp) _ hTI, ⟨x, y, u, k TO (by simp) _ hTO⟩, itB_at h1 fun o q => k i1 (by simp) o q, itB_at h2 fun o q => k i2 (by simp) o q, itB_at h3 fun o q => k i3 (by simp) o q⟩
  item := by
    intro X hP hw hK hc i pins s σ H E I hf ⟨hz, hTI, ⟨x0, y0, u0, hTO⟩, h1, h2, h3⟩ ⟨xs, ys, zs, x, y, u, qx, qy, qz, hx, hy, hu⟩
    subst hP hw hK
    obtain ⟨its, rv, p, _⟩ := invB I qx
    obtain ⟨its2, rv2, p2, _⟩ := invB I qy
    obtain ⟨its3, rv3, p3, _⟩ := invB I qz
    obtain ⟨v, hv, ru⟩ := rv.get hx
    obtain ⟨v2, hv2, ru2⟩ := rv2.get hy
    obtain ⟨v3, hv3, ru3⟩ := rv3.get hu
    have li : i < its.toArray.size := by have := (List.getElem?_eq_some_iff.mp hv).1; simpa using this
    have li2 : i < its2.toArray.size := by have := (List.getElem?_eq_some_iff.mp hv2).1; simpa using this
    have li3 : i < its3.toArray.size := by have := (List.getElem?_eq_some_iff.mp hv3).1; simpa using this
    have hh : X.A.in1.handled = none := I.ok.hd hc
    have ltz : z < s.heap.objs.size := Heap.lt_size hz
    refine wpAny_pyNext_zipD3_item D (drawsB hh t1 i1 a m1 its.toArray) (drawsB hh t2 i2 b m2 its2.toArray) (drawsB hh t3 i3 c m3 its3.toArray) hz hTI hTO ⟨h1, p⟩ ⟨h2, p2⟩ ⟨h3, p3⟩ li li2 li3 fun w1 w2 w3 h5 tk y1 y2 y3 z3 TO3 st1 st2 st3 new sz kept => ?_
    have ev1 : w1 = v := by
      have q : its.toArray[i]? = some v := by simpa using hv
      rw [q] at y1; exact (Option.some.inj y1).symm
    have ev2 : w2 = v2 := by
      have q : its2.toArray[i]? = some v2 := by simpa using hv2
      rw [q] at y2; exact (Option.some.inj y2).symm
    have ev3 : w3 = v3 := by
      have q : its3.toArray[i]? = some v3 := by simpa using hv3
      rw [q] at y3; exact (Option.some.inj y3).symm
    subst ev1 ev2 ev3
    refine ⟨_, rfl, wpAny_letOwnedTupleGo_zip (s := { s with heap := h5, toks := tk }) z3 fun h4 z4 sb => ?_⟩
    have new4 := (sb.2 _ (Nat.ne_of_gt ltz)).trans new
    have ob : ObjOk X.prog X.w (upd H s.heap.objs.size (.tup [x, y, u])) h4 s.heap.objs.size (.tup [x, y, u]) :=
      ⟨by show 3 ≤ sizeLine; decide, [w1, w2, w3], .cons ru (.cons ru2 (.cons ru3 .nil)), ⟨_, new4, rfl, _, rfl⟩⟩
    have J : Inv X pins σ (upd H s.heap.objs.size (.tup [x, y, u])) { s with heap := h4, toks := tk } :=
      I.turnedNew (ch := [z, TI, TO, i1, i2, i3]) (fun c o nb q => (sb.2 c fun e => nb (by simp [e])).trans (kept c o (fun e => nb (by simp [e])) (fun e => nb (by simp [e])) (fun e => nb (by simp [e])) (fun e => nb (by simp [e])) (fun e => nb (by simp [e])) q)) hf (Nat.le_refl _) ob
    refine ⟨.ref s.heap.objs.size, _, J, rfl, ⟨_, x, y, u, rfl, I.hok.fresh (Nat.le_refl _), rfl, fun l hl => by rw [injB I hl qx]; exact hx, fun l hl => by rw [injB I hl qy]; exact hy, fun l hl => by rw [injB I hl qz]; exact hu⟩, ⟨z4, ?_, ⟨w1, w2, w3, ?_⟩, ?_, ?_, ?_⟩, fun c hm => ?_⟩
    · exact (sb.2 _ D.TIz).trans (kept _ _ D.TIz D.TITO D.TIi1 D.TIi2 D.TIi3 hTI)
    · exact (sb.2 _ D.TOz).trans TO3
    · exact itB_at st1.1 fun o q => (sb.2 _ D.zi1.symm).trans q
    · exact itB_at st2.1 fun o q => (sb.2 _ D.zi2.symm).trans q
    · exact itB_at st3.1 fun o q => (sb.2 _ D.zi3.symm).trans q
    · have lt : c < s.heap.objs.size := by
        have hm2 := hm
        obtain ⟨o1, e1, _⟩ := itB_ex h1
        obtain ⟨o2, e2, _⟩ := itB_ex h2
        obtain ⟨o3, e3, _⟩ := itB_ex h3
        simp only [List.mem_cons, List.not_mem_nil, or_false] at hm2
        rcases hm2 with rfl | rfl | rfl | rfl | rfl | rfl
        · exact ltz
        · exact Heap.lt_size hTI
        · exact Heap.lt_size hTO
        · exact Heap.lt_size e1
        · exact Heap.lt_size e2
        · exact Heap.lt_size e3
      rw [upd_ne (Nat.ne_of_lt lt)]
      exact (hf c hm).1
  done := by
    intro X hP hw hK hc i pins s σ H E I hf ⟨hz, hTI, ⟨x0, y0, u0, hTO⟩, h1, h2, h3⟩ ⟨xs, ys, zs, qx, qy, qz, e1, e2, e3⟩
    subst hP hw hK
    obtain ⟨its, rv, p, _⟩ := invB I qx
    obtain ⟨its2, rv2, p2, _⟩ := invB I qy
    obtain ⟨its3, rv3, p3, _⟩ := invB I qz
    have n1 : i = its.toArray.size := by rw [List.size_toArray, ← rv.length]; exact e1.symm
    have n2 : i = its2.toArray.size := by rw [List.size_toArray, ← rv2.length]; exact e2.symm
    have n3 : i = its3.toArray.size := by rw [List.size_toArray, ← rv3.length]; exact e3.symm
    have hh : X.A.in1.handled = none := I.ok.hd hc
    exact wpAny_pyNext_zipD3_end D (drawsB hh t1 i1 a m1 its.toArray) (drawsB hh t2 i2 b m2 its2.toArray) (drawsB hh t3 i3 c m3 its3.toArray) hz hTI hTO ⟨h1, p⟩ ⟨h2, p2⟩ ⟨h3, p3⟩ (Nat.le_of_eq n1) (Nat.le_of_eq n2) (Nat.le_of_eq n3) (.inl n1) fun h5 tk kept =>
      ⟨rfl, I.turnedL (ch := [z, TI, TO, i1, i2, i3]) (fun c o nb q => kept c o (fun e => nb (by simp [e])) (fun e => nb (by simp [e])) (fun e => nb (by simp [e])) (fun e => nb (by simp [e])) (fun e => nb (by simp [e])) q) hf⟩
  self := fun A i s Q E st h => wpAny_pyIter_zip st.1 h
theorem vals3 {x y z : V} {us : List Value} (r : Vals [x, y, z] us) : ∃ u v w', us = [u, v, w'] ∧ RelV x u ∧ RelV y v ∧ RelV z w' := by
  cases r with
  | cons r1 r2 =>
    obtain ⟨v, w', rfl, a, b⟩ := vals2 r2
    exact ⟨_, _, _, rfl, r1, a, b⟩
def iZip3 (K : PySem.W.Frag) (ta : TA) : TI := fun σ H R => ta σ H fun vs H1 => ∃ t1 t2 t3 a b c xs ys zs, vs = [.ref a, .ref b, .ref c] ∧ SqB K t1 H1 a xs ∧ SqB K t2 H1 b ys ∧ SqB K t3 H1 c zs ∧ R (ItzB K t1 t2 t3 a b c) H1
theorem pi_zip3 {X : Cx} {e e2 e3 : Expr} {ta : TA} {p pos tpos : Pos} {elts : List Expr} {kk : Nat} (hg : Gl X "zip") (hm : X.mg "zip" = none) (ha : PA X [e, e2, e3] ta)
    (hs : starEach [e, e2, e3] X.env = (false, eval e X.env) :: starEach [e2, e3] X.env := by rfl) (hpl : (backTo pos (starEach [e2, e3] X.env)).any (·.1) = false := by rfl) :
    PI X (.Tuple elts kk tpos) (.Call (.Name "zip" p) [e, e2, e3] [] pos) (iZip3 X.K ta) := by
  constructor
  intro pins s σ H R I want
  refine Call_ (ld_blt I hg hm PyProof.Rows.boot_zip (PyProof.Rows.callWith_type1 (thn (ha.run pos pins s σ H _ I want) ?_) hs hpl))
  rintro us s1 ⟨vs, H1, J, rel, t1, t2, t3, a, b, c, xs, ys, zs, rfl, qx, qy, qz, q⟩
  obtain ⟨u1, u2, u3, rfl, r1, r2, r3⟩ := vals3 rel
  cases r1
  cases r2
  cases r3
  obtain ⟨its, rv, p1, la⟩ := invB J qx
  obtain ⟨its2, rv2, p2, lb⟩ := invB J qy
  obtain ⟨its3, rv3, p3, lc⟩ := invB J qz
  refine zip_begins3 (beginsB t1 a its.toArray) (beginsB t2 b its2.toArray) (beginsB t3 c its3.toArray) p1 p2 p3 fun h' hz hTI hTO g1 g2 g3 sz keep => wpAny_pyIter_zip hz ?_
  have J2 : Inv X pins σ H1 { s1 with heap := h' } := J.kept (t' := s1.toks) keep
  have one : ∀ {a : Addr}, a < s1.heap.objs.size → ∀ x ∈ [a], x < s1.heap.objs.size := fun h x hx => by rw [List.mem_singleton.mp hx]; exact h
  refine ⟨s1.heap.objs.size + 5, [s1.heap.objs.size + 5, s1.heap.objs.size + 3, s1.heap.objs.size + 4, s1.heap.objs.size, s1.heap.objs.size + 1, s1.heap.objs.size + 2], _, _, H1, rfl, J2,
    turn_zip3 (t1 := t1) (t2 := t2) (t3 := t3) (zip_sep3 (one la) (one lb) (one lc)) (Nat.ne_of_lt la) (Nat.ne_of_lt (Nat.lt_succ_of_lt lb)) (Nat.ne_of_lt (Nat.lt_succ_of_lt (Nat.lt_succ_of_lt lc))),
    ⟨hz, hTI, ⟨_, _, _, hTO⟩, itB_0 g1, itB_0 g2, itB_0 g3⟩, fun c hc => ?_, q⟩
  have le : s1.heap.objs.size ≤ c := by
    simp only [List.mem_cons, List.not_mem_nil, or_false] at hc
    rcases hc with rfl | rfl | rfl | rfl | rfl | rfl <;> first | exact Nat.le_add_right _ _ | exact Nat.le_refl _
  exact J.fpOk le (J.hok.fresh le)
def YTrip (xs ys zs : Nat → Option V) : Nat → Hp → V → Hp → Prop := fun i H v H' => ∃ T x y z, v = .ref T ∧ H T = none ∧ H' = upd H T (.tup [x, y, z]) ∧ xs i = some x ∧ ys i = some y ∧ zs i = some z
theorem walk_zip3 {K : PySem.W.Frag} {t1 t2 t3 : Bool} {a b c : Addr} {xs ys zs : List V} (h2 : xs.length = ys.length) (h3 : xs.length = zs.length) :
    Walk (ItzB K t1 t2 t3 a b c) xs.length (fun H => SqB K t1 H a xs ∧ SqB K t2 H b ys ∧ SqB K t3 H c zs) (YTrip (fun i => xs[i]?) (fun i => ys[i]?) fun i => zs[i]?) := by
  refine ⟨fun i _ hi q => ⟨xs, ys, zs, xs[i], ys[i]'(by omega), zs[i]'(by omega), q.1, q.2.1, q.2.2, by simp [hi], by simp [show i < ys.length by omega], by simp [show i < zs.length by omega]⟩, fun _ q => ⟨xs, ys, zs, q.1, q.2.1, q.2.2, rfl, h2.symm, h3.symm⟩, fun i H v H' _ q y => ?_⟩
  obtain ⟨T, x, y2, z, e1, e2, e3, e4, e5, e6⟩ := y
  exact ⟨T, x, y2, z, e1, e2, e3, e4 xs q.1, e5 ys q.2.1, e6 zs q.2.2⟩
theorem sqB_same {K : PySem.W.Frag} {t : Bool} {H H' : Hp} {a : Addr} {xs : List V} (s : Same H H') (h : SqB K t H a xs) : SqB K t H' a xs := by
  cases t
  · exact s.seq h
  · exact same_tup s h
theorem sqB_E {K : PySem.W.Frag} {H : Hp} {a : Addr} {xs : List V} (h : SqE K H a xs) : ∃ t, SqB K t H a xs := h.elim (fun h => ⟨false, h⟩) fun h => ⟨true, h⟩
/-- one def, either of two promises -/
theorem fn_or {P : Program} {w : World} {K : PySem.W.Frag} {mg : Str → Option Value} {base : Heap} {CX : CXT} {k : Nat} {f : Addr} {fd : FuncData} {ps : List Str} {sp sp' : Sp} (F : FnOk P w K mg base CX k f fd ps sp) (G : FnOk P w K mg base CX k f fd ps sp') :
    FnOk P w K mg base CX k f fd ps (fun vs H Q E => sp vs H Q E ∨ sp' vs H Q E) :=
  ⟨fun vs H Q E q => q.elim (F.len vs H Q E) (G.len vs H Q E), fun A outer s H args us vs Q E hr he hb hv hs => hs.elim (F.run A outer s H args us vs Q E hr he hb hv) (G.run A outer s H args us vs Q E hr he hb hv)⟩
end LX

/-! patterns, times, orders: the mathematics -/
namespace LQ
abbrev Pat := List Bool
def tks (l : Pat) : Nat := l.count true
def fls (l : Pat) : Nat := l.count false
theorem tks_nil : tks [] = 0 := rfl
theorem fls_nil : fls [] = 0 := rfl
theorem tks_app (l m : Pat) : tks (l ++ m) = tks l + tks m := List.count_append
theorem fls_app (l m : Pat) : fls (l ++ m) = fls l + fls m := List.count_append
theorem tks_t (l : Pat) : tks (l ++ [true]) = tks l + 1 := tks_app l [true]
theorem tks_f (l : Pat) : tks (l ++ [false]) = tks l := tks_app l [false]
theorem fls_t (l : Pat) : fls (l ++ [true]) = fls l := fls_app l [true]
theorem fls_f (l : Pat) : fls (l ++ [false]) = fls l + 1 := fls_app l [false]
theorem len_pat : ∀ l : Pat, l.length = tks l + fls l
  | [] => rfl
  | true :: r => by have := len_pat r; simp [tks, fls] at *; omega
  | false :: r => by have := len_pat r; simp [tks, fls] at *; omega
theorem take_snoc {α : Type} {l : List α} {i : Nat} {b : α} (h : l[i]? = some b) : l.take (i + 1) = l.take i ++ [b] := by
  rw [List.take_add_one, h]; rfl
def Pre (l : Pat) : Prop := ∀ i, fls (l.take i) ≤ tks (l.take i)
theorem Pre.nil : Pre [] := fun i => by simp [tks, fls]
theorem Pre.snoc {l : Pat} {b : Bool} (h : Pre l) (hb : fls (l ++ [b]) ≤ tks (l ++ [b])) : Pre (l ++ [b]) := fun i => by
  by_cases c : i ≤ l.length
  · rw [List.take_append_of_le_length c]; exact h i
  · rw [List.take_of_length_le (by simp; omega)]; exact hb
theorem Pre.all {l : Pat} (h : Pre l) : fls l ≤ tks l := by
  have := h l.length
  rwa [List.take_length] at this
theorem tks_take (l : Pat) (i : Nat) : tks (l.take i) ≤ tks l := (List.take_sublist i l).count_le _
theorem fls_take (l : Pat) (i : Nat) : fls (l.take i) ≤ fls l := (List.take_sublist i l).count_le _
def Good (l : Pat) : Prop := Pre l ∧ fls l = tks l
def tm : Nat → Pat → List Nat
  | _, [] => []
  | t, true :: r => tm (t + 1) r
  | t, false :: r => t :: tm t r
theorem tm_app : ∀ (l m : Pat) (t : Nat), tm t (l ++ m) = tm t l ++ tm (t + tks l) m
  | [], m, t => by simp [tm, tks]
  | true :: r, m, t => by
    have := tm_app r m (t + 1)
    simp only [List.cons_append, tm, this]
    congr 2
    simp [tks]; omega
  | false :: r, m, t => by
    have := tm_app r m t
    simp only [List.cons_append, tm, this]
    congr 2
theorem tm_len : ∀ (l : Pat) (t : Nat), (tm t l).length = fls l
  | [], _ => rfl
  | true :: r, t => by rw [tm, tm_len r]; simp [fls]
  | false :: r, t => by rw [tm, List.length_cons, tm_len r]; simp [fls]
abbrev times (l : Pat) : List Nat := tm 0 l
theorem times_t (l : Pat) : times (l ++ [true]) = times l := by rw [times, tm_app]; simp [tm]
theorem times_f (l : Pat) : times (l ++ [false]) = times l ++ [tks l] := by rw [times, tm_app]; simp [tm]
theorem times_len (l : Pat) : (times l).length = fls l := tm_len l 0
theorem times_pre (l : Pat) (i : Nat) : ∃ m, times l = times (l.take i) ++ m := by
  refine ⟨tm (tks (l.take i)) (l.drop i), ?_⟩
  have h := tm_app (l.take i) (l.drop i) 0
  rw [List.take_append_drop, Nat.zero_add] at h
  exact h
/-- the time of the fill that stands at i -/
theorem times_at {l : Pat} {i : Nat} (h : l[i]? = some false) : (times l)[fls (l.take i)]? = some (tks (l.take i)) := by
  obtain ⟨m, e⟩ := times_pre l (i + 1)
  rw [e, take_snoc h, times_f, List.append_assoc, List.getElem?_append_right (by rw [times_len]; exact Nat.le_refl _), times_len, Nat.sub_self]
  rfl
theorem times_all {l : Pat} (h : Pre l) : (∀ j t, (times l)[j]? = some t → j < t ∧ t ≤ tks l) ∧ (times l).Pairwise (· ≤ ·) := by
  have H : ∀ i, i ≤ l.length → (∀ j t, (times (l.take i))[j]? = some t → j < t ∧ t ≤ tks (l.take i)) ∧ (times (l.take i)).Pairwise (· ≤ ·) := by
    intro i
    induction i with
    | zero => intro _; exact ⟨fun j t e => by simp [tm] at e, by simp [tm]⟩
    | succ i ih =>
      intro hi
      obtain ⟨ih1, ih2⟩ := ih (by omega)
      have hb : l[i]? = some l[i] := List.getElem?_eq_getElem (by omega)
      have hp := h (i + 1)
      rw [take_snoc hb] at hp ⊢
      generalize l[i] = b at hp hb
      cases b with
      | true =>
        rw [times_t, tks_t]
        exact ⟨fun j t e => let ⟨a, b⟩ := ih1 j t e; ⟨a, by omega⟩, ih2⟩
      | false =>
        rw [times_f, tks_f]
        rw [fls_f, tks_f] at hp
        refine ⟨fun j t e => ?_, ?_⟩
        · rw [List.getElem?_append] at e
          split at e
          · exact ih1 j t e
          · rename_i c
            rw [times_len] at c e
            cases q : j - fls (l.take i) with
            | zero => rw [q] at e; cases e; omega
            | succ k => rw [q] at e; simp at e
        · rw [List.pairwise_append]
          refine ⟨ih2, by simp, fun a ha b hb => ?_⟩
          rw [List.mem_singleton] at hb; subst hb
          obtain ⟨j, e⟩ := List.mem_iff_getElem?.mp ha
          exact (ih1 j a e).2
  have := H l.length (Nat.le_refl _)
  rwa [List.take_length] at this
def ways : Nat → List Nat → Int
  | _, [] => 1
  | j, t :: r => ((t : Int) - (j : Nat)) * ways (j + 1) r
theorem ways_snoc : ∀ (ts : List Nat) (j t : Nat), ways j (ts ++ [t]) = ways j ts * ((t : Int) - ((j + ts.length : Nat) : Int))
  | [], j, t => by simp [ways]
  | u :: r, j, t => by
    simp only [List.cons_append, ways, ways_snoc r (j + 1) t, List.length_cons]
    rw [show j + 1 + r.length = j + (r.length + 1) by omega, Int.mul_assoc]
theorem ways_bound : ∀ (ts : List Nat) (j n : Nat), (∀ i t, ts[i]? = some t → j + i < t ∧ t ≤ n) → 0 ≤ ways j ts ∧ ways j ts ≤ (n : Int) ^ ts.length
  | [], j, n, _ => by simp [ways]
  | t :: r, j, n, h => by
    have h0 := h 0 t rfl
    obtain ⟨a, b⟩ := ways_bound r (j + 1) n fun i u e => by have := h (i + 1) u e; omega
    rw [ways, List.length_cons, Int.pow_succ]
    refine ⟨Int.mul_nonneg (by omega) a, ?_⟩
    rw [Int.mul_comm ((n : Int) ^ r.length)]
    exact Int.mul_le_mul (by omega) b a (by omega)
/-! ### orders, and those that can be -/
def dueP (tk : List Int) (ts : List Nat) (bs : List Int) : Bool := (bs.zip ts).all fun p => decide (p.1 ∈ tk.take p.2)
def orders (items : List Int) : Nat → List (List Int)
  | 0 => [[]]
  | k + 1 => (orders items k).flatMap fun row => (items.filter fun x => decide (x ∉ row)).map fun x => row ++ [x]
theorem orders_mem {items : List Int} : ∀ {k : Nat} {r : List Int}, r ∈ orders items k → r.length = k ∧ r.Nodup ∧ ∀ x ∈ r, x ∈ items
  | 0, r, h => by
    rw [orders, List.mem_singleton] at h; subst h
    exact ⟨rfl, List.nodup_nil, fun x hx => by cases hx⟩
  | k + 1, r, h => by
    rw [orders, List.mem_flatMap] at h
    obtain ⟨row, h1, h2⟩ := h
    rw [List.mem_map] at h2
    obtain ⟨x, h3, rfl⟩ := h2
    rw [List.mem_filter, decide_eq_true_iff] at h3
    obtain ⟨a, b, c⟩ := orders_mem h1
    refine ⟨by simp [a], ?_, fun y hy => ?_⟩
    · rw [List.nodup_append]
      refine ⟨b, by simp, fun y hy z hz => ?_⟩
      rw [List.mem_singleton] at hz; subst hz
      rintro rfl; exact h3.2 hy
    · rw [List.mem_append, List.mem_singleton] at hy
      rcases hy with hy | rfl
      · exact c y hy
      · exact h3.1
theorem perm_of_subset {l m : List Int} (h1 : l.Nodup) (h2 : m.Nodup) (hs : ∀ x ∈ l, x ∈ m) (hl : l.length = m.length) : l.Perm m := by
  refine (List.perm_ext_iff_of_nodup h1 h2).mpr fun a => ⟨hs a, fun ha => ?_⟩
  by_cases q : a ∈ l
  · exact q
  · exfalso
    have hn : (a :: l).Nodup := List.nodup_cons.mpr ⟨q, h1⟩
    have := List.Nodup.length_le_of_subset hn (l₂ := m) (fun x hx => by
      rcases List.mem_cons.mp hx with rfl | hx
      · exact ha
      · exact hs x hx)
    rw [List.length_cons] at this; omega
theorem orders_perm {items : List Int} (nd : items.Nodup) {r : List Int} (h : r ∈ orders items items.length) : r.Perm items := by
  obtain ⟨a, b, c⟩ := orders_mem h
  exact perm_of_subset b nd c a
theorem sum_flat {α β : Type} (f : α → List β) (d : α → Bool) (c : Nat) : ∀ L : List α, (∀ r ∈ L, (f r).length = if d r = true then c else 0) → (L.flatMap f).length = c * (L.filter d).length
  | [], _ => by simp
  | r :: L, h => by
    rw [List.flatMap_cons, List.length_append, h r List.mem_cons_self, sum_flat f d c L fun r hr => h r (List.mem_cons_of_mem _ hr), List.filter_cons]
    by_cases q : d r = true
    · rw [if_pos q, if_pos q, List.length_cons, Nat.mul_succ]; omega
    · rw [if_neg q, if_neg q]; omega
theorem len_split {α : Type} (p : α → Bool) : ∀ l : List α, l.length = (l.filter p).length + (l.filter fun x => !p x).length
  | [] => rfl
  | a :: r => by
    have := len_split p r
    cases q : p a <;> simp [List.filter_cons, q] <;> omega
theorem filter_split {items row : List Int} {t : Nat} (nd : items.Nodup) (nr : row.Nodup) (ht : t ≤ items.length) (hr : ∀ x ∈ row, x ∈ items.take t) :
    ((items.filter fun x => decide (x ∉ row)).filter fun x => decide (x ∈ items.take t)).length = t - row.length := by
  rw [List.filter_filter]
  have e : items.filter (fun a => decide (a ∈ items.take t) && decide (a ∉ row)) = (items.take t).filter fun a => decide (a ∉ row) := by
    conv => lhs; rw [← List.take_append_drop t items]
    rw [List.filter_append]
    have nd2 := nd
    rw [← List.take_append_drop t items, List.nodup_append] at nd2
    have z : (items.drop t).filter (fun a => decide (a ∈ (items.take t ++ items.drop t).take t) && decide (a ∉ row)) = [] := by
      rw [List.filter_eq_nil_iff]
      intro a ha q
      rw [Bool.and_eq_true, decide_eq_true_iff, List.take_append_drop] at q
      exact nd2.2.2 a q.1 a ha rfl
    rw [z, List.append_nil]
    refine List.filter_congr fun a ha => ?_
    rw [List.take_append_drop, decide_eq_true ha, Bool.true_and]
  rw [e]
  have nt : (items.take t).Nodup := nd.sublist (List.take_sublist _ _)
  have p : ((items.take t).filter fun a => decide (a ∈ row)).Perm row := by
    refine (List.perm_ext_iff_of_nodup (nt.filter _) nr).mpr fun a => ?_
    rw [List.mem_filter, decide_eq_true_iff]
    exact ⟨fun q => q.2, fun q => ⟨hr a q, q⟩⟩
  have s := len_split (fun a => decide (a ∈ row)) (items.take t)
  rw [p.length_eq, List.length_take, Nat.min_eq_left ht] at s
  have e2 : ((items.take t).filter fun x => !decide (x ∈ row)) = (items.take t).filter fun a => decide (a ∉ row) := by
    refine List.filter_congr fun a _ => ?_
    by_cases q : a ∈ row <;> simp [q]
  rw [e2] at s
  omega
theorem dueP_snoc {tk : List Int} {ts : List Nat} {row : List Int} {x : Int} {t : Nat} (h : ts[row.length]? = some t) : dueP tk ts (row ++ [x]) = (dueP tk ts row && decide (x ∈ tk.take t)) := by
  unfold dueP
  have e : (row ++ [x]).zip ts = row.zip ts ++ [(x, t)] := by
    have hl := (List.getElem?_eq_some_iff.mp h).1
    have e1 : ts = ts.take row.length ++ t :: ts.drop (row.length + 1) := by
      conv => lhs; rw [← List.take_append_drop row.length ts]
      congr 1
      rw [List.drop_eq_getElem_cons hl]
      congr 1
      exact (List.getElem?_eq_some_iff.mp h).2
    conv => lhs; rw [e1]
    rw [List.zip_append (by rw [List.length_take]; omega)]
    have e3 : row.zip ts = row.zip (ts.take row.length) := by
      have q : row.zip ts = (row ++ []).zip (ts.take row.length ++ t :: ts.drop (row.length + 1)) := by rw [List.append_nil, ← e1]
      rw [q, List.zip_append (by rw [List.length_take]; omega)]
      simp
    rw [e3]
    simp
  rw [e, List.all_append]
  simp
theorem due_sub {tk : List Int} {ts : List Nat} {row : List Int} {t : Nat} (hd : dueP tk ts row = true) (hl : row.length ≤ ts.length) (hm : ∀ j u, j < row.length → ts[j]? = some u → u ≤ t) : ∀ x ∈ row, x ∈ tk.take t := by
  intro x hx
  obtain ⟨j, hj, rfl⟩ := List.mem_iff_getElem.mp hx
  have hu : ts[j]? = some ts[j] := List.getElem?_eq_getElem (by omega)
  have hz : (row.zip ts)[j]? = some (row[j], ts[j]) := List.getElem?_zip_eq_some.mpr ⟨List.getElem?_eq_getElem hj, hu⟩
  have := List.all_eq_true.mp hd _ (List.mem_of_getElem? hz)
  rw [decide_eq_true_iff] at this
  exact (List.take_subset_take_left _ (hm j _ hj hu)) this
theorem count_due {items : List Int} {ts : List Nat} (nd : items.Nodup) (hts : ∀ j t, ts[j]? = some t → j < t ∧ t ≤ items.length) (mono : ts.Pairwise (· ≤ ·)) :
    ∀ k, k ≤ ts.length → (((orders items k).filter (dueP items ts)).length : Int) = ways 0 (ts.take k)
  | 0, _ => by rw [List.take_zero]; rfl
  | k + 1, hk => by
    have ih := count_due nd hts mono k (by omega)
    have ht : ts[k]? = some ts[k] := List.getElem?_eq_getElem (by omega)
    generalize ts[k] = t at ht
    obtain ⟨h1, h2⟩ := hts k t ht
    rw [take_snoc ht, ways_snoc, ← ih, List.length_take, Nat.min_eq_left (by omega), Nat.zero_add, orders, List.filter_flatMap,
      sum_flat _ (dueP items ts) (t - k) (orders items k) fun row hr => ?_]
    · rw [Int.natCast_mul, Int.mul_comm]
      congr 1
      omega
    · obtain ⟨a, b, c⟩ := orders_mem hr
      have e : ∀ L : List Int, ((L.map fun x => row ++ [x]).filter (dueP items ts)).length = if dueP items ts row = true then (L.filter fun x => decide (x ∈ items.take t)).length else 0 := by
        intro L
        rw [List.filter_map, List.length_map]
        by_cases q : dueP items ts row = true
        · rw [if_pos q]
          congr 2
          funext x
          show dueP items ts (row ++ [x]) = _
          rw [dueP_snoc (t := t) (by rw [a]; exact ht), q, Bool.true_and]
        · rw [if_neg q, List.length_eq_zero_iff, List.filter_eq_nil_iff]
          intro x _ z
          replace z : dueP items ts (row ++ [x]) = true := z
          rw [dueP_snoc (t := t) (by rw [a]; exact ht), Bool.and_eq_true] at z
          exact q z.1
      rw [e]
      by_cases q : dueP items ts row = true
      · rw [if_pos q, if_pos q, filter_split nd b h2 (due_sub q (by omega) fun j u hj hu => ?_), a]
        have hk2 := (List.getElem?_eq_some_iff.mp ht)
        have hj2 := (List.getElem?_eq_some_iff.mp hu)
        have := List.pairwise_iff_getElem.mp mono j k hj2.1 hk2.1 (by omega)
        rw [hj2.2, hk2.2] at this
        exact this
      · rw [if_neg q, if_neg q]
/-- the pattern's number of orders: the product -/
theorem orders_count {items : List Int} {l : Pat} (nd : items.Nodup) (g : Good l) (hn : tks l = items.length) : (((orders items items.length).filter (dueP items (times l))).length : Int) = ways 0 (times l) := by
  obtain ⟨h1, h2⟩ := times_all g.1
  have hl : (times l).length = items.length := by rw [times_len, g.2, hn]
  have := count_due nd (fun j t e => by have := h1 j t e; omega) h2 items.length (by omega)
  rw [← hl, List.take_length, hl] at this
  exact this
theorem idx_take {l : List Int} {x : Int} {t : Nat} (ht : t ≤ l.length) : decide (l.idxOf x < t) = decide (x ∈ l.take t) := by
  refine decide_eq_decide.mpr ⟨fun h => ?_, fun h => ?_⟩
  · rw [List.mem_take_iff_getElem]
    have h2 : l.idxOf x < l.length := by omega
    exact ⟨l.idxOf x, by omega, List.getElem_idxOf h2⟩
  · obtain ⟨j, hj, e⟩ := List.mem_take_iff_getElem.mp h
    have : l.idxOf x ≤ j := by
      apply Nat.le_of_not_lt
      intro q
      have := List.not_of_lt_findIdx (p := (· == x)) (xs := l) q
      rw [e] at this
      simp at this
    omega
theorem swap_perm {l : List Int} {i j : Nat} {a b : Int} (hi : l[i]? = some a) (hj : l[j]? = some b) : ((l.set i b).set j a).Perm l := by
  obtain ⟨h1, rfl⟩ := List.getElem?_eq_some_iff.mp hi
  obtain ⟨h2, rfl⟩ := List.getElem?_eq_some_iff.mp hj
  exact List.set_set_perm h1 h2
end LQ

namespace LQ
/-! the places that a pattern fills -/
def mn : List Int → Int
  | [] => 0
  | [a] => a
  | a :: b :: r => if a ≤ mn (b :: r) then a else mn (b :: r)
theorem mn_ok : ∀ {l : List Int}, l ≠ [] → mn l ∈ l ∧ ∀ x ∈ l, mn l ≤ x
  | [], h => absurd rfl h
  | [a], _ => ⟨List.mem_singleton.mpr rfl, fun x hx => by rw [List.mem_singleton] at hx; subst hx; exact Int.le_refl _⟩
  | a :: b :: r, _ => by
    obtain ⟨h1, h2⟩ := mn_ok (l := b :: r) (by simp)
    rw [mn]
    by_cases c : a ≤ mn (b :: r)
    · rw [if_pos c]
      exact ⟨List.mem_cons_self, fun x hx => by
        rcases List.mem_cons.mp hx with rfl | hx
        · exact Int.le_refl _
        · exact Int.le_trans c (h2 x hx)⟩
    · rw [if_neg c]
      exact ⟨List.mem_cons_of_mem _ h1, fun x hx => by
        rcases List.mem_cons.mp hx with rfl | hx
        · omega
        · exact h2 x hx⟩
theorem mn_eq {l : List Int} {m : Int} (h : m ∈ l) (h2 : ∀ x ∈ l, m ≤ x) : m = mn l := by
  obtain ⟨a, b⟩ := mn_ok (l := l) (fun e => by subst e; cases h)
  exact Int.le_antisymm (h2 _ a) (b _ h)
structure Sh where
  at_ : Nat
  gaps : List Int
  fills : List Int
def stp (tk : List Int) (s : Sh) (b : Bool) : Sh := if b = true then ⟨s.at_ + 1, s.gaps ++ (tk[s.at_]?).toList, s.fills⟩ else ⟨s.at_, s.gaps.erase (mn s.gaps), s.fills ++ [mn s.gaps]⟩
def run (tk : List Int) (l : Pat) : Sh := l.foldl (stp tk) ⟨0, [], []⟩
theorem run_snoc (tk : List Int) (l : Pat) (b : Bool) : run tk (l ++ [b]) = stp tk (run tk l) b := by unfold run; rw [List.foldl_append]; rfl
theorem run_nil (tk : List Int) : run tk [] = ⟨0, [], []⟩ := rfl
/-- what has been kept after a part of a pattern -/
theorem run_ok {tk : List Int} {l : Pat} (h : Pre l) (hl : tks l ≤ tk.length) : ∀ i, i ≤ l.length → (run tk (l.take i)).at_ = tks (l.take i) ∧ (run tk (l.take i)).fills.length = fls (l.take i) ∧ ((run tk (l.take i)).gaps ++ (run tk (l.take i)).fills).Perm (tk.take (tks (l.take i)))
  | 0, _ => by rw [List.take_zero]; exact ⟨rfl, rfl, List.Perm.refl _⟩
  | i + 1, hi => by
    obtain ⟨a, b, c⟩ := run_ok h hl i (by omega)
    have hb : l[i]? = some l[i] := List.getElem?_eq_getElem (by omega)
    have hp := h (i + 1)
    have ht := tks_take l (i + 1)
    rw [take_snoc hb] at hp ht ⊢
    generalize l[i] = x at hp ht hb
    rw [run_snoc]
    cases x with
    | true =>
      rw [tks_t] at ht
      have hx := List.getElem?_eq_getElem (l := tk) (i := tks (l.take i)) (by omega)
      rw [tks_t, fls_t]
      refine ⟨congrArg (· + 1) a, b, ?_⟩
      show (((run tk (l.take i)).gaps ++ (tk[(run tk (l.take i)).at_]?).toList) ++ (run tk (l.take i)).fills).Perm _
      rw [a, hx, take_snoc hx]
      show (((run tk (l.take i)).gaps ++ [_]) ++ (run tk (l.take i)).fills).Perm _
      rw [List.append_assoc]
      refine List.Perm.trans (List.perm_append_comm_assoc _ [_] _) ?_
      exact (List.perm_append_comm (l₁ := [_])).trans (c.append_right _)
    | false =>
      rw [fls_f, tks_f] at hp
      rw [tks_f, fls_f]
      have hlen := c.length_eq
      rw [List.length_append, List.length_take, b] at hlen
      have hne : (run tk (l.take i)).gaps ≠ [] := fun e => by
        rw [e] at hlen
        have := tks_take l i
        simp at hlen; omega
      refine ⟨a, by show ((run tk (l.take i)).fills ++ [_]).length = _; rw [List.length_append, b]; rfl, ?_⟩
      show ((run tk (l.take i)).gaps.erase (mn (run tk (l.take i)).gaps) ++ ((run tk (l.take i)).fills ++ [mn (run tk (l.take i)).gaps])).Perm _
      refine List.Perm.trans ?_ c
      rw [← List.append_assoc]
      refine (List.perm_append_singleton _ _).trans ?_
      exact (List.perm_cons_erase (mn_ok hne).1).symm.append_right _
/-- the places that the pattern fills from the list tk -/
def fillsOf (tk : List Int) (l : Pat) : List Int := (run tk l).fills
theorem fills_perm {tk : List Int} {l : Pat} (g : Good l) (hl : tks l = tk.length) : (fillsOf tk l).Perm tk := by
  obtain ⟨a, b, c⟩ := run_ok g.1 (Nat.le_of_eq hl) l.length (Nat.le_refl _)
  rw [List.take_length] at a b c
  rw [hl, List.take_length] at c
  have h := c.length_eq
  rw [List.length_append, b, g.2, hl] at h
  have e : (run tk l).gaps = [] := List.length_eq_zero_iff.mp (by omega)
  rw [e] at c
  exact c
end LQ

namespace LQ
/-! patterns between takes and fills: times within bounds -/
abbrev ix (tk : List Int) (p : Int) : Nat := tk.idxOf p
structure Lead (tk : List Int) (ts : List Nat) (fs : List Int) : Prop where
  len : fs.length = ts.length
  at_ : ∀ (j : Nat) (f : Int) (t : Nat), fs[j]? = some f → ts[j]? = some t → f ∈ tk.take t ∧ f ∉ fs.take j ∧ ∀ x ∈ tk.take t, x ∉ fs.take j → f ≤ x
theorem Lead.snoc {tk : List Int} {ts : List Nat} {fs : List Int} {f : Int} {t : Nat} (h : Lead tk ts fs) (h1 : f ∈ tk.take t) (h2 : f ∉ fs) (h3 : ∀ x ∈ tk.take t, x ∉ fs → f ≤ x) : Lead tk (ts ++ [t]) (fs ++ [f]) := by
  have hl := h.len
  refine ⟨by rw [List.length_append, List.length_append, hl]; rfl, fun j g u e1 e2 => ?_⟩
  by_cases c : j < fs.length
  · rw [List.getElem?_append_left c] at e1
    rw [List.getElem?_append_left (by omega)] at e2
    rw [List.take_append_of_le_length (by omega)]
    exact h.at_ j g u e1 e2
  · rw [List.getElem?_append_right (by omega)] at e1
    rw [List.getElem?_append_right (by omega), ← hl] at e2
    cases z : j - fs.length with
    | zero =>
      rw [z] at e1 e2
      cases e1; cases e2
      have : j = fs.length := by omega
      subst this
      rw [List.take_left]
      exact ⟨h1, h2, h3⟩
    | succ m => rw [z] at e1; simp at e1
theorem lead_run {tk : List Int} {l : Pat} (nd : tk.Nodup) (h : Pre l) (hl : tks l ≤ tk.length) : ∀ i, i ≤ l.length → Lead tk (times (l.take i)) (run tk (l.take i)).fills
  | 0, _ => by rw [List.take_zero]; exact ⟨rfl, fun j f t e => by simp [run_nil] at e⟩
  | i + 1, hi => by
    have ih := lead_run nd h hl i (by omega)
    obtain ⟨a, b, c⟩ := run_ok h hl i (by omega)
    have hb : l[i]? = some l[i] := List.getElem?_eq_getElem (by omega)
    have hp := h (i + 1)
    rw [take_snoc hb] at hp ⊢
    generalize l[i] = x at hp hb
    rw [run_snoc]
    cases x with
    | true => rw [times_t]; exact ih
    | false =>
      rw [times_f]
      rw [fls_f, tks_f] at hp
      have hlen := c.length_eq
      have ht := tks_take l i
      rw [List.length_append, List.length_take, b] at hlen
      have hne : (run tk (l.take i)).gaps ≠ [] := fun e => by
        rw [e] at hlen
        simp at hlen; omega
      obtain ⟨m1, m2⟩ := mn_ok hne
      have nd2 : ((run tk (l.take i)).gaps ++ (run tk (l.take i)).fills).Nodup := c.nodup_iff.mpr (nd.sublist (List.take_sublist _ _))
      rw [List.nodup_append] at nd2
      refine ih.snoc (c.subset (List.mem_append_left _ m1)) (fun q => nd2.2.2 _ m1 _ q rfl) fun x hx hn => ?_
      rcases List.mem_append.mp (c.symm.subset hx) with q | q
      · exact m2 x q
      · exact absurd q hn
theorem lead_of {tk : List Int} {l : Pat} (nd : tk.Nodup) (g : Good l) (hl : tks l = tk.length) : Lead tk (times l) (fillsOf tk l) := by
  have := lead_run nd g.1 (Nat.le_of_eq hl) l.length (Nat.le_refl _)
  rwa [List.take_length] at this
theorem lead_unique {tk : List Int} {ts : List Nat} {fs gs : List Int} (h1 : Lead tk ts fs) (h2 : Lead tk ts gs) : fs = gs := by
  have key : ∀ j, j ≤ ts.length → fs.take j = gs.take j := by
    intro j
    induction j with
    | zero => intro _; rfl
    | succ j ih =>
      intro hj
      have e := ih (by omega)
      have l1 := h1.len
      have l2 := h2.len
      have a := List.getElem?_eq_getElem (l := fs) (i := j) (by omega)
      have b := List.getElem?_eq_getElem (l := gs) (i := j) (by omega)
      have t := List.getElem?_eq_getElem (l := ts) (i := j) (by omega)
      obtain ⟨p1, p2, p3⟩ := h1.at_ j _ _ a t
      obtain ⟨q1, q2, q3⟩ := h2.at_ j _ _ b t
      have e2 : fs[j]'(by omega) = gs[j]'(by omega) := Int.le_antisymm (p3 _ q1 (by rw [e]; exact q2)) (q3 _ p1 (by rw [← e]; exact p2))
      rw [take_snoc a, take_snoc b, e, e2]
  have := key ts.length (Nat.le_refl _)
  rwa [← h1.len, List.take_length, h1.len, ← h2.len, List.take_length] at this
/-! ### the bounds of each time -/
structure InB (tk fs : List Int) (ts : List Nat) : Prop where
  len : fs.length = ts.length
  lo : ∀ (j : Nat) (f : Int) (t : Nat), fs[j]? = some f → ts[j]? = some t → ix tk f < t
  hi : ∀ (j : Nat) (f : Int) (t : Nat), fs[j]? = some f → ts[j]? = some t → ∀ (k : Nat) (g : Int), j < k → fs[k]? = some g → g < f → t ≤ ix tk g
theorem mem_take_ix {tk : List Int} {x : Int} {t : Nat} (h : x ∈ tk.take t) : ix tk x < t := by
  obtain ⟨j, hj, e⟩ := List.mem_take_iff_getElem.mp h
  have h1 : ix tk x ≤ j := by
    apply Nat.le_of_not_lt
    intro q
    have := List.not_of_lt_findIdx (p := (· == x)) (xs := tk) q
    rw [e] at this
    simp at this
  omega
theorem ix_take {tk : List Int} {x : Int} {t : Nat} (hx : x ∈ tk) (h : ix tk x < t) : x ∈ tk.take t := by
  rw [List.mem_take_iff_getElem]
  have h2 : ix tk x < tk.length := List.idxOf_lt_length_iff.mpr hx
  exact ⟨ix tk x, by omega, List.getElem_idxOf h2⟩
theorem ix_at {l : List Int} (nd : l.Nodup) {j : Nat} {x : Int} (h : l[j]? = some x) : ix l x = j := by
  obtain ⟨hj, e⟩ := List.getElem?_eq_some_iff.mp h
  have hm : x ∈ l := List.mem_of_getElem? h
  have h2 : ix l x < l.length := List.idxOf_lt_length_iff.mpr hm
  exact (List.getElem_inj nd).mp ((List.getElem_idxOf h2).trans e.symm)
theorem at_ix {l : List Int} {x : Int} (h : x ∈ l) : l[ix l x]? = some x := by
  have h1 := List.idxOf_lt_length_iff.mpr h
  rw [List.getElem?_eq_getElem h1]
  exact congrArg some (List.getElem_idxOf h1)
theorem not_take {l : List Int} (nd : l.Nodup) {j k : Nat} {x : Int} (h : l[k]? = some x) (hk : j ≤ k) : x ∉ l.take j := fun q => by
  have := mem_take_ix q
  rw [ix_at nd h] at this
  omega
theorem Lead.inB {tk fs : List Int} {ts : List Nat} (h : Lead tk ts fs) (nd : tk.Nodup) (p : fs.Perm tk) : InB tk fs ts := by
  have nf : fs.Nodup := p.nodup_iff.mpr nd
  refine ⟨h.len, fun j f t e1 e2 => mem_take_ix (h.at_ j f t e1 e2).1, fun j f t e1 e2 k g hk e3 hg => ?_⟩
  apply Nat.le_of_not_lt
  intro q
  have := (h.at_ j f t e1 e2).2.2 g (ix_take (p.subset (List.mem_of_getElem? e3)) q) (not_take nf e3 (by omega))
  omega
theorem InB.lead {tk fs : List Int} {ts : List Nat} (h : InB tk fs ts) (nd : tk.Nodup) (p : fs.Perm tk) : Lead tk ts fs := by
  have nf : fs.Nodup := p.nodup_iff.mpr nd
  refine ⟨h.len, fun j f t e1 e2 => ⟨ix_take (p.subset (List.mem_of_getElem? e1)) (h.lo j f t e1 e2), not_take nf e1 (Nat.le_refl _), fun x hx hn => ?_⟩⟩
  have hxf : x ∈ fs := p.symm.subset (List.mem_of_mem_take hx)
  have ek := at_ix hxf
  have hk : j ≤ ix fs x := by
    apply Nat.le_of_not_lt
    intro q
    exact hn (ix_take hxf q)
  rcases Nat.lt_or_eq_of_le hk with q | q
  · apply Int.le_of_not_gt
    intro z
    have := h.hi j f t e1 e2 _ x q ek z
    have := mem_take_ix hx
    omega
  · rw [← q, e1] at ek
    cases ek
    exact Int.le_refl _
/-! ### no obstruction -/
structure NoObs (tk fs : List Int) : Prop where
  two : ∀ a b, a ∈ tk → b ∈ tk → a < b → ix tk a < ix tk b → ¬ ix fs b < ix fs a
  three : ∀ a b c, a ∈ tk → b ∈ tk → c ∈ tk → a < b → b < c → ix tk c < ix tk b → ix tk b < ix tk a → ix fs a < ix fs c → ¬ ix fs c < ix fs b
theorem mono_at {ts : List Nat} (m : ts.Pairwise (· ≤ ·)) {i j a b : Nat} (h : i ≤ j) (h1 : ts[i]? = some a) (h2 : ts[j]? = some b) : a ≤ b := by
  obtain ⟨p1, e1⟩ := List.getElem?_eq_some_iff.mp h1
  obtain ⟨p2, e2⟩ := List.getElem?_eq_some_iff.mp h2
  rcases Nat.lt_or_eq_of_le h with q | q
  · have := List.pairwise_iff_getElem.mp m i j p1 p2 q
    rw [e1, e2] at this; exact this
  · subst q
    rw [h1] at h2; cases h2; exact Nat.le_refl _
theorem InB.noObs {tk fs : List Int} {ts : List Nat} (h : InB tk fs ts) (m : ts.Pairwise (· ≤ ·)) (p : fs.Perm tk) : NoObs tk fs := by
  have hl := h.len
  have get : ∀ {x : Int}, x ∈ tk → fs[ix fs x]? = some x ∧ ∃ t, ts[ix fs x]? = some t := fun {x} hx => by
    have hf := p.symm.subset hx
    have h1 := List.idxOf_lt_length_iff.mpr hf
    exact ⟨at_ix hf, _, List.getElem?_eq_getElem (by show ix fs x < ts.length; rw [← hl]; exact h1)⟩
  refine ⟨fun a b ha hb hab h1 h2 => ?_, fun a b c ha hb hc hab hbc h1 h2 h3 h4 => ?_⟩
  · obtain ⟨ea, _⟩ := get ha
    obtain ⟨eb, t, et⟩ := get hb
    have := h.lo _ _ _ eb et
    have := h.hi _ _ _ eb et _ _ h2 ea hab
    omega
  · obtain ⟨ea, ta, eta⟩ := get ha
    obtain ⟨eb, _⟩ := get hb
    obtain ⟨ec, tc, etc⟩ := get hc
    have l1 := h.lo _ _ _ ea eta
    have l2 := h.hi _ _ _ ec etc _ _ h4 eb hbc
    have l3 := mono_at m (Nat.le_of_lt h3) eta etc
    omega
/-! ### least and greatest times -/
def mnN (n : Nat) (l : List Nat) : Nat := l.foldr min n
theorem mnN_ok (n : Nat) : ∀ l : List Nat, (mnN n l = n ∨ mnN n l ∈ l) ∧ mnN n l ≤ n ∧ ∀ y ∈ l, mnN n l ≤ y
  | [] => ⟨.inl rfl, Nat.le_refl _, fun y hy => by cases hy⟩
  | a :: r => by
    obtain ⟨h1, h2, h3⟩ := mnN_ok n r
    have e : mnN n (a :: r) = min a (mnN n r) := rfl
    rw [e]
    refine ⟨?_, by omega, fun y hy => ?_⟩
    · rcases Nat.le_total a (mnN n r) with q | q
      · rw [Nat.min_eq_left q]; exact .inr List.mem_cons_self
      · rw [Nat.min_eq_right q]
        exact h1.imp id fun z => List.mem_cons_of_mem _ z
    · rcases List.mem_cons.mp hy with rfl | hy
      · exact Nat.min_le_left _ _
      · exact Nat.le_trans (Nat.min_le_right _ _) (h3 y hy)
theorem mnN_eq {n m : Nat} {l : List Nat} (h1 : m = n ∨ m ∈ l) (h2 : m ≤ n) (h3 : ∀ y ∈ l, m ≤ y) : m = mnN n l := by
  obtain ⟨g1, g2, g3⟩ := mnN_ok n l
  apply Nat.le_antisymm
  · rcases g1 with q | q
    · rw [q]; exact h2
    · exact h3 _ q
  · rcases h1 with q | q
    · rw [q]; exact g2
    · exact g3 _ q
/-- the bound of one fill by the smaller places behind it -/
def hi1 (tk : List Int) (p : Int) (r : List Int) : Nat := mnN tk.length ((r.filter fun q => decide (q < p)).map (ix tk))
def hiL (tk : List Int) : List Int → Nat
  | [] => tk.length
  | p :: r => min (hi1 tk p r) (hiL tk r)
def loL (tk : List Int) (l : List Int) : Nat := l.foldl (fun m p => max m (ix tk p + 1)) 0
theorem loL_snoc (tk l : List Int) (p : Int) : loL tk (l ++ [p]) = max (loL tk l) (ix tk p + 1) := by unfold loL; rw [List.foldl_append]; rfl
def lo (tk fs : List Int) (j : Nat) : Nat := loL tk (fs.take (j + 1))
def hi (tk fs : List Int) (j : Nat) : Nat := hiL tk (fs.drop j)
theorem loF_ok (tk : List Int) : ∀ (l : List Int) (m0 : Nat), (l.foldl (fun m p => max m (ix tk p + 1)) m0 = m0 ∨ ∃ p ∈ l, l.foldl (fun m p => max m (ix tk p + 1)) m0 = ix tk p + 1) ∧ m0 ≤ l.foldl (fun m p => max m (ix tk p + 1)) m0 ∧ ∀ p ∈ l, ix tk p + 1 ≤ l.foldl (fun m p => max m (ix tk p + 1)) m0
  | [], m0 => ⟨.inl rfl, Nat.le_refl _, fun y hy => by cases hy⟩
  | a :: r, m0 => by
    obtain ⟨h1, h2, h3⟩ := loF_ok tk r (max m0 (ix tk a + 1))
    rw [List.foldl_cons]
    refine ⟨?_, by omega, fun y hy => ?_⟩
    · rcases h1 with q | ⟨p, hp, q⟩
      · rw [q]
        rcases Nat.le_total m0 (ix tk a + 1) with z | z
        · rw [Nat.max_eq_right z]; exact .inr ⟨a, List.mem_cons_self, rfl⟩
        · rw [Nat.max_eq_left z]; exact .inl rfl
      · exact .inr ⟨p, List.mem_cons_of_mem _ hp, q⟩
    · rcases List.mem_cons.mp hy with rfl | hy
      · omega
      · exact h3 y hy
theorem loL_ok (tk l : List Int) : (loL tk l = 0 ∨ ∃ p ∈ l, loL tk l = ix tk p + 1) ∧ ∀ p ∈ l, ix tk p + 1 ≤ loL tk l :=
  let ⟨a, _, c⟩ := loF_ok tk l 0
  ⟨a, c⟩
theorem loL_eq {tk l : List Int} {m : Nat} (h1 : ∃ p ∈ l, m = ix tk p + 1) (h2 : ∀ p ∈ l, ix tk p + 1 ≤ m) : m = loL tk l := by
  obtain ⟨g1, g2⟩ := loL_ok tk l
  apply Nat.le_antisymm
  · obtain ⟨p, hp, rfl⟩ := h1
    exact g2 p hp
  · rcases g1 with q | ⟨p, hp, q⟩
    · rw [q]; exact Nat.zero_le _
    · rw [q]; exact h2 p hp
theorem hi1_ok (tk : List Int) (p : Int) (r : List Int) : (hi1 tk p r = tk.length ∨ ∃ q ∈ r, q < p ∧ hi1 tk p r = ix tk q) ∧ hi1 tk p r ≤ tk.length ∧ ∀ q ∈ r, q < p → hi1 tk p r ≤ ix tk q := by
  obtain ⟨a, b, c⟩ := mnN_ok tk.length ((r.filter fun q => decide (q < p)).map (ix tk))
  refine ⟨a.imp id fun z => ?_, b, fun q hq hp => c _ (List.mem_map.mpr ⟨q, List.mem_filter.mpr ⟨hq, decide_eq_true hp⟩, rfl⟩)⟩
  obtain ⟨q, h1, h2⟩ := List.mem_map.mp z
  obtain ⟨h3, h4⟩ := List.mem_filter.mp h1
  exact ⟨q, h3, of_decide_eq_true h4, h2.symm⟩
theorem hiL_ok (tk : List Int) : ∀ l : List Int, (hiL tk l = tk.length ∨ ∃ (k : Nat) (p : Int), l[k]? = some p ∧ hiL tk l = hi1 tk p (l.drop (k + 1))) ∧ hiL tk l ≤ tk.length ∧ ∀ (k : Nat) (p : Int), l[k]? = some p → hiL tk l ≤ hi1 tk p (l.drop (k + 1))
  | [] => ⟨.inl rfl, Nat.le_refl _, fun k p h => by simp at h⟩
  | a :: r => by
    obtain ⟨h1, h2, h3⟩ := hiL_ok tk r
    have e : hiL tk (a :: r) = min (hi1 tk a r) (hiL tk r) := rfl
    rw [e]
    refine ⟨?_, by omega, fun k p hk => ?_⟩
    · rcases Nat.le_total (hi1 tk a r) (hiL tk r) with q | q
      · rw [Nat.min_eq_left q]; exact .inr ⟨0, a, rfl, rfl⟩
      · rw [Nat.min_eq_right q]
        rcases h1 with z | ⟨k, p, z1, z2⟩
        · exact .inl z
        · exact .inr ⟨k + 1, p, z1, z2⟩
    · cases k with
      | zero => cases hk; exact Nat.min_le_left _ _
      | succ k => exact Nat.le_trans (Nat.min_le_right _ _) (h3 k p hk)
theorem hiL_drop (tk : List Int) (l : List Int) {j k : Nat} (h : j ≤ k) : hiL tk (l.drop j) ≤ hiL tk (l.drop k) := by
  rcases (hiL_ok tk (l.drop k)).1 with q | ⟨i, p, q1, q2⟩
  · rw [q]; exact (hiL_ok tk (l.drop j)).2.1
  · rw [q2]
    have e : (l.drop j)[k - j + i]? = some p := by
      rw [List.getElem?_drop] at q1 ⊢
      rw [← q1]; congr 1; omega
    have := (hiL_ok tk (l.drop j)).2.2 _ p e
    rw [List.drop_drop] at this ⊢
    rw [show k + (i + 1) = j + (k - j + i + 1) by omega]
    exact this
theorem hi_mono (tk fs : List Int) {j k : Nat} (h : j ≤ k) : hi tk fs j ≤ hi tk fs k := hiL_drop tk fs h
theorem lo_mono (tk fs : List Int) {j k : Nat} (h : j ≤ k) : lo tk fs j ≤ lo tk fs k := by
  unfold lo
  rcases (loL_ok tk (fs.take (j + 1))).1 with q | ⟨p, hp, q⟩
  · rw [q]; exact Nat.zero_le _
  · rw [q]
    exact (loL_ok tk (fs.take (k + 1))).2 p (List.take_subset_take_left _ (by omega) hp)
theorem hi_le (tk fs : List Int) (j : Nat) : hi tk fs j ≤ tk.length := (hiL_ok tk _).2.1
theorem lo_ge {tk fs : List Int} (nd : tk.Nodup) (p : fs.Perm tk) {j : Nat} (hj : j < fs.length) : j + 1 ≤ lo tk fs j := by
  have nf : fs.Nodup := p.nodup_iff.mpr nd
  have h1 : (fs.take (j + 1)).Nodup := nf.sublist (List.take_sublist _ _)
  have h2 := List.Nodup.length_le_of_subset h1 (l₂ := tk.take (lo tk fs j)) fun x hx => ix_take (p.subset (List.mem_of_mem_take hx)) (Nat.lt_of_succ_le ((loL_ok tk _).2 x hx))
  rw [List.length_take, List.length_take] at h2
  omega
/-- times that never fall are those of a pattern of the pair if and only if they keep the bounds -/
theorem InB_within {tk fs : List Int} {ts : List Nat} (h : InB tk fs ts) (m : ts.Pairwise (· ≤ ·)) (hn : ∀ t ∈ ts, t ≤ tk.length) {j t : Nat} (ht : ts[j]? = some t) : lo tk fs j ≤ t ∧ t ≤ hi tk fs j := by
  have hl := h.len
  have hj : j < ts.length := (List.getElem?_eq_some_iff.mp ht).1
  constructor
  · unfold lo
    rcases (loL_ok tk (fs.take (j + 1))).1 with q | ⟨p, hp, q⟩
    · rw [q]; exact Nat.zero_le _
    · rw [q]
      obtain ⟨i, hi, e⟩ := List.mem_take_iff_getElem.mp hp
      have e1 : fs[i]? = some p := by rw [List.getElem?_eq_getElem (by omega), e]
      have e2 := List.getElem?_eq_getElem (l := ts) (i := i) (by omega)
      have := h.lo _ _ _ e1 e2
      have := mono_at m (show i ≤ j by omega) e2 ht
      omega
  · show t ≤ hiL tk (fs.drop j)
    rcases (hiL_ok tk (fs.drop j)).1 with q | ⟨k, p, q1, q2⟩
    · rw [q]; exact hn t (List.mem_of_getElem? ht)
    · rw [q2]
      rw [List.getElem?_drop] at q1
      have hk : j + k < fs.length := (List.getElem?_eq_some_iff.mp q1).1
      have e2 := List.getElem?_eq_getElem (l := ts) (i := j + k) (by omega)
      have l1 := mono_at m (show j ≤ j + k by omega) ht e2
      rcases (hi1_ok tk p ((fs.drop j).drop (k + 1))).1 with z | ⟨g, hg, z1, z2⟩
      · rw [z]; exact hn t (List.mem_of_getElem? ht)
      · rw [z2]
        rw [List.drop_drop] at hg
        obtain ⟨i, hi, e⟩ := List.mem_iff_getElem.mp hg
        rw [List.length_drop] at hi
        have e3 : fs[j + (k + 1) + i]? = some g := by rw [List.getElem?_eq_getElem (by omega), ← e, List.getElem_drop]
        have := h.hi _ _ _ q1 e2 _ _ (by omega) e3 z1
        omega
theorem inB_of {tk fs : List Int} {ts : List Nat} (hl : fs.length = ts.length) (h : ∀ (j t : Nat), ts[j]? = some t → lo tk fs j ≤ t ∧ t ≤ hi tk fs j) : InB tk fs ts := by
  refine ⟨hl, fun j f t e1 e2 => ?_, fun j f t e1 e2 k g hk e3 hg => ?_⟩
  · have h1 := (h j t e2).1
    have : f ∈ fs.take (j + 1) := by
      have hj := List.getElem?_eq_some_iff.mp e1
      obtain ⟨hj, e⟩ := hj
      exact List.mem_take_iff_getElem.mpr ⟨j, by omega, e⟩
    have := (loL_ok tk (fs.take (j + 1))).2 f this
    unfold lo at h1
    omega
  · have h1 := (h j t e2).2
    unfold hi at h1
    have e4 : (fs.drop j)[0]? = some f := by rw [List.getElem?_drop]; exact e1
    have h2 := (hiL_ok tk (fs.drop j)).2.2 0 f e4
    have hg2 : g ∈ (fs.drop j).drop (0 + 1) := by
      rw [List.drop_drop]
      have hk2 := List.getElem?_eq_some_iff.mp e3
      refine List.mem_of_getElem? (i := k - (j + 1)) ?_
      rw [List.getElem?_drop, show j + (0 + 1) + (k - (j + 1)) = k by omega]
      exact e3
    have h3 := (hi1_ok tk f ((fs.drop j).drop (0 + 1))).2.2 g hg2 hg
    omega
/-! ### the pattern with given times -/
def wr (ts : List Nat) : Nat → Pat × Nat
  | 0 => ([], 0)
  | j + 1 => ((wr ts j).1 ++ List.replicate (ts.getD j 0 - (wr ts j).2) true ++ [false], ts.getD j 0)
theorem tks_rep (k : Nat) : tks (List.replicate k true) = k := by simp [tks]
theorem fls_rep (k : Nat) : fls (List.replicate k true) = 0 := by
  unfold fls
  rw [List.count_eq_zero]
  intro h
  exact absurd (List.eq_of_mem_replicate h) (by decide)
theorem Pre.reps {l : Pat} (h : Pre l) : ∀ k, Pre (l ++ List.replicate k true)
  | 0 => by simpa using h
  | k + 1 => by
    have ih := Pre.reps h k
    rw [List.replicate_succ', ← List.append_assoc]
    have := ih.all
    exact ih.snoc (by rw [fls_t, tks_t]; omega)
theorem times_reps (l : Pat) : ∀ k, times (l ++ List.replicate k true) = times l
  | 0 => by simp
  | k + 1 => by rw [List.replicate_succ', ← List.append_assoc, times_t, times_reps l k]
theorem wr_ok {ts : List Nat} (m : ts.Pairwise (· ≤ ·)) (hj : ∀ (j t : Nat), ts[j]? = some t → j < t) : ∀ j, j ≤ ts.length → Pre (wr ts j).1 ∧ tks (wr ts j).1 = (wr ts j).2 ∧ fls (wr ts j).1 = j ∧ times (wr ts j).1 = ts.take j ∧ (∀ i t, ts[i]? = some t → j ≤ i → (wr ts j).2 ≤ t) ∧ (0 < j → ts[j - 1]? = some (wr ts j).2)
  | 0, _ => ⟨Pre.nil, rfl, rfl, rfl, fun i t _ _ => Nat.zero_le _, fun h => absurd h (by omega)⟩
  | j + 1, h => by
    obtain ⟨a, b, c, d, e, _⟩ := wr_ok m hj j (by omega)
    have ht := List.getElem?_eq_getElem (l := ts) (i := j) (by omega)
    have eD : ts.getD j 0 = ts[j]'(by omega) := by rw [List.getD_eq_getElem?_getD, ht]; rfl
    have h1 := hj j _ ht
    have h2 := e j _ ht (Nat.le_refl _)
    have e1 : wr ts (j + 1) = ((wr ts j).1 ++ List.replicate (ts[j]'(by omega) - (wr ts j).2) true ++ [false], ts[j]'(by omega)) := by rw [wr, eD]
    rw [e1]
    generalize ts[j]'(by omega) = t at ht h1 h2 e1
    have t1 : tks ((wr ts j).1 ++ List.replicate (t - (wr ts j).2) true) = t := by rw [tks_app, tks_rep, b]; omega
    have t2 : fls ((wr ts j).1 ++ List.replicate (t - (wr ts j).2) true) = j := by rw [fls_app, fls_rep, c]; rfl
    refine ⟨(a.reps _).snoc (by rw [fls_f, tks_f, t1, t2]; omega), by rw [tks_f, t1], by rw [fls_f, t2], ?_, fun i u hu hi => mono_at m (by omega) ht hu, fun _ => ht⟩
    rw [times_f, times_reps, d, t1, take_snoc ht]
def wrote (ts : List Nat) : Pat := (wr ts ts.length).1
theorem wrote_ok {ts : List Nat} (m : ts.Pairwise (· ≤ ·)) (hj : ∀ (j t : Nat), ts[j]? = some t → j < t ∧ t ≤ ts.length) : Good (wrote ts) ∧ tks (wrote ts) = ts.length ∧ times (wrote ts) = ts ∧ (wr ts ts.length).2 = ts.length := by
  obtain ⟨a, b, c, d, e, f⟩ := wr_ok m (fun j t h => (hj j t h).1) ts.length (Nat.le_refl _)
  have z : (wr ts ts.length).2 = ts.length := by
    by_cases q : ts.length = 0
    · rw [q]; rfl
    · have g := f (by omega)
      have := hj _ _ g
      omega
  refine ⟨⟨a, ?_⟩, ?_, ?_, z⟩
  · show fls (wr ts ts.length).1 = tks (wr ts ts.length).1
    rw [b, c, z]
  · show tks (wr ts ts.length).1 = _
    rw [b, z]
  · show times (wr ts ts.length).1 = _
    rw [d, List.take_length]
/-- bounds and times: the pattern written leads to the fills -/
theorem wrote_leads {tk fs : List Int} {ts : List Nat} (nd : tk.Nodup) (p : fs.Perm tk) (m : ts.Pairwise (· ≤ ·)) (hl : fs.length = ts.length) (h : ∀ (j t : Nat), ts[j]? = some t → lo tk fs j ≤ t ∧ t ≤ hi tk fs j) :
    Good (wrote ts) ∧ tks (wrote ts) = tk.length ∧ fillsOf tk (wrote ts) = fs ∧ times (wrote ts) = ts ∧ (wr ts ts.length).2 = ts.length := by
  have hp := p.length_eq
  obtain ⟨a, b, c, d⟩ := wrote_ok m fun j t e => by
    have h1 := h j t e
    have hj := (List.getElem?_eq_some_iff.mp e).1
    have h2 := lo_ge nd p (show j < fs.length by omega)
    have h3 := hi_le tk fs j
    omega
  have e : tks (wrote ts) = tk.length := by omega
  refine ⟨a, e, ?_, c, d⟩
  have l1 := lead_of nd a e
  rw [c] at l1
  exact lead_unique l1 ((inB_of hl h).lead nd p)
/-- what is known of the pair that a pattern leads to -/
theorem pair_ok {tk : List Int} {l : Pat} (nd : tk.Nodup) (g : Good l) (hn : tks l = tk.length) : (fillsOf tk l).Perm tk ∧ NoObs tk (fillsOf tk l) ∧ ∀ j t, (times l)[j]? = some t → lo tk (fillsOf tk l) j ≤ t ∧ t ≤ hi tk (fillsOf tk l) j := by
  have p := fills_perm g hn
  obtain ⟨t1, t2⟩ := times_all g.1
  have b := (lead_of nd g hn).inB nd p
  exact ⟨p, b.noObs t2 p, fun j t e => InB_within b t2 (fun u hu => by obtain ⟨i, e⟩ := List.mem_iff_getElem?.mp hu; have := (t1 i u e).2; omega) e⟩
end LQ

/-! stretches and offsets -/
namespace LQ
/-- how many fills behind one another, the last one at i - 1, are less than z -/
def stB (fl : List Int) (z : Int) : Nat → Nat
  | 0 => 0
  | i + 1 => if (fl[i]?).getD 0 < z then stB fl z i + 1 else 0
theorem stB_le (fl : List Int) (z : Int) : ∀ i, stB fl z i ≤ i
  | 0 => Nat.le_refl _
  | i + 1 => by
    have := stB_le fl z i
    have e : stB fl z (i + 1) = if (fl[i]?).getD 0 < z then stB fl z i + 1 else 0 := rfl
    rw [e]
    split <;> omega
theorem stB_s {fl : List Int} {z y : Int} {i : Nat} (h : fl[i]? = some y) (q : y < z) : stB fl z (i + 1) = stB fl z i + 1 := by
  show (if (fl[i]?).getD 0 < z then _ else _) = _
  rw [h]; exact if_pos q
theorem stB_e {fl : List Int} {z y : Int} {i : Nat} (h : fl[i]? = some y) (q : ¬ y < z) : stB fl z (i + 1) = 0 := by
  show (if (fl[i]?).getD 0 < z then _ else _) = _
  rw [h]; exact if_neg q
/-- what stands before the stretch is no less -/
theorem stB_stop {fl : List Int} {z : Int} : ∀ {i : Nat}, stB fl z i < i → ¬ (fl[i - stB fl z i - 1]?).getD 0 < z
  | 0, h => by omega
  | i + 1, h => by
    have e : stB fl z (i + 1) = if (fl[i]?).getD 0 < z then stB fl z i + 1 else 0 := rfl
    by_cases q : (fl[i]?).getD 0 < z
    · rw [if_pos q] at e
      rw [e] at h ⊢
      have := stB_stop (fl := fl) (z := z) (i := i) (by omega)
      rw [show i + 1 - (stB fl z i + 1) - 1 = i - stB fl z i - 1 by omega]
      exact this
    · rw [if_neg q] at e
      rw [e]
      exact q
def sLen (fl : List Int) (i : Nat) : Nat := stB fl ((fl[i]?).getD 0) i + 1
def sLens (fl : List Int) : List Int := (List.range fl.length).map fun i => ((sLen fl i : Nat) : Int)
/-- the stretch of the fill at i, itself left out -/
def sOf (fl : List Int) (i : Nat) : List Int := (fl.take i).drop (i + 1 - sLen fl i)
def bfr (tk : List Int) (z : Int) (l : List Int) : List Int := l.filter fun x => decide (ix tk x < ix tk z)
def off (tk fl : List Int) (i : Nat) : Nat := (bfr tk ((fl[i]?).getD 0) (sOf fl i)).length
def offs (tk fl : List Int) : List Int := (List.range fl.length).map fun i => ((off tk fl i : Nat) : Int)
theorem sLen_le (fl : List Int) (i : Nat) : 1 ≤ sLen fl i ∧ sLen fl i ≤ i + 1 := by
  have := stB_le fl ((fl[i]?).getD 0) i
  unfold sLen; omega
theorem off_lt {tk fl : List Int} {i : Nat} (h : i < fl.length) : off tk fl i < sLen fl i := by
  have a := sLen_le fl i
  unfold off bfr
  refine Nat.lt_of_le_of_lt (List.length_filter_le ..) ?_
  unfold sOf
  rw [List.length_drop, List.length_take]
  omega
/-- what was filled before a greater place is taken before the place -/
theorem NoObs.late {tk fl : List Int} (no : NoObs tk fl) (nd : tk.Nodup) (p : fl.Perm tk) {i j k : Nat} {x y z : Int} (hz : fl[i]? = some z) (hy : fl[j]? = some y) (hx : fl[k]? = some x) (hji : j < i) (hkj : k ≤ j) (hyz : z < y) : ix tk x < ix tk z := by
  have nf : fl.Nodup := p.nodup_iff.mpr nd
  have mz := p.subset (List.mem_of_getElem? hz)
  have my := p.subset (List.mem_of_getElem? hy)
  have mx := p.subset (List.mem_of_getElem? hx)
  have ez := ix_at nf hz
  have ey := ix_at nf hy
  have ex := ix_at nf hx
  have ne : ∀ {a b : Int}, a ∈ tk → b ∈ tk → a ≠ b → ix tk a ≠ ix tk b := fun {a b} ha hb hab e => by
    have h1 := at_ix ha
    have h2 := at_ix hb
    rw [e, h2] at h1
    exact hab (Option.some.inj h1).symm
  have big : ∀ {u : Int} {l : Nat}, fl[l]? = some u → u ∈ tk → l < i → z < u → ix tk u < ix tk z := fun {u l} hu mu hl huz => by
    have eu := ix_at nf hu
    rcases Nat.lt_or_ge (ix tk u) (ix tk z) with q | q
    · exact q
    · have := ne mz mu (by omega)
      exact absurd (show ix fl u < ix fl z by omega) (no.two z u mz mu huz (by omega))
  have yb := big hy my hji hyz
  rcases Int.lt_trichotomy x z with q | q | q
  · rcases Nat.lt_or_ge (ix tk x) (ix tk z) with r | r
    · exact r
    · have := ne mx mz (by omega)
      have kj : k ≠ j := fun e => by subst e; rw [hx] at hy; cases hy; omega
      exact absurd (show ix fl y < ix fl z by omega) (no.three x z y mx mz my q hyz yb (by omega) (by omega))
  · subst q
    have : k = i := by
      rw [← ex, ← ez]
    omega
  · exact big hx mx (by omega) q
/-- the first i fills, as they are taken -/
def tkn (tk fl : List Int) (i : Nat) : List Int := tk.filter fun x => decide (x ∈ fl.take i)
theorem tkn_0 (tk fl : List Int) : tkn tk fl 0 = [] := by
  unfold tkn
  rw [List.filter_eq_nil_iff]
  intro a _; simp
theorem tkn_all {tk fl : List Int} (p : fl.Perm tk) : tkn tk fl fl.length = tk := by
  unfold tkn
  rw [List.filter_eq_self]
  intro a ha
  rw [List.take_of_length_le (Nat.le_refl _)]
  exact decide_eq_true (p.symm.subset ha)
theorem cnt_inter {l m : List Int} (h1 : l.Nodup) (h2 : m.Nodup) : (l.filter fun x => decide (x ∈ m)).length = (m.filter fun x => decide (x ∈ l)).length := by
  refine List.Perm.length_eq ?_
  rw [List.perm_ext_iff_of_nodup (h1.filter _) (h2.filter _)]
  intro a
  rw [List.mem_filter, List.mem_filter, decide_eq_true_iff, decide_eq_true_iff]
  exact ⟨fun h => ⟨h.2, h.1⟩, fun h => ⟨h.2, h.1⟩⟩
theorem tkn_len {tk fl : List Int} (nd : tk.Nodup) (p : fl.Perm tk) {i : Nat} (h : i ≤ fl.length) : (tkn tk fl i).length = i := by
  unfold tkn
  have nf : fl.Nodup := p.nodup_iff.mpr nd
  rw [cnt_inter nd (nf.sublist (List.take_sublist ..))]
  rw [List.filter_eq_self.mpr fun a ha => decide_eq_true (p.subset (List.mem_of_mem_take ha)), List.length_take]
  omega
/-- where the next fill comes in -/
theorem tkn_succ {tk fl : List Int} (nd : tk.Nodup) (p : fl.Perm tk) (no : NoObs tk fl) {i : Nat} {z : Int} (hz : fl[i]? = some z) : tkn tk fl (i + 1) = (tkn tk fl i).take (i + 1 - sLen fl i + off tk fl i) ++ z :: (tkn tk fl i).drop (i + 1 - sLen fl i + off tk fl i) := by
  have nf : fl.Nodup := p.nodup_iff.mpr nd
  have mz := p.subset (List.mem_of_getElem? hz)
  have hil := (List.getElem?_eq_some_iff.mp hz).1
  obtain ⟨A, B, e⟩ := List.append_of_mem mz
  have ndA := List.nodup_append.mp (e ▸ nd)
  have zA : z ∉ A := fun h => ndA.2.2 z h z (List.mem_cons_self ..) rfl
  have zB : z ∉ B := (List.nodup_cons.mp ndA.2.1).1
  have zT : z ∉ fl.take i := not_take nf hz (Nat.le_refl _)
  have ixz : ix tk z = A.length := ix_at nd (by rw [e, List.getElem?_append_right (Nat.le_refl _), Nat.sub_self]; rfl)
  have same : ∀ {l : List Int}, z ∉ l → (l.filter fun x => decide (x ∈ fl.take (i + 1))) = l.filter fun x => decide (x ∈ fl.take i) := fun {l} h => by
    apply List.filter_congr
    intro x hx
    rw [decide_eq_decide, List.take_add_one, hz, List.mem_append]
    refine ⟨fun q => q.elim id fun q => ?_, Or.inl⟩
    have : x = z := by simpa using q
    exact absurd (this ▸ hx) h
  have t0 : tkn tk fl i = (A.filter fun x => decide (x ∈ fl.take i)) ++ B.filter fun x => decide (x ∈ fl.take i) := by
    unfold tkn
    rw [e, List.filter_append, List.filter_cons, if_neg (by rw [decide_eq_true_iff]; exact zT)]
  have t1 : tkn tk fl (i + 1) = (A.filter fun x => decide (x ∈ fl.take i)) ++ z :: B.filter fun x => decide (x ∈ fl.take i) := by
    unfold tkn
    rw [e, List.filter_append, List.filter_cons, if_pos (by rw [decide_eq_true_iff, List.take_add_one, hz]; simp), same zA, same zB]
  have inA : ∀ x ∈ fl.take i, (decide (x ∈ A) = decide (ix tk x < ix tk z)) := fun x hx => by
    have mx := p.subset (List.mem_of_mem_take hx)
    rw [decide_eq_decide, ixz]
    constructor
    · intro h
      obtain ⟨q, hq⟩ := List.mem_iff_getElem?.mp h
      have hq1 := (List.getElem?_eq_some_iff.mp hq).1
      rw [ix_at nd (show tk[q]? = some x by rw [e, List.getElem?_append_left hq1]; exact hq)]
      exact hq1
    · intro h
      have := at_ix mx
      rw [e, List.getElem?_append_left (by rw [← e]; exact h)] at this
      exact List.mem_of_getElem? this
  have len : (A.filter fun x => decide (x ∈ fl.take i)).length = i + 1 - sLen fl i + off tk fl i := by
    rw [cnt_inter ndA.1 (nf.sublist (List.take_sublist ..)), List.filter_congr inA]
    have sl := sLen_le fl i
    have split : fl.take i = fl.take (i + 1 - sLen fl i) ++ sOf fl i := by
      unfold sOf
      have h := (List.take_append_drop (i + 1 - sLen fl i) (fl.take i)).symm
      rw [List.take_take, Nat.min_eq_left (by omega)] at h
      exact h
    rw [split, List.filter_append, List.length_append]
    congr 1
    · rw [List.filter_eq_self.mpr, List.length_take]
      · omega
      · intro x hx
        rw [decide_eq_true_iff]
        obtain ⟨k, hk⟩ := List.mem_iff_getElem?.mp hx
        have hk1 := (List.getElem?_eq_some_iff.mp hk).1
        rw [List.length_take] at hk1
        rw [List.getElem?_take_of_lt (by omega)] at hk
        have lt : stB fl z i < i := by
          unfold sLen at hk1
          rw [hz] at hk1
          have : (some z).getD (0 : Int) = z := rfl
          rw [this] at hk1
          omega
        have st := stB_stop lt
        have sle : sLen fl i = stB fl z i + 1 := by unfold sLen; rw [hz]; rfl
        have hy : fl[i - stB fl z i - 1]? = some ((fl[i - stB fl z i - 1]?).getD 0) := by rw [List.getElem?_eq_getElem (by omega)]; rfl
        have nyz : (fl[i - stB fl z i - 1]?).getD 0 ≠ z := fun q => by
          rw [q] at hy
          have a := ix_at nf hy
          have b := ix_at nf hz
          omega
        exact no.late nd p hz hy hk (by omega) (by omega) (by omega)
    · unfold off bfr
      rw [hz]; rfl
  rw [t1, t0, ← len, List.take_left', List.drop_left']
  · rfl
  · rfl
end LQ

namespace LP
open PySem L2 LT LG LQ LH LC LX
def rIns : V → List V → Hp → VK → Prop := fun x vs H Q => ∃ (l : Addr) (xs : List V) (i : Int) (y : V), x = .ref l ∧ vs = [.int i, y] ∧ H l = some (.lst xs) ∧ xs.length < sizeLine ∧ 0 ≤ i ∧ i < 2 ^ 63 ∧ Q .non (upd H l (.lst (xs.take i.toNat ++ [y] ++ xs.drop i.toNat)))
theorem mt_ins {X : Cx} : MtR X "list.insert" rIns := mt_insert
theorem rins {H : Hp} {Q : VK} {p : Addr} {xs : List V} {i : Int} {y : V} (h : H p = some (.lst xs)) (hz : xs.length < sizeLine) (h0 : 0 ≤ i) (h1 : i < 2 ^ 63) (q : ∀ H' : Hp, Fr H H' p → H' p = some (.lst (xs.take i.toNat ++ [y] ++ xs.drop i.toNat)) → Q .non H') : rIns (.ref p) [.int i, y] H Q :=
  ⟨p, xs, i, y, rfl, rfl, h, hz, h0, h1, q _ LS.Fr.upd upd_same⟩
section
variable (K : PySem.W.Frag)
def sp_check_same_places : Sp := fun vs H Q _ => ∃ (a b : Addr) (ns ms : List Int), vs = [.ref a, .ref b] ∧ Is K H a ns ∧ Is K H b ms ∧ ns.Perm ms ∧ ∀ H', Same H H' → Q .non H'
def sp_numbers_by_place : Sp := fun vs H Q _ => ∃ (a : Addr) (ns : List Int), vs = [.ref a] ∧ Is K H a ns ∧ Pl ns ∧ ∀ (H' : Hp) (d : Addr), Same H H' → H d = none → H' d = some (.dK (numK ns)) → Q (.ref d) H'
abbrev Nm (H : Hp) (d : Addr) (ns : List Int) : Prop := H d = some (.dK (numK ns))
def sp_check_pair : Sp := fun vs H Q _ => ∃ (a b : Addr) (ns ms : List Int), vs = [.ref a, .ref b] ∧ Is K H a ns ∧ Is K H b ms ∧ Pl ns ∧ ms.Perm ns ∧ ∀ H', Same H H' → Q .non H'
def sp_is_two : Sp := fun vs H Q _ => ∃ (t f : Addr) (tk fs : List Int) (a b : Int), vs = [.ref t, .ref f, .int a, .int b] ∧ Nm H t tk ∧ Nm H f fs ∧ tk.Nodup ∧ fs.Nodup ∧ a ∈ tk ∧ b ∈ tk ∧ a ∈ fs ∧ b ∈ fs ∧
  Q (.bl (decide (a < b ∧ ix tk a < ix tk b ∧ ix fs b < ix fs a))) H
def sp_is_three : Sp := fun vs H Q _ => ∃ (t f : Addr) (tk fs : List Int) (a b c : Int), vs = [.ref t, .ref f, .int a, .int b, .int c] ∧ Nm H t tk ∧ Nm H f fs ∧ tk.Nodup ∧ fs.Nodup ∧ a ∈ tk ∧ b ∈ tk ∧ c ∈ tk ∧ a ∈ fs ∧ b ∈ fs ∧ c ∈ fs ∧
  Q (.bl (decide ((a < b ∧ b < c) ∧ (ix tk c < ix tk b ∧ ix tk b < ix tk a) ∧ ix fs a < ix fs c ∧ ix fs c < ix fs b))) H
def sp_first_two : Sp := fun vs H Q _ => ∃ (t f : Addr) (tk fs : List Int), vs = [.ref t, .ref f] ∧ Nm H t tk ∧ Nm H f fs ∧ tk.Nodup ∧ tk.length ≤ 200 ∧ fs.Perm tk ∧ NoObs tk fs ∧ ∀ H', Same H H' → Q .non H'
def sp_last_fill_between : Sp := fun vs H Q _ => ∃ (t f : Addr) (tk fs : List Int) (b : Int), vs = [.ref t, .ref f, .int b] ∧ Nm H t tk ∧ Nm H f fs ∧ t ≠ f ∧ tk.Nodup ∧ tk.length ≤ 200 ∧ fs.Perm tk ∧ b ∈ tk ∧
  ∀ (H' : Hp) (r : Int), Same H H' → (r = -1 ∨ ∃ c ∈ tk, c > b ∧ ix tk c < ix tk b ∧ ix fs c < ix fs b ∧ r = (ix fs c : Nat)) → Q (.int r) H'
def sp_first_three : Sp := fun vs H Q _ => ∃ (t f : Addr) (tk fs : List Int), vs = [.ref t, .ref f] ∧ Nm H t tk ∧ Nm H f fs ∧ t ≠ f ∧ tk.Nodup ∧ tk.length ≤ 200 ∧ fs.Perm tk ∧ NoObs tk fs ∧ ∀ H', Same H H' → Q .non H'
def sp_obstruction : Sp := fun vs H Q _ => ∃ (a b : Addr) (tk fs : List Int), vs = [.ref a, .ref b] ∧ Is K H a tk ∧ Is K H b fs ∧ Pl tk ∧ fs.Perm tk ∧ NoObs tk fs ∧ ∀ H', Same H H' → Q .non H'
def sp_check_possible : Sp := fun vs H Q _ => ∃ (a b : Addr) (tk fs : List Int), vs = [.ref a, .ref b] ∧ Is K H a tk ∧ Is K H b fs ∧ Pl tk ∧ fs.Perm tk ∧ NoObs tk fs ∧ ∀ H', Same H H' → Q .non H'
def sp__law_places : Sp := fun vs H Q _ => ∃ (b : Addr) (d n : Nat), vs = [.ref b, .int n] ∧ Reel H b d ∧ d < 800000 ∧ n ≤ 200 ∧
  ∀ (H' : Hp) (q : Addr) (xs : List Int), LS.RT H H' b (d + 402) → H q = none → Apart H' b q → Pl xs → (∀ x ∈ xs, x < G30) → xs.length = n → H' q = some (.lst (xs.map V.int)) → Q (.ref q) H'
def sp__law_dressed0 : Sp := fun vs H Q _ => ∃ (b : Addr) (z : Int), vs = [.ref b, .int z] ∧ ∀ H', Same H H' → Q (.int z) H'
def sp__law_dressed : Sp := fun vs H Q _ => ∃ (b : Addr) (d : Nat) (p : Addr) (ns : List Int), vs = [.ref b, .ref p] ∧ Reel H b d ∧ d < 900000 ∧ H p = some (.lst (ns.map V.int)) ∧ ns.length ≤ 400 ∧
  ∀ (H' : Hp) (q : Addr), LS.RT H H' b (d + 1) → H q = none → (H' q = some (.lst (ns.map V.int)) ∨ H' q = some (.tup (ns.map V.int))) → Q (.ref q) H'
end
end LP

namespace LP
open PySem L2 LT LG LQ LH LC LX
section
variable {P : Program} {w : World} {K : PySem.W.Frag} {mg : Str → Option Value} {base : Heap}
theorem ok_is_whole (e : Env K mg) : FnOk P w K mg base CX0 1 e.a_is_whole e.d_is_whole ["value"] (sp_is_whole) := by
  refine Fun.ok e.f_is_whole sc_is_whole (fun vs H Q E h => ?_) (fun cdv A outer s H vs Q E hr h => ?_)
  · obtain ⟨n, rfl, _⟩ := h; rfl
  · obtain ⟨n, rfl, k⟩ := h
    refine ⟨_, (pss_one (ps_ret (pe_and (pe_callB call_isi (by rfl) e.n_isinstance (by decide +kernel) (pa_cons (pv 0) (pa_cons (pe_bltn (v := V.ty "int") (by rfl) e.n_int (by decide +kernel) rfl) pa_nil))) (pe_one (pe_not (pe_callB call_isi (by rfl) e.n_isinstance (by decide +kernel) (pa_cons (pv 0) (pa_cons (pe_bltn (v := V.ty "bool") (by rfl) e.n_bool (by decide +kernel) rfl) pa_nil)))))))), ?_⟩
    refine ⟨_, rfl, _, _, _, _, true, rfl, .ty "int", .base (.int n), kit_ty (by decide +kernel), _, rfl, iteT ?_⟩
    refine ⟨_, rfl, _, _, _, _, false, rfl, .ty "bool", .base (.int n), kit_ty (by decide +kernel), _, rfl, ?_⟩
    exact k
theorem ok_is_listed (e : Env K mg) : FnOk P w K mg base CX0 1 e.a_is_listed e.d_is_listed ["value"] (sp_is_listed K) := by
  refine Fun.ok e.f_is_listed sc_is_listed (fun vs H Q E h => ?_) (fun cdv A outer s H vs Q E hr h => ?_)
  · obtain ⟨a, xs, rfl, _⟩ := h; rfl
  · obtain ⟨a, xs, rfl, hx, k⟩ := h
    refine ⟨_, (pss_one (ps_ret (pe_callB call_isiT (by rfl) e.n_isinstance (by decide +kernel) (pa_cons (pv 0) (pa_cons (pe_tup (pa_cons (pe_bltn (v := V.ty "list") (by rfl) e.n_list (by decide +kernel) rfl) (pa_cons (pe_bltn (v := V.ty "tuple") (by rfl) e.n_tuple (by decide +kernel) rfl) pa_nil))) pa_nil))))), ?_⟩
    refine ⟨_, rfl, (by show 2 ≤ sizeLine; decide), fun p hp => ?_⟩
    rcases ty_E (hx.same (same_upd hp)) with hx | hx
    · exact ⟨_, p, _, .type "list", [.type "list", .type "tuple"], true, rfl, upd_same, .cons (.ty _) (.cons (.ty _) .nil), hx, kit_lt, k _ (same_upd hp)⟩
    · exact ⟨_, p, _, .type "tuple", [.type "list", .type "tuple"], true, rfl, upd_same, .cons (.ty _) (.cons (.ty _) .nil), hx, kit_tt, k _ (same_upd hp)⟩
theorem ok_is_place (e : Env K mg) : FnOk P w K mg base CX0 2 e.a_is_place e.d_is_place ["value"] (sp_is_place) := by
  refine Fun.ok e.f_is_place sc_is_place (fun vs H Q E h => ?_) (fun cdv A outer s H vs Q E hr h => ?_)
  · obtain ⟨n, rfl, _⟩ := h; rfl
  · obtain ⟨n, rfl, h1, h2, k⟩ := h
    refine ⟨_, (pss_one (ps_ret (pe_and (pe_call ((ok_is_whole e).mono (by decide)) hr rfl e.g_is_whole e.f_is_whole.kp e.b_is_whole .nil pass0 (pa_cons (pv 0) pa_nil)) (pe_one (pe_chain op_le op_le pe_int (pv 0) (pe_glob (v := V.int 1000000000000000000000000000000) rfl e.g_GREATEST_PLACE ⟨_, rfl⟩)))))), ?_⟩
    refine ⟨_, rfl, n, rfl, _, rfl, iteT ?_⟩
    refine ⟨_, rfl, _, _, rfl, rfl, _, rfl, iteD h1 ?_⟩
    refine ⟨_, _, rfl, rfl, ?_⟩
    show Q (V.bl (decide (n ≤ 1000000000000000000000000000000))) H
    rw [decide_eq_true (show n ≤ 1000000000000000000000000000000 from h2)]
    exact k
theorem all_bl {bs : List Bool} (h : ∀ b ∈ bs, b = true) : bs.all id = true := List.all_eq_true.mpr h
theorem ok_is_place_list (e : Env K mg) : FnOk P w K mg base CX0 3 e.a_is_place_list e.d_is_place_list ["value"] (sp_is_place_list K) := by
  refine Fun.ok e.f_is_place_list sc_is_place_list (fun vs H Q E h => ?_) (fun cdv A outer s H vs Q E hr h => ?_)
  · obtain ⟨a, ns, rfl, _⟩ := h; rfl
  · obtain ⟨a, ns, rfl, hE, pl, k⟩ := h
    refine ⟨_, (pss_cons (ps_if (PW.pt (pw_or (pt_not (pt_val (pe_call ((ok_is_listed e).mono (by decide)) hr rfl e.g_is_listed e.f_is_listed.kp e.b_is_listed .nil pass0 (pa_cons (pv 0) pa_nil)))) (pw_or1 (pt_cmpR op_gt (pe_callB LS.call_len (by rfl) e.n_len PySem.boot_len (pa_cons (pv 0) pa_nil)) (pe_glob (v := V.int 200) rfl e.g_MOST_PLACES ⟨_, rfl⟩) (nomark _)))))
        (pss_one (ps_ret pe_bl))
        pss_nil)
      (pss_one (ps_ret (pe_and (pe_callB (cr_all rfl) (by rfl) e.n_all (by decide +kernel) (pa_cons (pe_lc (own := [("item", 1)]) rfl sc_is_place_list.nd (PI.or (pi_list (pv 0)) (pi_tup (pv 0))) (blkOk_by (N := ["value", "item"]) (sc := defScope s_is_place_list) (by decide +kernel)) (fun _ _ _ _ _ => (pg_name (i := 1) sc_is_place_list.nd rfl (by first | exact Or.inl rfl | exact Or.inr rfl))) (fun _ _ _ _ _ => pts_nil) (fun _ _ _ _ _ => (pe_call ((ok_is_place e).mono (by decide)) hr rfl e.g_is_place e.f_is_place.kp e.b_is_place .nil pass0 (pa_cons (pv 1) pa_nil)))) pa_nil)) (pe_one (pe_cmpR op_eq (pe_lenSetS (by rfl) e.n_len (by rfl) e.n_set (pv 0)) (pe_callB LS.call_len (by rfl) e.n_len PySem.boot_len (pa_cons (pv 0) pa_nil)) (nomark _))))))), ?_⟩
    refine ⟨_, rfl, a, _, rfl, hE, fun H1 s1 => ⟨true, rfl, iteNB rfl ?_⟩⟩
    have hE1 := hE.same s1
    have hle := pl.le
    refine ⟨_, rfl, a, _, rfl, hE1, _, _, rfl, rfl, _, rfl, iteX (by rw [List.length_map]; omega) ?_⟩
    refine or_E hE1 rfl fun J G wk hG D hD => ?_
    have sD : ∀ o, Same H1 (upd H1 D o) := fun o => same_upd hD
    refine lc_it wk (fun j H' => H' = upd H1 D (.lst (List.replicate j (V.bl true)))) rfl (fun j H' _ h => by subst h; exact hG _ (sD _)) ?_ ?_
    · rintro j x H2 H3 hj rfl ⟨rfl, hx⟩
      obtain ⟨n, hn, rfl⟩ := at_int hx
      obtain ⟨h0, h1⟩ := pl.rg n (List.mem_of_getElem? hn)
      rw [List.length_map] at hj
      refine ⟨rfl, _, rfl, n, rfl, h0, h1, _, upd_same, ?_, ?_⟩
      · rw [List.length_replicate]; exact small1000 (by omega)
      · rw [upd_upd, ← List.replicate_succ']
    · rintro H2 rfl
      have hb : List.replicate (List.map V.int ns).length (V.bl true) = (List.replicate ns.length true).map V.bl := by rw [List.length_map, List.map_replicate]
      refine ⟨D, List.replicate ns.length true, rfl, SqL.of (by rw [upd_same, hb]), true, ?_, iteT ?_⟩
      · rw [all_bl fun b hb => (List.mem_replicate.mp hb).2]
      have hE2 := hE1.same (sD (.lst (List.replicate (List.map V.int ns).length (V.bl true))))
      refine ⟨_, rfl, a, ns, rfl, hE2, pl.nd, by omega, ?_⟩
      refine ⟨_, rfl, a, _, rfl, hE2, rfl, ?_⟩
      rw [List.length_map, decide_eq_true rfl]
      have s2 : Same H (upd H1 D (.lst (List.replicate (List.map V.int ns).length (V.bl true)))) := s1.trans (sD _)
      rw [List.length_map] at s2
      exact k _ s2
theorem ok_check_places (e : Env K mg) : FnOk P w K mg base CX0 4 e.a_check_places e.d_check_places ["value"] (sp_check_places K) := by
  refine Fun.ok e.f_check_places sc_check_places (fun vs H Q E h => ?_) (fun cdv A outer s H vs Q E hr h => ?_)
  · obtain ⟨a, ns, rfl, _⟩ := h; rfl
  · obtain ⟨a, ns, rfl, hE, pl, k⟩ := h
    refine ⟨_, (pss_one (ps_if (pt_not (pt_val (pe_call ((ok_is_place_list e).mono (by decide)) hr rfl e.g_is_place_list e.f_is_place_list.kp e.b_is_place_list .nil pass0 (pa_cons (pv 0) pa_nil))))
        (pss_one ps_never)
        pss_nil)), ?_⟩
    exact ⟨_, rfl, a, ns, rfl, hE, pl, fun H1 s1 => ⟨true, rfl, iteNB rfl (k _ s1)⟩⟩
theorem dp_ints {K : PySem.W.Frag} {H : Hp} : ∀ l : List Int, DpAll K H (l.map V.int) (l.map PyData.int)
  | [] => .nil
  | i :: r => .cons (.int i) (dp_ints r)
theorem canLay_ints : ∀ l : List Int, PyData.canLayAll0 (l.map PyData.int) = true
  | [] => rfl
  | i :: r => by simp [PyData.canLayAll0, PyData.canLay0, canLay_ints r]
theorem depth_ints : ∀ l : List Int, PyData.depthAll (l.map PyData.int) = 0
  | [] => rfl
  | i :: r => by simp [PyData.depthAll, PyData.depth, depth_ints r]
theorem shaped_ints (l : List Int) : SeqAt.shaped (.list (l.map PyData.int)) = true := by
  simp [SeqAt.shaped, PyData.canLay0, PyData.depth, canLay_ints, depth_ints]
theorem eqvAll_ints : ∀ l : List Int, PyData.eqvAll (l.map PyData.int) (l.map PyData.int) = true
  | [] => by simp [PyData.eqvAll]
  | a :: r => by
    simp only [List.map_cons, PyData.eqvAll, eqvAll_ints r]
    simp [PyData.eqv]
theorem sorted_eq {l m n : List Int} (h1 : l.Perm n) (h2 : m.Perm n) (h3 : l.Pairwise (· ≤ ·)) (h4 : m.Pairwise (· ≤ ·)) : l = m :=
  List.Perm.eq_of_pairwise (le := (· ≤ ·)) (fun a b _ _ h h' => Int.le_antisymm h h') h3 h4 (h1.trans h2.symm)
end
end LP

namespace LP
open PySem L2 LT LG LQ LH LC LX LR
local macro_rules | `(tactic| array_mem_dec) => `(tactic| first
  | assumption
  | ((with_reducible apply LS.hp_s); assumption; array_mem_dec)
  | ((with_reducible apply LS.hp_f); assumption; array_mem_dec; array_mem_dec)
  | ((with_reducible apply LS.hp_t); assumption; array_mem_dec; array_mem_dec)
  | ((with_reducible apply LS.hp_l); assumption; array_mem_dec; array_mem_dec)
  | ((with_reducible apply LS.sq_o); array_mem_dec)
  | ((with_reducible apply LS.sq_s); assumption; array_mem_dec)
  | ((with_reducible apply LS.sq_f); assumption; array_mem_dec; array_mem_dec)
  | ((with_reducible apply LS.sq_t); assumption; array_mem_dec; array_mem_dec)
  | ((with_reducible apply LS.sq_l); assumption; array_mem_dec; array_mem_dec)
  | ((with_reducible apply LS.tu_o); array_mem_dec)
  | ((with_reducible apply LS.tu_s); assumption; array_mem_dec)
  | ((with_reducible apply LS.tu_f); assumption; array_mem_dec; array_mem_dec)
  | ((with_reducible apply LS.tu_t); assumption; array_mem_dec; array_mem_dec)
  | ((with_reducible apply LS.tu_l); assumption; array_mem_dec; array_mem_dec)
  | ((with_reducible apply LS.se_l); array_mem_dec)
  | ((with_reducible apply LS.se_t); array_mem_dec)
  | ((with_reducible apply LS.se_s); assumption; array_mem_dec)
  | ((with_reducible apply LS.se_f); assumption; array_mem_dec; array_mem_dec)
  | ((with_reducible apply LS.se_tt); assumption; array_mem_dec; array_mem_dec)
  | ((with_reducible exact Same.refl _))
  | ((with_reducible apply LS.sm_s); assumption; array_mem_dec)
  | ((with_reducible apply LS.sm_f); assumption; array_mem_dec; array_mem_dec)
  | ((with_reducible exact Fr.refl _ _))
  | ((with_reducible apply LS.fr_b); assumption; array_mem_dec)
  | ((with_reducible apply LS.fr_s); assumption; array_mem_dec)
  | ((with_reducible apply LS.fr_n); assumption; array_mem_dec; array_mem_dec)
  | ((with_reducible apply LS.fr_t); assumption; array_mem_dec)
  | ((with_reducible apply LS.no_s); assumption; array_mem_dec)
  | ((with_reducible apply LS.no_f); assumption; array_mem_dec; array_mem_dec)
  | ((with_reducible apply LS.no_t); assumption; array_mem_dec)
  | ((with_reducible apply LS.no_l); assumption; assumption)
  | ((with_reducible apply Ne.symm); assumption)
  | ((with_reducible apply LS.ne_a); assumption; array_mem_dec)
  | ((with_reducible apply LS.ne_b); assumption; array_mem_dec)
  | ((with_reducible apply LS.ne_ap); assumption)
  | ((with_reducible apply LS.ne_il); assumption; array_mem_dec)
  | ((with_reducible apply LS.ne_li); assumption; array_mem_dec)
  | ((with_reducible apply LS.ne_lt); assumption; assumption)
  | ((with_reducible apply LS.ne_tl); assumption; assumption)
  | ((with_reducible apply LS.ne_rl); assumption; array_mem_dec)
  | ((with_reducible apply LS.rl_t); assumption)
  | ((with_reducible apply LS.rl_s); assumption; array_mem_dec)
  | ((with_reducible apply LS.rl_f); assumption; array_mem_dec; array_mem_dec)
  | ((with_reducible apply LS.rl_l); assumption; array_mem_dec; array_mem_dec)
  | ((with_reducible apply LS.ap_new); assumption; assumption; array_mem_dec)
  | ((with_reducible apply LS.ap_t); assumption; array_mem_dec; array_mem_dec)
  | ((with_reducible apply LS.ap_s); assumption; array_mem_dec; array_mem_dec)
  | ((with_reducible apply LS.ap_f); assumption; array_mem_dec; array_mem_dec; array_mem_dec)
  | ((with_reducible apply LS.ap_l); assumption; array_mem_dec; array_mem_dec; array_mem_dec)
  | (with_reducible apply LS.ni_nil)
  | ((with_reducible apply LS.ni_cons); array_mem_dec; array_mem_dec)
  | (with_reducible apply LS.trk_nil)
  | ((with_reducible apply LS.trk_cons); array_mem_dec; array_mem_dec)
  | (with_reducible apply LS.al_nil)
  | ((with_reducible apply LS.al_cons); array_mem_dec; array_mem_dec)
  | (with_reducible apply LS.mem_hd)
  | ((with_reducible apply LS.mem_tl); array_mem_dec)
  | ((with_reducible apply LS.fl_refl); array_mem_dec)
  | ((with_reducible apply LS.fl_l); assumption; array_mem_dec)
  | ((with_reducible apply LS.fl_lm); assumption; array_mem_dec; array_mem_dec)
  | (with_reducible apply LS.sub_nil)
  | ((with_reducible apply LS.sub_cons); array_mem_dec; array_mem_dec)
  | ((with_reducible apply LS.fl_s); assumption; array_mem_dec)
  | ((with_reducible apply LS.fl_m); assumption; array_mem_dec; array_mem_dec; array_mem_dec)
  | ((with_reducible apply LS.fl_n); assumption; array_mem_dec; array_mem_dec; array_mem_dec)
  | ((with_reducible apply LS.rt_refl); array_mem_dec)
  | ((with_reducible apply LS.rt_t); assumption; array_mem_dec)
  | ((with_reducible apply LS.rt_s); assumption; array_mem_dec)
  | ((with_reducible apply LS.rt_f); assumption; array_mem_dec; array_mem_dec; array_mem_dec)
  | ((with_reducible apply LS.sz); (first | decide | (simp only [List.length_append, List.length_map, List.length_cons, List.length_nil, List.length_replicate]; omega)))
  | ((with_reducible apply LS.szl); (first | decide | (simp only [List.length_append, List.length_map, List.length_cons, List.length_nil, List.length_replicate]; omega))))
local macro_rules | `(tactic| array_get_dec) => `(tactic| first
  | ((with_reducible apply LS.var); exact rfl)
  | (with_reducible apply LS.con)
  | (with_reducible apply LS.op)
  | (with_reducible apply LS.ri0)
  | (with_reducible apply LS.tseq)
  | (with_reducible apply LS.tasg)
  | (with_reducible apply LS.gname)
  | (with_reducible apply LS.tcons)
  | (with_reducible apply LS.tnil)
  | (with_reducible apply LS.tcb)
  | (with_reducible apply LS.tcall)
  | (with_reducible apply LS.ttest)
  | (with_reducible apply LS.k_b)
  | (with_reducible apply LS.tb)
  | (with_reducible apply LS.tifs)
  | (with_reducible apply LS.ift)
  | (with_reducible apply LS.iff_)
  | (with_reducible apply LS.ifnt)
  | (with_reducible apply LS.ifnf)
  | (with_reducible apply LS.tnext)
  | (with_reducible apply LS.tdrop)
  | (with_reducible apply LS.tret)
  | (with_reducible apply LS.tretn)
  | (with_reducible apply LS.un)
  | (with_reducible apply LS.ru)
  | (with_reducible apply LS.tyes)
  | (with_reducible apply LS.tand)
  | (with_reducible apply LS.tor)
  | (with_reducible apply LS.tnot)
  | (with_reducible apply LS.tif)
  | (with_reducible apply LS.tandv)
  | (with_reducible apply LS.k_av)
  | (with_reducible apply LS.torv)
  | (with_reducible apply LS.k_ov)
  | (with_reducible apply LS.tnotv)
  | (with_reducible apply LS.k_nv)
  | (with_reducible apply LS.tchain)
  | (with_reducible apply LS.k_ch)
  | (with_reducible apply LS.req_i)
  | (with_reducible apply LS.rne_i)
  | (with_reducible apply LS.req_s)
  | (with_reducible apply LS.rne_s)
  | (with_reducible apply LS.req_b)
  | (with_reducible apply LS.rne_b)
  | ((with_reducible apply LS.rin_i); array_mem_dec)
  | ((with_reducible apply LS.rni_i); array_mem_dec)
  | ((with_reducible apply LS.rlen_li); array_mem_dec)
  | ((with_reducible apply LS.rlen_ls); array_mem_dec)
  | ((with_reducible apply LS.rlen_l); array_mem_dec)
  | ((with_reducible apply LS.rlen_Ei); array_mem_dec)
  | ((with_reducible apply LS.rlen_E); array_mem_dec)
  | ((with_reducible apply LS.rlen_t); array_mem_dec)
  | ((with_reducible apply LS.rixl); array_mem_dec; exact rfl)
  | ((with_reducible apply LS.rixt); array_mem_dec; exact rfl)
  | (with_reducible apply LS.isi_int_int)
  | (with_reducible apply LS.isi_int_bool)
  | (with_reducible apply LS.isi_int_str)
  | (with_reducible apply LS.isi_str_int)
  | (with_reducible apply LS.isi_str_bool)
  | (with_reducible apply LS.isi_str_str)
  | (with_reducible apply LS.isi_bool_int)
  | (with_reducible apply LS.isi_bool_bool)
  | (with_reducible apply LS.isi_bool_str)
  | (with_reducible apply LS.isi_non_int)
  | (with_reducible apply LS.isi_non_bool)
  | (with_reducible apply LS.isi_non_str)
  | ((with_reducible apply LS.isi_list_int); array_mem_dec)
  | ((with_reducible apply LS.isi_list_bool); array_mem_dec)
  | ((with_reducible apply LS.isi_list_str); array_mem_dec)
  | ((with_reducible apply LS.isi_list_list); array_mem_dec)
  | ((with_reducible apply LS.isi_list_tuple); array_mem_dec)
  | ((with_reducible apply LS.isi_tuple_int); array_mem_dec)
  | ((with_reducible apply LS.isi_tuple_bool); array_mem_dec)
  | ((with_reducible apply LS.isi_tuple_str); array_mem_dec)
  | ((with_reducible apply LS.isi_tuple_list); array_mem_dec)
  | ((with_reducible apply LS.isi_tuple_tuple); array_mem_dec)
  | ((with_reducible apply LS.isiT_i); array_mem_dec)
  | ((with_reducible apply LS.isiT_s); array_mem_dec)
  | ((with_reducible apply LS.isiT_E); array_mem_dec; array_mem_dec)
  | (with_reducible apply LS.tfld)
  | ((with_reducible apply LS.k_fl); array_mem_dec; assumption; assumption; exact rfl)
  | (with_reducible apply LS.tmeth)
  | ((with_reducible apply LS.k_me); array_mem_dec; exact rfl)
  | (with_reducible apply LS.tmake)
  | (with_reducible apply LS.tsfld)
  | (with_reducible apply LS.tprop)
  | ((with_reducible apply LS.k_pr); array_mem_dec)
  | ((with_reducible apply LS.rlen_own); array_mem_dec)
  | (with_reducible apply LS.rabs)
  | (with_reducible apply LS.rmin2)
  | (with_reducible apply LS.rmax2)
  | (with_reducible apply LS.tsl)
  | (with_reducible apply LS.tthen)
  | (with_reducible apply LS.tstep)
  | (with_reducible apply LS.tnop)
  | (with_reducible apply LS.tpart)
  | (with_reducible apply LS.k_part)
  | (with_reducible apply LS.ttup)
  | (with_reducible apply LS.tlst)
  | (with_reducible apply LS.tbm)
  | (with_reducible apply LS.tbm0)
  | ((with_reducible apply LS.ty_l); array_mem_dec)
  | (with_reducible apply LS.tpar)
  | (with_reducible apply LS.tfor)
  | (with_reducible apply LS.tlc)
  | (with_reducible apply LS.ilist)
  | ((with_reducible apply LS.k_il); array_mem_dec)
  | (with_reducible apply LS.itup)
  | ((with_reducible apply LS.k_it); array_mem_dec)
  | (with_reducible apply LS.istr)
  | (with_reducible apply LS.k_is)
  | (with_reducible apply LS.irng1)
  | ((with_reducible apply LS.k_r1n); omega)
  | ((with_reducible apply LS.k_r1); (first | omega | decide); (first | omega | decide))
  | (with_reducible apply LS.irng2)
  | ((with_reducible apply LS.k_r2); (first | omega | decide); (first | omega | decide); (first | omega | decide); (first | omega | decide))
  | (with_reducible apply LS.ienum)
  | ((with_reducible apply LS.k_en); array_mem_dec)
  | (with_reducible apply LS.izip)
  | ((with_reducible apply LS.k_zip); array_mem_dec; array_mem_dec)
  | (with_reducible apply LS.tlstrg)
  | (with_reducible apply LS.trg1)
  | (with_reducible apply LS.k_g1)
  | (with_reducible apply LS.risn_i)
  | (with_reducible apply LS.risn_s)
  | (with_reducible apply LS.risn_n)
  | (with_reducible apply LS.rnotn_i)
  | (with_reducible apply LS.rnotn_n)
  | (with_reducible apply LS.rint_b)
  | (with_reducible apply LS.rint_i)
  | (with_reducible apply LS.tm0)
  | (with_reducible apply LS.tm1)
  | (with_reducible apply LS.is_str)
  | (with_reducible apply LS.ex_s0)
  | (with_reducible apply LS.ex_int_b)
  | (with_reducible apply LS.k_par)
  | (with_reducible apply LS.tpar3)
  | (with_reducible apply LS.k_par3)
  | ((with_reducible apply LS.taug); exact rfl)
  | (with_reducible apply LS.ipi)
  | ((with_reducible apply LS.gtup); array_mem_dec; exact rfl)
  | ((with_reducible apply LS.gunl); array_mem_dec; exact rfl)
  | (with_reducible apply LS.gnil)
  | (with_reducible apply LS.gcons)
  | (with_reducible apply LS.gsub)
  | ((with_reducible apply LS.ri); first | omega | decide | assumption | exact ⟨by decide, by decide, by decide⟩ | exact .inl ⟨by decide, by decide⟩ | exact .inr ⟨by decide, by decide⟩ | exact .inl ⟨by omega, by omega⟩ | exact .inr ⟨by omega, by omega⟩)
  | (with_reducible apply LS.ex_ss)
  | (with_reducible apply LS.ex_s1)
  | (with_reducible apply LS.ex_i1)
  | (with_reducible apply LS.and_rfl)
  | (with_reducible apply LS.and_tr)
  | (with_reducible apply LS.is_non))
local macro_rules | `(tactic| array_mem_dec) => `(tactic| first
  | ((with_reducible apply LP.sg_s); assumption; array_mem_dec)
  | ((with_reducible apply LP.sg_f); assumption; array_mem_dec; array_mem_dec)
  | ((with_reducible apply LP.sg_l); assumption; array_mem_dec; array_mem_dec)
  | ((with_reducible apply LP.sg_ne); assumption; array_mem_dec)
  | ((with_reducible apply LP.sg_ne'); assumption; array_mem_dec)
  | ((with_reducible apply LS.se_q); array_mem_dec)
  | ((with_reducible apply LS.se_u); array_mem_dec)
  | ((with_reducible apply LP.sg_no); assumption; array_mem_dec; array_mem_dec))
local macro_rules | `(tactic| array_get_dec) => `(tactic| first
  | ((with_reducible apply LS.rne_same); exact rfl)
  | ((with_reducible apply LS.req_same); exact rfl)
  | (with_reducible apply LS.trevl)
  | (with_reducible apply LS.irng3)
  | (with_reducible apply LS.risn_b)
  | ((with_reducible apply LS.isiT_n); array_mem_dec)
  | ((with_reducible apply LS.isiT_b); array_mem_dec))
local macro_rules | `(tactic| array_get_dec) => `(tactic| first
  | (with_reducible apply LS.tcalle)
  | (with_reducible apply LS.tcalls))
local macro_rules | `(tactic| array_get_dec) => `(tactic| first
  | (with_reducible apply LS.trg2)
  | (with_reducible apply LS.k_g2))

section
variable {P : Program} {w : World} {K : PySem.W.Frag} {mg : Str → Option Value} {base : Heap}

theorem ixE {K : PySem.W.Frag} {ta tb : TE} {σ : L2.St} {H : Hp} {Q : VK} {p : Addr} {xs : List V} {z : Int} {m : Nat} {v : V} (h : SqE K H p xs) (e : xs[m]? = some v) (hz : z = (m : Int)) (k1 : ∀ {R : V → V → Hp → VK → Prop}, R (.ref p) (.int z) H Q → tOp R ta tb σ H Q) (q : Q v H) :
    tOp (rIxL K) ta tb σ H Q ∨ tOp (rIxT K) ta tb σ H Q := h.elim (fun h => .inl (k1 (LS.rixl_n h e hz q))) fun h => .inr (k1 (LS.rixt_n h e hz q))
def sp_stretch_lengths (K : PySem.W.Frag) : Sp := fun vs H Q _ => ∃ (a : Addr) (fl : List Int), vs = [.ref a] ∧ Is K H a fl ∧ Pl fl ∧ ∀ (H' : Hp) (p : Addr), Same H H' → H p = none → H' p = some (.lst ((sLens fl).map V.int)) → Q (.ref p) H'
def lensTo (fl : List Int) (i : Nat) : List Int := (List.range i).map fun i => ((sLen fl i : Nat) : Int)
theorem ok_stretch_lengths (e : Env K mg) : FnOk P w K mg base CX0 5 e.a_stretch_lengths e.d_stretch_lengths ["fills"] (sp_stretch_lengths K) := by
  refine Fun.ok e.f_stretch_lengths sc_stretch_lengths (fun vs H Q E h => ?_) (fun cdv A outer s H vs Q E hr h => ?_)
  · obtain ⟨a, fl, rfl, _⟩ := h; rfl
  · obtain ⟨a, fl, rfl, hE, pl, k⟩ := h
    refine ⟨_, (pss_cons (ps_expr (pe_call ((ok_check_places e).mono (by decide)) hr rfl e.g_check_places e.f_check_places.kp e.b_check_places .nil pass0 (pa_cons (pv 0) pa_nil)))
      (pss_cons (ps_set (i := 1) sc_stretch_lengths.nd rfl (by first | exact Or.inl rfl | exact Or.inr rfl) (pe_lst pa_nil))
      (pss_cons (ps_for PassesOwn.never rfl (PI.or (pi_enum (by rfl) e.n_enumerate (pa_cons (pv 0) pa_nil)) (pi_enumT (by rfl) e.n_enumerate (pa_cons (pv 0) pa_nil))) (pg_tup (by rfl) (pgs_cons (pg_name (i := 2) sc_stretch_lengths.nd rfl (by first | exact Or.inl rfl | exact Or.inr rfl)) (pgs_cons (pg_name (i := 3) sc_stretch_lengths.nd rfl (by first | exact Or.inl rfl | exact Or.inr rfl)) pgs_nil)))
      (pss_cons (ps_set (i := 4) sc_stretch_lengths.nd rfl (by first | exact Or.inl rfl | exact Or.inr rfl) pe_int)
      (pss_cons (ps_while PassesOwn.never (PW.pt (pw_and (pt_cmpR op_le (pv 4) (pv 2) (nomark _)) (pw_and1 (pt_cmpR op_lt (PE.or (pe_ix ix_list (pv 0) (pe_op op_sub (pv 2) (pv 4)) (fun _ _ => rfl)) (pe_ix ix_tup (pv 0) (pe_op op_sub (pv 2) (pv 4)) (fun _ _ => rfl))) (pv 3) (nomark _)))))
      (pss_one (ps_aug (i := 4) sc_stretch_lengths.nd rfl (by first | exact Or.inl rfl | exact Or.inr rfl) pe_int ip_add)))
      (pss_one (ps_expr (pe_bm PySem.F.plainAttrs_list PySem.F.slot_list_append PySem.F.type_list_append mt_append (pv 1) (pa_cons (pv 4) pa_nil)))))))
      (pss_one (ps_ret (pv 1)))))), ?_⟩
    have hle := pl.le
    repeat array_get_dec
    refine ⟨a, fl, rfl, hE, pl, fun H1 s1 => ?_⟩
    repeat array_get_dec
    refine LS.k_lst (by array_mem_dec) fun p H_p n_p s_p h_p => ?_
    repeat array_get_dec
    have s_1 : Same H H_p := (by array_mem_dec)
    have np : H p = none := (by array_mem_dec)
    refine LP.or_enumE0 hE s_1 (fun Q q => ⟨_, rfl, q⟩) fun J G wk hG => ?_
    refine LS.for_ wk (fun i σ H' => ∃ v2 v3 v4 : Option V, Same H H' ∧ H' p = some (.lst ((lensTo fl i).map V.int)) ∧ σ = [some (.ref a), some (.ref p), v2, v3, v4]) ⟨_, _, _, s_1, h_p, rfl⟩ (fun i σ H' hi h => (by obtain ⟨_, _, _, h, _⟩ := h; exact hG _ h)) ?_ ?_
    · rintro i x σ H2 H3 hi ⟨v2, v3, v4, s2, hp2, rfl⟩ y
      obtain ⟨T, y, z, rfl, nT, s3, hT, hy, hz⟩ := LS.ypair y
      cases hy
      rw [List.length_map] at hi
      obtain ⟨pz, hpz⟩ : ∃ pz, fl[i]? = some pz := ⟨_, List.getElem?_eq_getElem hi⟩
      rw [List.getElem?_map, hpz] at hz
      cases hz
      have s03 : Same H H3 := (by array_mem_dec)
      have hp3 : H3 p = some (.lst ((lensTo fl i).map V.int)) := s3 _ _ hp2
      have hE3 := LS.se_s s03 hE
      repeat array_get_dec
      refine LS.while_ (fun f σ H' => ∃ m : Nat, H' = H3 ∧ m ≤ i ∧ f = i - m ∧ stB fl pz i = m + stB fl pz (i - m) ∧ σ = [some (.ref a), some (.ref p), some (.int (i : Nat)), some (.int pz), some (.int ((m : Int) + 1))]) i ⟨0, rfl, by omega, by omega, by simp, rfl⟩ ?_
      rintro f σ H4 ⟨m, rfl, hm, rfl, he, rfl⟩
      repeat array_get_dec
      refine LS.if2 (fun h1 => ?_) fun h1 => ?_
      · have hq : i - m = (i - m - 1) + 1 := by omega
        obtain ⟨py, hpy⟩ : ∃ py, fl[i - m - 1]? = some py := ⟨_, List.getElem?_eq_getElem (by omega)⟩
        repeat array_get_dec
        refine ixE (m := i - m - 1) (z := (i : Int) - ((m : Int) + 1)) hE3 (int_at hpy) (by omega) (fun h => ?_) ?_
        · repeat array_get_dec
          exact h
        repeat array_get_dec
        by_cases h2 : py < pz
        · rw [decide_eq_true h2]
          refine LS.k_wt ?_
          repeat array_get_dec
          refine ⟨i - m - 1, by omega, m + 1, rfl, by omega, by omega, ?_, ?_⟩
          · rw [he, hq, stB_s hpy h2, show i - (m + 1) = i - m - 1 by omega]; omega
          · have : (m : Int) + 1 + 1 = ((m + 1 : Nat) : Int) + 1 := by omega
            rw [← this]; rfl
        · rw [decide_eq_false h2]
          have ez : stB fl pz i = m := by rw [he, hq, stB_e hpy h2]; rfl
          refine LS.k_wf ?_
          have e0 : sLen fl i = m + 1 := by unfold sLen; rw [hpz]; show stB fl pz i + 1 = m + 1; omega
          repeat array_get_dec
          refine LS.rapp hp3 (LS.szl (by rw [List.length_map]; unfold lensTo; rw [List.length_map, List.length_range]; omega)) fun H5 f5 h5 => ?_
          repeat array_get_dec
          exact ⟨_, _, _, LS.Same.fr_new s03 f5 np, by rw [h5]; unfold lensTo; rw [List.range_succ, List.map_append, List.map_append, List.map_cons, List.map_cons, e0]; rfl, rfl⟩
      · have ez : stB fl pz i = m := by rw [he, show i - m = 0 by omega]; rfl
        refine LS.k_wf ?_
        have e0 : sLen fl i = m + 1 := by unfold sLen; rw [hpz]; show stB fl pz i + 1 = m + 1; omega
        repeat array_get_dec
        refine LS.rapp hp3 (LS.szl (by rw [List.length_map]; unfold lensTo; rw [List.length_map, List.length_range]; omega)) fun H5 f5 h5 => ?_
        repeat array_get_dec
        exact ⟨_, _, _, LS.Same.fr_new s03 f5 np, by rw [h5]; unfold lensTo; rw [List.range_succ, List.map_append, List.map_append, List.map_cons, List.map_cons, e0]; rfl, rfl⟩
    · rintro σ H2 ⟨v2, v3, v4, s2, hp2, rfl⟩
      repeat array_get_dec
      rw [List.length_map] at hp2
      exact k H2 p s2 np hp2
end
end LP

namespace LP
open PySem L2 LT LG LQ LH LC LX LR
local macro_rules | `(tactic| array_mem_dec) => `(tactic| first
  | assumption
  | ((with_reducible apply LS.hp_s); assumption; array_mem_dec)
  | ((with_reducible apply LS.hp_f); assumption; array_mem_dec; array_mem_dec)
  | ((with_reducible apply LS.hp_t); assumption; array_mem_dec; array_mem_dec)
  | ((with_reducible apply LS.hp_l); assumption; array_mem_dec; array_mem_dec)
  | ((with_reducible apply LS.sq_o); array_mem_dec)
  | ((with_reducible apply LS.sq_s); assumption; array_mem_dec)
  | ((with_reducible apply LS.sq_f); assumption; array_mem_dec; array_mem_dec)
  | ((with_reducible apply LS.sq_t); assumption; array_mem_dec; array_mem_dec)
  | ((with_reducible apply LS.sq_l); assumption; array_mem_dec; array_mem_dec)
  | ((with_reducible apply LS.tu_o); array_mem_dec)
  | ((with_reducible apply LS.tu_s); assumption; array_mem_dec)
  | ((with_reducible apply LS.tu_f); assumption; array_mem_dec; array_mem_dec)
  | ((with_reducible apply LS.tu_t); assumption; array_mem_dec; array_mem_dec)
  | ((with_reducible apply LS.tu_l); assumption; array_mem_dec; array_mem_dec)
  | ((with_reducible apply LS.se_l); array_mem_dec)
  | ((with_reducible apply LS.se_t); array_mem_dec)
  | ((with_reducible apply LS.se_s); assumption; array_mem_dec)
  | ((with_reducible apply LS.se_f); assumption; array_mem_dec; array_mem_dec)
  | ((with_reducible apply LS.se_tt); assumption; array_mem_dec; array_mem_dec)
  | ((with_reducible exact Same.refl _))
  | ((with_reducible apply LS.sm_s); assumption; array_mem_dec)
  | ((with_reducible apply LS.sm_f); assumption; array_mem_dec; array_mem_dec)
  | ((with_reducible exact Fr.refl _ _))
  | ((with_reducible apply LS.fr_b); assumption; array_mem_dec)
  | ((with_reducible apply LS.fr_s); assumption; array_mem_dec)
  | ((with_reducible apply LS.fr_n); assumption; array_mem_dec; array_mem_dec)
  | ((with_reducible apply LS.fr_t); assumption; array_mem_dec)
  | ((with_reducible apply LS.no_s); assumption; array_mem_dec)
  | ((with_reducible apply LS.no_f); assumption; array_mem_dec; array_mem_dec)
  | ((with_reducible apply LS.no_t); assumption; array_mem_dec)
  | ((with_reducible apply LS.no_l); assumption; assumption)
  | ((with_reducible apply Ne.symm); assumption)
  | ((with_reducible apply LS.ne_a); assumption; array_mem_dec)
  | ((with_reducible apply LS.ne_b); assumption; array_mem_dec)
  | ((with_reducible apply LS.ne_ap); assumption)
  | ((with_reducible apply LS.ne_il); assumption; array_mem_dec)
  | ((with_reducible apply LS.ne_li); assumption; array_mem_dec)
  | ((with_reducible apply LS.ne_lt); assumption; assumption)
  | ((with_reducible apply LS.ne_tl); assumption; assumption)
  | ((with_reducible apply LS.ne_rl); assumption; array_mem_dec)
  | ((with_reducible apply LS.rl_t); assumption)
  | ((with_reducible apply LS.rl_s); assumption; array_mem_dec)
  | ((with_reducible apply LS.rl_f); assumption; array_mem_dec; array_mem_dec)
  | ((with_reducible apply LS.rl_l); assumption; array_mem_dec; array_mem_dec)
  | ((with_reducible apply LS.ap_new); assumption; assumption; array_mem_dec)
  | ((with_reducible apply LS.ap_t); assumption; array_mem_dec; array_mem_dec)
  | ((with_reducible apply LS.ap_s); assumption; array_mem_dec; array_mem_dec)
  | ((with_reducible apply LS.ap_f); assumption; array_mem_dec; array_mem_dec; array_mem_dec)
  | ((with_reducible apply LS.ap_l); assumption; array_mem_dec; array_mem_dec; array_mem_dec)
  | (with_reducible apply LS.ni_nil)
  | ((with_reducible apply LS.ni_cons); array_mem_dec; array_mem_dec)
  | (with_reducible apply LS.trk_nil)
  | ((with_reducible apply LS.trk_cons); array_mem_dec; array_mem_dec)
  | (with_reducible apply LS.al_nil)
  | ((with_reducible apply LS.al_cons); array_mem_dec; array_mem_dec)
  | (with_reducible apply LS.mem_hd)
  | ((with_reducible apply LS.mem_tl); array_mem_dec)
  | ((with_reducible apply LS.fl_refl); array_mem_dec)
  | ((with_reducible apply LS.fl_l); assumption; array_mem_dec)
  | ((with_reducible apply LS.fl_lm); assumption; array_mem_dec; array_mem_dec)
  | (with_reducible apply LS.sub_nil)
  | ((with_reducible apply LS.sub_cons); array_mem_dec; array_mem_dec)
  | ((with_reducible apply LS.fl_s); assumption; array_mem_dec)
  | ((with_reducible apply LS.fl_m); assumption; array_mem_dec; array_mem_dec; array_mem_dec)
  | ((with_reducible apply LS.fl_n); assumption; array_mem_dec; array_mem_dec; array_mem_dec)
  | ((with_reducible apply LS.rt_refl); array_mem_dec)
  | ((with_reducible apply LS.rt_t); assumption; array_mem_dec)
  | ((with_reducible apply LS.rt_s); assumption; array_mem_dec)
  | ((with_reducible apply LS.rt_f); assumption; array_mem_dec; array_mem_dec; array_mem_dec)
  | ((with_reducible apply LS.sz); (first | decide | (simp only [List.length_append, List.length_map, List.length_cons, List.length_nil, List.length_replicate]; omega)))
  | ((with_reducible apply LS.szl); (first | decide | (simp only [List.length_append, List.length_map, List.length_cons, List.length_nil, List.length_replicate]; omega))))
local macro_rules | `(tactic| array_get_dec) => `(tactic| first
  | ((with_reducible apply LS.var); exact rfl)
  | (with_reducible apply LS.con)
  | (with_reducible apply LS.op)
  | (with_reducible apply LS.ri0)
  | (with_reducible apply LS.tseq)
  | (with_reducible apply LS.tasg)
  | (with_reducible apply LS.gname)
  | (with_reducible apply LS.tcons)
  | (with_reducible apply LS.tnil)
  | (with_reducible apply LS.tcb)
  | (with_reducible apply LS.tcall)
  | (with_reducible apply LS.ttest)
  | (with_reducible apply LS.k_b)
  | (with_reducible apply LS.tb)
  | (with_reducible apply LS.tifs)
  | (with_reducible apply LS.ift)
  | (with_reducible apply LS.iff_)
  | (with_reducible apply LS.ifnt)
  | (with_reducible apply LS.ifnf)
  | (with_reducible apply LS.tnext)
  | (with_reducible apply LS.tdrop)
  | (with_reducible apply LS.tret)
  | (with_reducible apply LS.tretn)
  | (with_reducible apply LS.un)
  | (with_reducible apply LS.ru)
  | (with_reducible apply LS.tyes)
  | (with_reducible apply LS.tand)
  | (with_reducible apply LS.tor)
  | (with_reducible apply LS.tnot)
  | (with_reducible apply LS.tif)
  | (with_reducible apply LS.tandv)
  | (with_reducible apply LS.k_av)
  | (with_reducible apply LS.torv)
  | (with_reducible apply LS.k_ov)
  | (with_reducible apply LS.tnotv)
  | (with_reducible apply LS.k_nv)
  | (with_reducible apply LS.tchain)
  | (with_reducible apply LS.k_ch)
  | (with_reducible apply LS.req_i)
  | (with_reducible apply LS.rne_i)
  | (with_reducible apply LS.req_s)
  | (with_reducible apply LS.rne_s)
  | (with_reducible apply LS.req_b)
  | (with_reducible apply LS.rne_b)
  | ((with_reducible apply LS.rin_i); array_mem_dec)
  | ((with_reducible apply LS.rni_i); array_mem_dec)
  | ((with_reducible apply LS.rlen_li); array_mem_dec)
  | ((with_reducible apply LS.rlen_ls); array_mem_dec)
  | ((with_reducible apply LS.rlen_l); array_mem_dec)
  | ((with_reducible apply LS.rlen_Ei); array_mem_dec)
  | ((with_reducible apply LS.rlen_E); array_mem_dec)
  | ((with_reducible apply LS.rlen_t); array_mem_dec)
  | ((with_reducible apply LS.rixl); array_mem_dec; exact rfl)
  | ((with_reducible apply LS.rixt); array_mem_dec; exact rfl)
  | (with_reducible apply LS.isi_int_int)
  | (with_reducible apply LS.isi_int_bool)
  | (with_reducible apply LS.isi_int_str)
  | (with_reducible apply LS.isi_str_int)
  | (with_reducible apply LS.isi_str_bool)
  | (with_reducible apply LS.isi_str_str)
  | (with_reducible apply LS.isi_bool_int)
  | (with_reducible apply LS.isi_bool_bool)
  | (with_reducible apply LS.isi_bool_str)
  | (with_reducible apply LS.isi_non_int)
  | (with_reducible apply LS.isi_non_bool)
  | (with_reducible apply LS.isi_non_str)
  | ((with_reducible apply LS.isi_list_int); array_mem_dec)
  | ((with_reducible apply LS.isi_list_bool); array_mem_dec)
  | ((with_reducible apply LS.isi_list_str); array_mem_dec)
  | ((with_reducible apply LS.isi_list_list); array_mem_dec)
  | ((with_reducible apply LS.isi_list_tuple); array_mem_dec)
  | ((with_reducible apply LS.isi_tuple_int); array_mem_dec)
  | ((with_reducible apply LS.isi_tuple_bool); array_mem_dec)
  | ((with_reducible apply LS.isi_tuple_str); array_mem_dec)
  | ((with_reducible apply LS.isi_tuple_list); array_mem_dec)
  | ((with_reducible apply LS.isi_tuple_tuple); array_mem_dec)
  | ((with_reducible apply LS.isiT_i); array_mem_dec)
  | ((with_reducible apply LS.isiT_s); array_mem_dec)
  | ((with_reducible apply LS.isiT_E); array_mem_dec; array_mem_dec)
  | (with_reducible apply LS.tfld)
  | ((with_reducible apply LS.k_fl); array_mem_dec; assumption; assumption; exact rfl)
  | (with_reducible apply LS.tmeth)
  | ((with_reducible apply LS.k_me); array_mem_dec; exact rfl)
  | (with_reducible apply LS.tmake)
  | (with_reducible apply LS.tsfld)
  | (with_reducible apply LS.tprop)
  | ((with_reducible apply LS.k_pr); array_mem_dec)
  | ((with_reducible apply LS.rlen_own); array_mem_dec)
  | (with_reducible apply LS.rabs)
  | (with_reducible apply LS.rmin2)
  | (with_reducible apply LS.rmax2)
  | (with_reducible apply LS.tsl)
  | (with_reducible apply LS.tthen)
  | (with_reducible apply LS.tstep)
  | (with_reducible apply LS.tnop)
  | (with_reducible apply LS.tpart)
  | (with_reducible apply LS.k_part)
  | (with_reducible apply LS.ttup)
  | (with_reducible apply LS.tlst)
  | (with_reducible apply LS.tbm)
  | (with_reducible apply LS.tbm0)
  | ((with_reducible apply LS.ty_l); array_mem_dec)
  | (with_reducible apply LS.tpar)
  | (with_reducible apply LS.tfor)
  | (with_reducible apply LS.tlc)
  | (with_reducible apply LS.ilist)
  | ((with_reducible apply LS.k_il); array_mem_dec)
  | (with_reducible apply LS.itup)
  | ((with_reducible apply LS.k_it); array_mem_dec)
  | (with_reducible apply LS.istr)
  | (with_reducible apply LS.k_is)
  | (with_reducible apply LS.irng1)
  | ((with_reducible apply LS.k_r1n); omega)
  | ((with_reducible apply LS.k_r1); (first | omega | decide); (first | omega | decide))
  | (with_reducible apply LS.irng2)
  | ((with_reducible apply LS.k_r2); (first | omega | decide); (first | omega | decide); (first | omega | decide); (first | omega | decide))
  | (with_reducible apply LS.ienum)
  | ((with_reducible apply LS.k_en); array_mem_dec)
  | (with_reducible apply LS.izip)
  | ((with_reducible apply LS.k_zip); array_mem_dec; array_mem_dec)
  | (with_reducible apply LS.tlstrg)
  | (with_reducible apply LS.trg1)
  | (with_reducible apply LS.k_g1)
  | (with_reducible apply LS.risn_i)
  | (with_reducible apply LS.risn_s)
  | (with_reducible apply LS.risn_n)
  | (with_reducible apply LS.rnotn_i)
  | (with_reducible apply LS.rnotn_n)
  | (with_reducible apply LS.rint_b)
  | (with_reducible apply LS.rint_i)
  | (with_reducible apply LS.tm0)
  | (with_reducible apply LS.tm1)
  | (with_reducible apply LS.is_str)
  | (with_reducible apply LS.ex_s0)
  | (with_reducible apply LS.ex_int_b)
  | (with_reducible apply LS.k_par)
  | (with_reducible apply LS.tpar3)
  | (with_reducible apply LS.k_par3)
  | ((with_reducible apply LS.taug); exact rfl)
  | (with_reducible apply LS.ipi)
  | ((with_reducible apply LS.gtup); array_mem_dec; exact rfl)
  | ((with_reducible apply LS.gunl); array_mem_dec; exact rfl)
  | (with_reducible apply LS.gnil)
  | (with_reducible apply LS.gcons)
  | (with_reducible apply LS.gsub)
  | ((with_reducible apply LS.ri); first | omega | decide | assumption | exact ⟨by decide, by decide, by decide⟩ | exact .inl ⟨by decide, by decide⟩ | exact .inr ⟨by decide, by decide⟩ | exact .inl ⟨by omega, by omega⟩ | exact .inr ⟨by omega, by omega⟩)
  | (with_reducible apply LS.ex_ss)
  | (with_reducible apply LS.ex_s1)
  | (with_reducible apply LS.ex_i1)
  | (with_reducible apply LS.and_rfl)
  | (with_reducible apply LS.and_tr)
  | (with_reducible apply LS.is_non))
local macro_rules | `(tactic| array_mem_dec) => `(tactic| first
  | ((with_reducible apply LP.sg_s); assumption; array_mem_dec)
  | ((with_reducible apply LP.sg_f); assumption; array_mem_dec; array_mem_dec)
  | ((with_reducible apply LP.sg_l); assumption; array_mem_dec; array_mem_dec)
  | ((with_reducible apply LP.sg_ne); assumption; array_mem_dec)
  | ((with_reducible apply LP.sg_ne'); assumption; array_mem_dec)
  | ((with_reducible apply LS.se_q); array_mem_dec)
  | ((with_reducible apply LS.se_u); array_mem_dec)
  | ((with_reducible apply LP.sg_no); assumption; array_mem_dec; array_mem_dec))
local macro_rules | `(tactic| array_get_dec) => `(tactic| first
  | ((with_reducible apply LS.rne_same); exact rfl)
  | ((with_reducible apply LS.req_same); exact rfl)
  | (with_reducible apply LS.trevl)
  | (with_reducible apply LS.irng3)
  | (with_reducible apply LS.risn_b)
  | ((with_reducible apply LS.isiT_n); array_mem_dec)
  | ((with_reducible apply LS.isiT_b); array_mem_dec))
local macro_rules | `(tactic| array_get_dec) => `(tactic| first
  | (with_reducible apply LS.tcalle)
  | (with_reducible apply LS.tcalls))
local macro_rules | `(tactic| array_get_dec) => `(tactic| first
  | (with_reducible apply LS.trg2)
  | (with_reducible apply LS.k_g2))

section
variable {P : Program} {w : World} {K : PySem.W.Frag} {mg : Str → Option Value} {base : Heap}

theorem or_zipE0 {K : PySem.W.Frag} {H : Hp} {a b : Addr} {xs ys : List V} {σ : L2.St} {R : It → Hp → Prop} {ta : TA} (hE : SqE K H a xs) (hy : SqL K H b ys) (hl : xs.length = ys.length) (hv : ∀ Q : List V → Hp → Prop, Q [.ref a, .ref b] H → ta σ H Q)
    (k : ∀ (J : It) (G : Hp → Prop), Walk J xs.length G (YPair (fun i => xs[i]?) (fun i => ys[i]?)) → (∀ H', Same H H' → G H') → R J H) : iZip K ta σ H R ∨ iZipTL K ta σ H R := by
  rcases hE with h | h
  · exact .inl (hv _ ⟨a, b, xs, ys, rfl, h, hy, k _ _ (walk_zip (by omega)) fun H' t => ⟨t.seq h, t.seq hy⟩⟩)
  · exact .inr (hv _ ⟨a, b, xs, ys, rfl, h, hy, k _ _ (walk_zipTL hl) fun H' t => ⟨same_tup t h, t.seq hy⟩⟩)
def sp_is_number : Sp := fun vs H Q _ => ∃ n c : Int, vs = [.int n, .int c] ∧ 0 ≤ n ∧ n < c ∧ Q (.bl true) H
def sp_check_offsets (K : PySem.W.Frag) : Sp := fun vs H Q _ => ∃ (a b : Addr) (os ls : List Int), vs = [.ref a, .ref b] ∧ Is K H a os ∧ H b = some (.lst (ls.map V.int)) ∧ os.length = ls.length ∧ os.length ≤ 200 ∧ (∀ (i : Nat) (x y : Int), os[i]? = some x → ls[i]? = some y → 0 ≤ x ∧ x < y) ∧ ∀ H', Same H H' → Q .non H'
theorem ok_is_number (e : Env K mg) : FnOk P w K mg base CX0 2 e.a_is_number e.d_is_number ["value", "count"] (sp_is_number) := by
  refine Fun.ok e.f_is_number sc_is_number (fun vs H Q E h => ?_) (fun cdv A outer s H vs Q E hr h => ?_)
  · obtain ⟨n, c, rfl, _⟩ := h; rfl
  · obtain ⟨n, c, rfl, h0, h1, k⟩ := h
    refine ⟨_, (pss_one (ps_ret (pe_and (pe_call ((ok_is_whole e).mono (by decide)) hr rfl e.g_is_whole e.f_is_whole.kp e.b_is_whole .nil pass0 (pa_cons (pv 0) pa_nil)) (pe_one (pe_chain op_le op_lt pe_int (pv 0) (pv 1)))))), ?_⟩
    repeat array_get_dec
    refine ⟨n, rfl, ?_⟩
    repeat array_get_dec
    rw [decide_eq_true h0]
    repeat array_get_dec
    rw [decide_eq_true h1]
    exact k
theorem ok_check_offsets (e : Env K mg) : FnOk P w K mg base CX0 3 e.a_check_offsets e.d_check_offsets ["value", "lengths"] (sp_check_offsets K) := by
  refine Fun.ok e.f_check_offsets sc_check_offsets (fun vs H Q E h => ?_) (fun cdv A outer s H vs Q E hr h => ?_)
  · obtain ⟨a, b, os, ls, rfl, _⟩ := h; rfl
  · obtain ⟨a, b, os, ls, rfl, ha, hb, hl, hle, hin, k⟩ := h
    refine ⟨_, (pss_cons (ps_if (PW.pt (pw_or (pt_not (pt_val (pe_call ((ok_is_listed e).mono (by decide)) hr rfl e.g_is_listed e.f_is_listed.kp e.b_is_listed .nil pass0 (pa_cons (pv 0) pa_nil)))) (pw_or1 (pt_cmpR op_ne (pe_callB LS.call_len (by rfl) e.n_len PySem.boot_len (pa_cons (pv 0) pa_nil)) (pe_callB LS.call_len (by rfl) e.n_len PySem.boot_len (pa_cons (pv 1) pa_nil)) (nomark _)))))
        (pss_one ps_never)
        pss_nil)
      (pss_one (ps_if (pt_not (pt_val (pe_callB (cr_all rfl) (by rfl) e.n_all (by decide +kernel) (pa_cons (pe_lc (own := [("offset", 2), ("length", 3)]) rfl sc_check_offsets.nd (PI.or (pi_zip (by rfl) e.n_zip (pa_cons (pv 0) (pa_cons (pv 1) pa_nil))) (pi_zipTL (by rfl) e.n_zip (pa_cons (pv 0) (pa_cons (pv 1) pa_nil)))) (blkOk_by (N := ["value", "lengths", "offset", "length"]) (sc := defScope s_check_offsets) (by decide +kernel)) (fun _ _ _ _ _ => (show PG _ _ (gTup K 2 _) from pg_tup (by rfl) (pgs_cons (pg_name (i := 2) sc_check_offsets.nd rfl (by first | exact Or.inl rfl | exact Or.inr rfl)) (pgs_cons (pg_name (i := 3) sc_check_offsets.nd rfl (by first | exact Or.inl rfl | exact Or.inr rfl)) pgs_nil)))) (fun _ _ _ _ _ => pts_nil) (fun _ _ _ _ _ => (pe_call ((ok_is_number e).mono (by decide)) hr rfl e.g_is_number e.f_is_number.kp e.b_is_number .nil pass0 (pa_cons (pv 2) (pa_cons (pv 3) pa_nil))))) pa_nil))))
        (pss_one ps_never)
        pss_nil))), ?_⟩
    repeat array_get_dec
    refine ⟨a, _, rfl, ha, fun H1 s1 => ?_⟩
    have ha1 := ha.same s1
    have hb1 := s1 _ _ hb
    repeat array_get_dec
    rw [hl, decide_eq_true rfl]
    repeat array_get_dec
    refine or_zipE0 (ys := ls.map V.int) ha1 (SqL.of hb1) (by rw [List.length_map, List.length_map, hl]) (fun Q q => ⟨_, rfl, _, rfl, q⟩) fun J G wk hG => ?_
    refine LS.comp wk (fun D i acc H' => Same H1 H' ∧ acc = (List.replicate i true).map V.bl) (fun D H' nD s' hD => ⟨s', rfl⟩) (fun D j acc H' hi nD hD h => (by obtain ⟨h, _⟩ := h; exact hG _ h)) ?_ ?_
    · rintro D i acc x H2 H3 nD hi hl2 hD ⟨s2, rfl⟩ y
      obtain ⟨T, y, z, rfl, nT, s3, hT, hy, hz⟩ := LS.ypair y
      obtain ⟨u, hu, rfl⟩ := at_int hy
      obtain ⟨v, hv, rfl⟩ := at_int hz
      have r := hin i u v hu hv
      rw [List.length_map] at hi
      have nTD : T ≠ D := fun q => by subst q; rw [hD] at nT; cases nT
      repeat array_get_dec
      refine ⟨rfl, ?_⟩
      repeat array_get_dec
      refine ⟨u, v, rfl, r.1, r.2, ?_⟩
      exact LS.k_lc (acc := (List.replicate i true).map V.bl) (s3 _ _ hD) hl2 (by omega) fun H5 f5 h5 => ⟨LS.Same.fr_new (s2.trans s3) f5 nD, by rw [List.replicate_succ', List.map_append]; rfl⟩
    · rintro D acc H2 nD hD hl2 ⟨s2, rfl⟩
      repeat array_get_dec
      refine ⟨D, List.replicate (List.map V.int os).length true, rfl, SqL.of hD, true, ?_, ?_⟩
      · rw [all_bl fun b hb => (List.mem_replicate.mp hb).2]
      repeat array_get_dec
      exact k H2 (s1.trans s2)
end
end LP

/-! parking functions -/
namespace LQ
def cnt (w : List Int) (k : Int) : Nat := (w.filter fun x => decide (x < k)).length
def geq (w : List Int) (k : Int) : Nat := (w.filter fun x => decide (k ≤ x)).length
theorem cnt_nil (k : Int) : cnt [] k = 0 := rfl
theorem cnt_cons (x : Int) (w : List Int) (k : Int) : cnt (x :: w) k = (if x < k then 1 else 0) + cnt w k := by
  unfold cnt
  rw [List.filter_cons]
  by_cases h : x < k
  · rw [if_pos (decide_eq_true h), if_pos h, List.length_cons]; omega
  · rw [if_neg (by rw [decide_eq_true_iff]; exact h), if_neg h]; omega
theorem cnt_app (v w : List Int) (k : Int) : cnt (v ++ w) k = cnt v k + cnt w k := by
  unfold cnt; rw [List.filter_append, List.length_append]
theorem cnt_geq (w : List Int) (k : Int) : cnt w k + geq w k = w.length := by
  induction w with
  | nil => rfl
  | cons x r ih =>
    rw [cnt_cons]
    unfold geq at ih ⊢
    rw [List.filter_cons, List.length_cons]
    by_cases h : x < k
    · rw [if_pos h, if_neg (by rw [decide_eq_true_iff]; omega)]; omega
    · rw [if_neg h, if_pos (by rw [decide_eq_true_iff]; omega), List.length_cons]; omega
theorem cnt_perm {v w : List Int} (p : v.Perm w) (k : Int) : cnt v k = cnt w k := (p.filter _).length_eq
theorem cnt_le (w : List Int) (k : Int) : cnt w k ≤ w.length := List.length_filter_le ..
structure Pk (w : List Int) : Prop where
  rg : ∀ x ∈ w, 0 ≤ x ∧ x < w.length
  ct : ∀ k : Nat, k ≤ w.length → k ≤ cnt w k
theorem Pk.perm {v w : List Int} (h : Pk w) (p : v.Perm w) : Pk v := ⟨fun x hx => by rw [p.length_eq]; exact h.rg x (p.subset hx), fun k hk => by rw [cnt_perm p]; exact h.ct k (by rw [← p.length_eq]; exact hk)⟩
/-- by the sorted list -/
theorem srt_ct {ys : List Int} (s : ys.Pairwise (· ≤ ·)) : (∀ (i : Nat) (y : Int), ys[i]? = some y → y ≤ (i : Int)) ↔ ∀ k : Nat, k ≤ ys.length → k ≤ cnt ys k := by
  constructor
  · intro h k hk
    have e : ((ys.take k).filter fun x => decide (x < (k : Int))) = ys.take k := by
      rw [List.filter_eq_self]
      intro a ha
      obtain ⟨i, hi⟩ := List.mem_iff_getElem?.mp ha
      have hik := (List.getElem?_eq_some_iff.mp hi).1
      rw [List.length_take] at hik
      rw [List.getElem?_take_of_lt (by omega)] at hi
      have := h i a hi
      exact decide_eq_true (by omega)
    have sub : (ys.take k).Sublist ys := List.take_sublist ..
    have l := (sub.filter fun x => decide (x < (k : Int))).length_le
    rw [e, List.length_take, Nat.min_eq_left hk] at l
    exact l
  · intro h i y hy
    have hi := (List.getElem?_eq_some_iff.mp hy).1
    rcases Int.lt_or_le (i : Int) y with q | q
    · have c := h (i + 1) (by omega)
      unfold cnt at c
      rw [← List.take_append_drop i ys, List.filter_append, List.length_append] at c
      have e : ((ys.drop i).filter fun x => decide (x < ((i + 1 : Nat) : Int))) = [] := by
        rw [List.filter_eq_nil_iff]
        intro a ha
        rw [decide_eq_true_iff]
        obtain ⟨j, hj⟩ := List.mem_iff_getElem?.mp ha
        rw [List.getElem?_drop] at hj
        have : y ≤ a := by
          rcases Nat.eq_zero_or_pos j with z | z
          · subst z; rw [Nat.add_zero, hy] at hj; cases hj; exact Int.le_refl _
          · have hj' := List.getElem?_eq_some_iff.mp hj
            have hy' := List.getElem?_eq_some_iff.mp hy
            have := List.pairwise_iff_getElem.mp s i (i + j) hi hj'.1 (by omega)
            rw [hy'.2, hj'.2] at this
            exact this
        omega
      rw [e] at c
      have := List.length_filter_le (fun x => decide (x < ((i + 1 : Nat) : Int))) (ys.take i)
      rw [List.length_take] at this
      simp only [List.length_nil] at c
      omega
    · exact q
theorem pk_srt {w ys : List Int} (p : ys.Perm w) (s : ys.Pairwise (· ≤ ·)) (rg : ∀ x ∈ w, 0 ≤ x ∧ x < w.length) : (∀ (i : Nat) (y : Int), ys[i]? = some y → y ≤ (i : Int)) ↔ Pk w := by
  rw [srt_ct s]
  constructor
  · intro h
    exact ⟨rg, fun k hk => by rw [← cnt_perm p]; exact h k (by rw [p.length_eq]; exact hk)⟩
  · intro h k hk
    rw [cnt_perm p]
    exact h.ct k (by rw [← p.length_eq]; exact hk)
/-! ## on a ring -/
def row (n : Nat) (w : List Int) (s : Int) : List Int := w.map fun x => (x + s) % ((n : Int) + 1)
def ceq (w : List Int) (v : Int) : Nat := (w.filter fun x => decide (x = v)).length
theorem ceq_cons (x : Int) (w : List Int) (v : Int) : ceq (x :: w) v = (if x = v then 1 else 0) + ceq w v := by
  unfold ceq
  rw [List.filter_cons]
  by_cases h : x = v
  · rw [if_pos (decide_eq_true h), if_pos h, List.length_cons]; omega
  · rw [if_neg (by rw [decide_eq_true_iff]; exact h), if_neg h]; omega
theorem cnt_succ (w : List Int) (k : Int) : cnt w (k + 1) = cnt w k + ceq w k := by
  induction w with
  | nil => rfl
  | cons x r ih =>
    rw [cnt_cons, cnt_cons, ceq_cons, ih]
    by_cases h : x = k
    · rw [if_pos (by omega), if_neg (by omega), if_pos h]; omega
    · by_cases h2 : x < k
      · rw [if_pos (by omega), if_pos h2, if_neg h]; omega
      · rw [if_neg (by omega), if_neg h2, if_neg h]; omega
/-- counted around the ring -/
def G (n : Nat) (w : List Int) : Nat → Nat
  | 0 => 0
  | j + 1 => G n w j + ceq w ((j : Int) % ((n : Int) + 1))
theorem G_cnt {n : Nat} {w : List Int} (h0 : ∀ x ∈ w, 0 ≤ x) : ∀ {j : Nat}, j ≤ n + 1 → G n w j = cnt w j
  | 0, _ => by
    show 0 = cnt w 0
    unfold cnt
    rw [List.filter_eq_nil_iff.mpr]
    · rfl
    · intro x hx; rw [decide_eq_true_iff]; have := h0 x hx; omega
  | j + 1, h => by
    show G n w j + ceq w ((j : Int) % ((n : Int) + 1)) = cnt w ((j : Int) + 1)
    rw [cnt_succ, G_cnt h0 (by omega), Int.emod_eq_of_lt (by omega) (by omega)]
theorem cnt_all {w : List Int} {k : Int} (h : ∀ x ∈ w, x < k) : cnt w k = w.length := by
  unfold cnt
  rw [List.filter_eq_self.mpr fun x hx => decide_eq_true (h x hx)]
theorem G_turn {n : Nat} {w : List Int} (h : ∀ x ∈ w, 0 ≤ x ∧ x < (n : Int) + 1) : ∀ j : Nat, G n w (j + (n + 1)) = G n w j + w.length
  | 0 => by
    rw [Nat.zero_add, G_cnt (fun x hx => (h x hx).1) (Nat.le_refl _), cnt_all (fun x hx => by have := (h x hx).2; omega)]
    show _ = 0 + _
    omega
  | j + 1 => by
    rw [show j + 1 + (n + 1) = (j + (n + 1)) + 1 by omega]
    show G n w (j + (n + 1)) + ceq w (((j + (n + 1) : Nat) : Int) % ((n : Int) + 1)) = G n w j + ceq w ((j : Int) % ((n : Int) + 1)) + w.length
    rw [G_turn h j, show (((j + (n + 1) : Nat) : Int) % ((n : Int) + 1)) = (j : Int) % ((n : Int) + 1) by
      rw [show ((j + (n + 1) : Nat) : Int) = (j : Int) + ((n : Int) + 1) by omega, Int.add_emod_right]]
    omega
theorem ceq_row {n : Nat} {w : List Int} {s p k : Nat} (h : ∀ x ∈ w, 0 ≤ x ∧ x < (n : Int) + 1) (hs : (s : Int) + p = (n : Int) + 1 ∨ (s = 0 ∧ p = 0)) (hk : k < n + 1) : ceq (row n w s) k = ceq w (((p + k : Nat) : Int) % ((n : Int) + 1)) := by
  induction w with
  | nil => rfl
  | cons x r ih =>
    show ceq ((x + (s : Int)) % ((n : Int) + 1) :: row n r s) k = _
    rw [ceq_cons, ceq_cons, ih fun y hy => h y (List.mem_cons_of_mem _ hy)]
    have hx := h x (List.mem_cons_self ..)
    have key : ((x + (s : Int)) % ((n : Int) + 1) = (k : Int)) ↔ (x = ((p + k : Nat) : Int) % ((n : Int) + 1)) := by
      have e1 : (x + (s : Int)) % ((n : Int) + 1) = if x + s < (n : Int) + 1 then x + s else x + s - ((n : Int) + 1) := by
        split
        · exact Int.emod_eq_of_lt (by omega) (by omega)
        · rw [← Int.sub_emod_right, Int.emod_eq_of_lt (by omega) (by omega)]
      have e2 : ((p + k : Nat) : Int) % ((n : Int) + 1) = if p + k < n + 1 then ((p + k : Nat) : Int) else ((p + k : Nat) : Int) - ((n : Int) + 1) := by
        split
        · exact Int.emod_eq_of_lt (by omega) (by omega)
        · rw [← Int.sub_emod_right, Int.emod_eq_of_lt (by omega) (by omega)]
      rw [e1, e2]
      split <;> split <;> omega
    by_cases q : (x + (s : Int)) % ((n : Int) + 1) = (k : Int)
    · rw [if_pos q, if_pos (key.mp q)]
    · rw [if_neg q, if_neg fun z => q (key.mpr z)]
theorem row_rg {n : Nat} {w : List Int} {s : Int} : ∀ x ∈ row n w s, 0 ≤ x ∧ x < (n : Int) + 1 := fun x hx => by
  obtain ⟨y, _, rfl⟩ := List.mem_map.mp hx
  exact ⟨Int.emod_nonneg _ (by omega), Int.emod_lt_of_pos _ (by omega)⟩
theorem row_len {n : Nat} {w : List Int} {s : Int} : (row n w s).length = w.length := List.length_map ..
theorem cnt_row {n : Nat} {w : List Int} {s p : Nat} (h : ∀ x ∈ w, 0 ≤ x ∧ x < (n : Int) + 1) (hs : (s : Int) + p = (n : Int) + 1 ∨ (s = 0 ∧ p = 0)) : ∀ {k : Nat}, k ≤ n + 1 → G n w p + cnt (row n w s) k = G n w (p + k)
  | 0, _ => by
    rw [← G_cnt (n := n) (fun x hx => (row_rg (n := n) (w := w) (s := (s : Int)) x hx).1) (Nat.zero_le _)]
    rfl
  | k + 1, hk => by
    have := cnt_row h hs (k := k) (by omega)
    rw [show ((k + 1 : Nat) : Int) = (k : Int) + 1 by omega, cnt_succ, ceq_row h hs (by omega)]
    show _ = G n w (p + k) + ceq w (((p + k : Nat) : Int) % ((n : Int) + 1))
    omega
def Sg (n : Nat) (w : List Int) (j : Nat) : Int := (G n w j : Int) - j
def Gd (n : Nat) (w : List Int) (p : Nat) : Prop := ∀ k ≤ n, Sg n w p ≤ Sg n w (p + k)
theorem pk_row {n : Nat} {w : List Int} {s p : Nat} (hl : w.length = n) (h : ∀ x ∈ w, 0 ≤ x ∧ x < (n : Int) + 1) (hs : (s : Int) + p = (n : Int) + 1 ∨ (s = 0 ∧ p = 0)) : Pk (row n w s) ↔ Gd n w p := by
  have one : ∀ k ≤ n, (k ≤ cnt (row n w s) k ↔ Sg n w p ≤ Sg n w (p + k)) := fun k hk => by
    have := cnt_row h hs (k := k) (by omega)
    unfold Sg
    omega
  constructor
  · intro q k hk
    exact (one k hk).mp (q.ct k (by rw [row_len, hl]; exact hk))
  · intro q
    refine ⟨fun x hx => ?_, fun k hk => ?_⟩
    · have r := row_rg x hx
      have c := (one n (Nat.le_refl _)).mpr (q n (Nat.le_refl _))
      have g := cnt_geq (row n w s) (n : Int)
      rw [row_len, hl] at g
      have g0 : geq (row n w s) (n : Int) = 0 := by omega
      unfold geq at g0
      have g1 := List.eq_nil_of_length_eq_zero g0
      rw [List.filter_eq_nil_iff] at g1
      have := g1 x hx
      rw [decide_eq_true_iff] at this
      rw [row_len, hl]
      omega
    · rw [row_len, hl] at hk
      exact (one k hk).mpr (q k hk)
theorem Sg_turn {n : Nat} {w : List Int} (hl : w.length = n) (h : ∀ x ∈ w, 0 ≤ x ∧ x < (n : Int) + 1) (j : Nat) : Sg n w (j + (n + 1)) = Sg n w j - 1 := by
  unfold Sg
  rw [G_turn h j, hl]
  omega
/-- the first place of the least value -/
theorem least (f : Nat → Int) : ∀ n : Nat, ∃ p ≤ n, (∀ j ≤ n, f p ≤ f j) ∧ ∀ j < p, f p < f j
  | 0 => ⟨0, Nat.le_refl _, fun j hj => by rw [Nat.le_zero.mp hj]; exact Int.le_refl _, fun j hj => by omega⟩
  | n + 1 => by
    obtain ⟨p, hp, h1, h2⟩ := least f n
    rcases Int.lt_or_le (f (n + 1)) (f p) with q | q
    · refine ⟨n + 1, Nat.le_refl _, fun j hj => ?_, fun j hj => ?_⟩
      · rcases Nat.eq_or_lt_of_le hj with e | e
        · rw [e]; exact Int.le_refl _
        · have := h1 j (by omega); omega
      · have := h1 j (by omega); omega
    · refine ⟨p, by omega, fun j hj => ?_, h2⟩
      rcases Nat.eq_or_lt_of_le hj with e | e
      · rw [e]; exact q
      · exact h1 j (by omega)
theorem gd_one {n : Nat} {w : List Int} (hl : w.length = n) (h : ∀ x ∈ w, 0 ≤ x ∧ x < (n : Int) + 1) : ∃ p ≤ n, Gd n w p ∧ ∀ q ≤ n, Gd n w q → q = p := by
  obtain ⟨p, hp, h1, h2⟩ := least (Sg n w) n
  refine ⟨p, hp, fun k hk => ?_, fun q hq g => ?_⟩
  · rcases Nat.lt_or_ge n (p + k) with z | z
    · have e : p + k = (p + k - (n + 1)) + (n + 1) := by omega
      have lt := h2 (p + k - (n + 1)) (by omega)
      rw [e, Sg_turn hl h]
      omega
    · exact h1 _ z
  · rcases Nat.lt_trichotomy p q with z | z | z
    · have a := h1 q hq
      have c := g (p + (n + 1) - q) (by omega)
      rw [show q + (p + (n + 1) - q) = p + (n + 1) by omega, Sg_turn hl h] at c
      omega
    · exact z.symm
    · have a := h2 q z
      have c := g (p - q) (by omega)
      rw [show q + (p - q) = p by omega] at c
      omega
/-- exactly one turn of the ring parks -/
theorem ring {n : Nat} {w : List Int} (hl : w.length = n) (h : ∀ x ∈ w, 0 ≤ x ∧ x < (n : Int) + 1) : ∃ s : Nat, s ≤ n ∧ Pk (row n w s) ∧ ∀ t : Nat, t ≤ n → Pk (row n w t) → t = s := by
  obtain ⟨p, hp, g, u⟩ := gd_one hl h
  have fwd : ∀ t : Nat, t ≤ n → ∃ q ≤ n, ((t : Int) + q = (n : Int) + 1 ∨ (t = 0 ∧ q = 0)) := fun t ht => by
    rcases Nat.eq_zero_or_pos t with z | z
    · exact ⟨0, Nat.zero_le _, .inr ⟨z, rfl⟩⟩
    · exact ⟨n + 1 - t, by omega, .inl (by omega)⟩
  obtain ⟨s, hs, hsp⟩ := fwd p hp
  have hsp' : ((s : Int) + p = (n : Int) + 1 ∨ (s = 0 ∧ p = 0)) := hsp.imp (fun e => by omega) fun e => ⟨e.2, e.1⟩
  refine ⟨s, hs, (pk_row hl h hsp').mpr g, fun t ht pt => ?_⟩
  obtain ⟨q, hq, htq⟩ := fwd t ht
  have e := u q hq ((pk_row hl h htq).mp pt)
  subst e
  omega
theorem row_add {n : Nat} {w : List Int} {a b : Int} (h : a % ((n : Int) + 1) = b % ((n : Int) + 1)) : row n w a = row n w b := by
  unfold row
  refine List.map_congr_left fun x _ => ?_
  rw [Int.add_emod, h, ← Int.add_emod]
/-! ## numbers of digits -/
def val (N : Int) (ds : List Int) : Int := ds.foldl (fun a d => a * N + d) 0
theorem val_snoc (N : Int) (ds : List Int) (d : Int) : val N (ds ++ [d]) = val N ds * N + d := by unfold val; rw [List.foldl_append]; rfl
theorem val_gen {N : Int} (hN : 0 < N) : ∀ {ds : List Int} {a : Int}, 0 ≤ a → (∀ d ∈ ds, 0 ≤ d ∧ d < N) → 0 ≤ ds.foldl (fun a d => a * N + d) a ∧ ds.foldl (fun a d => a * N + d) a < (a + 1) * N ^ ds.length
  | [], a, h, _ => ⟨h, by simp only [List.foldl_nil, List.length_nil, Int.pow_zero]; omega⟩
  | d :: r, a, h, hd => by
    have h1 := hd d (List.mem_cons_self ..)
    have p0 : 0 ≤ a * N := Int.mul_nonneg h (by omega)
    obtain ⟨q0, q1⟩ := val_gen hN (ds := r) (a := a * N + d) (by omega) fun x hx => hd x (List.mem_cons_of_mem _ hx)
    refine ⟨q0, Int.lt_of_lt_of_le q1 ?_⟩
    show (a * N + d + 1) * N ^ r.length ≤ (a + 1) * N ^ (r.length + 1)
    rw [Int.pow_succ, Int.mul_comm (N ^ r.length) N, ← Int.mul_assoc]
    have p1 : 0 ≤ N ^ r.length := Int.le_of_lt (Int.pow_pos hN)
    refine Int.mul_le_mul_of_nonneg_right ?_ p1
    rw [Int.add_mul]
    omega
theorem val_rg {N : Int} (hN : 0 < N) {ds : List Int} (h : ∀ d ∈ ds, 0 ≤ d ∧ d < N) : 0 ≤ val N ds ∧ val N ds < N ^ ds.length := by
  have := val_gen hN (a := 0) (Int.le_refl _) h
  rw [Int.zero_add, Int.one_mul] at this
  exact this
/-! ## cars and spots -/
/-- the first free spot from p on -/
def fre (st : List (Option Int)) (p : Nat) : Nat := p + (st.drop p).findIdx (·.isNone)
def pkTo (w : List Int) : Nat → List (Option Int)
  | 0 => List.replicate w.length none
  | i + 1 => (pkTo w i).set (fre (pkTo w i) ((w[i]?).getD 0).toNat) (some i)
theorem pk_len (w : List Int) : ∀ i, (pkTo w i).length = w.length
  | 0 => List.length_replicate ..
  | i + 1 => by
    show ((pkTo w i).set _ _).length = _
    rw [List.length_set, pk_len w i]
theorem fre_ge (st : List (Option Int)) (p : Nat) : p ≤ fre st p := Nat.le_add_right ..
theorem fre_some {st : List (Option Int)} {p t : Nat} (h1 : p ≤ t) (h2 : t < fre st p) : ∃ c, st[t]? = some (some c) ∨ st.length ≤ t := by
  rcases Nat.lt_or_ge t st.length with q | q
  · have k : t - p < (st.drop p).findIdx (·.isNone) := by unfold fre at h2; omega
    have e := List.not_of_lt_findIdx k
    have g : (st.drop p)[t - p]'(by rw [List.length_drop]; omega) = st[t] := by rw [List.getElem_drop]; congr 1; omega
    rw [g] at e
    cases r : st[t] with
    | none => rw [r] at e; simp at e
    | some c => exact ⟨c, .inl (by rw [List.getElem?_eq_getElem q, r])⟩
  · exact ⟨0, .inr q⟩
theorem fre_at {st : List (Option Int)} {p t : Nat} (h1 : p ≤ t) (h2 : st[t]? = some none) : fre st p ≤ t ∧ st[fre st p]? = some none := by
  have ht := (List.getElem?_eq_some_iff.mp h2).1
  have ex : (st.drop p).findIdx (·.isNone) < (st.drop p).length := by
    rw [List.findIdx_lt_length]
    refine ⟨none, ?_, rfl⟩
    refine List.mem_iff_getElem?.mpr ⟨t - p, ?_⟩
    rw [List.getElem?_drop, show p + (t - p) = t by omega, h2]
  have g := List.findIdx_getElem (w := ex)
  have le : (st.drop p).findIdx (·.isNone) ≤ t - p := by
    rcases Nat.lt_or_ge (t - p) ((st.drop p).findIdx (·.isNone)) with q | q
    · have e := List.not_of_lt_findIdx q
      rw [List.getElem_drop] at e
      have := (List.getElem?_eq_some_iff.mp h2).2
      have e2 : st[p + (t - p)]'(by omega) = st[t] := by congr 1; omega
      rw [e2, this] at e
      simp at e
    · exact q
  refine ⟨by unfold fre; omega, ?_⟩
  unfold fre
  rw [List.getElem_drop] at g
  have hl : p + (st.drop p).findIdx (·.isNone) < st.length := by rw [List.length_drop] at ex; omega
  rw [List.getElem?_eq_getElem hl]
  cases r : st[p + (st.drop p).findIdx (·.isNone)] with
  | none => rfl
  | some c => rw [r] at g; simp at g
/-- how many spots from k on are taken -/
def occ (st : List (Option Int)) (k : Nat) : Nat := (st.drop k).countP (·.isSome)
theorem countP_set {l : List (Option Int)} : ∀ {i : Nat} {c : Int}, l[i]? = some none → (l.set i (some c)).countP (·.isSome) = l.countP (·.isSome) + 1 := by
  induction l with
  | nil => intro i c h; simp at h
  | cons a r ih =>
    intro i c h
    cases i with
    | zero =>
      have : a = none := by simpa using h
      subst this
      show ((some c) :: r).countP _ = _
      rw [List.countP_cons_of_pos (by rfl), List.countP_cons_of_neg (by simp)]
    | succ j =>
      have h' : r[j]? = some none := h
      show (a :: r.set j (some c)).countP _ = _
      rw [List.countP_cons, List.countP_cons, ih h']
      omega
theorem occ_set {st : List (Option Int)} {f k : Nat} {c : Int} (h : st[f]? = some none) : occ (st.set f (some c)) k = occ st k + if k ≤ f then 1 else 0 := by
  unfold occ
  by_cases q : k ≤ f
  · rw [if_pos q, List.drop_set, if_neg (by omega)]
    refine countP_set ?_
    rw [List.getElem?_drop, show k + (f - k) = f by omega, h]
  · rw [if_neg q, List.drop_set_of_lt (by omega)]; rfl
theorem occ_le (st : List (Option Int)) (k : Nat) : occ st k ≤ st.length - k := by
  unfold occ
  have := List.countP_le_length (p := fun x : Option Int => x.isSome) (l := st.drop k)
  rw [List.length_drop] at this
  exact this
structure PkI (w : List Int) (i : Nat) : Prop where
  /-- a boundary: no car passes it -/
  bd : ∀ k : Nat, k ≤ w.length → (k = 0 ∨ (pkTo w i)[k - 1]? = some none) → occ (pkTo w i) k = geq (w.take i) k
  lt : ∀ (s : Nat) (c : Int), (pkTo w i)[s]? = some (some c) → 0 ≤ c ∧ c < i
  inj : ∀ (s t : Nat) (c : Int), (pkTo w i)[s]? = some (some c) → (pkTo w i)[t]? = some (some c) → s = t
  wish : ∀ (s : Nat) (c : Int), (pkTo w i)[s]? = some (some c) → ∃ x, w[c.toNat]? = some x ∧ 0 ≤ x ∧ x.toNat ≤ s ∧ ∀ t, x.toNat ≤ t → t < s → ∃ d, (pkTo w i)[t]? = some (some d) ∧ d < c
theorem geq_app (v w : List Int) (k : Int) : geq (v ++ w) k = geq v k + geq w k := by
  unfold geq; rw [List.filter_append, List.length_append]
theorem geq_take_le (w : List Int) (i : Nat) (k : Int) : geq (w.take i) k ≤ geq w k := ((List.take_sublist i w).filter _).length_le
theorem all_down {st : List (Option Int)} {n : Nat} : ∀ {j : Nat}, (∀ s, j ≤ s → s < n → ∃ c, st[s]? = some (some c)) → j ≤ n → n = st.length → ∃ k ≤ j, (k = 0 ∨ st[k - 1]? = some none) ∧ ∀ s, k ≤ s → s < n → ∃ c, st[s]? = some (some c)
  | 0, h, _, _ => ⟨0, Nat.le_refl _, .inl rfl, h⟩
  | j + 1, h, hj, hn => by
    have hjl : j < st.length := by omega
    cases r : st[j] with
    | none => exact ⟨j + 1, Nat.le_refl _, .inr (by rw [Nat.add_sub_cancel, List.getElem?_eq_getElem hjl, r]), h⟩
    | some c =>
      obtain ⟨k, hk, h1, h2⟩ := all_down (j := j) (fun s h1 h2 => by
        rcases Nat.eq_or_lt_of_le h1 with e | e
        · subst e; exact ⟨c, by rw [List.getElem?_eq_getElem hjl, r]⟩
        · exact h s e h2) (by omega) hn
      exact ⟨k, by omega, h1, h2⟩
theorem occ_full {st : List (Option Int)} {k : Nat} (h : ∀ s, k ≤ s → s < st.length → ∃ c, st[s]? = some (some c)) : occ st k = st.length - k := by
  unfold occ
  rw [List.countP_eq_length.mpr, List.length_drop]
  intro a ha
  obtain ⟨j, hj⟩ := List.mem_iff_getElem?.mp ha
  rw [List.getElem?_drop] at hj
  obtain ⟨c, hc⟩ := h (k + j) (by omega) (List.getElem?_eq_some_iff.mp hj).1
  rw [hc] at hj
  cases hj
  rfl
/-- a car finds a spot -/
theorem finds {w : List Int} (p : Pk w) {i : Nat} (I : PkI w i) {x : Int} (hx : w[i]? = some x) : ∃ t, x.toNat ≤ t ∧ (pkTo w i)[t]? = some none := by
  have hi := (List.getElem?_eq_some_iff.mp hx).1
  have rx := p.rg x (List.mem_of_getElem? hx)
  have pl := pk_len w i
  refine Classical.byContradiction fun no => ?_
  have all : ∀ s, x.toNat ≤ s → s < w.length → ∃ c, (pkTo w i)[s]? = some (some c) := fun s h1 h2 => by
    cases r : (pkTo w i)[s]'(by omega) with
    | none => exact absurd ⟨s, h1, by rw [List.getElem?_eq_getElem (by omega), r]⟩ no
    | some c => exact ⟨c, by rw [List.getElem?_eq_getElem (by omega), r]⟩
  obtain ⟨k, hk, h1, h2⟩ := all_down all (by omega) pl.symm
  have e := I.bd k (by omega) h1
  rw [occ_full (fun s a b => h2 s a (by omega)), pl] at e
  have t1 : w.take (i + 1) = w.take i ++ [x] := by rw [List.take_add_one, hx]; rfl
  have g1 : geq (w.take (i + 1)) k = geq (w.take i) k + 1 := by
    rw [t1, geq_app]
    congr 1
    unfold geq
    rw [List.filter_cons, if_pos (decide_eq_true (by omega))]
    rfl
  have g2 := geq_take_le w (i + 1) k
  have c1 := p.ct k (by omega)
  have c2 := cnt_geq w k
  omega
theorem pkI0 (w : List Int) : PkI w 0 := by
  have no : ∀ (s : Nat) (c : Int), (pkTo w 0)[s]? = some (some c) → False := fun s c h => by
    have : (List.replicate w.length (none : Option Int))[s]? = some (some c) := h
    rw [List.getElem?_replicate] at this
    split at this
    · cases this
    · cases this
  refine ⟨fun k hk _ => ?_, fun s c h => (no s c h).elim, fun s t c h => (no s c h).elim, fun s c h => (no s c h).elim⟩
  show (((List.replicate w.length (none : Option Int)).drop k).countP _) = 0
  rw [List.drop_replicate, List.countP_replicate]
  rfl
theorem pkIs {w : List Int} (p : Pk w) {i : Nat} (I : PkI w i) {x : Int} (hx : w[i]? = some x) : PkI w (i + 1) ∧ (pkTo w i)[fre (pkTo w i) x.toNat]? = some none := by
  obtain ⟨t, ht, htn⟩ := finds p I hx
  obtain ⟨f1, f2⟩ := fre_at ht htn
  have fg := fre_ge (pkTo w i) x.toNat
  have rx := p.rg x (List.mem_of_getElem? hx)
  have es : pkTo w (i + 1) = (pkTo w i).set (fre (pkTo w i) x.toNat) (some i) := by
    show (pkTo w i).set (fre (pkTo w i) ((w[i]?).getD 0).toNat) (some i) = _
    rw [hx]; rfl
  have fl := (List.getElem?_eq_some_iff.mp f2).1
  have fil : ∀ t, x.toNat ≤ t → t < fre (pkTo w i) x.toNat → ∃ c, (pkTo w i)[t]? = some (some c) := fun t h1 h2 => by
    obtain ⟨c, h | h⟩ := fre_some h1 h2
    · exact ⟨c, h⟩
    · omega
  generalize fre (pkTo w i) x.toNat = f at *
  refine ⟨⟨fun k hk h => ?_, fun s c h => ?_, fun s t c h1 h2 => ?_, fun s c h => ?_⟩, f2⟩
  · rw [es, occ_set f2]
    have t1 : w.take (i + 1) = w.take i ++ [x] := by rw [List.take_add_one, hx]; rfl
    rw [t1, geq_app]
    have hb : k = 0 ∨ (pkTo w i)[k - 1]? = some none := by
      rcases h with h | h
      · exact .inl h
      · rw [es, List.getElem?_set] at h
        by_cases q : f = k - 1
        · rw [if_pos q] at h
          split at h <;> cases h
        · rw [if_neg q] at h; exact .inr h
    rw [I.bd k hk hb]
    congr 1
    unfold geq
    rw [List.filter_cons]
    by_cases q : (k : Int) ≤ x
    · rw [if_pos (decide_eq_true q), if_pos (by omega)]; rfl
    · rw [if_neg (show ¬ decide ((k : Int) ≤ x) = true by rw [decide_eq_true_iff]; exact q)]
      have k0 : 0 < k := by omega
      rcases h with h | h
      · omega
      · have nf : f ≠ k - 1 := fun e => by
          rw [es, List.getElem?_set, if_pos e] at h
          split at h <;> cases h
        rcases hb with hb | hb
        · omega
        · have : f ≤ k - 1 := by
            rcases Nat.lt_or_ge (k - 1) f with z | z
            · obtain ⟨c, hc⟩ := fil (k - 1) (by omega) z
              rw [hc] at hb; cases hb
            · exact z
          rw [if_neg (by omega)]; rfl
  · rw [es, List.getElem?_set] at h
    by_cases q : f = s
    · rw [if_pos q, if_pos (by omega)] at h
      cases h
      omega
    · rw [if_neg q] at h
      have := I.lt s c h
      omega
  · rw [es, List.getElem?_set] at h1 h2
    by_cases q1 : f = s
    · by_cases q2 : f = t
      · omega
      · rw [if_neg q2] at h2
        rw [if_pos q1, if_pos (by omega)] at h1
        cases h1
        have := I.lt t _ h2
        omega
    · rw [if_neg q1] at h1
      by_cases q2 : f = t
      · rw [if_pos q2, if_pos (by omega)] at h2
        cases h2
        have := I.lt s _ h1
        omega
      · rw [if_neg q2] at h2
        exact I.inj s t c h1 h2
  · rw [es, List.getElem?_set] at h
    by_cases q : f = s
    · rw [if_pos q, if_pos (by omega)] at h
      cases h
      refine ⟨x, ?_, rx.1, by omega, fun t h1 h2 => ?_⟩
      · rw [show ((i : Nat) : Int).toNat = i by omega]; exact hx
      · obtain ⟨d, hd⟩ := fil t h1 (by omega)
        refine ⟨d, ?_, (I.lt t d hd).2⟩
        rw [es, List.getElem?_set, if_neg (by omega)]; exact hd
    · rw [if_neg q] at h
      obtain ⟨y, a, b, c', d⟩ := I.wish s c h
      refine ⟨y, a, b, c', fun t h1 h2 => ?_⟩
      obtain ⟨e, he, hlt⟩ := d t h1 h2
      refine ⟨e, ?_, hlt⟩
      rw [es, List.getElem?_set, if_neg (fun z => by rw [← z, f2] at he; cases he)]; exact he
theorem pkI {w : List Int} (p : Pk w) : ∀ i, i ≤ w.length → PkI w i
  | 0, _ => pkI0 w
  | i + 1, h => (pkIs p (pkI p i (by omega)) (List.getElem?_eq_getElem (show i < w.length by omega))).1
/-- the cars, spot by spot -/
def cars (w : List Int) : List Int := (pkTo w w.length).map fun o => o.getD 0
theorem cars_full {w : List Int} (p : Pk w) : pkTo w w.length = (cars w).map some := by
  have I := pkI p w.length (Nat.le_refl _)
  have e := I.bd 0 (Nat.zero_le _) (.inl rfl)
  have g : geq (w.take w.length) ((0 : Nat) : Int) = w.length := by
    rw [List.take_length]
    unfold geq
    rw [List.filter_eq_self.mpr fun x hx => decide_eq_true (by have := (p.rg x hx).1; omega)]
  rw [g] at e
  unfold occ at e
  rw [List.drop_zero] at e
  have e := List.countP_eq_length.mp (e.trans (pk_len w w.length).symm)
  unfold cars
  rw [List.map_map]
  conv => lhs; rw [← List.map_id (pkTo w w.length)]
  refine List.map_congr_left fun o ho => ?_
  have := e o ho
  cases o with
  | none => simp at this
  | some c => rfl
theorem cars_len (w : List Int) : (cars w).length = w.length := by unfold cars; rw [List.length_map, pk_len]
theorem cars_at {w : List Int} (p : Pk w) {s : Nat} {c : Int} (h : (cars w)[s]? = some c) : (pkTo w w.length)[s]? = some (some c) := by
  rw [cars_full p, List.getElem?_map, h]; rfl
theorem cars_of {w : List Int} (p : Pk w) {s : Nat} {c : Int} (h : (pkTo w w.length)[s]? = some (some c)) : (cars w)[s]? = some c := by
  rw [cars_full p, List.getElem?_map] at h
  cases q : (cars w)[s]? with
  | none => rw [q] at h; cases h
  | some d => rw [q] at h; cases h; rfl
theorem cars_rg {w : List Int} (p : Pk w) : ∀ c ∈ cars w, 0 ≤ c ∧ c < w.length := fun c hc => by
  obtain ⟨s, hs⟩ := List.mem_iff_getElem?.mp hc
  exact (pkI p _ (Nat.le_refl _)).lt s c (cars_at p hs)
theorem cars_nd {w : List Int} (p : Pk w) : (cars w).Nodup := by
  rw [List.nodup_iff_pairwise_ne, List.pairwise_iff_getElem]
  intro i j hi hj hij e
  have I := pkI p _ (Nat.le_refl w.length)
  have := I.inj i j _ (cars_at p (List.getElem?_eq_getElem hi)) (by rw [e]; exact cars_at p (List.getElem?_eq_getElem hj))
  omega
theorem stB_ge {fl : List Int} {z : Int} : ∀ {i m : Nat}, m ≤ i → (∀ t, i - m ≤ t → t < i → ∃ y, fl[t]? = some y ∧ y < z) → m ≤ stB fl z i
  | 0, m, h, _ => by omega
  | i + 1, 0, _, _ => Nat.zero_le _
  | i + 1, m + 1, h, g => by
    obtain ⟨y, hy, lt⟩ := g i (by omega) (by omega)
    rw [stB_s hy lt]
    have := stB_ge (fl := fl) (z := z) (i := i) (m := m) (by omega) fun t h1 h2 => g t (by omega) (by omega)
    omega
/-- a wish lies in the stretch of its spot -/
theorem wish_in {w : List Int} (p : Pk w) {s : Nat} {c : Int} (h : (cars w)[s]? = some c) : ∃ x, w[c.toNat]? = some x ∧ (s : Int) + 1 - (sLen (cars w) s : Nat) ≤ x ∧ x ≤ s := by
  obtain ⟨x, hx, h0, h1, h2⟩ := (pkI p _ (Nat.le_refl _)).wish s c (cars_at p h)
  refine ⟨x, hx, ?_, by omega⟩
  have := stB_ge (fl := cars w) (z := c) (i := s) (m := s - x.toNat) (by omega) fun t a b => by
    obtain ⟨d, hd, lt⟩ := h2 t (by omega) b
    exact ⟨d, cars_of p hd, lt⟩
  have e : sLen (cars w) s = stB (cars w) c s + 1 := by unfold sLen; rw [h]; rfl
  rw [e]
  omega
/-! ## one behind the other -/
theorem fre_app {st : List (Option Int)} {p t m : Nat} (h1 : p ≤ t) (h2 : st[t]? = some none) (r : List (Option Int)) : fre (st ++ r) p = fre st p := by
  obtain ⟨_, f2⟩ := fre_at h1 h2
  have fl := (List.getElem?_eq_some_iff.mp f2).1
  have h3 : (st ++ r)[fre st p]? = some none := by rw [List.getElem?_append_left fl]; exact f2
  obtain ⟨g1, g2⟩ := fre_at (fre_ge st p) h3
  rcases Nat.eq_or_lt_of_le g1 with e | e
  · exact e
  · obtain ⟨c, hc | hc⟩ := fre_some (fre_ge (st ++ r) p) e
    · rw [List.getElem?_append_left (by omega), hc] at g2; cases g2
    · omega
theorem pk_join {v w : List Int} (p : Pk v) (q : Pk w) : Pk (v ++ w.map fun x => x + (v.length : Int)) := by
  refine ⟨fun x hx => ?_, fun k hk => ?_⟩
  · rw [List.length_append, List.length_map]
    rcases List.mem_append.mp hx with h | h
    · have := p.rg x h; omega
    · obtain ⟨y, hy, rfl⟩ := List.mem_map.mp h
      have := q.rg y hy; omega
  · rw [List.length_append, List.length_map] at hk
    rw [cnt_app]
    rcases Nat.lt_or_ge v.length k with z | z
    · rw [cnt_all fun x hx => by have := (p.rg x hx).2; omega]
      have e : cnt (w.map fun x => x + (v.length : Int)) k = cnt w ((k - v.length : Nat) : Int) := by
        unfold cnt
        rw [List.filter_map, List.length_map]
        congr 1
        refine List.filter_congr fun x _ => ?_
        show decide (x + (v.length : Int) < k) = _
        rw [decide_eq_decide]
        omega
      rw [e]
      have := q.ct (k - v.length) (by omega)
      omega
    · have := p.ct k z
      omega
def sh (n : Nat) (o : Option Int) : Option Int := o.map fun c => c + n
theorem pk_first {v w : List Int} (p : Pk v) : ∀ i, i ≤ v.length → pkTo (v ++ w) i = pkTo v i ++ List.replicate w.length none
  | 0, _ => by
    show List.replicate (v ++ w).length none = _
    rw [List.length_append, ← List.replicate_append_replicate]; rfl
  | i + 1, h => by
    have ih := pk_first (w := w) p i (by omega)
    have hx : v[i]? = some v[i] := List.getElem?_eq_getElem (by omega)
    obtain ⟨t, h1, h2⟩ := finds p (pkI p i (by omega)) hx
    obtain ⟨_, f2⟩ := fre_at h1 h2
    show (pkTo (v ++ w) i).set (fre (pkTo (v ++ w) i) (((v ++ w)[i]?).getD 0).toNat) (some i) = (pkTo v i).set (fre (pkTo v i) ((v[i]?).getD 0).toNat) (some i) ++ _
    rw [List.getElem?_append_left (by omega), hx, ih]
    show ((pkTo v i) ++ _).set (fre (pkTo v i ++ _) (v[i]).toNat) (some i) = (pkTo v i).set (fre (pkTo v i) (v[i]).toNat) (some i) ++ _
    rw [fre_app (m := 0) h1 h2, List.set_append_left _ _ (List.getElem?_eq_some_iff.mp f2).1]
theorem fre_sh {st su : List (Option Int)} {n p : Nat} : fre (st ++ su.map (sh n)) (st.length + p) = st.length + fre su p := by
  unfold fre
  rw [← List.drop_drop, List.drop_left, ← List.map_drop, List.findIdx_map]
  have : ((fun x : Option Int => x.isNone) ∘ sh n) = fun x => x.isNone := by
    funext x; cases x <;> rfl
  rw [this, Nat.add_assoc]
theorem pk_second {v w : List Int} (p : Pk v) (q : Pk w) : ∀ i, i ≤ w.length → pkTo (v ++ w.map fun x => x + (v.length : Int)) (v.length + i) = pkTo v v.length ++ (pkTo w i).map (sh v.length)
  | 0, _ => by
    rw [Nat.add_zero, pk_first p v.length (Nat.le_refl _), List.length_map]
    congr 1
    show _ = (List.replicate w.length none).map (sh v.length)
    rw [List.map_replicate]; rfl
  | i + 1, h => by
    have ih := pk_second (v := v) (w := w) p q i (by omega)
    have hx : w[i]? = some w[i] := List.getElem?_eq_getElem (by omega)
    have rx := q.rg w[i] (List.getElem_mem _)
    have pl := pk_len v v.length
    show (pkTo _ (v.length + i)).set (fre (pkTo _ (v.length + i)) (((v ++ w.map fun x => x + (v.length : Int))[v.length + i]?).getD 0).toNat) (some ((v.length + i : Nat) : Int)) = _ ++ ((pkTo w i).set (fre (pkTo w i) ((w[i]?).getD 0).toNat) (some i)).map (sh v.length)
    rw [List.getElem?_append_right (by omega), show v.length + i - v.length = i by omega, List.getElem?_map, hx, ih]
    show ((pkTo v v.length) ++ _).set (fre (pkTo v v.length ++ _) (w[i] + (v.length : Int)).toNat) _ = _ ++ ((pkTo w i).set (fre (pkTo w i) (w[i]).toNat) (some i)).map (sh v.length)
    rw [show (w[i] + (v.length : Int)).toNat = (pkTo v v.length).length + (w[i]).toNat by omega, fre_sh, List.set_append_right _ _ (by omega), show (pkTo v v.length).length + fre (pkTo w i) (w[i]).toNat - (pkTo v v.length).length = fre (pkTo w i) (w[i]).toNat by omega, List.map_set]
    show _ = _ ++ ((pkTo w i).map (sh v.length)).set _ (some ((i : Int) + (v.length : Nat)))
    rw [show ((v.length + i : Nat) : Int) = (i : Int) + (v.length : Nat) by omega]
theorem cars_join {v w : List Int} (p : Pk v) (q : Pk w) : cars (v ++ w.map fun x => x + (v.length : Int)) = cars v ++ (cars w).map fun c => c + (v.length : Int) := by
  have e := pk_second p q w.length (Nat.le_refl _)
  have l : (v ++ w.map fun x => x + (v.length : Int)).length = v.length + w.length := by rw [List.length_append, List.length_map]
  rw [← l, cars_full (pk_join p q), cars_full p, cars_full q, List.map_map] at e
  have e2 : (cars (v ++ w.map fun x => x + (v.length : Int))).map some = (cars v ++ (cars w).map fun c => c + (v.length : Int)).map some := by
    rw [e, List.map_append, List.map_map]; rfl
  exact (List.map_inj_right (fun a b h => Option.some.inj h)).mp e2
end LQ

/-! divmod; sorted by steps -/
namespace LX
open PySem L2 LT LG LP
def rDm : List V → Hp → VK → Prop := fun xs H Q => ∃ i j, xs = [.int i, .int j] ∧ CDiv i j ∧ ∀ p, H p = none → Q (.ref p) (upd H p (.tup [.int (i / j), .int (i % j)]))
theorem call_dm {X : Cx} : CallR X (.builtin "divmod") rDm := L2.call_divmod
end LX
namespace LS
open PySem L2 LT LG LP LX
section
variable {K : PySem.W.Frag} {H : Hp} {Q : VK}
theorem rdm {i j : Int} (h0 : 0 < j) (h1 : j < 1073741824) (k : ∀ (p : Addr) (H' : Hp), H p = none → Same H H' → H' p = some (.tup [.int (i / j), .int (i % j)]) → Q (.ref p) H') : rDm [.int i, .int j] H Q :=
  ⟨i, j, rfl, ⟨h0, h1⟩, fun p np => k p _ np (same_upd np) upd_same⟩
theorem rsrt {a : Addr} {ns : List Int} (h : SqE K H a (ns.map V.int)) (k : ∀ (ns' : List Int) (p : Addr) (H' : Hp), ns'.Perm ns → ns'.Pairwise (· ≤ ·) → H p = none → Same H H' → H' p = some (.lst (ns'.map V.int)) → Q (.ref p) H') : rSortedE K [.ref a] H Q :=
  ⟨a, ns, rfl, h, fun ns' p pm pw np => k ns' p _ pm pw np (same_upd np) upd_same⟩
end
end LS

namespace LP
open PySem L2 LT LG LQ LH LC LX LR
local macro_rules | `(tactic| array_mem_dec) => `(tactic| first
  | assumption
  | ((with_reducible apply LS.hp_s); assumption; array_mem_dec)
  | ((with_reducible apply LS.hp_f); assumption; array_mem_dec; array_mem_dec)
  | ((with_reducible apply LS.hp_t); assumption; array_mem_dec; array_mem_dec)
  | ((with_reducible apply LS.hp_l); assumption; array_mem_dec; array_mem_dec)
  | ((with_reducible apply LS.sq_o); array_mem_dec)
  | ((with_reducible apply LS.sq_s); assumption; array_mem_dec)
  | ((with_reducible apply LS.sq_f); assumption; array_mem_dec; array_mem_dec)
  | ((with_reducible apply LS.sq_t); assumption; array_mem_dec; array_mem_dec)
  | ((with_reducible apply LS.sq_l); assumption; array_mem_dec; array_mem_dec)
  | ((with_reducible apply LS.tu_o); array_mem_dec)
  | ((with_reducible apply LS.tu_s); assumption; array_mem_dec)
  | ((with_reducible apply LS.tu_f); assumption; array_mem_dec; array_mem_dec)
  | ((with_reducible apply LS.tu_t); assumption; array_mem_dec; array_mem_dec)
  | ((with_reducible apply LS.tu_l); assumption; array_mem_dec; array_mem_dec)
  | ((with_reducible apply LS.se_l); array_mem_dec)
  | ((with_reducible apply LS.se_t); array_mem_dec)
  | ((with_reducible apply LS.se_s); assumption; array_mem_dec)
  | ((with_reducible apply LS.se_f); assumption; array_mem_dec; array_mem_dec)
  | ((with_reducible apply LS.se_tt); assumption; array_mem_dec; array_mem_dec)
  | ((with_reducible exact Same.refl _))
  | ((with_reducible apply LS.sm_s); assumption; array_mem_dec)
  | ((with_reducible apply LS.sm_f); assumption; array_mem_dec; array_mem_dec)
  | ((with_reducible exact Fr.refl _ _))
  | ((with_reducible apply LS.fr_b); assumption; array_mem_dec)
  | ((with_reducible apply LS.fr_s); assumption; array_mem_dec)
  | ((with_reducible apply LS.fr_n); assumption; array_mem_dec; array_mem_dec)
  | ((with_reducible apply LS.fr_t); assumption; array_mem_dec)
  | ((with_reducible apply LS.no_s); assumption; array_mem_dec)
  | ((with_reducible apply LS.no_f); assumption; array_mem_dec; array_mem_dec)
  | ((with_reducible apply LS.no_t); assumption; array_mem_dec)
  | ((with_reducible apply LS.no_l); assumption; assumption)
  | ((with_reducible apply Ne.symm); assumption)
  | ((with_reducible apply LS.ne_a); assumption; array_mem_dec)
  | ((with_reducible apply LS.ne_b); assumption; array_mem_dec)
  | ((with_reducible apply LS.ne_ap); assumption)
  | ((with_reducible apply LS.ne_il); assumption; array_mem_dec)
  | ((with_reducible apply LS.ne_li); assumption; array_mem_dec)
  | ((with_reducible apply LS.ne_lt); assumption; assumption)
  | ((with_reducible apply LS.ne_tl); assumption; assumption)
  | ((with_reducible apply LS.ne_rl); assumption; array_mem_dec)
  | ((with_reducible apply LS.rl_t); assumption)
  | ((with_reducible apply LS.rl_s); assumption; array_mem_dec)
  | ((with_reducible apply LS.rl_f); assumption; array_mem_dec; array_mem_dec)
  | ((with_reducible apply LS.rl_l); assumption; array_mem_dec; array_mem_dec)
  | ((with_reducible apply LS.ap_new); assumption; assumption; array_mem_dec)
  | ((with_reducible apply LS.ap_t); assumption; array_mem_dec; array_mem_dec)
  | ((with_reducible apply LS.ap_s); assumption; array_mem_dec; array_mem_dec)
  | ((with_reducible apply LS.ap_f); assumption; array_mem_dec; array_mem_dec; array_mem_dec)
  | ((with_reducible apply LS.ap_l); assumption; array_mem_dec; array_mem_dec; array_mem_dec)
  | (with_reducible apply LS.ni_nil)
  | ((with_reducible apply LS.ni_cons); array_mem_dec; array_mem_dec)
  | (with_reducible apply LS.trk_nil)
  | ((with_reducible apply LS.trk_cons); array_mem_dec; array_mem_dec)
  | (with_reducible apply LS.al_nil)
  | ((with_reducible apply LS.al_cons); array_mem_dec; array_mem_dec)
  | (with_reducible apply LS.mem_hd)
  | ((with_reducible apply LS.mem_tl); array_mem_dec)
  | ((with_reducible apply LS.fl_refl); array_mem_dec)
  | ((with_reducible apply LS.fl_l); assumption; array_mem_dec)
  | ((with_reducible apply LS.fl_lm); assumption; array_mem_dec; array_mem_dec)
  | (with_reducible apply LS.sub_nil)
  | ((with_reducible apply LS.sub_cons); array_mem_dec; array_mem_dec)
  | ((with_reducible apply LS.fl_s); assumption; array_mem_dec)
  | ((with_reducible apply LS.fl_m); assumption; array_mem_dec; array_mem_dec; array_mem_dec)
  | ((with_reducible apply LS.fl_n); assumption; array_mem_dec; array_mem_dec; array_mem_dec)
  | ((with_reducible apply LS.rt_refl); array_mem_dec)
  | ((with_reducible apply LS.rt_t); assumption; array_mem_dec)
  | ((with_reducible apply LS.rt_s); assumption; array_mem_dec)
  | ((with_reducible apply LS.rt_f); assumption; array_mem_dec; array_mem_dec; array_mem_dec)
  | ((with_reducible apply LS.sz); (first | decide | (simp only [List.length_append, List.length_map, List.length_cons, List.length_nil, List.length_replicate]; omega)))
  | ((with_reducible apply LS.szl); (first | decide | (simp only [List.length_append, List.length_map, List.length_cons, List.length_nil, List.length_replicate]; omega))))
local macro_rules | `(tactic| array_get_dec) => `(tactic| first
  | ((with_reducible apply LS.var); exact rfl)
  | (with_reducible apply LS.con)
  | (with_reducible apply LS.op)
  | (with_reducible apply LS.ri0)
  | (with_reducible apply LS.tseq)
  | (with_reducible apply LS.tasg)
  | (with_reducible apply LS.gname)
  | (with_reducible apply LS.tcons)
  | (with_reducible apply LS.tnil)
  | (with_reducible apply LS.tcb)
  | (with_reducible apply LS.tcall)
  | (with_reducible apply LS.ttest)
  | (with_reducible apply LS.k_b)
  | (with_reducible apply LS.tb)
  | (with_reducible apply LS.tifs)
  | (with_reducible apply LS.ift)
  | (with_reducible apply LS.iff_)
  | (with_reducible apply LS.ifnt)
  | (with_reducible apply LS.ifnf)
  | (with_reducible apply LS.tnext)
  | (with_reducible apply LS.tdrop)
  | (with_reducible apply LS.tret)
  | (with_reducible apply LS.tretn)
  | (with_reducible apply LS.un)
  | (with_reducible apply LS.ru)
  | (with_reducible apply LS.tyes)
  | (with_reducible apply LS.tand)
  | (with_reducible apply LS.tor)
  | (with_reducible apply LS.tnot)
  | (with_reducible apply LS.tif)
  | (with_reducible apply LS.tandv)
  | (with_reducible apply LS.k_av)
  | (with_reducible apply LS.torv)
  | (with_reducible apply LS.k_ov)
  | (with_reducible apply LS.tnotv)
  | (with_reducible apply LS.k_nv)
  | (with_reducible apply LS.tchain)
  | (with_reducible apply LS.k_ch)
  | (with_reducible apply LS.req_i)
  | (with_reducible apply LS.rne_i)
  | (with_reducible apply LS.req_s)
  | (with_reducible apply LS.rne_s)
  | (with_reducible apply LS.req_b)
  | (with_reducible apply LS.rne_b)
  | ((with_reducible apply LS.rin_i); array_mem_dec)
  | ((with_reducible apply LS.rni_i); array_mem_dec)
  | ((with_reducible apply LS.rlen_li); array_mem_dec)
  | ((with_reducible apply LS.rlen_ls); array_mem_dec)
  | ((with_reducible apply LS.rlen_l); array_mem_dec)
  | ((with_reducible apply LS.rlen_Ei); array_mem_dec)
  | ((with_reducible apply LS.rlen_E); array_mem_dec)
  | ((with_reducible apply LS.rlen_t); array_mem_dec)
  | ((with_reducible apply LS.rixl); array_mem_dec; exact rfl)
  | ((with_reducible apply LS.rixt); array_mem_dec; exact rfl)
  | (with_reducible apply LS.isi_int_int)
  | (with_reducible apply LS.isi_int_bool)
  | (with_reducible apply LS.isi_int_str)
  | (with_reducible apply LS.isi_str_int)
  | (with_reducible apply LS.isi_str_bool)
  | (with_reducible apply LS.isi_str_str)
  | (with_reducible apply LS.isi_bool_int)
  | (with_reducible apply LS.isi_bool_bool)
  | (with_reducible apply LS.isi_bool_str)
  | (with_reducible apply LS.isi_non_int)
  | (with_reducible apply LS.isi_non_bool)
  | (with_reducible apply LS.isi_non_str)
  | ((with_reducible apply LS.isi_list_int); array_mem_dec)
  | ((with_reducible apply LS.isi_list_bool); array_mem_dec)
  | ((with_reducible apply LS.isi_list_str); array_mem_dec)
  | ((with_reducible apply LS.isi_list_list); array_mem_dec)
  | ((with_reducible apply LS.isi_list_tuple); array_mem_dec)
  | ((with_reducible apply LS.isi_tuple_int); array_mem_dec)
  | ((with_reducible apply LS.isi_tuple_bool); array_mem_dec)
  | ((with_reducible apply LS.isi_tuple_str); array_mem_dec)
  | ((with_reducible apply LS.isi_tuple_list); array_mem_dec)
  | ((with_reducible apply LS.isi_tuple_tuple); array_mem_dec)
  | ((with_reducible apply LS.isiT_i); array_mem_dec)
  | ((with_reducible apply LS.isiT_s); array_mem_dec)
  | ((with_reducible apply LS.isiT_E); array_mem_dec; array_mem_dec)
  | (with_reducible apply LS.tfld)
  | ((with_reducible apply LS.k_fl); array_mem_dec; assumption; assumption; exact rfl)
  | (with_reducible apply LS.tmeth)
  | ((with_reducible apply LS.k_me); array_mem_dec; exact rfl)
  | (with_reducible apply LS.tmake)
  | (with_reducible apply LS.tsfld)
  | (with_reducible apply LS.tprop)
  | ((with_reducible apply LS.k_pr); array_mem_dec)
  | ((with_reducible apply LS.rlen_own); array_mem_dec)
  | (with_reducible apply LS.rabs)
  | (with_reducible apply LS.rmin2)
  | (with_reducible apply LS.rmax2)
  | (with_reducible apply LS.tsl)
  | (with_reducible apply LS.tthen)
  | (with_reducible apply LS.tstep)
  | (with_reducible apply LS.tnop)
  | (with_reducible apply LS.tpart)
  | (with_reducible apply LS.k_part)
  | (with_reducible apply LS.ttup)
  | (with_reducible apply LS.tlst)
  | (with_reducible apply LS.tbm)
  | (with_reducible apply LS.tbm0)
  | ((with_reducible apply LS.ty_l); array_mem_dec)
  | (with_reducible apply LS.tpar)
  | (with_reducible apply LS.tfor)
  | (with_reducible apply LS.tlc)
  | (with_reducible apply LS.ilist)
  | ((with_reducible apply LS.k_il); array_mem_dec)
  | (with_reducible apply LS.itup)
  | ((with_reducible apply LS.k_it); array_mem_dec)
  | (with_reducible apply LS.istr)
  | (with_reducible apply LS.k_is)
  | (with_reducible apply LS.irng1)
  | ((with_reducible apply LS.k_r1n); omega)
  | ((with_reducible apply LS.k_r1); (first | omega | decide); (first | omega | decide))
  | (with_reducible apply LS.irng2)
  | ((with_reducible apply LS.k_r2); (first | omega | decide); (first | omega | decide); (first | omega | decide); (first | omega | decide))
  | (with_reducible apply LS.ienum)
  | ((with_reducible apply LS.k_en); array_mem_dec)
  | (with_reducible apply LS.izip)
  | ((with_reducible apply LS.k_zip); array_mem_dec; array_mem_dec)
  | (with_reducible apply LS.tlstrg)
  | (with_reducible apply LS.trg1)
  | (with_reducible apply LS.k_g1)
  | (with_reducible apply LS.risn_i)
  | (with_reducible apply LS.risn_s)
  | (with_reducible apply LS.risn_n)
  | (with_reducible apply LS.rnotn_i)
  | (with_reducible apply LS.rnotn_n)
  | (with_reducible apply LS.rint_b)
  | (with_reducible apply LS.rint_i)
  | (with_reducible apply LS.tm0)
  | (with_reducible apply LS.tm1)
  | (with_reducible apply LS.is_str)
  | (with_reducible apply LS.ex_s0)
  | (with_reducible apply LS.ex_int_b)
  | (with_reducible apply LS.k_par)
  | (with_reducible apply LS.tpar3)
  | (with_reducible apply LS.k_par3)
  | ((with_reducible apply LS.taug); exact rfl)
  | (with_reducible apply LS.ipi)
  | ((with_reducible apply LS.gtup); array_mem_dec; exact rfl)
  | ((with_reducible apply LS.gunl); array_mem_dec; exact rfl)
  | (with_reducible apply LS.gnil)
  | (with_reducible apply LS.gcons)
  | (with_reducible apply LS.gsub)
  | ((with_reducible apply LS.ri); first | omega | decide | assumption | exact ⟨by decide, by decide, by decide⟩ | exact .inl ⟨by decide, by decide⟩ | exact .inr ⟨by decide, by decide⟩ | exact .inl ⟨by omega, by omega⟩ | exact .inr ⟨by omega, by omega⟩)
  | (with_reducible apply LS.ex_ss)
  | (with_reducible apply LS.ex_s1)
  | (with_reducible apply LS.ex_i1)
  | (with_reducible apply LS.and_rfl)
  | (with_reducible apply LS.and_tr)
  | (with_reducible apply LS.is_non))
local macro_rules | `(tactic| array_mem_dec) => `(tactic| first
  | ((with_reducible apply LP.sg_s); assumption; array_mem_dec)
  | ((with_reducible apply LP.sg_f); assumption; array_mem_dec; array_mem_dec)
  | ((with_reducible apply LP.sg_l); assumption; array_mem_dec; array_mem_dec)
  | ((with_reducible apply LP.sg_ne); assumption; array_mem_dec)
  | ((with_reducible apply LP.sg_ne'); assumption; array_mem_dec)
  | ((with_reducible apply LS.se_q); array_mem_dec)
  | ((with_reducible apply LS.se_u); array_mem_dec)
  | ((with_reducible apply LP.sg_no); assumption; array_mem_dec; array_mem_dec))
local macro_rules | `(tactic| array_get_dec) => `(tactic| first
  | ((with_reducible apply LS.rne_same); exact rfl)
  | ((with_reducible apply LS.req_same); exact rfl)
  | (with_reducible apply LS.trevl)
  | (with_reducible apply LS.irng3)
  | (with_reducible apply LS.risn_b)
  | ((with_reducible apply LS.isiT_n); array_mem_dec)
  | ((with_reducible apply LS.isiT_b); array_mem_dec))
local macro_rules | `(tactic| array_get_dec) => `(tactic| first
  | (with_reducible apply LS.tcalle)
  | (with_reducible apply LS.tcalls))
local macro_rules | `(tactic| array_get_dec) => `(tactic| first
  | (with_reducible apply LS.trg2)
  | (with_reducible apply LS.k_g2))

section
variable {P : Program} {w : World} {K : PySem.W.Frag} {mg : Str → Option Value} {base : Heap}

def sp_is_numberB : Sp := fun vs H Q _ => ∃ n c : Int, vs = [.int n, .int c] ∧ Q (.bl (decide (0 ≤ n ∧ n < c))) H
theorem okB_is_number (e : Env K mg) : FnOk P w K mg base CX0 2 e.a_is_number e.d_is_number ["value", "count"] (sp_is_numberB) := by
  refine Fun.ok e.f_is_number sc_is_number (fun vs H Q E h => ?_) (fun cdv A outer s H vs Q E hr h => ?_)
  · obtain ⟨n, c, rfl, _⟩ := h; rfl
  · obtain ⟨n, c, rfl, k⟩ := h
    refine ⟨_, (pss_one (ps_ret (pe_and (pe_call ((ok_is_whole e).mono (by decide)) hr rfl e.g_is_whole e.f_is_whole.kp e.b_is_whole .nil pass0 (pa_cons (pv 0) pa_nil)) (pe_one (pe_chain op_le op_lt pe_int (pv 0) (pv 1)))))), ?_⟩
    repeat array_get_dec
    refine ⟨n, rfl, ?_⟩
    repeat array_get_dec
    by_cases h0 : 0 ≤ n
    · rw [decide_eq_true h0]
      repeat array_get_dec
      rw [show decide (n < c) = decide (0 ≤ n ∧ n < c) from decide_eq_decide.mpr ⟨fun h => ⟨h0, h⟩, fun h => h.2⟩]
      exact k
    · rw [decide_eq_false h0]
      repeat array_get_dec
      rw [show false = decide (0 ≤ n ∧ n < c) from (decide_eq_false fun h => h0 h.1).symm]
      exact k
theorem range_ok {w : List Int} : ((w.map fun x => decide (0 ≤ x ∧ x < ((w.length : Nat) : Int))).all id = true) ↔ ∀ x ∈ w, 0 ≤ x ∧ x < ((w.length : Nat) : Int) := by
  rw [List.all_eq_true]
  constructor
  · intro h x hx
    exact of_decide_eq_true (h _ (List.mem_map.mpr ⟨x, hx, rfl⟩))
  · intro h b hb
    obtain ⟨x, hx, rfl⟩ := List.mem_map.mp hb
    exact decide_eq_true (h x hx)
def rks (ys : List Int) (i : Nat) : List Bool := (List.range i).map fun j : Nat => decide ((ys[j]?).getD 0 ≤ (j : Int))
theorem rks_ok {ys : List Int} : ((rks ys ys.length).all id = true) ↔ ∀ (i : Nat) (y : Int), ys[i]? = some y → y ≤ (i : Int) := by
  rw [List.all_eq_true]
  constructor
  · intro h i y hy
    have hi := (List.getElem?_eq_some_iff.mp hy).1
    have := of_decide_eq_true (h _ (List.mem_map.mpr ⟨i, List.mem_range.mpr hi, rfl⟩))
    rw [hy] at this
    exact this
  · intro h b hb
    obtain ⟨i, hi, rfl⟩ := List.mem_map.mp hb
    have hi := List.mem_range.mp hi
    have := h i _ (List.getElem?_eq_getElem hi)
    exact decide_eq_true (by rw [List.getElem?_eq_getElem hi]; exact this)
def sp_is_parking (K : PySem.W.Frag) : Sp := fun vs H Q _ => ∃ (a : Addr) (w : List Int), vs = [.ref a] ∧ Is K H a w ∧ w.length ≤ 90000 ∧ ∀ (H' : Hp) (b : Bool), Same H H' → (b = true ↔ 1 ≤ w.length ∧ w.length ≤ 200 ∧ Pk w) → Q (.bl b) H'
theorem no_iff {P : Prop} (h : ¬ P) : (false = true) ↔ P := ⟨(fun q => by cases q), fun q => absurd q h⟩
theorem ok_is_parking (e : Env K mg) : FnOk P w K mg base CX0 3 e.a_is_parking e.d_is_parking ["value"] (sp_is_parking K) := by
  refine Fun.ok e.f_is_parking sc_is_parking (fun vs H Q E h => ?_) (fun cdv A outer s H vs Q E hr h => ?_)
  · obtain ⟨a, w, rfl, _⟩ := h; rfl
  · obtain ⟨a, w, rfl, ha, hl, k⟩ := h
    refine ⟨_, (pss_cons (ps_if (PW.pt (pw_or (pt_not (pt_val (pe_call ((ok_is_listed e).mono (by decide)) hr rfl e.g_is_listed e.f_is_listed.kp e.b_is_listed .nil pass0 (pa_cons (pv 0) pa_nil)))) (pw_or1 (pt_not (pt_chain op_le op_le pe_int (pe_callB LS.call_len (by rfl) e.n_len PySem.boot_len (pa_cons (pv 0) pa_nil)) (pe_glob (v := V.int 200) rfl e.g_MOST_SIZE ⟨_, rfl⟩))))))
        (pss_one (ps_ret pe_bl))
        pss_nil)
      (pss_cons (ps_if (pt_not (pt_val (pe_callB (cr_all rfl) (by rfl) e.n_all (by decide +kernel) (pa_cons (pe_lc (own := [("wish", 1)]) rfl sc_is_parking.nd (PI.or (pi_list (pv 0)) (pi_tup (pv 0))) (blkOk_by (N := ["value", "wish", "spot"]) (sc := defScope s_is_parking) (by decide +kernel)) (fun _ _ _ _ _ => (pg_name (i := 1) sc_is_parking.nd rfl (by first | exact Or.inl rfl | exact Or.inr rfl))) (fun _ _ _ _ _ => pts_nil) (fun _ _ _ _ _ => (pe_call ((okB_is_number e).mono (by decide)) hr rfl e.g_is_number e.f_is_number.kp e.b_is_number .nil pass0 (pa_cons (pv 1) (pa_cons (pe_callB (show CallR _ _ (rLenS K) from LS.call_len) (by rfl) e.n_len PySem.boot_len (pa_cons (pv 0) pa_nil)) pa_nil))))) pa_nil))))
        (pss_one (ps_ret pe_bl))
        pss_nil)
      (pss_one (ps_ret (pe_callB (cr_all rfl) (by rfl) e.n_all (by decide +kernel) (pa_cons (pe_lc (own := [("spot", 2), ("wish", 1)]) rfl sc_is_parking.nd (pi_enum (by rfl) e.n_enumerate (pa_cons (pe_callB cr_sortedE (by rfl) e.n_sorted (by decide +kernel) (pa_cons (pv 0) pa_nil)) pa_nil)) (blkOk_by (N := ["value", "wish", "spot"]) (sc := defScope s_is_parking) (by decide +kernel)) (fun _ _ _ _ _ => (show PG _ _ (gTup K 2 _) from pg_tup (by rfl) (pgs_cons (pg_name (i := 2) sc_is_parking.nd rfl (by first | exact Or.inl rfl | exact Or.inr rfl)) (pgs_cons (pg_name (i := 1) sc_is_parking.nd rfl (by first | exact Or.inl rfl | exact Or.inr rfl)) pgs_nil)))) (fun _ _ _ _ _ => pts_nil) (fun _ _ _ _ _ => (pe_cmpR op_le (pv 1) (pv 2) (nomark _)))) pa_nil)))))), ?_⟩
    repeat array_get_dec
    refine ⟨a, _, rfl, ha, fun H1 s1 => ?_⟩
    have ha1 := ha.same s1
    repeat array_get_dec
    by_cases h1 : (1 : Int) ≤ (w.length : Nat)
    · rw [decide_eq_true h1]
      repeat array_get_dec
      by_cases h2 : ((w.length : Nat) : Int) ≤ 200
      · rw [decide_eq_true h2]
        repeat array_get_dec
        refine or_E ha1 rfl fun J G wk hG => ?_
        refine LS.comp wk (fun D i acc H' => Same H1 H' ∧ acc = ((w.take i).map fun x => decide (0 ≤ x ∧ x < ((w.length : Nat) : Int))).map V.bl) (fun D H' nD s' hD => ⟨s', rfl⟩) (fun D j acc H' hi nD hD h => (by obtain ⟨h, _⟩ := h; exact hG _ h)) ?_ ?_
        · rintro D i acc x H2 H3 nD hi hl2 hD ⟨s2, rfl⟩ ⟨rfl, hx⟩
          obtain ⟨u, hu, rfl⟩ := at_int hx
          rw [List.length_map] at hi
          have ha3 := ha1.same s2
          repeat array_get_dec
          refine ⟨rfl, ?_⟩
          repeat array_get_dec
          refine ⟨u, _, rfl, ?_⟩
          exact LS.k_lc (acc := ((w.take i).map fun x => decide (0 ≤ x ∧ x < ((w.length : Nat) : Int))).map V.bl) hD hl2 (by omega) fun H5 f5 h5 => ⟨LS.Same.fr_new s2 f5 nD, by rw [List.take_add_one, hu, List.map_append, List.map_append]; rfl⟩
        · rintro D acc H2 nD hD hl2 ⟨s2, rfl⟩
          rw [List.length_map, List.take_length] at hD
          repeat array_get_dec
          refine LS.rall (SqL.of hD) ?_
          have ha2 := ha1.same s2
          have s02 := s1.trans s2
          repeat array_get_dec
          cases hb : ((w.map fun x => decide (0 ≤ x ∧ x < ((w.length : Nat) : Int))).all id) with
          | false =>
            repeat array_get_dec
            exact k H2 false s02 (no_iff fun q => by rw [range_ok.mpr q.2.2.rg] at hb; cases hb)
          | true =>
            have rg := range_ok.mp hb
            repeat array_get_dec
            refine LS.rsrt ha2 fun ys p H3 pm pw np s3 hp => ?_
            repeat array_get_dec
            refine LS.comp (walk_enum (xs := ys.map V.int)) (fun D i acc H' => Same H3 H' ∧ acc = (rks ys i).map V.bl) (fun D H' nD s' hD => ⟨s', rfl⟩) (fun D j acc H' hi nD hD h => (by obtain ⟨h, _⟩ := h; exact SqL.of (h _ _ hp))) ?_ ?_
            · rintro D i acc x H4 H5 nD hi hl2 hD ⟨s4, rfl⟩ y
              obtain ⟨T, y, z, rfl, nT, s5, hT, hy, hz⟩ := LS.ypair y
              cases hy
              obtain ⟨u, hu, rfl⟩ := at_int hz
              rw [List.length_map] at hi
              repeat array_get_dec
              refine ⟨rfl, ?_⟩
              repeat array_get_dec
              have pl := pm.length_eq
              exact LS.k_lc (acc := (rks ys i).map V.bl) (s5 _ _ hD) hl2 (by omega) fun H6 f6 h6 => ⟨LS.Same.fr_new (s4.trans s5) f6 nD, by unfold rks; rw [List.range_succ, List.map_append, List.map_append, List.map_cons, hu]; rfl⟩
            · rintro D acc H4 nD hD hl2 ⟨s4, rfl⟩
              rw [List.length_map] at hD
              repeat array_get_dec
              refine LS.rall (SqL.of hD) ?_
              refine k H4 _ (s02.trans (s3.trans s4)) ?_
              rw [rks_ok, pk_srt pm pw rg]
              exact ⟨fun q => ⟨by omega, by omega, q⟩, fun q => q.2.2⟩
      · rw [decide_eq_false h2]
        repeat array_get_dec
        exact k H1 false s1 (no_iff fun h => by omega)
    · rw [decide_eq_false h1]
      repeat array_get_dec
      exact k H1 false s1 (no_iff fun h => by omega)
def sp_check_wishes (K : PySem.W.Frag) : Sp := fun vs H Q _ => ∃ (a : Addr) (w : List Int), vs = [.ref a] ∧ Is K H a w ∧ 1 ≤ w.length ∧ w.length ≤ 200 ∧ Pk w ∧ ∀ H', Same H H' → Q .non H'
theorem ok_check_wishes (e : Env K mg) : FnOk P w K mg base CX0 4 e.a_check_wishes e.d_check_wishes ["value"] (sp_check_wishes K) := by
  refine Fun.ok e.f_check_wishes sc_check_wishes (fun vs H Q E h => ?_) (fun cdv A outer s H vs Q E hr h => ?_)
  · obtain ⟨a, w, rfl, _⟩ := h; rfl
  · obtain ⟨a, w, rfl, ha, h1, h2, p, k⟩ := h
    refine ⟨_, (pss_one (ps_if (pt_not (pt_val (pe_call ((ok_is_parking e).mono (by decide)) hr rfl e.g_is_parking e.f_is_parking.kp e.b_is_parking .nil pass0 (pa_cons (pv 0) pa_nil))))
        (pss_one ps_never)
        pss_nil)), ?_⟩
    repeat array_get_dec
    refine ⟨a, w, rfl, ha, by omega, fun H1 b s1 hb => ?_⟩
    obtain rfl := hb.mpr ⟨h1, h2, p⟩
    repeat array_get_dec
    exact k H1 s1
end
end LP

/-! the draws of the laws with a spring -/
namespace LP
open PySem L2 LT LG LX
structure Spring (H : Hp) (b : Addr) (d : Nat) : Prop where
  ex : ∃ g t k : Int, H b = some (.lst [.int g, .int t, .int k]) ∧ 0 ≤ g ∧ 0 ≤ t ∧ t < 2 ^ 61 ∧ 0 ≤ k ∧ k ≤ d
theorem Spring.mono {H : Hp} {b : Addr} {d d' : Nat} (r : Spring H b d) (h : d ≤ d') : Spring H b d' := by
  obtain ⟨g, t, k, a1, a2, a3, a4, a5, a6⟩ := r.ex
  exact ⟨⟨g, t, k, a1, a2, a3, a4, a5, by omega⟩⟩
theorem sg_s {H H' : Hp} {b : Addr} {d : Nat} (s : Same H H') (r : Spring H b d) : Spring H' b d := by
  obtain ⟨g, t, k, a1, a2⟩ := r.ex
  exact ⟨⟨g, t, k, s _ _ a1, a2⟩⟩
theorem sg_f {H H' : Hp} {b p : Addr} {d : Nat} (f : Fr H H' p) (r : Spring H b d) (n : p ≠ b) : Spring H' b d := by
  obtain ⟨g, t, k, a1, a2⟩ := r.ex
  exact ⟨⟨g, t, k, f _ _ a1 n.symm, a2⟩⟩
theorem sg_l {H H' : Hp} {b : Addr} {L : List Addr} {d : Nat} (f : LS.FrL H H' L) (r : Spring H b d) (n : b ∉ L) : Spring H' b d := by
  obtain ⟨g, t, k, a1, a2⟩ := r.ex
  exact ⟨⟨g, t, k, f.k _ _ a1 n, a2⟩⟩
theorem sg_ne {H : Hp} {b p : Addr} {d : Nat} (n : H p = none) (r : Spring H b d) : p ≠ b := by
  obtain ⟨g, t, k, a1, _⟩ := r.ex
  exact (ne_of_none a1 n).symm
theorem sg_ne' {H : Hp} {b p : Addr} {d : Nat} (n : H p = none) (r : Spring H b d) : b ≠ p := (sg_ne n r).symm
theorem sg_no {H H' : Hp} {b p : Addr} {d : Nat} (h : H' p = none) (f : Fr H H' b) (r : Spring H' b d) : H p = none := by
  obtain ⟨g, t, k, a1, _⟩ := r.ex
  exact LS.free_fr f a1 h
section
variable (K : PySem.W.Frag)
def sp__law_spring : Sp := fun vs H Q _ => ∃ (a : Addr) (ns : List Int), vs = [.ref a] ∧ SqL K H a (ns.map V.int) ∧ ns.length ≤ 63 ∧ ∀ (H' : Hp) (b : Addr), Same H H' → H b = none → Spring H' b 0 → Q (.ref b) H'
def sp__law_draw_s : Sp := fun vs H Q _ => ∃ (b : Addr) (d : Nat) (n : Int), vs = [.ref b, .int n] ∧ Spring H b d ∧ 0 < n ∧ n.natAbs.log2 < 9000 ∧ d < 1000000 ∧
  ∀ (H' : Hp) (r : Int), 0 ≤ r → r < n → Spring H' b (d + 1) → Fr H H' b → Q (.int r) H'
def sp__law_mixed : Sp := fun vs H Q _ => ∃ (b : Addr) (d : Nat) (p : Addr) (xs : List Int), vs = [.ref b, .ref p] ∧ Spring H b d ∧ d < 900000 ∧ H p = some (.lst (xs.map V.int)) ∧ xs.length ≤ 400 ∧ p ≠ b ∧
  ∀ (H' : Hp) (q : Addr) (ys : List Int), Spring H' b (d + xs.length) → Fr H H' b → H q = none → ys.Perm xs → H' q = some (.lst (ys.map V.int)) → Q (.ref q) H'
/-- data that two hold alike -/
def plain : Nat → PyData → Prop
  | _, .none => True
  | _, .bool _ => True
  | _, .int _ => True
  | _, .str _ => True
  | k + 1, .list ds => ds.length ≤ 10000 ∧ ∀ d ∈ ds, plain k d
  | k + 1, .tuple ds => ds.length ≤ 10000 ∧ ∀ d ∈ ds, plain k d
  | _, _ => False
def sp__law_same (k : Nat) : Sp := fun vs H Q _ => ∃ (x y : V) (d : PyData), vs = [x, y] ∧ Dp K H x d ∧ Dp K H y d ∧ plain k d ∧ ∀ H', Same H H' → Q (.bl true) H'
def sp__law_dressed0_s : Sp := fun vs H Q _ => ∃ (b : Addr) (z : Int), vs = [.ref b, .int z] ∧ ∀ H', Same H H' → Q (.int z) H'
def sp__law_dressed_s : Sp := fun vs H Q _ => ∃ (b : Addr) (d : Nat) (p : Addr) (ns : List Int), vs = [.ref b, .ref p] ∧ Spring H b d ∧ d < 900000 ∧ H p = some (.lst (ns.map V.int)) ∧ ns.length ≤ 400 ∧
  ∀ (H' : Hp) (q : Addr), Spring H' b (d + 1) → Fr H H' b → H q = none → (H' q = some (.lst (ns.map V.int)) ∨ H' q = some (.tup (ns.map V.int))) → Q (.ref q) H'
end
end LP

namespace LP
open PySem L2 LT LG LQ LH LC LX LR
local macro_rules | `(tactic| array_mem_dec) => `(tactic| first
  | assumption
  | ((with_reducible apply LS.hp_s); assumption; array_mem_dec)
  | ((with_reducible apply LS.hp_f); assumption; array_mem_dec; array_mem_dec)
  | ((with_reducible apply LS.hp_t); assumption; array_mem_dec; array_mem_dec)
  | ((with_reducible apply LS.hp_l); assumption; array_mem_dec; array_mem_dec)
  | ((with_reducible apply LS.sq_o); array_mem_dec)
  | ((with_reducible apply LS.sq_s); assumption; array_mem_dec)
  | ((with_reducible apply LS.sq_f); assumption; array_mem_dec; array_mem_dec)
  | ((with_reducible apply LS.sq_t); assumption; array_mem_dec; array_mem_dec)
  | ((with_reducible apply LS.sq_l); assumption; array_mem_dec; array_mem_dec)
  | ((with_reducible apply LS.tu_o); array_mem_dec)
  | ((with_reducible apply LS.tu_s); assumption; array_mem_dec)
  | ((with_reducible apply LS.tu_f); assumption; array_mem_dec; array_mem_dec)
  | ((with_reducible apply LS.tu_t); assumption; array_mem_dec; array_mem_dec)
  | ((with_reducible apply LS.tu_l); assumption; array_mem_dec; array_mem_dec)
  | ((with_reducible apply LS.se_l); array_mem_dec)
  | ((with_reducible apply LS.se_t); array_mem_dec)
  | ((with_reducible apply LS.se_s); assumption; array_mem_dec)
  | ((with_reducible apply LS.se_f); assumption; array_mem_dec; array_mem_dec)
  | ((with_reducible apply LS.se_tt); assumption; array_mem_dec; array_mem_dec)
  | ((with_reducible exact Same.refl _))
  | ((with_reducible apply LS.sm_s); assumption; array_mem_dec)
  | ((with_reducible apply LS.sm_f); assumption; array_mem_dec; array_mem_dec)
  | ((with_reducible exact Fr.refl _ _))
  | ((with_reducible apply LS.fr_b); assumption; array_mem_dec)
  | ((with_reducible apply LS.fr_s); assumption; array_mem_dec)
  | ((with_reducible apply LS.fr_n); assumption; array_mem_dec; array_mem_dec)
  | ((with_reducible apply LS.fr_t); assumption; array_mem_dec)
  | ((with_reducible apply LS.no_s); assumption; array_mem_dec)
  | ((with_reducible apply LS.no_f); assumption; array_mem_dec; array_mem_dec)
  | ((with_reducible apply LS.no_t); assumption; array_mem_dec)
  | ((with_reducible apply LS.no_l); assumption; assumption)
  | ((with_reducible apply Ne.symm); assumption)
  | ((with_reducible apply LS.ne_a); assumption; array_mem_dec)
  | ((with_reducible apply LS.ne_b); assumption; array_mem_dec)
  | ((with_reducible apply LS.ne_ap); assumption)
  | ((with_reducible apply LS.ne_il); assumption; array_mem_dec)
  | ((with_reducible apply LS.ne_li); assumption; array_mem_dec)
  | ((with_reducible apply LS.ne_lt); assumption; assumption)
  | ((with_reducible apply LS.ne_tl); assumption; assumption)
  | ((with_reducible apply LS.ne_rl); assumption; array_mem_dec)
  | ((with_reducible apply LS.rl_t); assumption)
  | ((with_reducible apply LS.rl_s); assumption; array_mem_dec)
  | ((with_reducible apply LS.rl_f); assumption; array_mem_dec; array_mem_dec)
  | ((with_reducible apply LS.rl_l); assumption; array_mem_dec; array_mem_dec)
  | ((with_reducible apply LS.ap_new); assumption; assumption; array_mem_dec)
  | ((with_reducible apply LS.ap_t); assumption; array_mem_dec; array_mem_dec)
  | ((with_reducible apply LS.ap_s); assumption; array_mem_dec; array_mem_dec)
  | ((with_reducible apply LS.ap_f); assumption; array_mem_dec; array_mem_dec; array_mem_dec)
  | ((with_reducible apply LS.ap_l); assumption; array_mem_dec; array_mem_dec; array_mem_dec)
  | (with_reducible apply LS.ni_nil)
  | ((with_reducible apply LS.ni_cons); array_mem_dec; array_mem_dec)
  | (with_reducible apply LS.trk_nil)
  | ((with_reducible apply LS.trk_cons); array_mem_dec; array_mem_dec)
  | (with_reducible apply LS.al_nil)
  | ((with_reducible apply LS.al_cons); array_mem_dec; array_mem_dec)
  | (with_reducible apply LS.mem_hd)
  | ((with_reducible apply LS.mem_tl); array_mem_dec)
  | ((with_reducible apply LS.fl_refl); array_mem_dec)
  | ((with_reducible apply LS.fl_l); assumption; array_mem_dec)
  | ((with_reducible apply LS.fl_lm); assumption; array_mem_dec; array_mem_dec)
  | (with_reducible apply LS.sub_nil)
  | ((with_reducible apply LS.sub_cons); array_mem_dec; array_mem_dec)
  | ((with_reducible apply LS.fl_s); assumption; array_mem_dec)
  | ((with_reducible apply LS.fl_m); assumption; array_mem_dec; array_mem_dec; array_mem_dec)
  | ((with_reducible apply LS.fl_n); assumption; array_mem_dec; array_mem_dec; array_mem_dec)
  | ((with_reducible apply LS.rt_refl); array_mem_dec)
  | ((with_reducible apply LS.rt_t); assumption; array_mem_dec)
  | ((with_reducible apply LS.rt_s); assumption; array_mem_dec)
  | ((with_reducible apply LS.rt_f); assumption; array_mem_dec; array_mem_dec; array_mem_dec)
  | ((with_reducible apply LS.sz); (first | decide | (simp only [List.length_append, List.length_map, List.length_cons, List.length_nil, List.length_replicate]; omega)))
  | ((with_reducible apply LS.szl); (first | decide | (simp only [List.length_append, List.length_map, List.length_cons, List.length_nil, List.length_replicate]; omega))))
local macro_rules | `(tactic| array_get_dec) => `(tactic| first
  | ((with_reducible apply LS.var); exact rfl)
  | (with_reducible apply LS.con)
  | (with_reducible apply LS.op)
  | (with_reducible apply LS.ri0)
  | (with_reducible apply LS.tseq)
  | (with_reducible apply LS.tasg)
  | (with_reducible apply LS.gname)
  | (with_reducible apply LS.tcons)
  | (with_reducible apply LS.tnil)
  | (with_reducible apply LS.tcb)
  | (with_reducible apply LS.tcall)
  | (with_reducible apply LS.ttest)
  | (with_reducible apply LS.k_b)
  | (with_reducible apply LS.tb)
  | (with_reducible apply LS.tifs)
  | (with_reducible apply LS.ift)
  | (with_reducible apply LS.iff_)
  | (with_reducible apply LS.ifnt)
  | (with_reducible apply LS.ifnf)
  | (with_reducible apply LS.tnext)
  | (with_reducible apply LS.tdrop)
  | (with_reducible apply LS.tret)
  | (with_reducible apply LS.tretn)
  | (with_reducible apply LS.un)
  | (with_reducible apply LS.ru)
  | (with_reducible apply LS.tyes)
  | (with_reducible apply LS.tand)
  | (with_reducible apply LS.tor)
  | (with_reducible apply LS.tnot)
  | (with_reducible apply LS.tif)
  | (with_reducible apply LS.tandv)
  | (with_reducible apply LS.k_av)
  | (with_reducible apply LS.torv)
  | (with_reducible apply LS.k_ov)
  | (with_reducible apply LS.tnotv)
  | (with_reducible apply LS.k_nv)
  | (with_reducible apply LS.tchain)
  | (with_reducible apply LS.k_ch)
  | (with_reducible apply LS.req_i)
  | (with_reducible apply LS.rne_i)
  | (with_reducible apply LS.req_s)
  | (with_reducible apply LS.rne_s)
  | (with_reducible apply LS.req_b)
  | (with_reducible apply LS.rne_b)
  | ((with_reducible apply LS.rin_i); array_mem_dec)
  | ((with_reducible apply LS.rni_i); array_mem_dec)
  | ((with_reducible apply LS.rlen_li); array_mem_dec)
  | ((with_reducible apply LS.rlen_ls); array_mem_dec)
  | ((with_reducible apply LS.rlen_l); array_mem_dec)
  | ((with_reducible apply LS.rlen_Ei); array_mem_dec)
  | ((with_reducible apply LS.rlen_E); array_mem_dec)
  | ((with_reducible apply LS.rlen_t); array_mem_dec)
  | ((with_reducible apply LS.rixl); array_mem_dec; exact rfl)
  | ((with_reducible apply LS.rixt); array_mem_dec; exact rfl)
  | (with_reducible apply LS.isi_int_int)
  | (with_reducible apply LS.isi_int_bool)
  | (with_reducible apply LS.isi_int_str)
  | (with_reducible apply LS.isi_str_int)
  | (with_reducible apply LS.isi_str_bool)
  | (with_reducible apply LS.isi_str_str)
  | (with_reducible apply LS.isi_bool_int)
  | (with_reducible apply LS.isi_bool_bool)
  | (with_reducible apply LS.isi_bool_str)
  | (with_reducible apply LS.isi_non_int)
  | (with_reducible apply LS.isi_non_bool)
  | (with_reducible apply LS.isi_non_str)
  | ((with_reducible apply LS.isi_list_int); array_mem_dec)
  | ((with_reducible apply LS.isi_list_bool); array_mem_dec)
  | ((with_reducible apply LS.isi_list_str); array_mem_dec)
  | ((with_reducible apply LS.isi_list_list); array_mem_dec)
  | ((with_reducible apply LS.isi_list_tuple); array_mem_dec)
  | ((with_reducible apply LS.isi_tuple_int); array_mem_dec)
  | ((with_reducible apply LS.isi_tuple_bool); array_mem_dec)
  | ((with_reducible apply LS.isi_tuple_str); array_mem_dec)
  | ((with_reducible apply LS.isi_tuple_list); array_mem_dec)
  | ((with_reducible apply LS.isi_tuple_tuple); array_mem_dec)
  | ((with_reducible apply LS.isiT_i); array_mem_dec)
  | ((with_reducible apply LS.isiT_s); array_mem_dec)
  | ((with_reducible apply LS.isiT_E); array_mem_dec; array_mem_dec)
  | (with_reducible apply LS.tfld)
  | ((with_reducible apply LS.k_fl); array_mem_dec; assumption; assumption; exact rfl)
  | (with_reducible apply LS.tmeth)
  | ((with_reducible apply LS.k_me); array_mem_dec; exact rfl)
  | (with_reducible apply LS.tmake)
  | (with_reducible apply LS.tsfld)
  | (with_reducible apply LS.tprop)
  | ((with_reducible apply LS.k_pr); array_mem_dec)
  | ((with_reducible apply LS.rlen_own); array_mem_dec)
  | (with_reducible apply LS.rabs)
  | (with_reducible apply LS.rmin2)
  | (with_reducible apply LS.rmax2)
  | (with_reducible apply LS.tsl)
  | (with_reducible apply LS.tthen)
  | (with_reducible apply LS.tstep)
  | (with_reducible apply LS.tnop)
  | (with_reducible apply LS.tpart)
  | (with_reducible apply LS.k_part)
  | (with_reducible apply LS.ttup)
  | (with_reducible apply LS.tlst)
  | (with_reducible apply LS.tbm)
  | (with_reducible apply LS.tbm0)
  | ((with_reducible apply LS.ty_l); array_mem_dec)
  | (with_reducible apply LS.tpar)
  | (with_reducible apply LS.tfor)
  | (with_reducible apply LS.tlc)
  | (with_reducible apply LS.ilist)
  | ((with_reducible apply LS.k_il); array_mem_dec)
  | (with_reducible apply LS.itup)
  | ((with_reducible apply LS.k_it); array_mem_dec)
  | (with_reducible apply LS.istr)
  | (with_reducible apply LS.k_is)
  | (with_reducible apply LS.irng1)
  | ((with_reducible apply LS.k_r1n); omega)
  | ((with_reducible apply LS.k_r1); (first | omega | decide); (first | omega | decide))
  | (with_reducible apply LS.irng2)
  | ((with_reducible apply LS.k_r2); (first | omega | decide); (first | omega | decide); (first | omega | decide); (first | omega | decide))
  | (with_reducible apply LS.ienum)
  | ((with_reducible apply LS.k_en); array_mem_dec)
  | (with_reducible apply LS.izip)
  | ((with_reducible apply LS.k_zip); array_mem_dec; array_mem_dec)
  | (with_reducible apply LS.tlstrg)
  | (with_reducible apply LS.trg1)
  | (with_reducible apply LS.k_g1)
  | (with_reducible apply LS.risn_i)
  | (with_reducible apply LS.risn_s)
  | (with_reducible apply LS.risn_n)
  | (with_reducible apply LS.rnotn_i)
  | (with_reducible apply LS.rnotn_n)
  | (with_reducible apply LS.rint_b)
  | (with_reducible apply LS.rint_i)
  | (with_reducible apply LS.tm0)
  | (with_reducible apply LS.tm1)
  | (with_reducible apply LS.is_str)
  | (with_reducible apply LS.ex_s0)
  | (with_reducible apply LS.ex_int_b)
  | (with_reducible apply LS.k_par)
  | (with_reducible apply LS.tpar3)
  | (with_reducible apply LS.k_par3)
  | ((with_reducible apply LS.taug); exact rfl)
  | (with_reducible apply LS.ipi)
  | ((with_reducible apply LS.gtup); array_mem_dec; exact rfl)
  | ((with_reducible apply LS.gunl); array_mem_dec; exact rfl)
  | (with_reducible apply LS.gnil)
  | (with_reducible apply LS.gcons)
  | (with_reducible apply LS.gsub)
  | ((with_reducible apply LS.ri); first | omega | decide | assumption | exact ⟨by decide, by decide, by decide⟩ | exact .inl ⟨by decide, by decide⟩ | exact .inr ⟨by decide, by decide⟩ | exact .inl ⟨by omega, by omega⟩ | exact .inr ⟨by omega, by omega⟩)
  | (with_reducible apply LS.ex_ss)
  | (with_reducible apply LS.ex_s1)
  | (with_reducible apply LS.ex_i1)
  | (with_reducible apply LS.and_rfl)
  | (with_reducible apply LS.and_tr)
  | (with_reducible apply LS.is_non))
local macro_rules | `(tactic| array_mem_dec) => `(tactic| first
  | ((with_reducible apply LP.sg_s); assumption; array_mem_dec)
  | ((with_reducible apply LP.sg_f); assumption; array_mem_dec; array_mem_dec)
  | ((with_reducible apply LP.sg_l); assumption; array_mem_dec; array_mem_dec)
  | ((with_reducible apply LP.sg_ne); assumption; array_mem_dec)
  | ((with_reducible apply LP.sg_ne'); assumption; array_mem_dec)
  | ((with_reducible apply LS.se_q); array_mem_dec)
  | ((with_reducible apply LS.se_u); array_mem_dec)
  | ((with_reducible apply LP.sg_no); assumption; array_mem_dec; array_mem_dec))
local macro_rules | `(tactic| array_get_dec) => `(tactic| first
  | ((with_reducible apply LS.rne_same); exact rfl)
  | ((with_reducible apply LS.req_same); exact rfl)
  | (with_reducible apply LS.trevl)
  | (with_reducible apply LS.irng3)
  | (with_reducible apply LS.risn_b)
  | ((with_reducible apply LS.isiT_n); array_mem_dec)
  | ((with_reducible apply LS.isiT_b); array_mem_dec))
local macro_rules | `(tactic| array_get_dec) => `(tactic| first
  | (with_reducible apply LS.tcalle)
  | (with_reducible apply LS.tcalls))
local macro_rules | `(tactic| array_get_dec) => `(tactic| first
  | (with_reducible apply LS.trg2)
  | (with_reducible apply LS.k_g2))

section
variable {P : Program} {w : World} {K : PySem.W.Frag} {mg : Str → Option Value} {base : Heap}

theorem cut_63 {xs : List V} (h : xs.length ≤ 63) : cutV xs none (some (63 : Int)) = xs := by
  rw [show (63 : Int) = ((63 : Nat) : Int) from rfl, LS.cut_to, List.take_of_length_le h]
theorem log_add {a b : Nat} {k : Nat} (ha : a < 2 ^ k) (hb : b < 2 ^ k) : a + b < 2 ^ (k + 1) := by rw [Nat.pow_succ]; omega
theorem log_lt {t : Int} {k : Nat} (h0 : 0 ≤ t) (h1 : t < 2 ^ k) : t.natAbs.log2 < k + 1 := by
  by_cases z : t.natAbs = 0
  · rw [z]; show Nat.log2 0 < k + 1; rw [show Nat.log2 0 = 0 by decide]; omega
  · have : t.natAbs < 2 ^ k := by
      have : ((t.natAbs : Nat) : Int) < ((2 ^ k : Nat) : Int) := by rw [Int.natAbs_of_nonneg h0]; simpa using h1
      omega
    exact Nat.lt_succ_of_lt ((Nat.log2_lt z).mpr this)
theorem ok__law_spring (e : Env K mg) : FnOk P w K mg base CX0 1 e.a__law_spring e.d__law_spring ["script"] (sp__law_spring K) := by
  refine Fun.ok e.f__law_spring sc__law_spring (fun vs H Q E h => ?_) (fun cdv A outer s H vs Q E hr h => ?_)
  · obtain ⟨a, ns, rfl, _⟩ := h; rfl
  · obtain ⟨a, ns, rfl, hS, hl, k⟩ := h
    refine ⟨_, (pss_cons (ps_set (i := 1) sc__law_spring.nd rfl (by first | exact Or.inl rfl | exact Or.inr rfl) pe_int)
      (pss_cons (ps_set (i := 2) sc__law_spring.nd rfl (by first | exact Or.inl rfl | exact Or.inr rfl) pe_int)
      (pss_cons (ps_for PassesOwn.never rfl (pi_list (pe_slice sl_list (pv 0) po_none (po_some pe_int))) (pg_name (i := 3) sc__law_spring.nd rfl (by first | exact Or.inl rfl | exact Or.inr rfl))
      (pss_cons (ps_if (pt_cmpR op_ge (pe_callB LS.call_abs (by rfl) e.n_abs (by decide +kernel) (pa_cons (pv 3) pa_nil)) (pe_op op_pow pe_int pe_int) (nomark _))
        (pss_one (ps_set (i := 1) sc__law_spring.nd rfl (by first | exact Or.inl rfl | exact Or.inr rfl) (pe_op op_add (pe_op op_mulW (pv 1) (pe_op op_pow pe_int pe_int)) (pe_op op_mod (pe_callB LS.call_abs (by rfl) e.n_abs (by decide +kernel) (pa_cons (pv 3) pa_nil)) (pe_op op_pow pe_int pe_int)))))
        pss_nil)
      (pss_one (ps_set (i := 2) sc__law_spring.nd rfl (by first | exact Or.inl rfl | exact Or.inr rfl) (pe_op op_mod (pe_op op_add (pe_op op_add (pe_op op_mulW (pv 2) pe_int) (pe_op op_mod (pv 3) pe_int)) pe_int) pe_int)))))
      (pss_one (ps_ret (pe_lst (pa_cons (pv 1) (pa_cons (pv 2) (pa_cons pe_int pa_nil))))))))), ?_⟩
    have hl2 : (ns.map V.int).length ≤ 63 := by rw [List.length_map]; exact hl
    repeat array_get_dec
    refine LS.rsll (xs := ns.map V.int) (by array_mem_dec) fun p H1 np s1 hp => ?_
    rw [cut_63 hl2] at hp
    repeat array_get_dec
    refine LS.for_ (walk_list (xs := ns.map V.int)) (fun i σ H' => ∃ (g t : Int) (v : Option V), 0 ≤ g ∧ g < 2 ^ (200 * i) ∧ 0 ≤ t ∧ t < 2 ^ 61 ∧ H' = H1 ∧ σ = [some (.ref a), some (.int g), some (.int t), v]) ⟨0, 88651, _, by decide, by decide, by decide, by decide, rfl, rfl⟩ (fun i σ H' _ ⟨_, _, _, _, _, _, _, e, _⟩ => by rw [e]; exact SqL.of hp) ?_ ?_
    · rintro i x σ H2 H3 hi ⟨g, t, v, g0, g1, t0, t1, rfl, rfl⟩ ⟨rfl, hx⟩
      obtain ⟨c, hc, rfl⟩ := at_int hx
      rw [List.length_map] at hi
      repeat array_get_dec
      refine LS.if_join (fun σ H' => ∃ g' : Int, 0 ≤ g' ∧ g' < 2 ^ (200 * (i + 1)) ∧ H' = H3 ∧ σ = [some (.ref a), some (.int g'), some (.int t), some (.int c)]) (fun _ D' _ kk => ?_) (fun _ D' _ kk => ?_) ?_
      · repeat array_get_dec
        refine LS.ri (by
          have := log_lt g0 g1
          show _ + Nat.log2 (10 ^ 60) < 1000000
          have e : Nat.log2 (10 ^ 60) < 300 := by decide +kernel
          omega) ?_
        repeat array_get_dec
        refine kk _ _ ⟨g * 10 ^ 60 + (c.natAbs : Int) % 10 ^ 60, ?_, ?_, rfl, rfl⟩
        · have := Int.emod_nonneg (c.natAbs : Int) (show (10 : Int) ^ 60 ≠ 0 by decide)
          have : 0 ≤ g * 10 ^ 60 := Int.mul_nonneg g0 (by decide)
          omega
        · have h1 := Int.emod_lt_of_pos (c.natAbs : Int) (show (0 : Int) < 10 ^ 60 by decide)
          have h2 : (g + 1) * 10 ^ 60 ≤ 2 ^ (200 * i) * 10 ^ 60 := Int.mul_le_mul_of_nonneg_right (by omega) (by decide)
          have h3 : (2 : Int) ^ (200 * i) * 10 ^ 60 ≤ 2 ^ (200 * i) * 2 ^ 200 := Int.mul_le_mul_of_nonneg_left (by decide) (Int.le_of_lt (Int.pow_pos (by decide)))
          have h4 : (2 : Int) ^ (200 * (i + 1)) = 2 ^ (200 * i) * 2 ^ 200 := by rw [← Int.pow_add, Nat.mul_succ]
          rw [h4]
          rw [Int.add_mul] at h2
          omega
      · refine kk _ _ ⟨g, g0, Int.lt_of_lt_of_le g1 ?_, rfl, rfl⟩
        have h3 : (2 : Int) ^ (200 * i) * 1 ≤ 2 ^ (200 * i) * 2 ^ 200 := Int.mul_le_mul_of_nonneg_left (by decide) (Int.le_of_lt (Int.pow_pos (by decide)))
        have h4 : (2 : Int) ^ (200 * (i + 1)) = 2 ^ (200 * i) * 2 ^ 200 := by rw [← Int.pow_add, Nat.mul_succ]
        rw [h4]; omega
      · rintro σ H' ⟨g', g0', g1', rfl, rfl⟩
        repeat array_get_dec
        refine LS.ri (by
          have := log_lt t0 t1
          show _ + Nat.log2 69069 < 1000000
          have e : Nat.log2 69069 < 300 := by decide +kernel
          omega) ?_
        repeat array_get_dec
        exact ⟨g', _, _, g0', g1', Int.emod_nonneg _ (by decide), Int.lt_of_lt_of_le (Int.emod_lt_of_pos _ (by decide)) (by decide), rfl, rfl⟩
    · rintro σ H2 ⟨g, t, v, g0, g1, t0, t1, rfl, rfl⟩
      repeat array_get_dec
      refine LS.k_lst (by array_mem_dec) fun b H3 nb s3 hb => ?_
      exact k H3 b (by array_mem_dec) (by array_mem_dec) ⟨⟨g, t, 0, hb, g0, t0, t1, by decide, by decide⟩⟩
theorem ok__law_draw (e : Env K mg) : FnOk P w K mg base CX0 2 e.a__law_draw e.d__law_draw ["spring", "many"] (sp__law_draw_s) := by
  refine Fun.ok e.f__law_draw sc__law_draw (fun vs H Q E h => ?_) (fun cdv A outer s H vs Q E hr h => ?_)
  · obtain ⟨b, d, n, rfl, _⟩ := h; rfl
  · obtain ⟨b, d, n, rfl, R, h0, hl, hd, k⟩ := h
    obtain ⟨g, t, c, hb, g0, t0, t1, c0, c1⟩ := R.ex
    refine ⟨_, (pss_cons (ps_if (pt_cmpR op_gt (pe_ix ix_list (pv 0) pe_int (fun _ _ => rfl)) pe_int (nomark _))
        (pss_cons (ps_set (i := 2) sc__law_draw.nd rfl (by first | exact Or.inl rfl | exact Or.inr rfl) (pe_op op_mod (pe_ix ix_list (pv 0) pe_int (fun _ _ => rfl)) (pv 1)))
      (pss_cons (ps_asg (pe_op op_fdivW (pe_ix ix_list (pv 0) pe_int (fun _ _ => rfl)) (pv 1)) (pg_sub (pv 0) pe_int set_list))
      (pss_one (ps_ret (pv 2)))))
        pss_nil)
      (pss_cons (ps_asg (pe_op op_add (pe_ix ix_list (pv 0) pe_int (fun _ _ => rfl)) pe_int) (pg_sub (pv 0) pe_int set_list))
      (pss_cons (ps_set (i := 3) sc__law_draw.nd rfl (by first | exact Or.inl rfl | exact Or.inr rfl) (pe_op op_mod (pe_op op_mulW (pe_ix ix_list (pv 0) pe_int (fun _ _ => rfl)) (pe_ix ix_list (pv 0) pe_int (fun _ _ => rfl))) pe_int))
      (pss_cons (ps_asg (pe_op op_mod (pe_op op_add (pe_op op_add (pv 3) (pe_op op_mulW (pe_op op_mulW pe_int (pe_ix ix_list (pv 0) pe_int (fun _ _ => rfl))) (pe_ix ix_list (pv 0) pe_int (fun _ _ => rfl)))) pe_int) pe_int) (pg_sub (pv 0) pe_int set_list))
      (pss_one (ps_ret (pe_op op_mod (pe_op op_fdivW (pe_ix ix_list (pv 0) pe_int (fun _ _ => rfl)) pe_int) (pv 1)))))))), ?_⟩
    repeat array_get_dec
    refine LS.if2 (fun hg => ?_) fun hg => ?_
    · repeat array_get_dec
      refine LS.ri ⟨h0, hl⟩ ?_
      repeat array_get_dec
      refine LS.rset (j := 0) (by array_mem_dec) rfl fun H1 f1 h1 => ?_
      repeat array_get_dec
      exact k H1 _ (Int.emod_nonneg _ (by omega)) (Int.emod_lt_of_pos _ h0) ⟨⟨g / n, t, c, h1, Int.ediv_nonneg g0 (by omega), t0, t1, c0, by omega⟩⟩ (by array_mem_dec)
    · repeat array_get_dec
      refine LS.rset (j := 2) (by array_mem_dec) rfl fun H1 f1 h1 => ?_
      have h1' : H1 b = some (.lst [.int g, .int t, .int (c + 1)]) := h1
      clear h1
      repeat array_get_dec
      have lt := log_lt t0 t1
      have lc : (c + 1).natAbs.log2 < 31 := log_lt (k := 30) (by omega) (by omega)
      refine LS.ri (by show _ + _ < 1000000; omega) ?_
      repeat array_get_dec
      refine LS.ri (by
        show Nat.log2 7919 + _ < 1000000
        have e : Nat.log2 7919 < 300 := by decide +kernel
        omega) ?_
      repeat array_get_dec
      refine LS.ri (by
        have m1 : (0 : Int) ≤ 7919 * (c + 1) := by omega
        have := log_lt (k := 50) m1 (by omega)
        show _ + _ < 1000000
        omega) ?_
      repeat array_get_dec
      refine LS.rset (j := 1) (by array_mem_dec) rfl fun H2 f2 h2 => ?_
      have h2' : H2 b = some (.lst [.int g, .int ((t * t % 2305843009213693951 + 7919 * (c + 1) * t + 104729) % 2305843009213693951), .int (c + 1)]) := h2
      clear h2
      repeat array_get_dec
      refine LS.ri (by exact ⟨by decide, by decide +kernel⟩) ?_
      repeat array_get_dec
      exact k H2 _ (Int.emod_nonneg _ (by omega)) (Int.emod_lt_of_pos _ h0) ⟨⟨g, _, c + 1, h2', g0, Int.emod_nonneg _ (by decide), Int.lt_of_lt_of_le (Int.emod_lt_of_pos _ (by decide)) (by decide), by omega, by omega⟩⟩ (by array_mem_dec)
end
end LP

namespace LP
open PySem L2 LT LG LQ LH LC LX LR
local macro_rules | `(tactic| array_mem_dec) => `(tactic| first
  | assumption
  | ((with_reducible apply LS.hp_s); assumption; array_mem_dec)
  | ((with_reducible apply LS.hp_f); assumption; array_mem_dec; array_mem_dec)
  | ((with_reducible apply LS.hp_t); assumption; array_mem_dec; array_mem_dec)
  | ((with_reducible apply LS.hp_l); assumption; array_mem_dec; array_mem_dec)
  | ((with_reducible apply LS.sq_o); array_mem_dec)
  | ((with_reducible apply LS.sq_s); assumption; array_mem_dec)
  | ((with_reducible apply LS.sq_f); assumption; array_mem_dec; array_mem_dec)
  | ((with_reducible apply LS.sq_t); assumption; array_mem_dec; array_mem_dec)
  | ((with_reducible apply LS.sq_l); assumption; array_mem_dec; array_mem_dec)
  | ((with_reducible apply LS.tu_o); array_mem_dec)
  | ((with_reducible apply LS.tu_s); assumption; array_mem_dec)
  | ((with_reducible apply LS.tu_f); assumption; array_mem_dec; array_mem_dec)
  | ((with_reducible apply LS.tu_t); assumption; array_mem_dec; array_mem_dec)
  | ((with_reducible apply LS.tu_l); assumption; array_mem_dec; array_mem_dec)
  | ((with_reducible apply LS.se_l); array_mem_dec)
  | ((with_reducible apply LS.se_t); array_mem_dec)
  | ((with_reducible apply LS.se_s); assumption; array_mem_dec)
  | ((with_reducible apply LS.se_f); assumption; array_mem_dec; array_mem_dec)
  | ((with_reducible apply LS.se_tt); assumption; array_mem_dec; array_mem_dec)
  | ((with_reducible exact Same.refl _))
  | ((with_reducible apply LS.sm_s); assumption; array_mem_dec)
  | ((with_reducible apply LS.sm_f); assumption; array_mem_dec; array_mem_dec)
  | ((with_reducible exact Fr.refl _ _))
  | ((with_reducible apply LS.fr_b); assumption; array_mem_dec)
  | ((with_reducible apply LS.fr_s); assumption; array_mem_dec)
  | ((with_reducible apply LS.fr_n); assumption; array_mem_dec; array_mem_dec)
  | ((with_reducible apply LS.fr_t); assumption; array_mem_dec)
  | ((with_reducible apply LS.no_s); assumption; array_mem_dec)
  | ((with_reducible apply LS.no_f); assumption; array_mem_dec; array_mem_dec)
  | ((with_reducible apply LS.no_t); assumption; array_mem_dec)
  | ((with_reducible apply LS.no_l); assumption; assumption)
  | ((with_reducible apply Ne.symm); assumption)
  | ((with_reducible apply LS.ne_a); assumption; array_mem_dec)
  | ((with_reducible apply LS.ne_b); assumption; array_mem_dec)
  | ((with_reducible apply LS.ne_ap); assumption)
  | ((with_reducible apply LS.ne_il); assumption; array_mem_dec)
  | ((with_reducible apply LS.ne_li); assumption; array_mem_dec)
  | ((with_reducible apply LS.ne_lt); assumption; assumption)
  | ((with_reducible apply LS.ne_tl); assumption; assumption)
  | ((with_reducible apply LS.ne_rl); assumption; array_mem_dec)
  | ((with_reducible apply LS.rl_t); assumption)
  | ((with_reducible apply LS.rl_s); assumption; array_mem_dec)
  | ((with_reducible apply LS.rl_f); assumption; array_mem_dec; array_mem_dec)
  | ((with_reducible apply LS.rl_l); assumption; array_mem_dec; array_mem_dec)
  | ((with_reducible apply LS.ap_new); assumption; assumption; array_mem_dec)
  | ((with_reducible apply LS.ap_t); assumption; array_mem_dec; array_mem_dec)
  | ((with_reducible apply LS.ap_s); assumption; array_mem_dec; array_mem_dec)
  | ((with_reducible apply LS.ap_f); assumption; array_mem_dec; array_mem_dec; array_mem_dec)
  | ((with_reducible apply LS.ap_l); assumption; array_mem_dec; array_mem_dec; array_mem_dec)
  | (with_reducible apply LS.ni_nil)
  | ((with_reducible apply LS.ni_cons); array_mem_dec; array_mem_dec)
  | (with_reducible apply LS.trk_nil)
  | ((with_reducible apply LS.trk_cons); array_mem_dec; array_mem_dec)
  | (with_reducible apply LS.al_nil)
  | ((with_reducible apply LS.al_cons); array_mem_dec; array_mem_dec)
  | (with_reducible apply LS.mem_hd)
  | ((with_reducible apply LS.mem_tl); array_mem_dec)
  | ((with_reducible apply LS.fl_refl); array_mem_dec)
  | ((with_reducible apply LS.fl_l); assumption; array_mem_dec)
  | ((with_reducible apply LS.fl_lm); assumption; array_mem_dec; array_mem_dec)
  | (with_reducible apply LS.sub_nil)
  | ((with_reducible apply LS.sub_cons); array_mem_dec; array_mem_dec)
  | ((with_reducible apply LS.fl_s); assumption; array_mem_dec)
  | ((with_reducible apply LS.fl_m); assumption; array_mem_dec; array_mem_dec; array_mem_dec)
  | ((with_reducible apply LS.fl_n); assumption; array_mem_dec; array_mem_dec; array_mem_dec)
  | ((with_reducible apply LS.rt_refl); array_mem_dec)
  | ((with_reducible apply LS.rt_t); assumption; array_mem_dec)
  | ((with_reducible apply LS.rt_s); assumption; array_mem_dec)
  | ((with_reducible apply LS.rt_f); assumption; array_mem_dec; array_mem_dec; array_mem_dec)
  | ((with_reducible apply LS.sz); (first | decide | (simp only [List.length_append, List.length_map, List.length_cons, List.length_nil, List.length_replicate]; omega)))
  | ((with_reducible apply LS.szl); (first | decide | (simp only [List.length_append, List.length_map, List.length_cons, List.length_nil, List.length_replicate]; omega))))
local macro_rules | `(tactic| array_get_dec) => `(tactic| first
  | ((with_reducible apply LS.var); exact rfl)
  | (with_reducible apply LS.con)
  | (with_reducible apply LS.op)
  | (with_reducible apply LS.ri0)
  | (with_reducible apply LS.tseq)
  | (with_reducible apply LS.tasg)
  | (with_reducible apply LS.gname)
  | (with_reducible apply LS.tcons)
  | (with_reducible apply LS.tnil)
  | (with_reducible apply LS.tcb)
  | (with_reducible apply LS.tcall)
  | (with_reducible apply LS.ttest)
  | (with_reducible apply LS.k_b)
  | (with_reducible apply LS.tb)
  | (with_reducible apply LS.tifs)
  | (with_reducible apply LS.ift)
  | (with_reducible apply LS.iff_)
  | (with_reducible apply LS.ifnt)
  | (with_reducible apply LS.ifnf)
  | (with_reducible apply LS.tnext)
  | (with_reducible apply LS.tdrop)
  | (with_reducible apply LS.tret)
  | (with_reducible apply LS.tretn)
  | (with_reducible apply LS.un)
  | (with_reducible apply LS.ru)
  | (with_reducible apply LS.tyes)
  | (with_reducible apply LS.tand)
  | (with_reducible apply LS.tor)
  | (with_reducible apply LS.tnot)
  | (with_reducible apply LS.tif)
  | (with_reducible apply LS.tandv)
  | (with_reducible apply LS.k_av)
  | (with_reducible apply LS.torv)
  | (with_reducible apply LS.k_ov)
  | (with_reducible apply LS.tnotv)
  | (with_reducible apply LS.k_nv)
  | (with_reducible apply LS.tchain)
  | (with_reducible apply LS.k_ch)
  | (with_reducible apply LS.req_i)
  | (with_reducible apply LS.rne_i)
  | (with_reducible apply LS.req_s)
  | (with_reducible apply LS.rne_s)
  | (with_reducible apply LS.req_b)
  | (with_reducible apply LS.rne_b)
  | ((with_reducible apply LS.rin_i); array_mem_dec)
  | ((with_reducible apply LS.rni_i); array_mem_dec)
  | ((with_reducible apply LS.rlen_li); array_mem_dec)
  | ((with_reducible apply LS.rlen_ls); array_mem_dec)
  | ((with_reducible apply LS.rlen_l); array_mem_dec)
  | ((with_reducible apply LS.rlen_Ei); array_mem_dec)
  | ((with_reducible apply LS.rlen_E); array_mem_dec)
  | ((with_reducible apply LS.rlen_t); array_mem_dec)
  | ((with_reducible apply LS.rixl); array_mem_dec; exact rfl)
  | ((with_reducible apply LS.rixt); array_mem_dec; exact rfl)
  | (with_reducible apply LS.isi_int_int)
  | (with_reducible apply LS.isi_int_bool)
  | (with_reducible apply LS.isi_int_str)
  | (with_reducible apply LS.isi_str_int)
  | (with_reducible apply LS.isi_str_bool)
  | (with_reducible apply LS.isi_str_str)
  | (with_reducible apply LS.isi_bool_int)
  | (with_reducible apply LS.isi_bool_bool)
  | (with_reducible apply LS.isi_bool_str)
  | (with_reducible apply LS.isi_non_int)
  | (with_reducible apply LS.isi_non_bool)
  | (with_reducible apply LS.isi_non_str)
  | ((with_reducible apply LS.isi_list_int); array_mem_dec)
  | ((with_reducible apply LS.isi_list_bool); array_mem_dec)
  | ((with_reducible apply LS.isi_list_str); array_mem_dec)
  | ((with_reducible apply LS.isi_list_list); array_mem_dec)
  | ((with_reducible apply LS.isi_list_tuple); array_mem_dec)
  | ((with_reducible apply LS.isi_tuple_int); array_mem_dec)
  | ((with_reducible apply LS.isi_tuple_bool); array_mem_dec)
  | ((with_reducible apply LS.isi_tuple_str); array_mem_dec)
  | ((with_reducible apply LS.isi_tuple_list); array_mem_dec)
  | ((with_reducible apply LS.isi_tuple_tuple); array_mem_dec)
  | ((with_reducible apply LS.isiT_i); array_mem_dec)
  | ((with_reducible apply LS.isiT_s); array_mem_dec)
  | ((with_reducible apply LS.isiT_E); array_mem_dec; array_mem_dec)
  | (with_reducible apply LS.tfld)
  | ((with_reducible apply LS.k_fl); array_mem_dec; assumption; assumption; exact rfl)
  | (with_reducible apply LS.tmeth)
  | ((with_reducible apply LS.k_me); array_mem_dec; exact rfl)
  | (with_reducible apply LS.tmake)
  | (with_reducible apply LS.tsfld)
  | (with_reducible apply LS.tprop)
  | ((with_reducible apply LS.k_pr); array_mem_dec)
  | ((with_reducible apply LS.rlen_own); array_mem_dec)
  | (with_reducible apply LS.rabs)
  | (with_reducible apply LS.rmin2)
  | (with_reducible apply LS.rmax2)
  | (with_reducible apply LS.tsl)
  | (with_reducible apply LS.tthen)
  | (with_reducible apply LS.tstep)
  | (with_reducible apply LS.tnop)
  | (with_reducible apply LS.tpart)
  | (with_reducible apply LS.k_part)
  | (with_reducible apply LS.ttup)
  | (with_reducible apply LS.tlst)
  | (with_reducible apply LS.tbm)
  | (with_reducible apply LS.tbm0)
  | ((with_reducible apply LS.ty_l); array_mem_dec)
  | (with_reducible apply LS.tpar)
  | (with_reducible apply LS.tfor)
  | (with_reducible apply LS.tlc)
  | (with_reducible apply LS.ilist)
  | ((with_reducible apply LS.k_il); array_mem_dec)
  | (with_reducible apply LS.itup)
  | ((with_reducible apply LS.k_it); array_mem_dec)
  | (with_reducible apply LS.istr)
  | (with_reducible apply LS.k_is)
  | (with_reducible apply LS.irng1)
  | ((with_reducible apply LS.k_r1n); omega)
  | ((with_reducible apply LS.k_r1); (first | omega | decide); (first | omega | decide))
  | (with_reducible apply LS.irng2)
  | ((with_reducible apply LS.k_r2); (first | omega | decide); (first | omega | decide); (first | omega | decide); (first | omega | decide))
  | (with_reducible apply LS.ienum)
  | ((with_reducible apply LS.k_en); array_mem_dec)
  | (with_reducible apply LS.izip)
  | ((with_reducible apply LS.k_zip); array_mem_dec; array_mem_dec)
  | (with_reducible apply LS.tlstrg)
  | (with_reducible apply LS.trg1)
  | (with_reducible apply LS.k_g1)
  | (with_reducible apply LS.risn_i)
  | (with_reducible apply LS.risn_s)
  | (with_reducible apply LS.risn_n)
  | (with_reducible apply LS.rnotn_i)
  | (with_reducible apply LS.rnotn_n)
  | (with_reducible apply LS.rint_b)
  | (with_reducible apply LS.rint_i)
  | (with_reducible apply LS.tm0)
  | (with_reducible apply LS.tm1)
  | (with_reducible apply LS.is_str)
  | (with_reducible apply LS.ex_s0)
  | (with_reducible apply LS.ex_int_b)
  | (with_reducible apply LS.k_par)
  | (with_reducible apply LS.tpar3)
  | (with_reducible apply LS.k_par3)
  | ((with_reducible apply LS.taug); exact rfl)
  | (with_reducible apply LS.ipi)
  | ((with_reducible apply LS.gtup); array_mem_dec; exact rfl)
  | ((with_reducible apply LS.gunl); array_mem_dec; exact rfl)
  | (with_reducible apply LS.gnil)
  | (with_reducible apply LS.gcons)
  | (with_reducible apply LS.gsub)
  | ((with_reducible apply LS.ri); first | omega | decide | assumption | exact ⟨by decide, by decide, by decide⟩ | exact .inl ⟨by decide, by decide⟩ | exact .inr ⟨by decide, by decide⟩ | exact .inl ⟨by omega, by omega⟩ | exact .inr ⟨by omega, by omega⟩)
  | (with_reducible apply LS.ex_ss)
  | (with_reducible apply LS.ex_s1)
  | (with_reducible apply LS.ex_i1)
  | (with_reducible apply LS.and_rfl)
  | (with_reducible apply LS.and_tr)
  | (with_reducible apply LS.is_non))
local macro_rules | `(tactic| array_mem_dec) => `(tactic| first
  | ((with_reducible apply LP.sg_s); assumption; array_mem_dec)
  | ((with_reducible apply LP.sg_f); assumption; array_mem_dec; array_mem_dec)
  | ((with_reducible apply LP.sg_l); assumption; array_mem_dec; array_mem_dec)
  | ((with_reducible apply LP.sg_ne); assumption; array_mem_dec)
  | ((with_reducible apply LP.sg_ne'); assumption; array_mem_dec)
  | ((with_reducible apply LS.se_q); array_mem_dec)
  | ((with_reducible apply LS.se_u); array_mem_dec)
  | ((with_reducible apply LP.sg_no); assumption; array_mem_dec; array_mem_dec))
local macro_rules | `(tactic| array_get_dec) => `(tactic| first
  | ((with_reducible apply LS.rne_same); exact rfl)
  | ((with_reducible apply LS.req_same); exact rfl)
  | (with_reducible apply LS.trevl)
  | (with_reducible apply LS.irng3)
  | (with_reducible apply LS.risn_b)
  | ((with_reducible apply LS.isiT_n); array_mem_dec)
  | ((with_reducible apply LS.isiT_b); array_mem_dec))
local macro_rules | `(tactic| array_get_dec) => `(tactic| first
  | (with_reducible apply LS.tcalle)
  | (with_reducible apply LS.tcalls))
local macro_rules | `(tactic| array_get_dec) => `(tactic| first
  | (with_reducible apply LS.trg2)
  | (with_reducible apply LS.k_g2))

section
variable {P : Program} {w : World} {K : PySem.W.Frag} {mg : Str → Option Value} {base : Heap}

def pV : Option Int → V
  | none => .non
  | some i => .int i
theorem pV_at {st : List (Option Int)} {s : Nat} {o : Option Int} (h : st[s]? = some o) : (st.map pV)[s]? = some (pV o) := by rw [List.getElem?_map, h]; rfl
def sp_cars_parked (K : PySem.W.Frag) : Sp := fun vs H Q _ => ∃ (a : Addr) (w : List Int), vs = [.ref a] ∧ Is K H a w ∧ 1 ≤ w.length ∧ w.length ≤ 200 ∧ Pk w ∧ ∀ (H' : Hp) (p : Addr), Same H H' → H p = none → H' p = some (.lst ((cars w).map V.int)) → Q (.ref p) H'
theorem ok_cars_parked (e : Env K mg) : FnOk P w K mg base CX0 5 e.a_cars_parked e.d_cars_parked ["wishes"] (sp_cars_parked K) := by
  refine Fun.ok e.f_cars_parked sc_cars_parked (fun vs H Q E h => ?_) (fun cdv A outer s H vs Q E hr h => ?_)
  · obtain ⟨a, w, rfl, _⟩ := h; rfl
  · obtain ⟨a, w, rfl, ha, h1, h2, pk, k⟩ := h
    refine ⟨_, (pss_cons (ps_expr (pe_call ((ok_check_wishes e).mono (by decide)) hr rfl e.g_check_wishes e.f_check_wishes.kp e.b_check_wishes .nil pass0 (pa_cons (pv 0) pa_nil)))
      (pss_cons (ps_set (i := 1) sc_cars_parked.nd rfl (by first | exact Or.inl rfl | exact Or.inr rfl) (pe_op op_rep (pe_lst (pa_cons pe_non pa_nil)) (pe_callB LS.call_len (by rfl) e.n_len PySem.boot_len (pa_cons (pv 0) pa_nil))))
      (pss_cons (ps_for PassesOwn.never rfl (PI.or (pi_enum (by rfl) e.n_enumerate (pa_cons (pv 0) pa_nil)) (pi_enumT (by rfl) e.n_enumerate (pa_cons (pv 0) pa_nil))) (pg_tup (by rfl) (pgs_cons (pg_name (i := 2) sc_cars_parked.nd rfl (by first | exact Or.inl rfl | exact Or.inr rfl)) (pgs_cons (pg_name (i := 3) sc_cars_parked.nd rfl (by first | exact Or.inl rfl | exact Or.inr rfl)) pgs_nil)))
      (pss_cons (ps_set (i := 4) sc_cars_parked.nd rfl (by first | exact Or.inl rfl | exact Or.inr rfl) (pv 3))
      (pss_cons (ps_while PassesOwn.never (pt_cmpR LS.op_notN (pe_ix ix_list (pv 1) (pv 4) (fun _ _ => rfl)) pe_non (nomark _))
      (pss_one (ps_aug (i := 4) sc_cars_parked.nd rfl (by first | exact Or.inl rfl | exact Or.inr rfl) pe_int ip_add)))
      (pss_one (ps_asg (pv 2) (pg_sub (pv 1) (pv 4) set_list))))))
      (pss_one (ps_ret (pv 1)))))), ?_⟩
    repeat array_get_dec
    refine ⟨a, w, rfl, ha, h1, h2, pk, fun H1 s1 => ?_⟩
    have ha1 := ha.same s1
    repeat array_get_dec
    refine LS.k_lst (by array_mem_dec) fun l H_l n_l s_l h_l => ?_
    repeat array_get_dec
    have hal := ha1.same s_l
    repeat array_get_dec
    refine LS.rrep1 (n := w.length) h_l (by omega) fun q H2 nq s2 hq => ?_
    have s02 : Same H H2 := s1.trans (s_l.trans s2)
    have nq0 : H q = none := (s1.trans s_l).free nq
    rw [show List.replicate w.length V.non = (pkTo w 0).map pV by show _ = (List.replicate w.length none).map pV; rw [List.map_replicate]; rfl] at hq
    repeat array_get_dec
    refine LP.or_enumE0 ha s02 (fun Q q => ⟨_, rfl, q⟩) fun J G wk hG => ?_
    refine LS.for_ wk (fun i σ H' => ∃ v2 v3 v4 : Option V, Same H H' ∧ H' q = some (.lst ((pkTo w i).map pV)) ∧ σ = [some (.ref a), some (.ref q), v2, v3, v4]) ⟨_, _, _, s02, hq, rfl⟩ (fun i σ H' hi h => (by obtain ⟨_, _, _, h, _⟩ := h; exact hG _ h)) ?_ ?_
    · rintro i x σ H3 H4 hi ⟨v2, v3, v4, s3, hq3, rfl⟩ y
      obtain ⟨T, y, z, rfl, nT, s4, hT, hy, hz⟩ := LS.ypair y
      cases hy
      rw [List.length_map] at hi
      obtain ⟨x, hx, rfl⟩ := at_int hz
      have rx := pk.rg x (List.mem_of_getElem? hx)
      obtain ⟨PI1, fr0⟩ := pkIs pk (pkI pk i (by omega)) hx
      have pl := pk_len w i
      have fg := fre_ge (pkTo w i) x.toNat
      have fl := (List.getElem?_eq_some_iff.mp fr0).1
      have es : pkTo w (i + 1) = (pkTo w i).set (fre (pkTo w i) x.toNat) (some i) := by
        show (pkTo w i).set (fre (pkTo w i) ((w[i]?).getD 0).toNat) (some i) = _
        rw [hx]; rfl
      have fil : ∀ t, x.toNat ≤ t → t < fre (pkTo w i) x.toNat → ∃ c, (pkTo w i)[t]? = some (some c) := fun t a1 a2 => by
        obtain ⟨c, h | h⟩ := fre_some a1 a2
        · exact ⟨c, h⟩
        · omega
      generalize fre (pkTo w i) x.toNat = f at *
      have s04 : Same H H4 := s3.trans s4
      have hq4 := s4 _ _ hq3
      repeat array_get_dec
      refine LS.while_ (fun m σ H' => ∃ s : Nat, H' = H4 ∧ x.toNat ≤ s ∧ s ≤ f ∧ m = f - s ∧ σ = [some (.ref a), some (.ref q), some (.int (i : Nat)), some (.int x), some (.int (s : Nat))]) (f - x.toNat) ⟨x.toNat, rfl, Nat.le_refl _, fg, rfl, by rw [show ((x.toNat : Nat) : Int) = x by omega]; rfl⟩ ?_
      rintro m σ H5 ⟨s, rfl, hs1, hs2, rfl, rfl⟩
      by_cases e : s = f
      · subst e
        repeat array_get_dec
        refine LS.rixl_n (SqL.of hq4) (pV_at fr0) rfl ?_
        show LS.rNotN .non _ _ _
        repeat array_get_dec
        refine LS.k_wf ?_
        repeat array_get_dec
        refine LS.rset (j := s) hq4 (by rw [List.length_map]; exact ixN_at fl) fun H6 f6 h6 => ?_
        repeat array_get_dec
        refine ⟨_, _, _, LS.Same.fr_new s04 f6 nq0, ?_, rfl⟩
        rw [h6, es, List.map_set]; rfl
      · obtain ⟨c, hc⟩ := fil s hs1 (by omega)
        repeat array_get_dec
        refine LS.rixl_n (SqL.of hq4) (pV_at hc) rfl ?_
        show LS.rNotN (.int c) _ _ _
        repeat array_get_dec
        refine LS.k_wt ?_
        repeat array_get_dec
        exact ⟨f - (s + 1), by omega, s + 1, rfl, by omega, by omega, rfl, rfl⟩
    · rintro σ H3 ⟨v2, v3, v4, s3, hq3, rfl⟩
      repeat array_get_dec
      rw [List.length_map, cars_full pk, List.map_map] at hq3
      exact k H3 q s3 nq0 hq3
def firsts (fl : List Int) (i : Nat) : List Int := (List.range i).map fun j : Nat => (j : Int) + 1 - ((sLen fl j : Nat) : Int)
def sp_first_fills : Sp := fun vs H Q _ => ∃ (a : Addr) (fl : List Int), vs = [.ref a] ∧ H a = some (.lst (fl.map V.int)) ∧ Pl fl ∧ ∀ (H' : Hp) (p : Addr), Same H H' → H p = none → H' p = some (.lst ((firsts fl fl.length).map V.int)) → Q (.ref p) H'
theorem slen_get {fl : List Int} {i : Nat} {v : V} (h : ((sLens fl).map V.int)[i]? = some v) : i < fl.length ∧ v = .int (sLen fl i : Nat) := by
  unfold sLens at h
  rw [List.getElem?_map, List.getElem?_map] at h
  rcases Nat.lt_or_ge i fl.length with q | q
  · rw [List.getElem?_range q] at h
    cases h
    exact ⟨q, rfl⟩
  · rw [List.getElem?_eq_none (by simpa using q)] at h
    cases h
theorem slen_len (fl : List Int) : (sLens fl).length = fl.length := by unfold sLens; rw [List.length_map, List.length_range]
theorem ok_first_fills (e : Env K mg) : FnOk P w K mg base CX0 6 e.a_first_fills e.d_first_fills ["fills"] (sp_first_fills) := by
  refine Fun.ok e.f_first_fills sc_first_fills (fun vs H Q E h => ?_) (fun cdv A outer s H vs Q E hr h => ?_)
  · obtain ⟨a, w, rfl, _⟩ := h; rfl
  · obtain ⟨a, fl, rfl, ha, pl, k⟩ := h
    have ple := pl.le
    refine ⟨_, (pss_one (ps_ret (pe_lc (own := [("number", 1), ("length", 2)]) rfl sc_first_fills.nd (pi_enum (by rfl) e.n_enumerate (pa_cons (pe_call ((ok_stretch_lengths e).mono (by decide)) hr rfl e.g_stretch_lengths e.f_stretch_lengths.kp e.b_stretch_lengths .nil pass0 (pa_cons (pv 0) pa_nil)) pa_nil)) (blkOk_by (N := ["fills", "number", "length"]) (sc := defScope s_first_fills) (by decide +kernel)) (fun _ _ _ _ _ => (show PG _ _ (gTup K 2 _) from pg_tup (by rfl) (pgs_cons (pg_name (i := 1) sc_first_fills.nd rfl (by first | exact Or.inl rfl | exact Or.inr rfl)) (pgs_cons (pg_name (i := 2) sc_first_fills.nd rfl (by first | exact Or.inl rfl | exact Or.inr rfl)) pgs_nil)))) (fun _ _ _ _ _ => pts_nil) (fun _ _ _ _ _ => (pe_op op_sub (pe_op op_add (pv 1) pe_int) (pv 2)))))), ?_⟩
    repeat array_get_dec
    refine ⟨a, fl, rfl, LS.se_l ha, pl, fun H1 p s1 np hp => ?_⟩
    repeat array_get_dec
    refine LS.comp (walk_enum (xs := (sLens fl).map V.int)) (fun D i acc H' => Same H1 H' ∧ acc = (firsts fl i).map V.int) (fun D H' nD s' hD => ⟨s', rfl⟩) (fun D j acc H' hi nD hD h => (by obtain ⟨h, _⟩ := h; exact SqL.of (h _ _ hp))) ?_ ?_
    · rintro D i acc x H2 H3 nD hi hl2 hD ⟨s2, rfl⟩ y
      obtain ⟨T, y, z, rfl, nT, s3, hT, hy, hz⟩ := LS.ypair y
      cases hy
      obtain ⟨hi2, rfl⟩ := slen_get hz
      repeat array_get_dec
      refine ⟨rfl, ?_⟩
      repeat array_get_dec
      exact LS.k_lc (acc := (firsts fl i).map V.int) (s3 _ _ hD) hl2 (by omega) fun H6 f6 h6 => ⟨LS.Same.fr_new (s2.trans s3) f6 nD, by unfold firsts; rw [List.range_succ, List.map_append, List.map_append]; rfl⟩
    · rintro D acc H2 nD hD hl2 ⟨s2, rfl⟩
      rw [List.length_map, slen_len] at hD
      exact k H2 D (s1.trans s2) (s1.free nD) hD
def sp_takes_byG (K : PySem.W.Frag) : Sp := fun vs H Q _ => ∃ (a b : Addr) (fl os : List Int), vs = [.ref a, .ref b] ∧ Is K H a fl ∧ Pl fl ∧ Is K H b os ∧ os.length = fl.length ∧ (∀ (i : Nat) (x : Int), os[i]? = some x → 0 ≤ x ∧ x < (sLen fl i : Nat)) ∧ ∀ (H' : Hp) (p : Addr) (tk : List Int), Same H H' → H p = none → tk.length = fl.length → H' p = some (.lst (tk.map V.int)) → Q (.ref p) H'
theorem ytrip {xs ys zs : Nat → Option V} {i : Nat} {H H' : Hp} {v : V} (h : LX.YTrip xs ys zs i H v H') : ∃ T x y z, v = .ref T ∧ H T = none ∧ Same H H' ∧ H' T = some (.tup [x, y, z]) ∧ xs i = some x ∧ ys i = some y ∧ zs i = some z := by
  obtain ⟨T, x, y, z, e, nT, rfl, h1, h2, h3⟩ := h
  exact ⟨T, x, y, z, e, nT, same_upd nT, upd_same, h1, h2, h3⟩
theorem ok_takes_by (e : Env K mg) : FnOk P w K mg base CX0 6 e.a_takes_by e.d_takes_by ["fills", "offsets"] (sp_takes_byG K) := by
  refine Fun.ok e.f_takes_by sc_takes_by (fun vs H Q E h => ?_) (fun cdv A outer s H vs Q E hr h => ?_)
  · obtain ⟨a, b, fl, os, rfl, _⟩ := h; rfl
  · obtain ⟨a, b, fl, os, rfl, ha, pl, hb, ol, orr, k⟩ := h
    refine ⟨_, (pss_cons (ps_set (i := 2) sc_takes_by.nd rfl (by first | exact Or.inl rfl | exact Or.inr rfl) (pe_call ((ok_stretch_lengths e).mono (by decide)) hr rfl e.g_stretch_lengths e.f_stretch_lengths.kp e.b_stretch_lengths .nil pass0 (pa_cons (pv 0) pa_nil)))
      (pss_cons (ps_expr (pe_call ((ok_check_offsets e).mono (by decide)) hr rfl e.g_check_offsets e.f_check_offsets.kp e.b_check_offsets .nil pass0 (pa_cons (pv 1) (pa_cons (pv 2) pa_nil))))
      (pss_cons (ps_set (i := 3) sc_takes_by.nd rfl (by first | exact Or.inl rfl | exact Or.inr rfl) (pe_lst pa_nil))
      (pss_cons (ps_for PassesOwn.never rfl (LX.pi_zip3 (by rfl) e.n_zip (pa_cons (pv 0) (pa_cons (pv 2) (pa_cons (pv 1) pa_nil)))) (pg_tup (by rfl) (pgs_cons (pg_name (i := 4) sc_takes_by.nd rfl (by first | exact Or.inl rfl | exact Or.inr rfl)) (pgs_cons (pg_name (i := 5) sc_takes_by.nd rfl (by first | exact Or.inl rfl | exact Or.inr rfl)) (pgs_cons (pg_name (i := 6) sc_takes_by.nd rfl (by first | exact Or.inl rfl | exact Or.inr rfl)) pgs_nil))))
      (pss_one (ps_expr (pe_bm PySem.F.plainAttrs_list PySem.F.slot_list_insert PySem.F.type_list_insert mt_ins (pv 3) (pa_cons (pe_op op_add (pe_op op_sub (pe_op op_add (pe_callB LS.call_len (by rfl) e.n_len PySem.boot_len (pa_cons (pv 3) pa_nil)) pe_int) (pv 5)) (pv 6)) (pa_cons (pv 4) pa_nil))))))
      (pss_one (ps_ret (pv 3))))))), ?_⟩
    have hle := pl.le
    repeat array_get_dec
    refine ⟨a, fl, rfl, ha, pl, fun H1 q s1 nq hq => ?_⟩
    repeat array_get_dec
    refine ⟨b, q, os, sLens fl, rfl, hb.same s1, hq, by rw [slen_len, ol], by omega, fun i x y hx hy => ?_, fun H2 s2 => ?_⟩
    · have := orr i x hx
      have e := slen_get (int_at hy)
      rw [V.int.inj e.2]
      exact this
    have s02 : Same H H2 := s1.trans s2
    repeat array_get_dec
    refine LS.k_lst (by array_mem_dec) fun p H_p n_p s_p h_p => ?_
    repeat array_get_dec
    have s03 : Same H H_p := s02.trans s_p
    have np : H p = none := s02.free n_p
    have nqp : q ≠ p := ne_of_none (s2 _ _ hq) n_p
    have hq_p := s_p _ _ (s2 _ _ hq)
    obtain ⟨t1, g1⟩ := LX.sqB_E ha
    obtain ⟨t3, g3⟩ := LX.sqB_E hb
    have g2 : LX.SqB K false H_p q ((sLens fl).map V.int) := SqL.of hq_p
    refine ⟨_, rfl, _, rfl, _, rfl, t1, false, t3, a, q, b, _, _, _, rfl, LX.sqB_same s03 g1, g2, LX.sqB_same s03 g3, ?_⟩
    refine LS.for_ (LX.walk_zip3 (by rw [List.length_map, List.length_map, slen_len]) (by rw [List.length_map, List.length_map, ol])) (fun i σ H' => ∃ (tk : List Int) (v4 v5 v6 : Option V), Same H H' ∧ tk.length = i ∧ H' q = some (.lst ((sLens fl).map V.int)) ∧ H' p = some (.lst (tk.map V.int)) ∧ σ = [some (.ref a), some (.ref b), some (.ref q), some (.ref p), v4, v5, v6])
      ⟨[], _, _, _, s03, rfl, hq_p, h_p, rfl⟩ (fun i σ H' hi ⟨_, _, _, _, h, _, h2, _⟩ => ⟨LX.sqB_same h g1, SqL.of h2, LX.sqB_same h g3⟩) ?_ ?_
    · rintro i x σ H3 H4 hi ⟨tk, v4, v5, v6, s3, tl, hq3, hp3, rfl⟩ y
      obtain ⟨T, x, l, o, rfl, nT, s4, hT, hx, hl, ho⟩ := ytrip y
      rw [List.length_map] at hi
      obtain ⟨u, hu, rfl⟩ := at_int hx
      obtain ⟨_, rfl⟩ := slen_get hl
      obtain ⟨o2, ho2, rfl⟩ := at_int ho
      have hp4 := s4 _ _ hp3
      have hq4 := s4 _ _ hq3
      have sl := sLen_le fl i
      have oo := orr i o2 ho2
      repeat array_get_dec
      refine rins hp4 (LS.szl (by rw [List.length_map]; omega)) (by rw [tl]; omega) (by rw [tl]; omega) fun H5 f5 h5 => ?_
      repeat array_get_dec
      obtain ⟨j, hj, hji⟩ : ∃ j : Nat, ((tk.length : Nat) : Int) + 1 - ((sLen fl i : Nat) : Int) + o2 = (j : Int) ∧ j ≤ i := ⟨(((tk.length : Nat) : Int) + 1 - ((sLen fl i : Nat) : Int) + o2).toNat, by rw [tl]; omega, by rw [tl]; omega⟩
      refine ⟨tk.take j ++ [u] ++ tk.drop j, _, _, _, LS.Same.fr_new (s3.trans s4) f5 np, ?_, f5 _ _ hq4 nqp, ?_, rfl⟩
      · rw [List.length_append, List.length_append, List.length_take, List.length_drop, tl, List.length_singleton]; omega
      · rw [h5, hj, List.map_append, List.map_append, List.map_take, List.map_drop]; rfl
    · rintro σ H3 ⟨tk, v4, v5, v6, s3, tl, hq3, hp3, rfl⟩
      repeat array_get_dec
      exact k H3 p tk s3 np (by rw [tl, List.length_map]) hp3
end
end LP

namespace LP
open PySem L2 LT LG LQ LH LC LX LR
local macro_rules | `(tactic| array_mem_dec) => `(tactic| first
  | assumption
  | ((with_reducible apply LS.hp_s); assumption; array_mem_dec)
  | ((with_reducible apply LS.hp_f); assumption; array_mem_dec; array_mem_dec)
  | ((with_reducible apply LS.hp_t); assumption; array_mem_dec; array_mem_dec)
  | ((with_reducible apply LS.hp_l); assumption; array_mem_dec; array_mem_dec)
  | ((with_reducible apply LS.sq_o); array_mem_dec)
  | ((with_reducible apply LS.sq_s); assumption; array_mem_dec)
  | ((with_reducible apply LS.sq_f); assumption; array_mem_dec; array_mem_dec)
  | ((with_reducible apply LS.sq_t); assumption; array_mem_dec; array_mem_dec)
  | ((with_reducible apply LS.sq_l); assumption; array_mem_dec; array_mem_dec)
  | ((with_reducible apply LS.tu_o); array_mem_dec)
  | ((with_reducible apply LS.tu_s); assumption; array_mem_dec)
  | ((with_reducible apply LS.tu_f); assumption; array_mem_dec; array_mem_dec)
  | ((with_reducible apply LS.tu_t); assumption; array_mem_dec; array_mem_dec)
  | ((with_reducible apply LS.tu_l); assumption; array_mem_dec; array_mem_dec)
  | ((with_reducible apply LS.se_l); array_mem_dec)
  | ((with_reducible apply LS.se_t); array_mem_dec)
  | ((with_reducible apply LS.se_s); assumption; array_mem_dec)
  | ((with_reducible apply LS.se_f); assumption; array_mem_dec; array_mem_dec)
  | ((with_reducible apply LS.se_tt); assumption; array_mem_dec; array_mem_dec)
  | ((with_reducible exact Same.refl _))
  | ((with_reducible apply LS.sm_s); assumption; array_mem_dec)
  | ((with_reducible apply LS.sm_f); assumption; array_mem_dec; array_mem_dec)
  | ((with_reducible exact Fr.refl _ _))
  | ((with_reducible apply LS.fr_b); assumption; array_mem_dec)
  | ((with_reducible apply LS.fr_s); assumption; array_mem_dec)
  | ((with_reducible apply LS.fr_n); assumption; array_mem_dec; array_mem_dec)
  | ((with_reducible apply LS.fr_t); assumption; array_mem_dec)
  | ((with_reducible apply LS.no_s); assumption; array_mem_dec)
  | ((with_reducible apply LS.no_f); assumption; array_mem_dec; array_mem_dec)
  | ((with_reducible apply LS.no_t); assumption; array_mem_dec)
  | ((with_reducible apply LS.no_l); assumption; assumption)
  | ((with_reducible apply Ne.symm); assumption)
  | ((with_reducible apply LS.ne_a); assumption; array_mem_dec)
  | ((with_reducible apply LS.ne_b); assumption; array_mem_dec)
  | ((with_reducible apply LS.ne_ap); assumption)
  | ((with_reducible apply LS.ne_il); assumption; array_mem_dec)
  | ((with_reducible apply LS.ne_li); assumption; array_mem_dec)
  | ((with_reducible apply LS.ne_lt); assumption; assumption)
  | ((with_reducible apply LS.ne_tl); assumption; assumption)
  | ((with_reducible apply LS.ne_rl); assumption; array_mem_dec)
  | ((with_reducible apply LS.rl_t); assumption)
  | ((with_reducible apply LS.rl_s); assumption; array_mem_dec)
  | ((with_reducible apply LS.rl_f); assumption; array_mem_dec; array_mem_dec)
  | ((with_reducible apply LS.rl_l); assumption; array_mem_dec; array_mem_dec)
  | ((with_reducible apply LS.ap_new); assumption; assumption; array_mem_dec)
  | ((with_reducible apply LS.ap_t); assumption; array_mem_dec; array_mem_dec)
  | ((with_reducible apply LS.ap_s); assumption; array_mem_dec; array_mem_dec)
  | ((with_reducible apply LS.ap_f); assumption; array_mem_dec; array_mem_dec; array_mem_dec)
  | ((with_reducible apply LS.ap_l); assumption; array_mem_dec; array_mem_dec; array_mem_dec)
  | (with_reducible apply LS.ni_nil)
  | ((with_reducible apply LS.ni_cons); array_mem_dec; array_mem_dec)
  | (with_reducible apply LS.trk_nil)
  | ((with_reducible apply LS.trk_cons); array_mem_dec; array_mem_dec)
  | (with_reducible apply LS.al_nil)
  | ((with_reducible apply LS.al_cons); array_mem_dec; array_mem_dec)
  | (with_reducible apply LS.mem_hd)
  | ((with_reducible apply LS.mem_tl); array_mem_dec)
  | ((with_reducible apply LS.fl_refl); array_mem_dec)
  | ((with_reducible apply LS.fl_l); assumption; array_mem_dec)
  | ((with_reducible apply LS.fl_lm); assumption; array_mem_dec; array_mem_dec)
  | (with_reducible apply LS.sub_nil)
  | ((with_reducible apply LS.sub_cons); array_mem_dec; array_mem_dec)
  | ((with_reducible apply LS.fl_s); assumption; array_mem_dec)
  | ((with_reducible apply LS.fl_m); assumption; array_mem_dec; array_mem_dec; array_mem_dec)
  | ((with_reducible apply LS.fl_n); assumption; array_mem_dec; array_mem_dec; array_mem_dec)
  | ((with_reducible apply LS.rt_refl); array_mem_dec)
  | ((with_reducible apply LS.rt_t); assumption; array_mem_dec)
  | ((with_reducible apply LS.rt_s); assumption; array_mem_dec)
  | ((with_reducible apply LS.rt_f); assumption; array_mem_dec; array_mem_dec; array_mem_dec)
  | ((with_reducible apply LS.sz); (first | decide | (simp only [List.length_append, List.length_map, List.length_cons, List.length_nil, List.length_replicate]; omega)))
  | ((with_reducible apply LS.szl); (first | decide | (simp only [List.length_append, List.length_map, List.length_cons, List.length_nil, List.length_replicate]; omega))))
local macro_rules | `(tactic| array_get_dec) => `(tactic| first
  | ((with_reducible apply LS.var); exact rfl)
  | (with_reducible apply LS.con)
  | (with_reducible apply LS.op)
  | (with_reducible apply LS.ri0)
  | (with_reducible apply LS.tseq)
  | (with_reducible apply LS.tasg)
  | (with_reducible apply LS.gname)
  | (with_reducible apply LS.tcons)
  | (with_reducible apply LS.tnil)
  | (with_reducible apply LS.tcb)
  | (with_reducible apply LS.tcall)
  | (with_reducible apply LS.ttest)
  | (with_reducible apply LS.k_b)
  | (with_reducible apply LS.tb)
  | (with_reducible apply LS.tifs)
  | (with_reducible apply LS.ift)
  | (with_reducible apply LS.iff_)
  | (with_reducible apply LS.ifnt)
  | (with_reducible apply LS.ifnf)
  | (with_reducible apply LS.tnext)
  | (with_reducible apply LS.tdrop)
  | (with_reducible apply LS.tret)
  | (with_reducible apply LS.tretn)
  | (with_reducible apply LS.un)
  | (with_reducible apply LS.ru)
  | (with_reducible apply LS.tyes)
  | (with_reducible apply LS.tand)
  | (with_reducible apply LS.tor)
  | (with_reducible apply LS.tnot)
  | (with_reducible apply LS.tif)
  | (with_reducible apply LS.tandv)
  | (with_reducible apply LS.k_av)
  | (with_reducible apply LS.torv)
  | (with_reducible apply LS.k_ov)
  | (with_reducible apply LS.tnotv)
  | (with_reducible apply LS.k_nv)
  | (with_reducible apply LS.tchain)
  | (with_reducible apply LS.k_ch)
  | (with_reducible apply LS.req_i)
  | (with_reducible apply LS.rne_i)
  | (with_reducible apply LS.req_s)
  | (with_reducible apply LS.rne_s)
  | (with_reducible apply LS.req_b)
  | (with_reducible apply LS.rne_b)
  | ((with_reducible apply LS.rin_i); array_mem_dec)
  | ((with_reducible apply LS.rni_i); array_mem_dec)
  | ((with_reducible apply LS.rlen_li); array_mem_dec)
  | ((with_reducible apply LS.rlen_ls); array_mem_dec)
  | ((with_reducible apply LS.rlen_l); array_mem_dec)
  | ((with_reducible apply LS.rlen_Ei); array_mem_dec)
  | ((with_reducible apply LS.rlen_E); array_mem_dec)
  | ((with_reducible apply LS.rlen_t); array_mem_dec)
  | ((with_reducible apply LS.rixl); array_mem_dec; exact rfl)
  | ((with_reducible apply LS.rixt); array_mem_dec; exact rfl)
  | (with_reducible apply LS.isi_int_int)
  | (with_reducible apply LS.isi_int_bool)
  | (with_reducible apply LS.isi_int_str)
  | (with_reducible apply LS.isi_str_int)
  | (with_reducible apply LS.isi_str_bool)
  | (with_reducible apply LS.isi_str_str)
  | (with_reducible apply LS.isi_bool_int)
  | (with_reducible apply LS.isi_bool_bool)
  | (with_reducible apply LS.isi_bool_str)
  | (with_reducible apply LS.isi_non_int)
  | (with_reducible apply LS.isi_non_bool)
  | (with_reducible apply LS.isi_non_str)
  | ((with_reducible apply LS.isi_list_int); array_mem_dec)
  | ((with_reducible apply LS.isi_list_bool); array_mem_dec)
  | ((with_reducible apply LS.isi_list_str); array_mem_dec)
  | ((with_reducible apply LS.isi_list_list); array_mem_dec)
  | ((with_reducible apply LS.isi_list_tuple); array_mem_dec)
  | ((with_reducible apply LS.isi_tuple_int); array_mem_dec)
  | ((with_reducible apply LS.isi_tuple_bool); array_mem_dec)
  | ((with_reducible apply LS.isi_tuple_str); array_mem_dec)
  | ((with_reducible apply LS.isi_tuple_list); array_mem_dec)
  | ((with_reducible apply LS.isi_tuple_tuple); array_mem_dec)
  | ((with_reducible apply LS.isiT_i); array_mem_dec)
  | ((with_reducible apply LS.isiT_s); array_mem_dec)
  | ((with_reducible apply LS.isiT_E); array_mem_dec; array_mem_dec)
  | (with_reducible apply LS.tfld)
  | ((with_reducible apply LS.k_fl); array_mem_dec; assumption; assumption; exact rfl)
  | (with_reducible apply LS.tmeth)
  | ((with_reducible apply LS.k_me); array_mem_dec; exact rfl)
  | (with_reducible apply LS.tmake)
  | (with_reducible apply LS.tsfld)
  | (with_reducible apply LS.tprop)
  | ((with_reducible apply LS.k_pr); array_mem_dec)
  | ((with_reducible apply LS.rlen_own); array_mem_dec)
  | (with_reducible apply LS.rabs)
  | (with_reducible apply LS.rmin2)
  | (with_reducible apply LS.rmax2)
  | (with_reducible apply LS.tsl)
  | (with_reducible apply LS.tthen)
  | (with_reducible apply LS.tstep)
  | (with_reducible apply LS.tnop)
  | (with_reducible apply LS.tpart)
  | (with_reducible apply LS.k_part)
  | (with_reducible apply LS.ttup)
  | (with_reducible apply LS.tlst)
  | (with_reducible apply LS.tbm)
  | (with_reducible apply LS.tbm0)
  | ((with_reducible apply LS.ty_l); array_mem_dec)
  | (with_reducible apply LS.tpar)
  | (with_reducible apply LS.tfor)
  | (with_reducible apply LS.tlc)
  | (with_reducible apply LS.ilist)
  | ((with_reducible apply LS.k_il); array_mem_dec)
  | (with_reducible apply LS.itup)
  | ((with_reducible apply LS.k_it); array_mem_dec)
  | (with_reducible apply LS.istr)
  | (with_reducible apply LS.k_is)
  | (with_reducible apply LS.irng1)
  | ((with_reducible apply LS.k_r1n); omega)
  | ((with_reducible apply LS.k_r1); (first | omega | decide); (first | omega | decide))
  | (with_reducible apply LS.irng2)
  | ((with_reducible apply LS.k_r2); (first | omega | decide); (first | omega | decide); (first | omega | decide); (first | omega | decide))
  | (with_reducible apply LS.ienum)
  | ((with_reducible apply LS.k_en); array_mem_dec)
  | (with_reducible apply LS.izip)
  | ((with_reducible apply LS.k_zip); array_mem_dec; array_mem_dec)
  | (with_reducible apply LS.tlstrg)
  | (with_reducible apply LS.trg1)
  | (with_reducible apply LS.k_g1)
  | (with_reducible apply LS.risn_i)
  | (with_reducible apply LS.risn_s)
  | (with_reducible apply LS.risn_n)
  | (with_reducible apply LS.rnotn_i)
  | (with_reducible apply LS.rnotn_n)
  | (with_reducible apply LS.rint_b)
  | (with_reducible apply LS.rint_i)
  | (with_reducible apply LS.tm0)
  | (with_reducible apply LS.tm1)
  | (with_reducible apply LS.is_str)
  | (with_reducible apply LS.ex_s0)
  | (with_reducible apply LS.ex_int_b)
  | (with_reducible apply LS.k_par)
  | (with_reducible apply LS.tpar3)
  | (with_reducible apply LS.k_par3)
  | ((with_reducible apply LS.taug); exact rfl)
  | (with_reducible apply LS.ipi)
  | ((with_reducible apply LS.gtup); array_mem_dec; exact rfl)
  | ((with_reducible apply LS.gunl); array_mem_dec; exact rfl)
  | (with_reducible apply LS.gnil)
  | (with_reducible apply LS.gcons)
  | (with_reducible apply LS.gsub)
  | ((with_reducible apply LS.ri); first | omega | decide | assumption | exact ⟨by decide, by decide, by decide⟩ | exact .inl ⟨by decide, by decide⟩ | exact .inr ⟨by decide, by decide⟩ | exact .inl ⟨by omega, by omega⟩ | exact .inr ⟨by omega, by omega⟩)
  | (with_reducible apply LS.ex_ss)
  | (with_reducible apply LS.ex_s1)
  | (with_reducible apply LS.ex_i1)
  | (with_reducible apply LS.and_rfl)
  | (with_reducible apply LS.and_tr)
  | (with_reducible apply LS.is_non))
local macro_rules | `(tactic| array_mem_dec) => `(tactic| first
  | ((with_reducible apply LP.sg_s); assumption; array_mem_dec)
  | ((with_reducible apply LP.sg_f); assumption; array_mem_dec; array_mem_dec)
  | ((with_reducible apply LP.sg_l); assumption; array_mem_dec; array_mem_dec)
  | ((with_reducible apply LP.sg_ne); assumption; array_mem_dec)
  | ((with_reducible apply LP.sg_ne'); assumption; array_mem_dec)
  | ((with_reducible apply LS.se_q); array_mem_dec)
  | ((with_reducible apply LS.se_u); array_mem_dec)
  | ((with_reducible apply LP.sg_no); assumption; array_mem_dec; array_mem_dec))
local macro_rules | `(tactic| array_get_dec) => `(tactic| first
  | ((with_reducible apply LS.rne_same); exact rfl)
  | ((with_reducible apply LS.req_same); exact rfl)
  | (with_reducible apply LS.trevl)
  | (with_reducible apply LS.irng3)
  | (with_reducible apply LS.risn_b)
  | ((with_reducible apply LS.isiT_n); array_mem_dec)
  | ((with_reducible apply LS.isiT_b); array_mem_dec))
local macro_rules | `(tactic| array_get_dec) => `(tactic| first
  | (with_reducible apply LS.tcalle)
  | (with_reducible apply LS.tcalls))
local macro_rules | `(tactic| array_get_dec) => `(tactic| first
  | (with_reducible apply LS.trg2)
  | (with_reducible apply LS.k_g2))

section
variable {P : Program} {w : World} {K : PySem.W.Frag} {mg : Str → Option Value} {base : Heap}

def sp_check_number : Sp := fun vs H Q _ => ∃ n c : Int, vs = [.int n, .int c] ∧ 0 ≤ n ∧ n < c ∧ Q .non H
def sp_check_size : Sp := fun vs H Q _ => ∃ n : Int, vs = [.int n] ∧ 1 ≤ n ∧ n ≤ 200 ∧ Q .non H
theorem pow_lt {n i : Nat} (hn : n ≤ 200) : ((n : Int) + 1) ^ i < 2 ^ (8 * i + 1) := by
  induction i with
  | zero => rw [Int.pow_zero]; decide
  | succ i ih =>
    have h0 : (0 : Int) ≤ ((n : Int) + 1) ^ i := Int.le_of_lt (Int.pow_pos (by omega))
    rw [Int.pow_succ, show 8 * (i + 1) + 1 = (8 * i + 1) + 8 by omega, Int.pow_add]
    have h1 : ((n : Int) + 1) ^ i * ((n : Int) + 1) ≤ ((n : Int) + 1) ^ i * 2 ^ 8 := Int.mul_le_mul_of_nonneg_left (by omega) h0
    have h2 : ((n : Int) + 1) ^ i * 2 ^ 8 < 2 ^ (8 * i + 1) * 2 ^ 8 := Int.mul_lt_mul_of_pos_right ih (by decide)
    omega
def sp_count_pairs : Sp := fun vs H Q _ => ∃ n : Nat, vs = [.int n] ∧ 1 ≤ n ∧ n ≤ 200 ∧ Q (.int (((n : Int) + 1) ^ (n - 1))) H
theorem small_log {n : Nat} (hn : n ≤ 200) : ((n : Int) + 1).natAbs.log2 < 9 := log_lt (k := 8) (by omega) (by omega)
def sp_code_bases : Sp := fun vs H Q _ => ∃ n : Nat, vs = [.int n] ∧ 1 ≤ n ∧ n ≤ 200 ∧ ∀ (H' : Hp) (p : Addr), Same H H' → H p = none → H' p = some (.lst ((List.replicate (n - 1) ((n : Int) + 1)).map V.int)) → Q (.ref p) H'
theorem ok_code_bases (e : Env K mg) : FnOk P w K mg base CX0 1 e.a_code_bases e.d_code_bases ["size"] (sp_code_bases) := by
  refine Fun.ok e.f_code_bases sc_code_bases (fun vs H Q E h => ?_) (fun cdv A outer s H vs Q E hr h => ?_)
  · obtain ⟨n, rfl, _⟩ := h; rfl
  · obtain ⟨n, rfl, h0, h1, k⟩ := h
    refine ⟨_, (pss_one (ps_ret (pe_op op_rep (pe_lst (pa_cons (pe_op op_add (pv 0) pe_int) pa_nil)) (pe_op op_sub (pv 0) pe_int)))), ?_⟩
    repeat array_get_dec
    refine LS.k_lst (by array_mem_dec) fun l H_l n_l s_l h_l => ?_
    repeat array_get_dec
    rw [show (n : Int) - 1 = ((n - 1 : Nat) : Int) by omega]
    refine LS.rrep1 (n := n - 1) h_l (by omega) fun q H2 nq s2 hq => ?_
    rw [show List.replicate (n - 1) (V.int ((n : Int) + 1)) = (List.replicate (n - 1) ((n : Int) + 1)).map V.int by rw [List.map_replicate]] at hq
    exact k H2 q (s_l.trans s2) (s_l.free nq) hq
def sp_digits_of : Sp := fun vs H Q _ => ∃ (b : Addr) (N : Int) (ds : List Int), vs = [.int (val N ds), .ref b] ∧ H b = some (.lst ((List.replicate ds.length N).map V.int)) ∧ 0 < N ∧ N < 1000 ∧ ds.length ≤ 1000 ∧ (∀ d ∈ ds, 0 ≤ d ∧ d < N) ∧ ∀ (H' : Hp) (p : Addr), Same H H' → H p = none → H' p = some (.lst (ds.map V.int)) → Q (.ref p) H'
theorem rep_rev {α : Type} (n : Nat) (x : α) : (List.replicate n x).reverse = List.replicate n x := List.reverse_replicate ..
def sp_number_with : Sp := fun vs H Q _ => ∃ (a b : Addr) (N : Nat) (ds : List Int), vs = [.ref a, .ref b] ∧ H a = some (.lst (ds.map V.int)) ∧ H b = some (.lst ((List.replicate ds.length ((N : Int) + 1)).map V.int)) ∧ N ≤ 200 ∧ ds.length ≤ 1000 ∧ (∀ d ∈ ds, 0 ≤ d ∧ d < (N : Int) + 1) ∧ ∀ H', Same H H' → Q (.int (val ((N : Int) + 1) ds)) H'
theorem val_log {N i : Nat} {ds : List Int} (hN : N ≤ 200) (h : ∀ d ∈ ds, 0 ≤ d ∧ d < (N : Int) + 1) : (val ((N : Int) + 1) ds).natAbs.log2 < 8 * ds.length + 2 := by
  have r := val_rg (show (0 : Int) < (N : Int) + 1 by omega) h
  have p := pow_lt (n := N) (i := ds.length) hN
  exact log_lt r.1 (by omega)
theorem ok_number_with (e : Env K mg) : FnOk P w K mg base CX0 1 e.a_number_with e.d_number_with ["digits", "bases"] (sp_number_with) := by
  refine Fun.ok e.f_number_with sc_number_with (fun vs H Q E h => ?_) (fun cdv A outer s H vs Q E hr h => ?_)
  · obtain ⟨a, b, N, ds, rfl, _⟩ := h; rfl
  · obtain ⟨a, b, N, ds, rfl, ha, hb, hN, hl, hd, k⟩ := h
    refine ⟨_, (pss_cons (ps_set (i := 2) sc_number_with.nd rfl (by first | exact Or.inl rfl | exact Or.inr rfl) pe_int)
      (pss_cons (ps_for PassesOwn.never rfl (pi_zip (by rfl) e.n_zip (pa_cons (pv 0) (pa_cons (pv 1) pa_nil))) (pg_tup (by rfl) (pgs_cons (pg_name (i := 3) sc_number_with.nd rfl (by first | exact Or.inl rfl | exact Or.inr rfl)) (pgs_cons (pg_name (i := 4) sc_number_with.nd rfl (by first | exact Or.inl rfl | exact Or.inr rfl)) pgs_nil)))
      (pss_one (ps_set (i := 2) sc_number_with.nd rfl (by first | exact Or.inl rfl | exact Or.inr rfl) (pe_op op_add (pe_op op_mulW (pv 2) (pv 4)) (pv 3)))))
      (pss_one (ps_ret (pv 2))))), ?_⟩
    repeat array_get_dec
    refine LS.for_ (walk_zip (n := ds.length) (xs := ds.map V.int) (ys := (List.replicate ds.length ((N : Int) + 1)).map V.int) (by rw [List.length_map, List.length_map, List.length_replicate]; omega)) (fun i σ H' => ∃ v3 v4 : Option V, Same H H' ∧ σ = [some (.ref a), some (.ref b), some (.int (val ((N : Int) + 1) (ds.take i))), v3, v4])
      ⟨_, _, Same.refl _, rfl⟩ (fun i σ H' hi ⟨_, _, h, _⟩ => ⟨SqL.of (h _ _ ha), SqL.of (h _ _ hb)⟩) ?_ ?_
    · rintro i x σ H3 H4 hi ⟨v3, v4, s3, rfl⟩ y
      obtain ⟨T, y1, y2, rfl, nT, s4, hT, hy1, hy2⟩ := LS.ypair y
      obtain ⟨d, hdd, rfl⟩ := at_int hy1
      rw [List.getElem?_map, List.getElem?_replicate, if_pos hi] at hy2
      cases hy2
      repeat array_get_dec
      refine LS.ri (by
        have a := val_log (i := i) hN (ds := ds.take i) fun d hx => hd d (List.mem_of_mem_take hx)
        have b := small_log hN
        rw [List.length_take] at a
        show _ + _ < 1000000
        omega) ?_
      repeat array_get_dec
      exact ⟨_, _, s3.trans s4, by rw [List.take_add_one, hdd, Option.toList_some, val_snoc]; rfl⟩
    · rintro σ H3 ⟨v3, v4, s3, rfl⟩
      repeat array_get_dec
      rw [List.take_length]
      exact k H3 s3
end
end LP

namespace LP
open PySem L2 LT LG LQ LH LC LX LR
local macro_rules | `(tactic| array_mem_dec) => `(tactic| first
  | assumption
  | ((with_reducible apply LS.hp_s); assumption; array_mem_dec)
  | ((with_reducible apply LS.hp_f); assumption; array_mem_dec; array_mem_dec)
  | ((with_reducible apply LS.hp_t); assumption; array_mem_dec; array_mem_dec)
  | ((with_reducible apply LS.hp_l); assumption; array_mem_dec; array_mem_dec)
  | ((with_reducible apply LS.sq_o); array_mem_dec)
  | ((with_reducible apply LS.sq_s); assumption; array_mem_dec)
  | ((with_reducible apply LS.sq_f); assumption; array_mem_dec; array_mem_dec)
  | ((with_reducible apply LS.sq_t); assumption; array_mem_dec; array_mem_dec)
  | ((with_reducible apply LS.sq_l); assumption; array_mem_dec; array_mem_dec)
  | ((with_reducible apply LS.tu_o); array_mem_dec)
  | ((with_reducible apply LS.tu_s); assumption; array_mem_dec)
  | ((with_reducible apply LS.tu_f); assumption; array_mem_dec; array_mem_dec)
  | ((with_reducible apply LS.tu_t); assumption; array_mem_dec; array_mem_dec)
  | ((with_reducible apply LS.tu_l); assumption; array_mem_dec; array_mem_dec)
  | ((with_reducible apply LS.se_l); array_mem_dec)
  | ((with_reducible apply LS.se_t); array_mem_dec)
  | ((with_reducible apply LS.se_s); assumption; array_mem_dec)
  | ((with_reducible apply LS.se_f); assumption; array_mem_dec; array_mem_dec)
  | ((with_reducible apply LS.se_tt); assumption; array_mem_dec; array_mem_dec)
  | ((with_reducible exact Same.refl _))
  | ((with_reducible apply LS.sm_s); assumption; array_mem_dec)
  | ((with_reducible apply LS.sm_f); assumption; array_mem_dec; array_mem_dec)
  | ((with_reducible exact Fr.refl _ _))
  | ((with_reducible apply LS.fr_b); assumption; array_mem_dec)
  | ((with_reducible apply LS.fr_s); assumption; array_mem_dec)
  | ((with_reducible apply LS.fr_n); assumption; array_mem_dec; array_mem_dec)
  | ((with_reducible apply LS.fr_t); assumption; array_mem_dec)
  | ((with_reducible apply LS.no_s); assumption; array_mem_dec)
  | ((with_reducible apply LS.no_f); assumption; array_mem_dec; array_mem_dec)
  | ((with_reducible apply LS.no_t); assumption; array_mem_dec)
  | ((with_reducible apply LS.no_l); assumption; assumption)
  | ((with_reducible apply Ne.symm); assumption)
  | ((with_reducible apply LS.ne_a); assumption; array_mem_dec)
  | ((with_reducible apply LS.ne_b); assumption; array_mem_dec)
  | ((with_reducible apply LS.ne_ap); assumption)
  | ((with_reducible apply LS.ne_il); assumption; array_mem_dec)
  | ((with_reducible apply LS.ne_li); assumption; array_mem_dec)
  | ((with_reducible apply LS.ne_lt); assumption; assumption)
  | ((with_reducible apply LS.ne_tl); assumption; assumption)
  | ((with_reducible apply LS.ne_rl); assumption; array_mem_dec)
  | ((with_reducible apply LS.rl_t); assumption)
  | ((with_reducible apply LS.rl_s); assumption; array_mem_dec)
  | ((with_reducible apply LS.rl_f); assumption; array_mem_dec; array_mem_dec)
  | ((with_reducible apply LS.rl_l); assumption; array_mem_dec; array_mem_dec)
  | ((with_reducible apply LS.ap_new); assumption; assumption; array_mem_dec)
  | ((with_reducible apply LS.ap_t); assumption; array_mem_dec; array_mem_dec)
  | ((with_reducible apply LS.ap_s); assumption; array_mem_dec; array_mem_dec)
  | ((with_reducible apply LS.ap_f); assumption; array_mem_dec; array_mem_dec; array_mem_dec)
  | ((with_reducible apply LS.ap_l); assumption; array_mem_dec; array_mem_dec; array_mem_dec)
  | (with_reducible apply LS.ni_nil)
  | ((with_reducible apply LS.ni_cons); array_mem_dec; array_mem_dec)
  | (with_reducible apply LS.trk_nil)
  | ((with_reducible apply LS.trk_cons); array_mem_dec; array_mem_dec)
  | (with_reducible apply LS.al_nil)
  | ((with_reducible apply LS.al_cons); array_mem_dec; array_mem_dec)
  | (with_reducible apply LS.mem_hd)
  | ((with_reducible apply LS.mem_tl); array_mem_dec)
  | ((with_reducible apply LS.fl_refl); array_mem_dec)
  | ((with_reducible apply LS.fl_l); assumption; array_mem_dec)
  | ((with_reducible apply LS.fl_lm); assumption; array_mem_dec; array_mem_dec)
  | (with_reducible apply LS.sub_nil)
  | ((with_reducible apply LS.sub_cons); array_mem_dec; array_mem_dec)
  | ((with_reducible apply LS.fl_s); assumption; array_mem_dec)
  | ((with_reducible apply LS.fl_m); assumption; array_mem_dec; array_mem_dec; array_mem_dec)
  | ((with_reducible apply LS.fl_n); assumption; array_mem_dec; array_mem_dec; array_mem_dec)
  | ((with_reducible apply LS.rt_refl); array_mem_dec)
  | ((with_reducible apply LS.rt_t); assumption; array_mem_dec)
  | ((with_reducible apply LS.rt_s); assumption; array_mem_dec)
  | ((with_reducible apply LS.rt_f); assumption; array_mem_dec; array_mem_dec; array_mem_dec)
  | ((with_reducible apply LS.sz); (first | decide | (simp only [List.length_append, List.length_map, List.length_cons, List.length_nil, List.length_replicate]; omega)))
  | ((with_reducible apply LS.szl); (first | decide | (simp only [List.length_append, List.length_map, List.length_cons, List.length_nil, List.length_replicate]; omega))))
local macro_rules | `(tactic| array_get_dec) => `(tactic| first
  | ((with_reducible apply LS.var); exact rfl)
  | (with_reducible apply LS.con)
  | (with_reducible apply LS.op)
  | (with_reducible apply LS.ri0)
  | (with_reducible apply LS.tseq)
  | (with_reducible apply LS.tasg)
  | (with_reducible apply LS.gname)
  | (with_reducible apply LS.tcons)
  | (with_reducible apply LS.tnil)
  | (with_reducible apply LS.tcb)
  | (with_reducible apply LS.tcall)
  | (with_reducible apply LS.ttest)
  | (with_reducible apply LS.k_b)
  | (with_reducible apply LS.tb)
  | (with_reducible apply LS.tifs)
  | (with_reducible apply LS.ift)
  | (with_reducible apply LS.iff_)
  | (with_reducible apply LS.ifnt)
  | (with_reducible apply LS.ifnf)
  | (with_reducible apply LS.tnext)
  | (with_reducible apply LS.tdrop)
  | (with_reducible apply LS.tret)
  | (with_reducible apply LS.tretn)
  | (with_reducible apply LS.un)
  | (with_reducible apply LS.ru)
  | (with_reducible apply LS.tyes)
  | (with_reducible apply LS.tand)
  | (with_reducible apply LS.tor)
  | (with_reducible apply LS.tnot)
  | (with_reducible apply LS.tif)
  | (with_reducible apply LS.tandv)
  | (with_reducible apply LS.k_av)
  | (with_reducible apply LS.torv)
  | (with_reducible apply LS.k_ov)
  | (with_reducible apply LS.tnotv)
  | (with_reducible apply LS.k_nv)
  | (with_reducible apply LS.tchain)
  | (with_reducible apply LS.k_ch)
  | (with_reducible apply LS.req_i)
  | (with_reducible apply LS.rne_i)
  | (with_reducible apply LS.req_s)
  | (with_reducible apply LS.rne_s)
  | (with_reducible apply LS.req_b)
  | (with_reducible apply LS.rne_b)
  | ((with_reducible apply LS.rin_i); array_mem_dec)
  | ((with_reducible apply LS.rni_i); array_mem_dec)
  | ((with_reducible apply LS.rlen_li); array_mem_dec)
  | ((with_reducible apply LS.rlen_ls); array_mem_dec)
  | ((with_reducible apply LS.rlen_l); array_mem_dec)
  | ((with_reducible apply LS.rlen_Ei); array_mem_dec)
  | ((with_reducible apply LS.rlen_E); array_mem_dec)
  | ((with_reducible apply LS.rlen_t); array_mem_dec)
  | ((with_reducible apply LS.rixl); array_mem_dec; exact rfl)
  | ((with_reducible apply LS.rixt); array_mem_dec; exact rfl)
  | (with_reducible apply LS.isi_int_int)
  | (with_reducible apply LS.isi_int_bool)
  | (with_reducible apply LS.isi_int_str)
  | (with_reducible apply LS.isi_str_int)
  | (with_reducible apply LS.isi_str_bool)
  | (with_reducible apply LS.isi_str_str)
  | (with_reducible apply LS.isi_bool_int)
  | (with_reducible apply LS.isi_bool_bool)
  | (with_reducible apply LS.isi_bool_str)
  | (with_reducible apply LS.isi_non_int)
  | (with_reducible apply LS.isi_non_bool)
  | (with_reducible apply LS.isi_non_str)
  | ((with_reducible apply LS.isi_list_int); array_mem_dec)
  | ((with_reducible apply LS.isi_list_bool); array_mem_dec)
  | ((with_reducible apply LS.isi_list_str); array_mem_dec)
  | ((with_reducible apply LS.isi_list_list); array_mem_dec)
  | ((with_reducible apply LS.isi_list_tuple); array_mem_dec)
  | ((with_reducible apply LS.isi_tuple_int); array_mem_dec)
  | ((with_reducible apply LS.isi_tuple_bool); array_mem_dec)
  | ((with_reducible apply LS.isi_tuple_str); array_mem_dec)
  | ((with_reducible apply LS.isi_tuple_list); array_mem_dec)
  | ((with_reducible apply LS.isi_tuple_tuple); array_mem_dec)
  | ((with_reducible apply LS.isiT_i); array_mem_dec)
  | ((with_reducible apply LS.isiT_s); array_mem_dec)
  | ((with_reducible apply LS.isiT_E); array_mem_dec; array_mem_dec)
  | (with_reducible apply LS.tfld)
  | ((with_reducible apply LS.k_fl); array_mem_dec; assumption; assumption; exact rfl)
  | (with_reducible apply LS.tmeth)
  | ((with_reducible apply LS.k_me); array_mem_dec; exact rfl)
  | (with_reducible apply LS.tmake)
  | (with_reducible apply LS.tsfld)
  | (with_reducible apply LS.tprop)
  | ((with_reducible apply LS.k_pr); array_mem_dec)
  | ((with_reducible apply LS.rlen_own); array_mem_dec)
  | (with_reducible apply LS.rabs)
  | (with_reducible apply LS.rmin2)
  | (with_reducible apply LS.rmax2)
  | (with_reducible apply LS.tsl)
  | (with_reducible apply LS.tthen)
  | (with_reducible apply LS.tstep)
  | (with_reducible apply LS.tnop)
  | (with_reducible apply LS.tpart)
  | (with_reducible apply LS.k_part)
  | (with_reducible apply LS.ttup)
  | (with_reducible apply LS.tlst)
  | (with_reducible apply LS.tbm)
  | (with_reducible apply LS.tbm0)
  | ((with_reducible apply LS.ty_l); array_mem_dec)
  | (with_reducible apply LS.tpar)
  | (with_reducible apply LS.tfor)
  | (with_reducible apply LS.tlc)
  | (with_reducible apply LS.ilist)
  | ((with_reducible apply LS.k_il); array_mem_dec)
  | (with_reducible apply LS.itup)
  | ((with_reducible apply LS.k_it); array_mem_dec)
  | (with_reducible apply LS.istr)
  | (with_reducible apply LS.k_is)
  | (with_reducible apply LS.irng1)
  | ((with_reducible apply LS.k_r1n); omega)
  | ((with_reducible apply LS.k_r1); (first | omega | decide); (first | omega | decide))
  | (with_reducible apply LS.irng2)
  | ((with_reducible apply LS.k_r2); (first | omega | decide); (first | omega | decide); (first | omega | decide); (first | omega | decide))
  | (with_reducible apply LS.ienum)
  | ((with_reducible apply LS.k_en); array_mem_dec)
  | (with_reducible apply LS.izip)
  | ((with_reducible apply LS.k_zip); array_mem_dec; array_mem_dec)
  | (with_reducible apply LS.tlstrg)
  | (with_reducible apply LS.trg1)
  | (with_reducible apply LS.k_g1)
  | (with_reducible apply LS.risn_i)
  | (with_reducible apply LS.risn_s)
  | (with_reducible apply LS.risn_n)
  | (with_reducible apply LS.rnotn_i)
  | (with_reducible apply LS.rnotn_n)
  | (with_reducible apply LS.rint_b)
  | (with_reducible apply LS.rint_i)
  | (with_reducible apply LS.tm0)
  | (with_reducible apply LS.tm1)
  | (with_reducible apply LS.is_str)
  | (with_reducible apply LS.ex_s0)
  | (with_reducible apply LS.ex_int_b)
  | (with_reducible apply LS.k_par)
  | (with_reducible apply LS.tpar3)
  | (with_reducible apply LS.k_par3)
  | ((with_reducible apply LS.taug); exact rfl)
  | (with_reducible apply LS.ipi)
  | ((with_reducible apply LS.gtup); array_mem_dec; exact rfl)
  | ((with_reducible apply LS.gunl); array_mem_dec; exact rfl)
  | (with_reducible apply LS.gnil)
  | (with_reducible apply LS.gcons)
  | (with_reducible apply LS.gsub)
  | ((with_reducible apply LS.ri); first | omega | decide | assumption | exact ⟨by decide, by decide, by decide⟩ | exact .inl ⟨by decide, by decide⟩ | exact .inr ⟨by decide, by decide⟩ | exact .inl ⟨by omega, by omega⟩ | exact .inr ⟨by omega, by omega⟩)
  | (with_reducible apply LS.ex_ss)
  | (with_reducible apply LS.ex_s1)
  | (with_reducible apply LS.ex_i1)
  | (with_reducible apply LS.and_rfl)
  | (with_reducible apply LS.and_tr)
  | (with_reducible apply LS.is_non))
local macro_rules | `(tactic| array_mem_dec) => `(tactic| first
  | ((with_reducible apply LP.sg_s); assumption; array_mem_dec)
  | ((with_reducible apply LP.sg_f); assumption; array_mem_dec; array_mem_dec)
  | ((with_reducible apply LP.sg_l); assumption; array_mem_dec; array_mem_dec)
  | ((with_reducible apply LP.sg_ne); assumption; array_mem_dec)
  | ((with_reducible apply LP.sg_ne'); assumption; array_mem_dec)
  | ((with_reducible apply LS.se_q); array_mem_dec)
  | ((with_reducible apply LS.se_u); array_mem_dec)
  | ((with_reducible apply LP.sg_no); assumption; array_mem_dec; array_mem_dec))
local macro_rules | `(tactic| array_get_dec) => `(tactic| first
  | ((with_reducible apply LS.rne_same); exact rfl)
  | ((with_reducible apply LS.req_same); exact rfl)
  | (with_reducible apply LS.trevl)
  | (with_reducible apply LS.irng3)
  | (with_reducible apply LS.risn_b)
  | ((with_reducible apply LS.isiT_n); array_mem_dec)
  | ((with_reducible apply LS.isiT_b); array_mem_dec))
local macro_rules | `(tactic| array_get_dec) => `(tactic| first
  | (with_reducible apply LS.tcalle)
  | (with_reducible apply LS.tcalls))
local macro_rules | `(tactic| array_get_dec) => `(tactic| first
  | (with_reducible apply LS.trg2)
  | (with_reducible apply LS.k_g2))

section
variable {P : Program} {w : World} {K : PySem.W.Frag} {mg : Str → Option Value} {base : Heap}

theorem cars_pl {w : List Int} (p : Pk w) (h : w.length ≤ 200) : Pl (cars w) := ⟨cars_nd p, fun c hc => by
    have := cars_rg p c hc
    have e : (G30 : Int) = 1000000000000000000000000000000 := rfl
    rw [e]
    omega, by rw [cars_len]; exact h⟩
def sp_pair_of : Sp := fun vs H Q _ => ∃ (a : Addr) (w : List Int), vs = [.ref a] ∧ H a = some (.lst (w.map V.int)) ∧ 1 ≤ w.length ∧ w.length ≤ 200 ∧ Pk w ∧ ∀ (H' : Hp) (t q p : Addr) (tk : List Int), Same H H' → H t = none → H q = none → H p = none → H' t = some (.tup [.ref q, .ref p]) → H' q = some (.lst (tk.map V.int)) → H' p = some (.lst ((cars w).map V.int)) → Q (.ref t) H'
/-- the offsets of a parking function -/
def ofs (w : List Int) (i : Nat) : List Int := (List.range i).map fun s : Nat => (w[((((cars w)[s]?).getD 0)).toNat]?).getD 0 - ((s : Int) + 1 - ((sLen (cars w) s : Nat) : Int))
theorem firsts_get {fl : List Int} {i : Nat} {v : V} (h : ((firsts fl fl.length).map V.int)[i]? = some v) : i < fl.length ∧ v = .int ((i : Int) + 1 - ((sLen fl i : Nat) : Int)) := by
  unfold firsts at h
  rw [List.getElem?_map, List.getElem?_map] at h
  rcases Nat.lt_or_ge i fl.length with q | q
  · rw [List.getElem?_range q] at h
    cases h
    exact ⟨q, rfl⟩
  · rw [List.getElem?_eq_none (by simpa using q)] at h
    cases h
theorem firsts_len (fl : List Int) : (firsts fl fl.length).length = fl.length := by unfold firsts; rw [List.length_map, List.length_range]
theorem ok_pair_of (e : Env K mg) : FnOk P w K mg base CX0 7 e.a_pair_of e.d_pair_of ["wishes"] (sp_pair_of) := by
  refine Fun.ok e.f_pair_of sc_pair_of (fun vs H Q E h => ?_) (fun cdv A outer s H vs Q E hr h => ?_)
  · obtain ⟨a, w, rfl, _⟩ := h; rfl
  · obtain ⟨a, w, rfl, ha, h1, h2, pk, k⟩ := h
    refine ⟨_, (pss_cons (ps_set (i := 1) sc_pair_of.nd rfl (by first | exact Or.inl rfl | exact Or.inr rfl) (pe_call ((ok_cars_parked e).mono (by decide)) hr rfl e.g_cars_parked e.f_cars_parked.kp e.b_cars_parked .nil pass0 (pa_cons (pv 0) pa_nil)))
      (pss_cons (ps_setLc (i := 2) (own := [("car", 3), ("first", 4)]) rfl sc_pair_of.nd rfl rfl (sw_true rfl rfl rfl (by decide +kernel)) (pi_zip (by rfl) e.n_zip (pa_cons (pv 1) (pa_cons (pe_call ((ok_first_fills e).mono (by decide)) hr rfl e.g_first_fills e.f_first_fills.kp e.b_first_fills .nil pass0 (pa_cons (pv 1) pa_nil)) pa_nil))) (blkOk_by (N := ["wishes", "fills", "offsets", "car", "first"]) (sc := defScope s_pair_of) (by decide +kernel)) (fun _ _ _ _ _ => (show PG _ _ (gTup K 2 _) from pg_tup (by rfl) (pgs_cons (pg_name (i := 3) sc_pair_of.nd rfl (by first | exact Or.inl rfl | exact Or.inr rfl)) (pgs_cons (pg_name (i := 4) sc_pair_of.nd rfl (by first | exact Or.inl rfl | exact Or.inr rfl)) pgs_nil)))) (fun _ _ _ _ _ => pts_nil) (fun _ _ _ _ _ => (pe_op op_sub (pe_ix (show IxR _ (rIxL K) from ix_list) (pv 0) (pv 3) (fun _ _ => rfl)) (pv 4))))
      (pss_one (ps_ret (pe_tup (pa_cons (pe_call ((ok_takes_by e).mono (by decide)) hr rfl e.g_takes_by e.f_takes_by.kp e.b_takes_by .nil pass0 (pa_cons (pv 1) (pa_cons (pv 2) pa_nil))) (pa_cons (pv 1) pa_nil))))))), ?_⟩
    have cl := cars_len w
    have pl := cars_pl pk h2
    repeat array_get_dec
    refine ⟨a, w, rfl, LS.se_l ha, h1, h2, pk, fun H1 p s1 np hp => ?_⟩
    have ha1 := s1 _ _ ha
    repeat array_get_dec
    refine ⟨p, cars w, rfl, hp, pl, fun H2 f s2 nf hf => ?_⟩
    have hp2 := s2 _ _ hp
    have ha2 := s2 _ _ ha1
    have s02 := s1.trans s2
    repeat array_get_dec
    refine LS.comp (walk_zip (n := (cars w).length) (xs := (cars w).map V.int) (ys := (firsts (cars w) (cars w).length).map V.int) (by rw [List.length_map, List.length_map, firsts_len]; omega)) (fun D i acc H' => Same H2 H' ∧ acc = (ofs w i).map V.int) (fun D H' nD s' hD => ⟨s', rfl⟩) (fun D j acc H' hi nD hD h => (by obtain ⟨h, _⟩ := h; exact ⟨SqL.of (h _ _ hp2), SqL.of (h _ _ hf)⟩)) ?_ ?_
    · rintro D i acc x H3 H4 nD hi hl2 hD ⟨s3, rfl⟩ y
      obtain ⟨T, y1, y2, rfl, nT, s4, hT, hy1, hy2⟩ := LS.ypair y
      obtain ⟨c, hc, rfl⟩ := at_int hy1
      obtain ⟨_, rfl⟩ := firsts_get hy2
      obtain ⟨x, hx, _, _⟩ := wish_in pk hc
      have rc := cars_rg pk c (List.mem_of_getElem? hc)
      have ha4 := s4 _ _ (s3 _ _ ha2)
      repeat array_get_dec
      refine ⟨rfl, ?_⟩
      repeat array_get_dec
      refine LS.rixl_n (SqL.of ha4) (int_at hx) (by omega) ?_
      repeat array_get_dec
      exact LS.k_lc (acc := (ofs w i).map V.int) (s4 _ _ hD) hl2 (by omega) fun H6 f6 h6 => ⟨LS.Same.fr_new (s3.trans s4) f6 nD, by unfold ofs; rw [List.range_succ, List.map_append, List.map_append, List.map_cons, hc]; show _ = _ ++ [V.int ((w[c.toNat]?).getD 0 - _)]; rw [hx]; rfl⟩
    · rintro D acc H3 nD hD hl2 ⟨s3, rfl⟩
      have s03 := s02.trans s3
      have hp3 := s3 _ _ hp2
      have ol : (ofs w (cars w).length).length = (cars w).length := by unfold ofs; rw [List.length_map, List.length_range]
      repeat array_get_dec
      refine ⟨p, D, cars w, ofs w (cars w).length, rfl, LS.se_l hp3, pl, LS.se_l hD, ol, fun i x hx => ?_, fun H4 q tk s4 nq tkl hq => ?_⟩
      · unfold ofs at hx
        have hi := (List.getElem?_eq_some_iff.mp hx).1
        rw [List.length_map, List.length_range] at hi
        rw [List.getElem?_map, List.getElem?_range hi] at hx
        replace hx := Option.some.inj hx
        dsimp only at hx
        obtain ⟨c, hc⟩ : ∃ c, (cars w)[i]? = some c := ⟨_, List.getElem?_eq_getElem hi⟩
        obtain ⟨y, hy, y1, y2⟩ := wish_in pk hc
        rw [hc] at hx
        have e : (w[((some c).getD 0).toNat]?).getD 0 = y := by show (w[c.toNat]?).getD 0 = y; rw [hy]; rfl
        rw [e] at hx
        subst hx
        have := sLen_le (cars w) i
        omega
      repeat array_get_dec
      refine LS.k_tup (by array_mem_dec) fun t H_t n_t s_t h_t => ?_
      repeat array_get_dec
      have s04 := s03.trans s4
      exact k H_t t q p tk (s04.trans s_t) (s04.free n_t) (s03.free nq) np h_t (s_t _ _ hq) (s_t _ _ (s4 _ _ hp3))
def codeOf (n : Nat) (w : List Int) : List Int := (w.drop 1).map fun x => (x - (w[0]?).getD 0) % ((n : Int) + 1)
theorem codeOf_len {n : Nat} {w : List Int} (h : w.length = n) : (codeOf n w).length = n - 1 := by unfold codeOf; rw [List.length_map, List.length_drop, h]
theorem codeOf_rg {n : Nat} {w : List Int} : ∀ d ∈ codeOf n w, 0 ≤ d ∧ d < (n : Int) + 1 := fun d hd => by
  obtain ⟨x, _, rfl⟩ := List.mem_map.mp hd
  exact ⟨Int.emod_nonneg _ (by omega), Int.emod_lt_of_pos _ (by omega)⟩
def sp_wishes_index : Sp := fun vs H Q _ => ∃ (a : Addr) (w : List Int), vs = [.ref a] ∧ H a = some (.lst (w.map V.int)) ∧ 1 ≤ w.length ∧ w.length ≤ 200 ∧ Pk w ∧ ∀ H', Same H H' → Q (.int (val ((w.length : Int) + 1) (codeOf w.length w))) H'
theorem ok_wishes_index (e : Env K mg) : FnOk P w K mg base CX0 5 e.a_wishes_index e.d_wishes_index ["wishes"] (sp_wishes_index) := by
  refine Fun.ok e.f_wishes_index sc_wishes_index (fun vs H Q E h => ?_) (fun cdv A outer s H vs Q E hr h => ?_)
  · obtain ⟨a, w, rfl, _⟩ := h; rfl
  · obtain ⟨a, w, rfl, ha, h1, h2, pk, k⟩ := h
    refine ⟨_, (pss_cons (ps_expr (pe_call ((ok_check_wishes e).mono (by decide)) hr rfl e.g_check_wishes e.f_check_wishes.kp e.b_check_wishes .nil pass0 (pa_cons (pv 0) pa_nil)))
      (pss_cons (ps_set (i := 1) sc_wishes_index.nd rfl (by first | exact Or.inl rfl | exact Or.inr rfl) (pe_callB LS.call_len (by rfl) e.n_len PySem.boot_len (pa_cons (pv 0) pa_nil)))
      (pss_cons (ps_setLc (i := 2) (own := [("wish", 3)]) rfl sc_wishes_index.nd rfl rfl (sw_true rfl rfl rfl (by decide +kernel)) (pi_list (pe_slice sl_list (pv 0) (po_some pe_int) po_none)) (blkOk_by (N := ["wishes", "size", "code", "wish"]) (sc := defScope s_wishes_index) (by decide +kernel)) (fun _ _ _ _ _ => (pg_name (i := 3) sc_wishes_index.nd rfl (by first | exact Or.inl rfl | exact Or.inr rfl))) (fun _ _ _ _ _ => pts_nil) (fun _ _ _ _ _ => (pe_op op_mod (pe_op op_sub (pv 3) (pe_ix (show IxR _ (rIxL K) from ix_list) (pv 0) pe_int (fun _ _ => rfl))) (pe_op op_add (pv 1) pe_int))))
      (pss_one (ps_ret (pe_call ((ok_number_with e).mono (by decide)) hr rfl e.g_number_with e.f_number_with.kp e.b_number_with .nil pass0 (pa_cons (pv 2) (pa_cons (pe_call ((ok_code_bases e).mono (by decide)) hr rfl e.g_code_bases e.f_code_bases.kp e.b_code_bases .nil pass0 (pa_cons (pv 1) pa_nil)) pa_nil)))))))), ?_⟩
    obtain ⟨w0, hw0⟩ : ∃ x, w[0]? = some x := ⟨_, List.getElem?_eq_getElem (by omega)⟩
    repeat array_get_dec
    refine ⟨a, w, rfl, LS.se_l ha, h1, h2, pk, fun H1 s1 => ?_⟩
    have ha1 := s1 _ _ ha
    repeat array_get_dec
    refine LS.rsll (SqL.of ha1) fun q H2 nq s2 hq => ?_
    rw [show (1 : Int) = ((1 : Nat) : Int) from rfl, LS.cut_from, ← List.map_drop] at hq
    have ha2 := s2 _ _ ha1
    repeat array_get_dec
    refine LS.comp (walk_list (xs := (w.drop 1).map V.int)) (fun D i acc H' => Same H2 H' ∧ acc = ((codeOf w.length w).take i).map V.int) (fun D H' nD s' hD => ⟨s', by rw [List.take_zero]; rfl⟩) (fun D j acc H' hi nD hD h => (by obtain ⟨h, _⟩ := h; exact SqL.of (h _ _ hq))) ?_ ?_
    · rintro D i acc x H3 H4 nD hi hl2 hD ⟨s3, rfl⟩ ⟨rfl, hx⟩
      obtain ⟨u, hu, rfl⟩ := at_int hx
      rw [List.length_map, List.length_drop] at hi
      have ha4 := s3 _ _ ha2
      repeat array_get_dec
      refine ⟨rfl, ?_⟩
      repeat array_get_dec
      refine LS.rixl_n (SqL.of ha4) (int_at hw0) rfl ?_
      repeat array_get_dec
      refine LS.k_lc (acc := ((codeOf w.length w).take i).map V.int) hD hl2 (by omega) fun H6 f6 h6 => ⟨LS.Same.fr_new s3 f6 nD, ?_⟩
      have : (codeOf w.length w)[i]? = some ((u - w0) % ((w.length : Int) + 1)) := by unfold codeOf; rw [List.getElem?_map, hu, hw0]; rfl
      rw [List.take_add_one, this, List.map_append]
      rfl
    · rintro D acc H3 nD hD hl2 ⟨s3, rfl⟩
      have cl := codeOf_len (n := w.length) (w := w) rfl
      rw [List.length_map, List.length_drop, ← cl, List.take_length] at hD
      repeat array_get_dec
      refine ⟨w.length, rfl, h1, h2, fun H4 b s4 nb hb => ?_⟩
      rw [← cl] at hb
      repeat array_get_dec
      refine ⟨D, b, w.length, codeOf w.length w, rfl, s4 _ _ hD, hb, h2, by omega, codeOf_rg, fun H5 s5 => ?_⟩
      exact k H5 (s1.trans (s2.trans (s3.trans (s4.trans s5))))
/-- the list that wishes_by starts from, t turns on -/
def stp (n : Nat) (w : List Int) (t : Nat) : List Int := row n w ((t : Int) - (w[0]?).getD 0)
theorem stp_0 {n : Nat} {w : List Int} (h : w.length = n) (h1 : 1 ≤ n) : (0 : Int) :: codeOf n w = stp n w 0 := by
  match w, h with
  | [], h => simp at h; omega
  | x :: r, _ =>
    show (0 : Int) :: (r.map fun y => (y - x) % ((n : Int) + 1)) = ((x + (((0 : Nat) : Int) - x)) % ((n : Int) + 1)) :: r.map fun y => (y + (((0 : Nat) : Int) - x)) % ((n : Int) + 1)
    congr 1
    · rw [show x + (((0 : Nat) : Int) - x) = 0 by omega, Int.zero_emod]
    · refine List.map_congr_left fun y _ => ?_
      congr 1; omega
theorem stp_s (n : Nat) (w : List Int) (t : Nat) : (stp n w t).map (fun x => (x + 1) % ((n : Int) + 1)) = stp n w (t + 1) := by
  unfold stp row
  rw [List.map_map]
  refine List.map_congr_left fun x _ => ?_
  show ((x + ((t : Int) - (w[0]?).getD 0)) % ((n : Int) + 1) + 1) % ((n : Int) + 1) = _
  rw [Int.emod_add_emod]
  congr 1; omega
theorem stp_row {n : Nat} {w : List Int} {t s : Nat} (h : ((t : Int) - (w[0]?).getD 0) % ((n : Int) + 1) = (s : Int) % ((n : Int) + 1)) : stp n w t = row n w s := row_add h
def sp_wishes_by : Sp := fun vs H Q _ => ∃ (n : Nat) (w : List Int) (s : Nat), vs = [.int n, .int (val ((n : Int) + 1) (codeOf n w))] ∧ w.length = n ∧ 1 ≤ n ∧ n ≤ 200 ∧ (∀ x ∈ w, 0 ≤ x ∧ x < (n : Int) + 1) ∧ s ≤ n ∧ Pk (row n w s) ∧ (∀ t : Nat, t ≤ n → Pk (row n w t) → t = s) ∧ ∀ (H' : Hp) (p : Addr), Same H H' → H p = none → H' p = some (.lst ((row n w s).map V.int)) → Q (.ref p) H'
end
end LP

namespace LP
open PySem L2 LT LG LQ LH LC LX LR
local macro_rules | `(tactic| array_mem_dec) => `(tactic| first
  | assumption
  | ((with_reducible apply LS.hp_s); assumption; array_mem_dec)
  | ((with_reducible apply LS.hp_f); assumption; array_mem_dec; array_mem_dec)
  | ((with_reducible apply LS.hp_t); assumption; array_mem_dec; array_mem_dec)
  | ((with_reducible apply LS.hp_l); assumption; array_mem_dec; array_mem_dec)
  | ((with_reducible apply LS.sq_o); array_mem_dec)
  | ((with_reducible apply LS.sq_s); assumption; array_mem_dec)
  | ((with_reducible apply LS.sq_f); assumption; array_mem_dec; array_mem_dec)
  | ((with_reducible apply LS.sq_t); assumption; array_mem_dec; array_mem_dec)
  | ((with_reducible apply LS.sq_l); assumption; array_mem_dec; array_mem_dec)
  | ((with_reducible apply LS.tu_o); array_mem_dec)
  | ((with_reducible apply LS.tu_s); assumption; array_mem_dec)
  | ((with_reducible apply LS.tu_f); assumption; array_mem_dec; array_mem_dec)
  | ((with_reducible apply LS.tu_t); assumption; array_mem_dec; array_mem_dec)
  | ((with_reducible apply LS.tu_l); assumption; array_mem_dec; array_mem_dec)
  | ((with_reducible apply LS.se_l); array_mem_dec)
  | ((with_reducible apply LS.se_t); array_mem_dec)
  | ((with_reducible apply LS.se_s); assumption; array_mem_dec)
  | ((with_reducible apply LS.se_f); assumption; array_mem_dec; array_mem_dec)
  | ((with_reducible apply LS.se_tt); assumption; array_mem_dec; array_mem_dec)
  | ((with_reducible exact Same.refl _))
  | ((with_reducible apply LS.sm_s); assumption; array_mem_dec)
  | ((with_reducible apply LS.sm_f); assumption; array_mem_dec; array_mem_dec)
  | ((with_reducible exact Fr.refl _ _))
  | ((with_reducible apply LS.fr_b); assumption; array_mem_dec)
  | ((with_reducible apply LS.fr_s); assumption; array_mem_dec)
  | ((with_reducible apply LS.fr_n); assumption; array_mem_dec; array_mem_dec)
  | ((with_reducible apply LS.fr_t); assumption; array_mem_dec)
  | ((with_reducible apply LS.no_s); assumption; array_mem_dec)
  | ((with_reducible apply LS.no_f); assumption; array_mem_dec; array_mem_dec)
  | ((with_reducible apply LS.no_t); assumption; array_mem_dec)
  | ((with_reducible apply LS.no_l); assumption; assumption)
  | ((with_reducible apply Ne.symm); assumption)
  | ((with_reducible apply LS.ne_a); assumption; array_mem_dec)
  | ((with_reducible apply LS.ne_b); assumption; array_mem_dec)
  | ((with_reducible apply LS.ne_ap); assumption)
  | ((with_reducible apply LS.ne_il); assumption; array_mem_dec)
  | ((with_reducible apply LS.ne_li); assumption; array_mem_dec)
  | ((with_reducible apply LS.ne_lt); assumption; assumption)
  | ((with_reducible apply LS.ne_tl); assumption; assumption)
  | ((with_reducible apply LS.ne_rl); assumption; array_mem_dec)
  | ((with_reducible apply LS.rl_t); assumption)
  | ((with_reducible apply LS.rl_s); assumption; array_mem_dec)
  | ((with_reducible apply LS.rl_f); assumption; array_mem_dec; array_mem_dec)
  | ((with_reducible apply LS.rl_l); assumption; array_mem_dec; array_mem_dec)
  | ((with_reducible apply LS.ap_new); assumption; assumption; array_mem_dec)
  | ((with_reducible apply LS.ap_t); assumption; array_mem_dec; array_mem_dec)
  | ((with_reducible apply LS.ap_s); assumption; array_mem_dec; array_mem_dec)
  | ((with_reducible apply LS.ap_f); assumption; array_mem_dec; array_mem_dec; array_mem_dec)
  | ((with_reducible apply LS.ap_l); assumption; array_mem_dec; array_mem_dec; array_mem_dec)
  | (with_reducible apply LS.ni_nil)
  | ((with_reducible apply LS.ni_cons); array_mem_dec; array_mem_dec)
  | (with_reducible apply LS.trk_nil)
  | ((with_reducible apply LS.trk_cons); array_mem_dec; array_mem_dec)
  | (with_reducible apply LS.al_nil)
  | ((with_reducible apply LS.al_cons); array_mem_dec; array_mem_dec)
  | (with_reducible apply LS.mem_hd)
  | ((with_reducible apply LS.mem_tl); array_mem_dec)
  | ((with_reducible apply LS.fl_refl); array_mem_dec)
  | ((with_reducible apply LS.fl_l); assumption; array_mem_dec)
  | ((with_reducible apply LS.fl_lm); assumption; array_mem_dec; array_mem_dec)
  | (with_reducible apply LS.sub_nil)
  | ((with_reducible apply LS.sub_cons); array_mem_dec; array_mem_dec)
  | ((with_reducible apply LS.fl_s); assumption; array_mem_dec)
  | ((with_reducible apply LS.fl_m); assumption; array_mem_dec; array_mem_dec; array_mem_dec)
  | ((with_reducible apply LS.fl_n); assumption; array_mem_dec; array_mem_dec; array_mem_dec)
  | ((with_reducible apply LS.rt_refl); array_mem_dec)
  | ((with_reducible apply LS.rt_t); assumption; array_mem_dec)
  | ((with_reducible apply LS.rt_s); assumption; array_mem_dec)
  | ((with_reducible apply LS.rt_f); assumption; array_mem_dec; array_mem_dec; array_mem_dec)
  | ((with_reducible apply LS.sz); (first | decide | (simp only [List.length_append, List.length_map, List.length_cons, List.length_nil, List.length_replicate]; omega)))
  | ((with_reducible apply LS.szl); (first | decide | (simp only [List.length_append, List.length_map, List.length_cons, List.length_nil, List.length_replicate]; omega))))
local macro_rules | `(tactic| array_get_dec) => `(tactic| first
  | ((with_reducible apply LS.var); exact rfl)
  | (with_reducible apply LS.con)
  | (with_reducible apply LS.op)
  | (with_reducible apply LS.ri0)
  | (with_reducible apply LS.tseq)
  | (with_reducible apply LS.tasg)
  | (with_reducible apply LS.gname)
  | (with_reducible apply LS.tcons)
  | (with_reducible apply LS.tnil)
  | (with_reducible apply LS.tcb)
  | (with_reducible apply LS.tcall)
  | (with_reducible apply LS.ttest)
  | (with_reducible apply LS.k_b)
  | (with_reducible apply LS.tb)
  | (with_reducible apply LS.tifs)
  | (with_reducible apply LS.ift)
  | (with_reducible apply LS.iff_)
  | (with_reducible apply LS.ifnt)
  | (with_reducible apply LS.ifnf)
  | (with_reducible apply LS.tnext)
  | (with_reducible apply LS.tdrop)
  | (with_reducible apply LS.tret)
  | (with_reducible apply LS.tretn)
  | (with_reducible apply LS.un)
  | (with_reducible apply LS.ru)
  | (with_reducible apply LS.tyes)
  | (with_reducible apply LS.tand)
  | (with_reducible apply LS.tor)
  | (with_reducible apply LS.tnot)
  | (with_reducible apply LS.tif)
  | (with_reducible apply LS.tandv)
  | (with_reducible apply LS.k_av)
  | (with_reducible apply LS.torv)
  | (with_reducible apply LS.k_ov)
  | (with_reducible apply LS.tnotv)
  | (with_reducible apply LS.k_nv)
  | (with_reducible apply LS.tchain)
  | (with_reducible apply LS.k_ch)
  | (with_reducible apply LS.req_i)
  | (with_reducible apply LS.rne_i)
  | (with_reducible apply LS.req_s)
  | (with_reducible apply LS.rne_s)
  | (with_reducible apply LS.req_b)
  | (with_reducible apply LS.rne_b)
  | ((with_reducible apply LS.rin_i); array_mem_dec)
  | ((with_reducible apply LS.rni_i); array_mem_dec)
  | ((with_reducible apply LS.rlen_li); array_mem_dec)
  | ((with_reducible apply LS.rlen_ls); array_mem_dec)
  | ((with_reducible apply LS.rlen_l); array_mem_dec)
  | ((with_reducible apply LS.rlen_Ei); array_mem_dec)
  | ((with_reducible apply LS.rlen_E); array_mem_dec)
  | ((with_reducible apply LS.rlen_t); array_mem_dec)
  | ((with_reducible apply LS.rixl); array_mem_dec; exact rfl)
  | ((with_reducible apply LS.rixt); array_mem_dec; exact rfl)
  | (with_reducible apply LS.isi_int_int)
  | (with_reducible apply LS.isi_int_bool)
  | (with_reducible apply LS.isi_int_str)
  | (with_reducible apply LS.isi_str_int)
  | (with_reducible apply LS.isi_str_bool)
  | (with_reducible apply LS.isi_str_str)
  | (with_reducible apply LS.isi_bool_int)
  | (with_reducible apply LS.isi_bool_bool)
  | (with_reducible apply LS.isi_bool_str)
  | (with_reducible apply LS.isi_non_int)
  | (with_reducible apply LS.isi_non_bool)
  | (with_reducible apply LS.isi_non_str)
  | ((with_reducible apply LS.isi_list_int); array_mem_dec)
  | ((with_reducible apply LS.isi_list_bool); array_mem_dec)
  | ((with_reducible apply LS.isi_list_str); array_mem_dec)
  | ((with_reducible apply LS.isi_list_list); array_mem_dec)
  | ((with_reducible apply LS.isi_list_tuple); array_mem_dec)
  | ((with_reducible apply LS.isi_tuple_int); array_mem_dec)
  | ((with_reducible apply LS.isi_tuple_bool); array_mem_dec)
  | ((with_reducible apply LS.isi_tuple_str); array_mem_dec)
  | ((with_reducible apply LS.isi_tuple_list); array_mem_dec)
  | ((with_reducible apply LS.isi_tuple_tuple); array_mem_dec)
  | ((with_reducible apply LS.isiT_i); array_mem_dec)
  | ((with_reducible apply LS.isiT_s); array_mem_dec)
  | ((with_reducible apply LS.isiT_E); array_mem_dec; array_mem_dec)
  | (with_reducible apply LS.tfld)
  | ((with_reducible apply LS.k_fl); array_mem_dec; assumption; assumption; exact rfl)
  | (with_reducible apply LS.tmeth)
  | ((with_reducible apply LS.k_me); array_mem_dec; exact rfl)
  | (with_reducible apply LS.tmake)
  | (with_reducible apply LS.tsfld)
  | (with_reducible apply LS.tprop)
  | ((with_reducible apply LS.k_pr); array_mem_dec)
  | ((with_reducible apply LS.rlen_own); array_mem_dec)
  | (with_reducible apply LS.rabs)
  | (with_reducible apply LS.rmin2)
  | (with_reducible apply LS.rmax2)
  | (with_reducible apply LS.tsl)
  | (with_reducible apply LS.tthen)
  | (with_reducible apply LS.tstep)
  | (with_reducible apply LS.tnop)
  | (with_reducible apply LS.tpart)
  | (with_reducible apply LS.k_part)
  | (with_reducible apply LS.ttup)
  | (with_reducible apply LS.tlst)
  | (with_reducible apply LS.tbm)
  | (with_reducible apply LS.tbm0)
  | ((with_reducible apply LS.ty_l); array_mem_dec)
  | (with_reducible apply LS.tpar)
  | (with_reducible apply LS.tfor)
  | (with_reducible apply LS.tlc)
  | (with_reducible apply LS.ilist)
  | ((with_reducible apply LS.k_il); array_mem_dec)
  | (with_reducible apply LS.itup)
  | ((with_reducible apply LS.k_it); array_mem_dec)
  | (with_reducible apply LS.istr)
  | (with_reducible apply LS.k_is)
  | (with_reducible apply LS.irng1)
  | ((with_reducible apply LS.k_r1n); omega)
  | ((with_reducible apply LS.k_r1); (first | omega | decide); (first | omega | decide))
  | (with_reducible apply LS.irng2)
  | ((with_reducible apply LS.k_r2); (first | omega | decide); (first | omega | decide); (first | omega | decide); (first | omega | decide))
  | (with_reducible apply LS.ienum)
  | ((with_reducible apply LS.k_en); array_mem_dec)
  | (with_reducible apply LS.izip)
  | ((with_reducible apply LS.k_zip); array_mem_dec; array_mem_dec)
  | (with_reducible apply LS.tlstrg)
  | (with_reducible apply LS.trg1)
  | (with_reducible apply LS.k_g1)
  | (with_reducible apply LS.risn_i)
  | (with_reducible apply LS.risn_s)
  | (with_reducible apply LS.risn_n)
  | (with_reducible apply LS.rnotn_i)
  | (with_reducible apply LS.rnotn_n)
  | (with_reducible apply LS.rint_b)
  | (with_reducible apply LS.rint_i)
  | (with_reducible apply LS.tm0)
  | (with_reducible apply LS.tm1)
  | (with_reducible apply LS.is_str)
  | (with_reducible apply LS.ex_s0)
  | (with_reducible apply LS.ex_int_b)
  | (with_reducible apply LS.k_par)
  | (with_reducible apply LS.tpar3)
  | (with_reducible apply LS.k_par3)
  | ((with_reducible apply LS.taug); exact rfl)
  | (with_reducible apply LS.ipi)
  | ((with_reducible apply LS.gtup); array_mem_dec; exact rfl)
  | ((with_reducible apply LS.gunl); array_mem_dec; exact rfl)
  | (with_reducible apply LS.gnil)
  | (with_reducible apply LS.gcons)
  | (with_reducible apply LS.gsub)
  | ((with_reducible apply LS.ri); first | omega | decide | assumption | exact ⟨by decide, by decide, by decide⟩ | exact .inl ⟨by decide, by decide⟩ | exact .inr ⟨by decide, by decide⟩ | exact .inl ⟨by omega, by omega⟩ | exact .inr ⟨by omega, by omega⟩)
  | (with_reducible apply LS.ex_ss)
  | (with_reducible apply LS.ex_s1)
  | (with_reducible apply LS.ex_i1)
  | (with_reducible apply LS.and_rfl)
  | (with_reducible apply LS.and_tr)
  | (with_reducible apply LS.is_non))
local macro_rules | `(tactic| array_mem_dec) => `(tactic| first
  | ((with_reducible apply LP.sg_s); assumption; array_mem_dec)
  | ((with_reducible apply LP.sg_f); assumption; array_mem_dec; array_mem_dec)
  | ((with_reducible apply LP.sg_l); assumption; array_mem_dec; array_mem_dec)
  | ((with_reducible apply LP.sg_ne); assumption; array_mem_dec)
  | ((with_reducible apply LP.sg_ne'); assumption; array_mem_dec)
  | ((with_reducible apply LS.se_q); array_mem_dec)
  | ((with_reducible apply LS.se_u); array_mem_dec)
  | ((with_reducible apply LP.sg_no); assumption; array_mem_dec; array_mem_dec))
local macro_rules | `(tactic| array_get_dec) => `(tactic| first
  | ((with_reducible apply LS.rne_same); exact rfl)
  | ((with_reducible apply LS.req_same); exact rfl)
  | (with_reducible apply LS.trevl)
  | (with_reducible apply LS.irng3)
  | (with_reducible apply LS.risn_b)
  | ((with_reducible apply LS.isiT_n); array_mem_dec)
  | ((with_reducible apply LS.isiT_b); array_mem_dec))
local macro_rules | `(tactic| array_get_dec) => `(tactic| first
  | (with_reducible apply LS.tcalle)
  | (with_reducible apply LS.tcalls))
local macro_rules | `(tactic| array_get_dec) => `(tactic| first
  | (with_reducible apply LS.trg2)
  | (with_reducible apply LS.k_g2))

section
variable {P : Program} {w : World} {K : PySem.W.Frag} {mg : Str → Option Value} {base : Heap}

def spx_wishes (K : PySem.W.Frag) (C : Addr) : Sp := fun vs H Q E => ∃ (a : Addr) (w : List Int), vs = [.ref a] ∧ Is K H a w ∧ w.length ≤ 90000 ∧ ¬ (1 ≤ w.length ∧ w.length ≤ 200 ∧ Pk w) ∧ ∀ H', Same H H' → E (.ref C) none H'
theorem okx_check_wishes (e : Env K mg) : FnOk P w K mg base (L2.CX P w) 4 e.a_check_wishes e.d_check_wishes ["value"] (spx_wishes K e.C_InvalidWishes) := by
  refine Fun.okX e.f_check_wishes sc_check_wishes (fun vs H Q E h => ?_) (fun cdv A outer s H vs Q E hr h => ?_)
  · obtain ⟨a, w, rfl, _⟩ := h; rfl
  · obtain ⟨a, w, rfl, ha, hl, no, k⟩ := h
    refine ⟨_, (pss_one (ps_if (pt_not (pt_val (pe_call ((ok_is_parking e).mono (by decide)) hr rfl e.g_is_parking e.f_is_parking.kp e.b_is_parking .nil pass0 (pa_cons (pv 0) pa_nil))))
        (pss_one (ps_raise rfl (takes_of rfl rfl rfl rfl) (pmk_own PySem.F.excBase_ValueError e.e_InvalidWishes.x e.g_InvalidWishes e.e_InvalidWishes.k e.e_InvalidWishes.r rfl)))
        pss_nil)), ?_⟩
    repeat array_get_dec
    refine ⟨a, w, rfl, ha, hl, fun H1 b s1 hb => ?_⟩
    cases b with
    | true => exact absurd (hb.mp rfl) no
    | false =>
      repeat array_get_dec
      exact k H1 s1
theorem okx_cars_parked (e : Env K mg) : FnOk P w K mg base (L2.CX P w) 5 e.a_cars_parked e.d_cars_parked ["wishes"] (spx_wishes K e.C_InvalidWishes) := by
  refine Fun.okX e.f_cars_parked sc_cars_parked (fun vs H Q E h => ?_) (fun cdv A outer s H vs Q E hr h => ?_)
  · obtain ⟨a, w, rfl, _⟩ := h; rfl
  · obtain ⟨a, w, rfl, ha, hl, no, k⟩ := h
    refine ⟨_, (pss_cons (ps_expr (pe_call ((okx_check_wishes e).mono (by decide)) hr rfl e.g_check_wishes e.f_check_wishes.kp e.b_check_wishes .nil (passes_call (takes_of rfl rfl rfl rfl) (fun _ _ _ _ h => h)) (pa_cons (pv 0) pa_nil)))
      (pss_cons (ps_set (i := 1) sc_cars_parked.nd rfl (by first | exact Or.inl rfl | exact Or.inr rfl) (pe_op op_rep (pe_lst (pa_cons pe_non pa_nil)) (pe_callB LS.call_len (by rfl) e.n_len PySem.boot_len (pa_cons (pv 0) pa_nil))))
      (pss_cons (ps_for (passes_of rfl) rfl (PI.or (pi_enum (by rfl) e.n_enumerate (pa_cons (pv 0) pa_nil)) (pi_enumT (by rfl) e.n_enumerate (pa_cons (pv 0) pa_nil))) (pg_tup (by rfl) (pgs_cons (pg_name (i := 2) sc_cars_parked.nd rfl (by first | exact Or.inl rfl | exact Or.inr rfl)) (pgs_cons (pg_name (i := 3) sc_cars_parked.nd rfl (by first | exact Or.inl rfl | exact Or.inr rfl)) pgs_nil)))
      (pss_cons (ps_set (i := 4) sc_cars_parked.nd rfl (by first | exact Or.inl rfl | exact Or.inr rfl) (pv 3))
      (pss_cons (ps_while (passes_of rfl) (pt_cmpR LS.op_notN (pe_ix ix_list (pv 1) (pv 4) (fun _ _ => rfl)) pe_non (nomark _))
      (pss_one (ps_aug (i := 4) sc_cars_parked.nd rfl (by first | exact Or.inl rfl | exact Or.inr rfl) pe_int ip_add)))
      (pss_one (ps_asg (pv 2) (pg_sub (pv 1) (pv 4) set_list))))))
      (pss_one (ps_ret (pv 1)))))), ?_⟩
    repeat array_get_dec
    exact ⟨a, w, rfl, ha, hl, no, k⟩
theorem okx_pair_of (e : Env K mg) : FnOk P w K mg base (L2.CX P w) 7 e.a_pair_of e.d_pair_of ["wishes"] (spx_wishes K e.C_InvalidWishes) := by
  refine Fun.okX e.f_pair_of sc_pair_of (fun vs H Q E h => ?_) (fun cdv A outer s H vs Q E hr h => ?_)
  · obtain ⟨a, w, rfl, _⟩ := h; rfl
  · obtain ⟨a, w, rfl, ha, hl, no, k⟩ := h
    refine ⟨_, (pss_cons (ps_set (i := 1) sc_pair_of.nd rfl (by first | exact Or.inl rfl | exact Or.inr rfl) (pe_call ((okx_cars_parked e).mono (by decide)) hr rfl e.g_cars_parked e.f_cars_parked.kp e.b_cars_parked .nil (passes_call (takes_of rfl rfl rfl rfl) (fun _ _ _ _ h => h)) (pa_cons (pv 0) pa_nil)))
      (pss_cons (ps_setLc (i := 2) (own := [("car", 3), ("first", 4)]) rfl sc_pair_of.nd rfl rfl (sw_true rfl rfl rfl (by decide +kernel)) (pi_zip (by rfl) e.n_zip (pa_cons (pv 1) (pa_cons (pe_call ((ok_first_fills e).mono (by decide)) hr rfl e.g_first_fills e.f_first_fills.kp e.b_first_fills .nil pass0 (pa_cons (pv 1) pa_nil)) pa_nil))) (blkOk_by (N := ["wishes", "fills", "offsets", "car", "first"]) (sc := defScope s_pair_of) (by decide +kernel)) (fun _ _ _ _ _ => (show PG _ _ (gTup K 2 _) from pg_tup (by rfl) (pgs_cons (pg_name (i := 3) sc_pair_of.nd rfl (by first | exact Or.inl rfl | exact Or.inr rfl)) (pgs_cons (pg_name (i := 4) sc_pair_of.nd rfl (by first | exact Or.inl rfl | exact Or.inr rfl)) pgs_nil)))) (fun _ _ _ _ _ => pts_nil) (fun _ _ _ _ _ => (pe_op op_sub (pe_ix (show IxR _ (rIxL K) from ix_list) (pv 0) (pv 3) (fun _ _ => rfl)) (pv 4))))
      (pss_one (ps_ret (pe_tup (pa_cons (pe_call ((ok_takes_by e).mono (by decide)) hr rfl e.g_takes_by e.f_takes_by.kp e.b_takes_by .nil pass0 (pa_cons (pv 1) (pa_cons (pv 2) pa_nil))) (pa_cons (pv 1) pa_nil))))))), ?_⟩
    repeat array_get_dec
    exact ⟨a, w, rfl, ha, hl, no, k⟩
theorem okx_wishes_index (e : Env K mg) : FnOk P w K mg base (L2.CX P w) 5 e.a_wishes_index e.d_wishes_index ["wishes"] (spx_wishes K e.C_InvalidWishes) := by
  refine Fun.okX e.f_wishes_index sc_wishes_index (fun vs H Q E h => ?_) (fun cdv A outer s H vs Q E hr h => ?_)
  · obtain ⟨a, w, rfl, _⟩ := h; rfl
  · obtain ⟨a, w, rfl, ha, hl, no, k⟩ := h
    refine ⟨_, (pss_cons (ps_expr (pe_call ((okx_check_wishes e).mono (by decide)) hr rfl e.g_check_wishes e.f_check_wishes.kp e.b_check_wishes .nil (passes_call (takes_of rfl rfl rfl rfl) (fun _ _ _ _ h => h)) (pa_cons (pv 0) pa_nil)))
      (pss_cons (ps_set (i := 1) sc_wishes_index.nd rfl (by first | exact Or.inl rfl | exact Or.inr rfl) (pe_callB LS.call_len (by rfl) e.n_len PySem.boot_len (pa_cons (pv 0) pa_nil)))
      (pss_cons (ps_setLc (i := 2) (own := [("wish", 3)]) rfl sc_wishes_index.nd rfl rfl (sw_true rfl rfl rfl (by decide +kernel)) (pi_list (pe_slice sl_list (pv 0) (po_some pe_int) po_none)) (blkOk_by (N := ["wishes", "size", "code", "wish"]) (sc := defScope s_wishes_index) (by decide +kernel)) (fun _ _ _ _ _ => (pg_name (i := 3) sc_wishes_index.nd rfl (by first | exact Or.inl rfl | exact Or.inr rfl))) (fun _ _ _ _ _ => pts_nil) (fun _ _ _ _ _ => (pe_op op_mod (pe_op op_sub (pv 3) (pe_ix (show IxR _ (rIxL K) from ix_list) (pv 0) pe_int (fun _ _ => rfl))) (pe_op op_add (pv 1) pe_int))))
      (pss_one (ps_ret (pe_call ((ok_number_with e).mono (by decide)) hr rfl e.g_number_with e.f_number_with.kp e.b_number_with .nil pass0 (pa_cons (pv 2) (pa_cons (pe_call ((ok_code_bases e).mono (by decide)) hr rfl e.g_code_bases e.f_code_bases.kp e.b_code_bases .nil pass0 (pa_cons (pv 1) pa_nil)) pa_nil)))))))), ?_⟩
    repeat array_get_dec
    exact ⟨a, w, rfl, ha, hl, no, k⟩
def sp__law_refused (K : PySem.W.Frag) : Sp := fun vs H Q _ => ∃ (a : Addr) (w : List Int) (way : Nat), vs = [.ref a, .int way] ∧ way < 3 ∧ Is K H a w ∧ w.length ≤ 90000 ∧ ¬ (1 ≤ w.length ∧ w.length ≤ 200 ∧ Pk w) ∧ ∀ H', Same H H' → Q (.bl true) H'
theorem ok__law_refused (e : Env K mg) : FnOk P w K mg base CX0 8 e.a__law_refused e.d__law_refused ["wishes", "way"] (sp__law_refused K) := by
  refine Fun.ok e.f__law_refused sc__law_refused (fun vs H Q E h => ?_) (fun cdv A outer s H vs Q E hr h => ?_)
  · obtain ⟨a, w, way, rfl, _⟩ := h; rfl
  · obtain ⟨a, w, way, rfl, hw, ha, hl, no, k⟩ := h
    refine ⟨_, (pss_one (ps_try_only rfl rfl ⟨rfl, by decide, .inl e.g_InvalidWishes⟩ takes0 (fun W pn xe tk hpo => (pss_one (ps_ret (pe_cmpR op_eq (LX.pe_callE (.cons ((okx_cars_parked e).mono (by decide)) e.f_cars_parked.kp e.b_cars_parked (.cons ((okx_pair_of e).mono (by decide)) e.f_pair_of.kp e.b_pair_of (.cons ((okx_wishes_index e).mono (by decide)) e.f_wishes_index.kp e.b_wishes_index .nil))) (pe_ix (show IxR _ (rIxL K) from ix_list) (pe_lst (pa_cons (pe_glob (v := V.ref e.a_cars_parked) rfl e.g_cars_parked rfl) (pa_cons (pe_glob (v := V.ref e.a_pair_of) rfl e.g_pair_of rfl) (pa_cons (pe_glob (v := V.ref e.a_wishes_index) rfl e.g_wishes_index rfl) pa_nil)))) (pv 1) (fun _ _ => rfl)) hr (fun σ => passAt tk σ) (pa_cons (pv 0) pa_nil)) pe_str (nomark _))))) (fun a oe cls d pn _ _ => (pss_one (ps_ret pe_bl))))), ?_⟩
    repeat array_get_dec
    refine LS.k_lst (by array_mem_dec) fun l H_l n_l s_l h_l => ?_
    repeat array_get_dec
    have fin : ∀ {D : Ends}, D.rt = Q → spx_wishes K e.C_InvalidWishes ([V.ref a] ++ []) H_l Q (WE (wOnly K (Value.ref e.C_InvalidWishes) (fun a cls d => tRet (tC (V.bl true))) (fun _ _ _ _ => False) D) (L2.start ["wishes", "way"] [V.ref a, V.int way])) := fun hD =>
      ⟨a, w, rfl, ha.same s_l, hl, no, fun H2 s2 => LS.w_yes e.te_InvalidWishes_InvalidWishes fun b nb => LS.tret (LS.con (by rw [hD]; exact k H2 (s_l.trans s2)))⟩
    match way, hw with
    | 0, _ =>
      refine LS.rixl (by array_mem_dec) rfl ?_
      refine LS.k_ce (j := 0) rfl ?_
      repeat array_get_dec
      exact fin rfl
    | 1, _ =>
      refine LS.rixl (by array_mem_dec) rfl ?_
      refine LS.k_ce (j := 1) rfl ?_
      repeat array_get_dec
      exact fin rfl
    | 2, _ =>
      refine LS.rixl (by array_mem_dec) rfl ?_
      refine LS.k_ce (j := 2) rfl ?_
      repeat array_get_dec
      exact fin rfl
end
end LP

/-! dressed data; values of any kind -/
namespace LP
open PySem L2 LT LG LX LS
def mkD (t : Bool) (l : List PyData) : PyData := match t with | true => .tuple l | false => .list l
theorem mk_dp {K : PySem.W.Frag} {t : Bool} {H : Hp} {p : Addr} {vs : List V} {ds : List PyData} (h : LX.SqB K t H p vs) (a : DpAll K H vs ds) : Dp K H (.ref p) (mkD t ds) := by
  cases t
  · exact .lst h a
  · exact .tup h a
theorem mk_sm {t : Bool} {k w : Nat} {l : List PyData} (h : ∀ d ∈ l, LG.Sm d k w) : LG.Sm (mkD t l) (k + 1) ((w + 1) * l.length) := by
  cases t
  · exact LG.Sm.list h
  · exact LG.Sm.tup h
theorem sqB_f {K : PySem.W.Frag} {t : Bool} {H H' : Hp} {b p : Addr} {vs : List V} (f : Fr H H' b) (h : LX.SqB K t H p vs) (n : p ≠ b) : LX.SqB K t H' p vs := by
  cases t
  · exact LS.fr_seq f h n
  · exact LS.fr_tup f h n
theorem sqE_B {K : PySem.W.Frag} {t : Bool} {H : Hp} {p : Addr} {vs : List V} (h : LX.SqB K t H p vs) : SqE K H p vs := by
  cases t
  · exact .inl h
  · exact .inr h
theorem sm_iD {t : Bool} {ns : List Int} (h : ∀ x ∈ ns, x.natAbs < 10 ^ 31) (hl : ns.length ≤ 200) : LG.Sm (mkD t (ns.map PyData.int)) 1 24400 := by
  have := mk_sm (t := t) (k := 0) (w := 121) (l := ns.map PyData.int) (fun d hd => by obtain ⟨i, hi, rfl⟩ := List.mem_map.mp hd; exact LG.Sm.int (h i hi))
  rw [List.length_map] at this
  exact this.mono (Nat.le_refl _) (by omega)
/-! ## kinds of values -/
theorem tyx_s {K : PySem.W.Frag} {H H' : Hp} (s : Same H H') {x : V} {t : Value} (h : TyX K H x t) : TyX K H' x t := by
  cases h with
  | base h =>
    refine .base ?_
    cases h with
    | non => exact .non
    | bl x => exact .bl x
    | int i => exact .int i
    | str x => exact .str x
    | flt x => exact .flt x
    | lst e => exact .lst (s _ _ e)
    | frz e => exact .frz (s _ _ e)
    | tup e => exact .tup (s _ _ e)
    | dK e => exact .dK (s _ _ e)
    | dT e => exact .dT (s _ _ e)
    | ins e a b c d f => exact .ins (s _ _ e) a b c d f
  | byt b => exact .byt b
  | set e => exact .set (s _ _ e)
  | kList e c => exact .kList e c
  | kTuple e c => exact .kTuple e c
  | kDict e c => exact .kDict e c
  | fTuple e => exact .fTuple (s _ _ e)
  | fDict e => exact .fDict (s _ _ e)
/-- x is a number of one of c things, or not: b tells it -/
def Kd (K : PySem.W.Frag) (H : Hp) (x : V) (c : Int) (b : Bool) : Prop := (∃ i : Int, x = .int i ∧ b = decide (0 ≤ i ∧ i < c)) ∨ (b = false ∧ (TyX K H x (.type "bool") ∨ ∃ t : String, kitB t "int" = some false ∧ TyX K H x (.type t)))
theorem kd_s {K : PySem.W.Frag} {H H' : Hp} (s : Same H H') {x : V} {c : Int} {b : Bool} (h : Kd K H x c b) : Kd K H' x c b := by
  rcases h with h | ⟨h1, h | ⟨t, h2, h3⟩⟩
  · exact .inl h
  · exact .inr ⟨h1, .inl (tyx_s s h)⟩
  · exact .inr ⟨h1, .inr ⟨t, h2, tyx_s s h3⟩⟩
theorem kd_i {K : PySem.W.Frag} {H : Hp} {i c : Int} : Kd K H (.int i) c (decide (0 ≤ i ∧ i < c)) := .inl ⟨i, rfl, rfl⟩
theorem kd_no {K : PySem.W.Frag} {H : Hp} {i c : Int} (h : ¬ (0 ≤ i ∧ i < c)) : Kd K H (.int i) c false := .inl ⟨i, rfl, (decide_eq_false h).symm⟩
theorem kd_b {K : PySem.W.Frag} {H : Hp} {x : Bool} {c : Int} : Kd K H (.bl x) c false := .inr ⟨rfl, .inl (.base (.bl x))⟩
theorem kd_s' {K : PySem.W.Frag} {H : Hp} {x : Str} {c : Int} : Kd K H (.str x) c false := .inr ⟨rfl, .inr ⟨"str", by decide +kernel, .base (.str x)⟩⟩
theorem kd_n {K : PySem.W.Frag} {H : Hp} {c : Int} : Kd K H .non c false := .inr ⟨rfl, .inr ⟨"NoneType", by decide +kernel, .base .non⟩⟩
theorem kd_l {K : PySem.W.Frag} {H : Hp} {a : Addr} {xs : List V} {c : Int} (h : H a = some (.lst xs)) : Kd K H (.ref a) c false := .inr ⟨rfl, .inr ⟨"list", by decide +kernel, .base (.lst h)⟩⟩
theorem kd_t {K : PySem.W.Frag} {H : Hp} {a : Addr} {xs : List V} {c : Int} (h : H a = some (.tup xs)) : Kd K H (.ref a) c false := .inr ⟨rfl, .inr ⟨"tuple", by decide +kernel, .base (.tup h)⟩⟩
theorem kd_d {K : PySem.W.Frag} {H : Hp} {a : Addr} {kvs : List (Key × V)} {c : Int} (h : H a = some (.dK kvs)) : Kd K H (.ref a) c false := .inr ⟨rfl, .inr ⟨"dict", by decide +kernel, .base (.dK h)⟩⟩
/-- no list and no tuple -/
def NoLs (K : PySem.W.Frag) (H : Hp) (x : V) : Prop := ∃ t : String, kitB t "list" = some false ∧ kitB t "tuple" = some false ∧ TyX K H x (.type t)
theorem nols_s {K : PySem.W.Frag} {H H' : Hp} (s : Same H H') {x : V} (h : NoLs K H x) : NoLs K H' x := by
  obtain ⟨t, a, b, c⟩ := h
  exact ⟨t, a, b, tyx_s s c⟩
theorem nols_i {K : PySem.W.Frag} {H : Hp} {i : Int} : NoLs K H (.int i) := ⟨"int", by decide +kernel, by decide +kernel, .base (.int i)⟩
theorem nols_b {K : PySem.W.Frag} {H : Hp} {i : Bool} : NoLs K H (.bl i) := ⟨"bool", by decide +kernel, by decide +kernel, .base (.bl i)⟩
theorem nols_s' {K : PySem.W.Frag} {H : Hp} {i : Str} : NoLs K H (.str i) := ⟨"str", by decide +kernel, by decide +kernel, .base (.str i)⟩
theorem nols_n {K : PySem.W.Frag} {H : Hp} : NoLs K H .non := ⟨"NoneType", by decide +kernel, by decide +kernel, .base .non⟩
theorem nols_d {K : PySem.W.Frag} {H : Hp} {a : Addr} {kvs : List (Key × V)} (h : H a = some (.dK kvs)) : NoLs K H (.ref a) := ⟨"dict", by decide +kernel, by decide +kernel, .base (.dK h)⟩
theorem isiT_no {K : PySem.W.Frag} {H : Hp} {Q : VK} {x : V} {p : Addr} (n : NoLs K H x) (h : H p = some (.tup [.ty "list", .ty "tuple"])) (q : Q (.bl false) H) : rIsiT K [x, .ref p] H Q := by
  obtain ⟨t, a, b, c⟩ := n
  exact ⟨x, p, _, .type t, [.type "list", .type "tuple"], false, rfl, h, .cons (.ty _) (.cons (.ty _) .nil), c, kit_no t a b, q⟩
section
variable (K : PySem.W.Frag)
def sp_is_wholeV : Sp := fun vs H Q _ => ∃ (x : V) (b : Bool), vs = [x] ∧ ((b = true ∧ ∃ i, x = .int i) ∨ (b = false ∧ (TyX K H x (.type "bool") ∨ ∃ t : String, kitB t "int" = some false ∧ TyX K H x (.type t)))) ∧ Q (.bl b) H
def sp_is_listedV : Sp := fun vs H Q _ => ∃ x : V, vs = [x] ∧ NoLs K H x ∧ ∀ H', Same H H' → Q (.bl false) H'
def sp_is_numberV : Sp := fun vs H Q _ => ∃ (x : V) (c : Int) (b : Bool), vs = [x, .int c] ∧ Kd K H x c b ∧ Q (.bl b) H
end
end LP
namespace LS
open PySem L2 LT LG LP LX
theorem dnew {σ : L2.St} {H : Hp} {Q : VK} (k : ∀ (p : Addr) (H' : Hp), H p = none → Same H H' → H' p = some (.dK []) → Q (.ref p) H') : tDNewK σ H Q := fun p np => k p _ np (same_upd np) upd_same
theorem disp1 {σ : L2.St} {H : Hp} {Q : VK} {x : Str} {v : V} (k : ∀ (p : Addr) (H' : Hp), H p = none → Same H H' → H' p = some (.dK (mergeK [] [(Sum.inr x, v)])) → Q (.ref p) H') : tDisp [(tC (.str x), tC v)] σ H Q := fun p np =>
  ⟨upd_same, [(Sum.inr x, v)], rfl, by simp, k p _ np (fun b o h => by rw [upd_ne (ne_of_none h np), upd_ne (ne_of_none h np)]; exact h) upd_same⟩
theorem rnotn_r {H : Hp} {Q : VK} {p : Addr} (q : Q (.bl true) H) : rNotN (.ref p) .non H Q := ⟨rfl, q⟩
theorem risn_r {H : Hp} {Q : VK} {p : Addr} (q : Q (.bl false) H) : rIsN (.ref p) .non H Q := ⟨rfl, q⟩
theorem rnotb {H : Hp} {Q : VK} {a b : Bool} (q : Q (.bl (!decide (a = b))) H) : rNotB (.bl a) (.bl b) H Q := ⟨a, b, rfl, rfl, q⟩
theorem risb {H : Hp} {Q : VK} {a b : Bool} (q : Q (.bl (decide (a = b))) H) : rIsB (.bl a) (.bl b) H Q := ⟨a, b, rfl, rfl, q⟩
end LS
namespace LP
/-- two lists, item by item -/
theorem fa_app {α β : Type} {R : α → β → Prop} {xs ys : List α} {bs cs : List β} (hl : xs.length = bs.length) (h1 : ∀ (i : Nat) x b, xs[i]? = some x → bs[i]? = some b → R x b) (h2 : ∀ (i : Nat) x b, ys[i]? = some x → cs[i]? = some b → R x b) :
    ∀ (i : Nat) x b, (xs ++ ys)[i]? = some x → (bs ++ cs)[i]? = some b → R x b := fun i x b hx hb => by
  rcases Nat.lt_or_ge i xs.length with q | q
  · rw [List.getElem?_append_left q] at hx
    rw [List.getElem?_append_left (by omega)] at hb
    exact h1 i x b hx hb
  · rw [List.getElem?_append_right q] at hx
    rw [List.getElem?_append_right (by omega), ← hl] at hb
    exact h2 _ x b hx hb
theorem fa_one {α β : Type} {R : α → β → Prop} {x : α} {b : β} (h : R x b) : ∀ (i : Nat) x' b', [x][i]? = some x' → [b][i]? = some b' → R x' b' := fun i x' b' hx hb => by
  cases i with
  | zero => cases hx; cases hb; exact h
  | succ i => simp at hx
open PySem L2 LX in
theorem fa_ints {K : PySem.W.Frag} {H : Hp} {c : Int} (w : List Int) : ∀ (i : Nat) x b, (w.map V.int)[i]? = some x → (w.map fun y => decide (0 ≤ y ∧ y < c))[i]? = some b → Kd K H x c b := fun i x b hx hb => by
  rw [List.getElem?_map] at hx hb
  cases q : w[i]? with
  | none => rw [q] at hx; cases hx
  | some y => rw [q] at hx hb; cases hx; cases hb; exact kd_i
end LP

namespace LP
open PySem L2 LT LG LQ LH LC LX LR
local macro_rules | `(tactic| array_mem_dec) => `(tactic| first
  | assumption
  | ((with_reducible apply LS.hp_s); assumption; array_mem_dec)
  | ((with_reducible apply LS.hp_f); assumption; array_mem_dec; array_mem_dec)
  | ((with_reducible apply LS.hp_t); assumption; array_mem_dec; array_mem_dec)
  | ((with_reducible apply LS.hp_l); assumption; array_mem_dec; array_mem_dec)
  | ((with_reducible apply LS.sq_o); array_mem_dec)
  | ((with_reducible apply LS.sq_s); assumption; array_mem_dec)
  | ((with_reducible apply LS.sq_f); assumption; array_mem_dec; array_mem_dec)
  | ((with_reducible apply LS.sq_t); assumption; array_mem_dec; array_mem_dec)
  | ((with_reducible apply LS.sq_l); assumption; array_mem_dec; array_mem_dec)
  | ((with_reducible apply LS.tu_o); array_mem_dec)
  | ((with_reducible apply LS.tu_s); assumption; array_mem_dec)
  | ((with_reducible apply LS.tu_f); assumption; array_mem_dec; array_mem_dec)
  | ((with_reducible apply LS.tu_t); assumption; array_mem_dec; array_mem_dec)
  | ((with_reducible apply LS.tu_l); assumption; array_mem_dec; array_mem_dec)
  | ((with_reducible apply LS.se_l); array_mem_dec)
  | ((with_reducible apply LS.se_t); array_mem_dec)
  | ((with_reducible apply LS.se_s); assumption; array_mem_dec)
  | ((with_reducible apply LS.se_f); assumption; array_mem_dec; array_mem_dec)
  | ((with_reducible apply LS.se_tt); assumption; array_mem_dec; array_mem_dec)
  | ((with_reducible exact Same.refl _))
  | ((with_reducible apply LS.sm_s); assumption; array_mem_dec)
  | ((with_reducible apply LS.sm_f); assumption; array_mem_dec; array_mem_dec)
  | ((with_reducible exact Fr.refl _ _))
  | ((with_reducible apply LS.fr_b); assumption; array_mem_dec)
  | ((with_reducible apply LS.fr_s); assumption; array_mem_dec)
  | ((with_reducible apply LS.fr_n); assumption; array_mem_dec; array_mem_dec)
  | ((with_reducible apply LS.fr_t); assumption; array_mem_dec)
  | ((with_reducible apply LS.no_s); assumption; array_mem_dec)
  | ((with_reducible apply LS.no_f); assumption; array_mem_dec; array_mem_dec)
  | ((with_reducible apply LS.no_t); assumption; array_mem_dec)
  | ((with_reducible apply LS.no_l); assumption; assumption)
  | ((with_reducible apply Ne.symm); assumption)
  | ((with_reducible apply LS.ne_a); assumption; array_mem_dec)
  | ((with_reducible apply LS.ne_b); assumption; array_mem_dec)
  | ((with_reducible apply LS.ne_ap); assumption)
  | ((with_reducible apply LS.ne_il); assumption; array_mem_dec)
  | ((with_reducible apply LS.ne_li); assumption; array_mem_dec)
  | ((with_reducible apply LS.ne_lt); assumption; assumption)
  | ((with_reducible apply LS.ne_tl); assumption; assumption)
  | ((with_reducible apply LS.ne_rl); assumption; array_mem_dec)
  | ((with_reducible apply LS.rl_t); assumption)
  | ((with_reducible apply LS.rl_s); assumption; array_mem_dec)
  | ((with_reducible apply LS.rl_f); assumption; array_mem_dec; array_mem_dec)
  | ((with_reducible apply LS.rl_l); assumption; array_mem_dec; array_mem_dec)
  | ((with_reducible apply LS.ap_new); assumption; assumption; array_mem_dec)
  | ((with_reducible apply LS.ap_t); assumption; array_mem_dec; array_mem_dec)
  | ((with_reducible apply LS.ap_s); assumption; array_mem_dec; array_mem_dec)
  | ((with_reducible apply LS.ap_f); assumption; array_mem_dec; array_mem_dec; array_mem_dec)
  | ((with_reducible apply LS.ap_l); assumption; array_mem_dec; array_mem_dec; array_mem_dec)
  | (with_reducible apply LS.ni_nil)
  | ((with_reducible apply LS.ni_cons); array_mem_dec; array_mem_dec)
  | (with_reducible apply LS.trk_nil)
  | ((with_reducible apply LS.trk_cons); array_mem_dec; array_mem_dec)
  | (with_reducible apply LS.al_nil)
  | ((with_reducible apply LS.al_cons); array_mem_dec; array_mem_dec)
  | (with_reducible apply LS.mem_hd)
  | ((with_reducible apply LS.mem_tl); array_mem_dec)
  | ((with_reducible apply LS.fl_refl); array_mem_dec)
  | ((with_reducible apply LS.fl_l); assumption; array_mem_dec)
  | ((with_reducible apply LS.fl_lm); assumption; array_mem_dec; array_mem_dec)
  | (with_reducible apply LS.sub_nil)
  | ((with_reducible apply LS.sub_cons); array_mem_dec; array_mem_dec)
  | ((with_reducible apply LS.fl_s); assumption; array_mem_dec)
  | ((with_reducible apply LS.fl_m); assumption; array_mem_dec; array_mem_dec; array_mem_dec)
  | ((with_reducible apply LS.fl_n); assumption; array_mem_dec; array_mem_dec; array_mem_dec)
  | ((with_reducible apply LS.rt_refl); array_mem_dec)
  | ((with_reducible apply LS.rt_t); assumption; array_mem_dec)
  | ((with_reducible apply LS.rt_s); assumption; array_mem_dec)
  | ((with_reducible apply LS.rt_f); assumption; array_mem_dec; array_mem_dec; array_mem_dec)
  | ((with_reducible apply LS.sz); (first | decide | (simp only [List.length_append, List.length_map, List.length_cons, List.length_nil, List.length_replicate]; omega)))
  | ((with_reducible apply LS.szl); (first | decide | (simp only [List.length_append, List.length_map, List.length_cons, List.length_nil, List.length_replicate]; omega))))
local macro_rules | `(tactic| array_get_dec) => `(tactic| first
  | ((with_reducible apply LS.var); exact rfl)
  | (with_reducible apply LS.con)
  | (with_reducible apply LS.op)
  | (with_reducible apply LS.ri0)
  | (with_reducible apply LS.tseq)
  | (with_reducible apply LS.tasg)
  | (with_reducible apply LS.gname)
  | (with_reducible apply LS.tcons)
  | (with_reducible apply LS.tnil)
  | (with_reducible apply LS.tcb)
  | (with_reducible apply LS.tcall)
  | (with_reducible apply LS.ttest)
  | (with_reducible apply LS.k_b)
  | (with_reducible apply LS.tb)
  | (with_reducible apply LS.tifs)
  | (with_reducible apply LS.ift)
  | (with_reducible apply LS.iff_)
  | (with_reducible apply LS.ifnt)
  | (with_reducible apply LS.ifnf)
  | (with_reducible apply LS.tnext)
  | (with_reducible apply LS.tdrop)
  | (with_reducible apply LS.tret)
  | (with_reducible apply LS.tretn)
  | (with_reducible apply LS.un)
  | (with_reducible apply LS.ru)
  | (with_reducible apply LS.tyes)
  | (with_reducible apply LS.tand)
  | (with_reducible apply LS.tor)
  | (with_reducible apply LS.tnot)
  | (with_reducible apply LS.tif)
  | (with_reducible apply LS.tandv)
  | (with_reducible apply LS.k_av)
  | (with_reducible apply LS.torv)
  | (with_reducible apply LS.k_ov)
  | (with_reducible apply LS.tnotv)
  | (with_reducible apply LS.k_nv)
  | (with_reducible apply LS.tchain)
  | (with_reducible apply LS.k_ch)
  | (with_reducible apply LS.req_i)
  | (with_reducible apply LS.rne_i)
  | (with_reducible apply LS.req_s)
  | (with_reducible apply LS.rne_s)
  | (with_reducible apply LS.req_b)
  | (with_reducible apply LS.rne_b)
  | ((with_reducible apply LS.rin_i); array_mem_dec)
  | ((with_reducible apply LS.rni_i); array_mem_dec)
  | ((with_reducible apply LS.rlen_li); array_mem_dec)
  | ((with_reducible apply LS.rlen_ls); array_mem_dec)
  | ((with_reducible apply LS.rlen_l); array_mem_dec)
  | ((with_reducible apply LS.rlen_Ei); array_mem_dec)
  | ((with_reducible apply LS.rlen_E); array_mem_dec)
  | ((with_reducible apply LS.rlen_t); array_mem_dec)
  | ((with_reducible apply LS.rixl); array_mem_dec; exact rfl)
  | ((with_reducible apply LS.rixt); array_mem_dec; exact rfl)
  | (with_reducible apply LS.isi_int_int)
  | (with_reducible apply LS.isi_int_bool)
  | (with_reducible apply LS.isi_int_str)
  | (with_reducible apply LS.isi_str_int)
  | (with_reducible apply LS.isi_str_bool)
  | (with_reducible apply LS.isi_str_str)
  | (with_reducible apply LS.isi_bool_int)
  | (with_reducible apply LS.isi_bool_bool)
  | (with_reducible apply LS.isi_bool_str)
  | (with_reducible apply LS.isi_non_int)
  | (with_reducible apply LS.isi_non_bool)
  | (with_reducible apply LS.isi_non_str)
  | ((with_reducible apply LS.isi_list_int); array_mem_dec)
  | ((with_reducible apply LS.isi_list_bool); array_mem_dec)
  | ((with_reducible apply LS.isi_list_str); array_mem_dec)
  | ((with_reducible apply LS.isi_list_list); array_mem_dec)
  | ((with_reducible apply LS.isi_list_tuple); array_mem_dec)
  | ((with_reducible apply LS.isi_tuple_int); array_mem_dec)
  | ((with_reducible apply LS.isi_tuple_bool); array_mem_dec)
  | ((with_reducible apply LS.isi_tuple_str); array_mem_dec)
  | ((with_reducible apply LS.isi_tuple_list); array_mem_dec)
  | ((with_reducible apply LS.isi_tuple_tuple); array_mem_dec)
  | ((with_reducible apply LS.isiT_i); array_mem_dec)
  | ((with_reducible apply LS.isiT_s); array_mem_dec)
  | ((with_reducible apply LS.isiT_E); array_mem_dec; array_mem_dec)
  | (with_reducible apply LS.tfld)
  | ((with_reducible apply LS.k_fl); array_mem_dec; assumption; assumption; exact rfl)
  | (with_reducible apply LS.tmeth)
  | ((with_reducible apply LS.k_me); array_mem_dec; exact rfl)
  | (with_reducible apply LS.tmake)
  | (with_reducible apply LS.tsfld)
  | (with_reducible apply LS.tprop)
  | ((with_reducible apply LS.k_pr); array_mem_dec)
  | ((with_reducible apply LS.rlen_own); array_mem_dec)
  | (with_reducible apply LS.rabs)
  | (with_reducible apply LS.rmin2)
  | (with_reducible apply LS.rmax2)
  | (with_reducible apply LS.tsl)
  | (with_reducible apply LS.tthen)
  | (with_reducible apply LS.tstep)
  | (with_reducible apply LS.tnop)
  | (with_reducible apply LS.tpart)
  | (with_reducible apply LS.k_part)
  | (with_reducible apply LS.ttup)
  | (with_reducible apply LS.tlst)
  | (with_reducible apply LS.tbm)
  | (with_reducible apply LS.tbm0)
  | ((with_reducible apply LS.ty_l); array_mem_dec)
  | (with_reducible apply LS.tpar)
  | (with_reducible apply LS.tfor)
  | (with_reducible apply LS.tlc)
  | (with_reducible apply LS.ilist)
  | ((with_reducible apply LS.k_il); array_mem_dec)
  | (with_reducible apply LS.itup)
  | ((with_reducible apply LS.k_it); array_mem_dec)
  | (with_reducible apply LS.istr)
  | (with_reducible apply LS.k_is)
  | (with_reducible apply LS.irng1)
  | ((with_reducible apply LS.k_r1n); omega)
  | ((with_reducible apply LS.k_r1); (first | omega | decide); (first | omega | decide))
  | (with_reducible apply LS.irng2)
  | ((with_reducible apply LS.k_r2); (first | omega | decide); (first | omega | decide); (first | omega | decide); (first | omega | decide))
  | (with_reducible apply LS.ienum)
  | ((with_reducible apply LS.k_en); array_mem_dec)
  | (with_reducible apply LS.izip)
  | ((with_reducible apply LS.k_zip); array_mem_dec; array_mem_dec)
  | (with_reducible apply LS.tlstrg)
  | (with_reducible apply LS.trg1)
  | (with_reducible apply LS.k_g1)
  | (with_reducible apply LS.risn_i)
  | (with_reducible apply LS.risn_s)
  | (with_reducible apply LS.risn_n)
  | (with_reducible apply LS.rnotn_i)
  | (with_reducible apply LS.rnotn_n)
  | (with_reducible apply LS.rint_b)
  | (with_reducible apply LS.rint_i)
  | (with_reducible apply LS.tm0)
  | (with_reducible apply LS.tm1)
  | (with_reducible apply LS.is_str)
  | (with_reducible apply LS.ex_s0)
  | (with_reducible apply LS.ex_int_b)
  | (with_reducible apply LS.k_par)
  | (with_reducible apply LS.tpar3)
  | (with_reducible apply LS.k_par3)
  | ((with_reducible apply LS.taug); exact rfl)
  | (with_reducible apply LS.ipi)
  | ((with_reducible apply LS.gtup); array_mem_dec; exact rfl)
  | ((with_reducible apply LS.gunl); array_mem_dec; exact rfl)
  | (with_reducible apply LS.gnil)
  | (with_reducible apply LS.gcons)
  | (with_reducible apply LS.gsub)
  | ((with_reducible apply LS.ri); first | omega | decide | assumption | exact ⟨by decide, by decide, by decide⟩ | exact .inl ⟨by decide, by decide⟩ | exact .inr ⟨by decide, by decide⟩ | exact .inl ⟨by omega, by omega⟩ | exact .inr ⟨by omega, by omega⟩)
  | (with_reducible apply LS.ex_ss)
  | (with_reducible apply LS.ex_s1)
  | (with_reducible apply LS.ex_i1)
  | (with_reducible apply LS.and_rfl)
  | (with_reducible apply LS.and_tr)
  | (with_reducible apply LS.is_non))
local macro_rules | `(tactic| array_mem_dec) => `(tactic| first
  | ((with_reducible apply LP.sg_s); assumption; array_mem_dec)
  | ((with_reducible apply LP.sg_f); assumption; array_mem_dec; array_mem_dec)
  | ((with_reducible apply LP.sg_l); assumption; array_mem_dec; array_mem_dec)
  | ((with_reducible apply LP.sg_ne); assumption; array_mem_dec)
  | ((with_reducible apply LP.sg_ne'); assumption; array_mem_dec)
  | ((with_reducible apply LS.se_q); array_mem_dec)
  | ((with_reducible apply LS.se_u); array_mem_dec)
  | ((with_reducible apply LP.sg_no); assumption; array_mem_dec; array_mem_dec))
local macro_rules | `(tactic| array_get_dec) => `(tactic| first
  | ((with_reducible apply LS.rne_same); exact rfl)
  | ((with_reducible apply LS.req_same); exact rfl)
  | (with_reducible apply LS.trevl)
  | (with_reducible apply LS.irng3)
  | (with_reducible apply LS.risn_b)
  | ((with_reducible apply LS.isiT_n); array_mem_dec)
  | ((with_reducible apply LS.isiT_b); array_mem_dec))
local macro_rules | `(tactic| array_get_dec) => `(tactic| first
  | (with_reducible apply LS.tcalle)
  | (with_reducible apply LS.tcalls))
local macro_rules | `(tactic| array_get_dec) => `(tactic| first
  | (with_reducible apply LS.trg2)
  | (with_reducible apply LS.k_g2))

section
variable {P : Program} {w : World} {K : PySem.W.Frag} {mg : Str → Option Value} {base : Heap}

theorem okV_is_whole (e : Env K mg) : FnOk P w K mg base CX0 1 e.a_is_whole e.d_is_whole ["value"] (sp_is_wholeV K) := by
  refine Fun.ok e.f_is_whole sc_is_whole (fun vs H Q E h => ?_) (fun cdv A outer s H vs Q E hr h => ?_)
  · obtain ⟨x, b, rfl, _⟩ := h; rfl
  · obtain ⟨x, b, rfl, h, k⟩ := h
    refine ⟨_, (pss_one (ps_ret (pe_and (pe_callB call_isi (by rfl) e.n_isinstance (by decide +kernel) (pa_cons (pv 0) (pa_cons (pe_bltn (v := V.ty "int") (by rfl) e.n_int (by decide +kernel) rfl) pa_nil))) (pe_one (pe_not (pe_callB call_isi (by rfl) e.n_isinstance (by decide +kernel) (pa_cons (pv 0) (pa_cons (pe_bltn (v := V.ty "bool") (by rfl) e.n_bool (by decide +kernel) rfl) pa_nil)))))))), ?_⟩
    repeat array_get_dec
    rcases h with ⟨rfl, i, rfl⟩ | ⟨rfl, h | ⟨t, h1, h2⟩⟩
    · repeat array_get_dec
      exact k
    · refine LS.isi (a := "bool") (b := true) h (by decide +kernel) ?_
      repeat array_get_dec
      refine LS.isi (a := "bool") (b := true) h (by decide +kernel) ?_
      repeat array_get_dec
      exact k
    · refine LS.isi (b := false) h2 h1 ?_
      repeat array_get_dec
      exact k
theorem okV_is_listed (e : Env K mg) : FnOk P w K mg base CX0 1 e.a_is_listed e.d_is_listed ["value"] (sp_is_listedV K) := by
  refine Fun.ok e.f_is_listed sc_is_listed (fun vs H Q E h => ?_) (fun cdv A outer s H vs Q E hr h => ?_)
  · obtain ⟨x, rfl, _⟩ := h; rfl
  · obtain ⟨x, rfl, h, k⟩ := h
    refine ⟨_, (pss_one (ps_ret (pe_callB call_isiT (by rfl) e.n_isinstance (by decide +kernel) (pa_cons (pv 0) (pa_cons (pe_tup (pa_cons (pe_bltn (v := V.ty "list") (by rfl) e.n_list (by decide +kernel) rfl) (pa_cons (pe_bltn (v := V.ty "tuple") (by rfl) e.n_tuple (by decide +kernel) rfl) pa_nil))) pa_nil))))), ?_⟩
    repeat array_get_dec
    refine LS.k_tup (by decide) fun tp H1 nt s1 ht => ?_
    exact isiT_no (nols_s s1 h) ht (k _ s1)
theorem okV_is_number (e : Env K mg) : FnOk P w K mg base CX0 2 e.a_is_number e.d_is_number ["value", "count"] (sp_is_numberV K) := by
  refine Fun.ok e.f_is_number sc_is_number (fun vs H Q E h => ?_) (fun cdv A outer s H vs Q E hr h => ?_)
  · obtain ⟨x, c, b, rfl, _⟩ := h; rfl
  · obtain ⟨x, c, b, rfl, h, k⟩ := h
    refine ⟨_, (pss_one (ps_ret (pe_and (pe_call ((okV_is_whole e).mono (by decide)) hr rfl e.g_is_whole e.f_is_whole.kp e.b_is_whole .nil pass0 (pa_cons (pv 0) pa_nil)) (pe_one (pe_chain op_le op_lt pe_int (pv 0) (pv 1)))))), ?_⟩
    repeat array_get_dec
    rcases h with ⟨n, rfl, rfl⟩ | ⟨rfl, h⟩
    · refine ⟨_, true, rfl, .inl ⟨rfl, n, rfl⟩, ?_⟩
      repeat array_get_dec
      by_cases h0 : 0 ≤ n
      · rw [decide_eq_true h0]
        repeat array_get_dec
        rw [show decide (n < c) = decide (0 ≤ n ∧ n < c) from decide_eq_decide.mpr ⟨fun h => ⟨h0, h⟩, fun h => h.2⟩]
        exact k
      · rw [decide_eq_false h0]
        repeat array_get_dec
        rw [show false = decide (0 ≤ n ∧ n < c) from (decide_eq_false fun h => h0 h.1).symm]
        exact k
    · refine ⟨x, false, rfl, .inr ⟨rfl, h⟩, ?_⟩
      repeat array_get_dec
      exact k
/-- what is no parking function at all -/
def Bd (K : PySem.W.Frag) (H : Hp) (v : V) : Prop := NoLs K H v ∨ ∃ (a : Addr) (xs : List V), v = .ref a ∧ SqE K H a xs ∧ xs.length ≤ 90000 ∧ (xs.length = 0 ∨ 200 < xs.length ∨ ∃ bs : List Bool, bs.length = xs.length ∧ (∀ (i : Nat) x b, xs[i]? = some x → bs[i]? = some b → Kd K H x xs.length b) ∧ false ∈ bs)
theorem bd_s {K : PySem.W.Frag} {H H' : Hp} (s : Same H H') {v : V} (h : Bd K H v) : Bd K H' v := by
  rcases h with h | ⟨a, xs, e, ha, hl, h⟩
  · exact .inl (nols_s s h)
  · refine .inr ⟨a, xs, e, ha.same s, hl, ?_⟩
    rcases h with h | h | ⟨bs, h1, h2, h3⟩
    · exact .inl h
    · exact .inr (.inl h)
    · exact .inr (.inr ⟨bs, h1, fun i x b hx hb => kd_s s (h2 i x b hx hb), h3⟩)
def sp_is_parkingV (K : PySem.W.Frag) : Sp := fun vs H Q _ => ∃ v : V, vs = [v] ∧ Bd K H v ∧ ∀ H', Same H H' → Q (.bl false) H'
theorem okE_is_listed (e : Env K mg) : FnOk P w K mg base CX0 1 e.a_is_listed e.d_is_listed ["value"] (fun vs H Q E => sp_is_listed K vs H Q E ∨ sp_is_listedV K vs H Q E) := LX.fn_or (ok_is_listed e) (okV_is_listed e)
theorem okV_is_parking (e : Env K mg) : FnOk P w K mg base CX0 3 e.a_is_parking e.d_is_parking ["value"] (sp_is_parkingV K) := by
  refine Fun.ok e.f_is_parking sc_is_parking (fun vs H Q E h => ?_) (fun cdv A outer s H vs Q E hr h => ?_)
  · obtain ⟨v, rfl, _⟩ := h; rfl
  · obtain ⟨v, rfl, h, k⟩ := h
    refine ⟨_, (pss_cons (ps_if (PW.pt (pw_or (pt_not (pt_val (pe_call ((okE_is_listed e).mono (by decide)) hr rfl e.g_is_listed e.f_is_listed.kp e.b_is_listed .nil pass0 (pa_cons (pv 0) pa_nil)))) (pw_or1 (pt_not (pt_chain op_le op_le pe_int (pe_callB LS.call_len (by rfl) e.n_len PySem.boot_len (pa_cons (pv 0) pa_nil)) (pe_glob (v := V.int 200) rfl e.g_MOST_SIZE ⟨_, rfl⟩))))))
        (pss_one (ps_ret pe_bl))
        pss_nil)
      (pss_cons (ps_if (pt_not (pt_val (pe_callB (cr_all rfl) (by rfl) e.n_all (by decide +kernel) (pa_cons (pe_lc (own := [("wish", 1)]) rfl sc_is_parking.nd (PI.or (pi_list (pv 0)) (pi_tup (pv 0))) (blkOk_by (N := ["value", "wish", "spot"]) (sc := defScope s_is_parking) (by decide +kernel)) (fun _ _ _ _ _ => (pg_name (i := 1) sc_is_parking.nd rfl (by first | exact Or.inl rfl | exact Or.inr rfl))) (fun _ _ _ _ _ => pts_nil) (fun _ _ _ _ _ => (pe_call ((okV_is_number e).mono (by decide)) hr rfl e.g_is_number e.f_is_number.kp e.b_is_number .nil pass0 (pa_cons (pv 1) (pa_cons (pe_callB (show CallR _ _ (rLenS K) from LS.call_len) (by rfl) e.n_len PySem.boot_len (pa_cons (pv 0) pa_nil)) pa_nil))))) pa_nil))))
        (pss_one (ps_ret pe_bl))
        pss_nil)
      (pss_one (ps_ret (pe_callB (cr_all rfl) (by rfl) e.n_all (by decide +kernel) (pa_cons (pe_lc (own := [("spot", 2), ("wish", 1)]) rfl sc_is_parking.nd (pi_enum (by rfl) e.n_enumerate (pa_cons (pe_callB cr_sortedE (by rfl) e.n_sorted (by decide +kernel) (pa_cons (pv 0) pa_nil)) pa_nil)) (blkOk_by (N := ["value", "wish", "spot"]) (sc := defScope s_is_parking) (by decide +kernel)) (fun _ _ _ _ _ => (show PG _ _ (gTup K 2 _) from pg_tup (by rfl) (pgs_cons (pg_name (i := 2) sc_is_parking.nd rfl (by first | exact Or.inl rfl | exact Or.inr rfl)) (pgs_cons (pg_name (i := 1) sc_is_parking.nd rfl (by first | exact Or.inl rfl | exact Or.inr rfl)) pgs_nil)))) (fun _ _ _ _ _ => pts_nil) (fun _ _ _ _ _ => (pe_cmpR op_le (pv 1) (pv 2) (nomark _)))) pa_nil)))))), ?_⟩
    repeat array_get_dec
    rcases h with h | ⟨a, xs, rfl, ha, hl, hc⟩
    · refine .inr ⟨v, rfl, h, fun H1 s1 => ?_⟩
      repeat array_get_dec
      exact k H1 s1
    refine .inl ⟨a, xs, rfl, ha, fun H1 s1 => ?_⟩
    have ha1 := ha.same s1
    repeat array_get_dec
    by_cases h1 : (1 : Int) ≤ (xs.length : Nat)
    · rw [decide_eq_true h1]
      repeat array_get_dec
      by_cases h2 : ((xs.length : Nat) : Int) ≤ 200
      · obtain ⟨bs, bl, bk, bf⟩ : ∃ bs : List Bool, bs.length = xs.length ∧ (∀ (i : Nat) x b, xs[i]? = some x → bs[i]? = some b → Kd K H x xs.length b) ∧ false ∈ bs := by
          rcases hc with z | z | z
          · omega
          · omega
          · exact z
        rw [decide_eq_true h2]
        repeat array_get_dec
        refine or_E ha1 rfl fun J G wk hG => ?_
        refine LS.comp wk (fun D i acc H' => Same H1 H' ∧ acc = (bs.take i).map V.bl) (fun D H' nD s' hD => ⟨s', rfl⟩) (fun D j acc H' hi nD hD h => (by obtain ⟨h, _⟩ := h; exact hG _ h)) ?_ ?_
        · rintro D i acc x H2 H3 nD hi hl2 hD ⟨s2, rfl⟩ ⟨rfl, hx⟩
          have ha3 := ha1.same s2
          obtain ⟨b, hb⟩ : ∃ b, bs[i]? = some b := ⟨_, List.getElem?_eq_getElem (by omega)⟩
          repeat array_get_dec
          refine ⟨rfl, ?_⟩
          repeat array_get_dec
          refine ⟨x, _, b, rfl, kd_s (s1.trans s2) (bk i x b hx hb), ?_⟩
          exact LS.k_lc (acc := (bs.take i).map V.bl) hD hl2 (by omega) fun H5 f5 h5 => ⟨LS.Same.fr_new s2 f5 nD, by rw [List.take_add_one, hb, List.map_append]; rfl⟩
        · rintro D acc H2 nD hD hl2 ⟨s2, rfl⟩
          rw [← bl, List.take_length] at hD
          repeat array_get_dec
          refine LS.rall (SqL.of hD) ?_
          rw [show bs.all id = false by
            cases q : bs.all id with
            | false => rfl
            | true => exact absurd (List.all_eq_true.mp q _ bf) (by decide)]
          repeat array_get_dec
          exact k H2 (s1.trans s2)
      · rw [decide_eq_false h2]
        repeat array_get_dec
        exact k H1 s1
    · rw [decide_eq_false h1]
      repeat array_get_dec
      exact k H1 s1
end
end LP

/-! cars that find no spot -/
namespace LQ
/-- every car so far parks at its wish or behind -/
def Bh (w : List Int) (i : Nat) : Prop := ∀ k : Nat, geq (w.take i) k ≤ occ (pkTo w i) k
theorem bh_0 (w : List Int) : Bh w 0 := fun k => by
  show (([] : List Int).filter _).length ≤ _
  exact Nat.zero_le _
theorem bh_s {w : List Int} {i : Nat} {x : Int} {t : Nat} (h : Bh w i) (hx : w[i]? = some x) (ht : x.toNat ≤ t) (hn : (pkTo w i)[t]? = some none) : Bh w (i + 1) := fun k => by
  obtain ⟨_, f2⟩ := fre_at ht hn
  have fg := fre_ge (pkTo w i) x.toNat
  have es : pkTo w (i + 1) = (pkTo w i).set (fre (pkTo w i) x.toNat) (some i) := by
    show (pkTo w i).set (fre (pkTo w i) ((w[i]?).getD 0).toNat) (some i) = _
    rw [hx]; rfl
  rw [es, occ_set f2]
  have t1 : w.take (i + 1) = w.take i ++ [x] := by rw [List.take_add_one, hx]; rfl
  rw [t1, geq_app]
  have := h k
  have e : geq [x] k ≤ if k ≤ fre (pkTo w i) x.toNat then 1 else 0 := by
    unfold geq
    rw [List.filter_cons]
    by_cases q : (k : Int) ≤ x
    · rw [if_pos (decide_eq_true q), if_pos (by omega)]; exact Nat.le_refl _
    · rw [if_neg (show ¬ decide ((k : Int) ≤ x) = true by rw [decide_eq_true_iff]; exact q)]; exact Nat.zero_le _
  omega
theorem bh_pk {w : List Int} (h : Bh w w.length) (rg : ∀ x ∈ w, 0 ≤ x ∧ x < w.length) : Pk w := ⟨rg, fun k hk => by
  have a := h k
  rw [List.take_length] at a
  have b := occ_le (pkTo w w.length) k
  rw [pk_len] at b
  have c := cnt_geq w k
  omega⟩
/-- the spots from a on, m of them, that are free -/
def Frs (st : List (Option Int)) (a m : Nat) (ns : List Int) : Prop :=
  (ns = [] ∧ ∀ s, a ≤ s → s < a + m → st[s]? ≠ some none) ∨ ∃ r, ns = ((fre st a : Nat) : Int) :: r ∧ fre st a < a + m ∧ st[fre st a]? = some none
theorem frs_0 (st : List (Option Int)) (a : Nat) : Frs st a 0 [] := .inl ⟨rfl, fun s h1 h2 => by omega⟩
theorem frs_n {st : List (Option Int)} {a m : Nat} {ns : List Int} (h : Frs st a m ns) (hn : st[a + m]? ≠ some none) : Frs st a (m + 1) ns := by
  rcases h with ⟨h1, h2⟩ | ⟨r, h1, h2, h3⟩
  · refine .inl ⟨h1, fun s a1 a2 => ?_⟩
    rcases Nat.eq_or_lt_of_le (show s ≤ a + m by omega) with q | q
    · rw [q]; exact hn
    · exact h2 s a1 q
  · exact .inr ⟨r, h1, by omega, h3⟩
theorem frs_s {st : List (Option Int)} {a m : Nat} {ns : List Int} (h : Frs st a m ns) (hn : st[a + m]? = some none) : Frs st a (m + 1) (ns ++ [((a + m : Nat) : Int)]) := by
  obtain ⟨f1, f2⟩ := fre_at (Nat.le_add_right a m) hn
  rcases h with ⟨rfl, h2⟩ | ⟨r, rfl, h2, h3⟩
  · have e : fre st a = a + m := by
      rcases Nat.eq_or_lt_of_le f1 with q | q
      · exact q
      · exact absurd f2 (h2 _ (fre_ge ..) q)
    refine .inr ⟨[], by rw [e]; rfl, by omega, f2⟩
  · exact .inr ⟨r ++ [((a + m : Nat) : Int)], rfl, by omega, h3⟩
end LQ

namespace LP
open PySem L2 LT LG LQ LH LC LX LR
local macro_rules | `(tactic| array_mem_dec) => `(tactic| first
  | assumption
  | ((with_reducible apply LS.hp_s); assumption; array_mem_dec)
  | ((with_reducible apply LS.hp_f); assumption; array_mem_dec; array_mem_dec)
  | ((with_reducible apply LS.hp_t); assumption; array_mem_dec; array_mem_dec)
  | ((with_reducible apply LS.hp_l); assumption; array_mem_dec; array_mem_dec)
  | ((with_reducible apply LS.sq_o); array_mem_dec)
  | ((with_reducible apply LS.sq_s); assumption; array_mem_dec)
  | ((with_reducible apply LS.sq_f); assumption; array_mem_dec; array_mem_dec)
  | ((with_reducible apply LS.sq_t); assumption; array_mem_dec; array_mem_dec)
  | ((with_reducible apply LS.sq_l); assumption; array_mem_dec; array_mem_dec)
  | ((with_reducible apply LS.tu_o); array_mem_dec)
  | ((with_reducible apply LS.tu_s); assumption; array_mem_dec)
  | ((with_reducible apply LS.tu_f); assumption; array_mem_dec; array_mem_dec)
  | ((with_reducible apply LS.tu_t); assumption; array_mem_dec; array_mem_dec)
  | ((with_reducible apply LS.tu_l); assumption; array_mem_dec; array_mem_dec)
  | ((with_reducible apply LS.se_l); array_mem_dec)
  | ((with_reducible apply LS.se_t); array_mem_dec)
  | ((with_reducible apply LS.se_s); assumption; array_mem_dec)
  | ((with_reducible apply LS.se_f); assumption; array_mem_dec; array_mem_dec)
  | ((with_reducible apply LS.se_tt); assumption; array_mem_dec; array_mem_dec)
  | ((with_reducible exact Same.refl _))
  | ((with_reducible apply LS.sm_s); assumption; array_mem_dec)
  | ((with_reducible apply LS.sm_f); assumption; array_mem_dec; array_mem_dec)
  | ((with_reducible exact Fr.refl _ _))
  | ((with_reducible apply LS.fr_b); assumption; array_mem_dec)
  | ((with_reducible apply LS.fr_s); assumption; array_mem_dec)
  | ((with_reducible apply LS.fr_n); assumption; array_mem_dec; array_mem_dec)
  | ((with_reducible apply LS.fr_t); assumption; array_mem_dec)
  | ((with_reducible apply LS.no_s); assumption; array_mem_dec)
  | ((with_reducible apply LS.no_f); assumption; array_mem_dec; array_mem_dec)
  | ((with_reducible apply LS.no_t); assumption; array_mem_dec)
  | ((with_reducible apply LS.no_l); assumption; assumption)
  | ((with_reducible apply Ne.symm); assumption)
  | ((with_reducible apply LS.ne_a); assumption; array_mem_dec)
  | ((with_reducible apply LS.ne_b); assumption; array_mem_dec)
  | ((with_reducible apply LS.ne_ap); assumption)
  | ((with_reducible apply LS.ne_il); assumption; array_mem_dec)
  | ((with_reducible apply LS.ne_li); assumption; array_mem_dec)
  | ((with_reducible apply LS.ne_lt); assumption; assumption)
  | ((with_reducible apply LS.ne_tl); assumption; assumption)
  | ((with_reducible apply LS.ne_rl); assumption; array_mem_dec)
  | ((with_reducible apply LS.rl_t); assumption)
  | ((with_reducible apply LS.rl_s); assumption; array_mem_dec)
  | ((with_reducible apply LS.rl_f); assumption; array_mem_dec; array_mem_dec)
  | ((with_reducible apply LS.rl_l); assumption; array_mem_dec; array_mem_dec)
  | ((with_reducible apply LS.ap_new); assumption; assumption; array_mem_dec)
  | ((with_reducible apply LS.ap_t); assumption; array_mem_dec; array_mem_dec)
  | ((with_reducible apply LS.ap_s); assumption; array_mem_dec; array_mem_dec)
  | ((with_reducible apply LS.ap_f); assumption; array_mem_dec; array_mem_dec; array_mem_dec)
  | ((with_reducible apply LS.ap_l); assumption; array_mem_dec; array_mem_dec; array_mem_dec)
  | (with_reducible apply LS.ni_nil)
  | ((with_reducible apply LS.ni_cons); array_mem_dec; array_mem_dec)
  | (with_reducible apply LS.trk_nil)
  | ((with_reducible apply LS.trk_cons); array_mem_dec; array_mem_dec)
  | (with_reducible apply LS.al_nil)
  | ((with_reducible apply LS.al_cons); array_mem_dec; array_mem_dec)
  | (with_reducible apply LS.mem_hd)
  | ((with_reducible apply LS.mem_tl); array_mem_dec)
  | ((with_reducible apply LS.fl_refl); array_mem_dec)
  | ((with_reducible apply LS.fl_l); assumption; array_mem_dec)
  | ((with_reducible apply LS.fl_lm); assumption; array_mem_dec; array_mem_dec)
  | (with_reducible apply LS.sub_nil)
  | ((with_reducible apply LS.sub_cons); array_mem_dec; array_mem_dec)
  | ((with_reducible apply LS.fl_s); assumption; array_mem_dec)
  | ((with_reducible apply LS.fl_m); assumption; array_mem_dec; array_mem_dec; array_mem_dec)
  | ((with_reducible apply LS.fl_n); assumption; array_mem_dec; array_mem_dec; array_mem_dec)
  | ((with_reducible apply LS.rt_refl); array_mem_dec)
  | ((with_reducible apply LS.rt_t); assumption; array_mem_dec)
  | ((with_reducible apply LS.rt_s); assumption; array_mem_dec)
  | ((with_reducible apply LS.rt_f); assumption; array_mem_dec; array_mem_dec; array_mem_dec)
  | ((with_reducible apply LS.sz); (first | decide | (simp only [List.length_append, List.length_map, List.length_cons, List.length_nil, List.length_replicate]; omega)))
  | ((with_reducible apply LS.szl); (first | decide | (simp only [List.length_append, List.length_map, List.length_cons, List.length_nil, List.length_replicate]; omega))))
local macro_rules | `(tactic| array_get_dec) => `(tactic| first
  | ((with_reducible apply LS.var); exact rfl)
  | (with_reducible apply LS.con)
  | (with_reducible apply LS.op)
  | (with_reducible apply LS.ri0)
  | (with_reducible apply LS.tseq)
  | (with_reducible apply LS.tasg)
  | (with_reducible apply LS.gname)
  | (with_reducible apply LS.tcons)
  | (with_reducible apply LS.tnil)
  | (with_reducible apply LS.tcb)
  | (with_reducible apply LS.tcall)
  | (with_reducible apply LS.ttest)
  | (with_reducible apply LS.k_b)
  | (with_reducible apply LS.tb)
  | (with_reducible apply LS.tifs)
  | (with_reducible apply LS.ift)
  | (with_reducible apply LS.iff_)
  | (with_reducible apply LS.ifnt)
  | (with_reducible apply LS.ifnf)
  | (with_reducible apply LS.tnext)
  | (with_reducible apply LS.tdrop)
  | (with_reducible apply LS.tret)
  | (with_reducible apply LS.tretn)
  | (with_reducible apply LS.un)
  | (with_reducible apply LS.ru)
  | (with_reducible apply LS.tyes)
  | (with_reducible apply LS.tand)
  | (with_reducible apply LS.tor)
  | (with_reducible apply LS.tnot)
  | (with_reducible apply LS.tif)
  | (with_reducible apply LS.tandv)
  | (with_reducible apply LS.k_av)
  | (with_reducible apply LS.torv)
  | (with_reducible apply LS.k_ov)
  | (with_reducible apply LS.tnotv)
  | (with_reducible apply LS.k_nv)
  | (with_reducible apply LS.tchain)
  | (with_reducible apply LS.k_ch)
  | (with_reducible apply LS.req_i)
  | (with_reducible apply LS.rne_i)
  | (with_reducible apply LS.req_s)
  | (with_reducible apply LS.rne_s)
  | (with_reducible apply LS.req_b)
  | (with_reducible apply LS.rne_b)
  | ((with_reducible apply LS.rin_i); array_mem_dec)
  | ((with_reducible apply LS.rni_i); array_mem_dec)
  | ((with_reducible apply LS.rlen_li); array_mem_dec)
  | ((with_reducible apply LS.rlen_ls); array_mem_dec)
  | ((with_reducible apply LS.rlen_l); array_mem_dec)
  | ((with_reducible apply LS.rlen_Ei); array_mem_dec)
  | ((with_reducible apply LS.rlen_E); array_mem_dec)
  | ((with_reducible apply LS.rlen_t); array_mem_dec)
  | ((with_reducible apply LS.rixl); array_mem_dec; exact rfl)
  | ((with_reducible apply LS.rixt); array_mem_dec; exact rfl)
  | (with_reducible apply LS.isi_int_int)
  | (with_reducible apply LS.isi_int_bool)
  | (with_reducible apply LS.isi_int_str)
  | (with_reducible apply LS.isi_str_int)
  | (with_reducible apply LS.isi_str_bool)
  | (with_reducible apply LS.isi_str_str)
  | (with_reducible apply LS.isi_bool_int)
  | (with_reducible apply LS.isi_bool_bool)
  | (with_reducible apply LS.isi_bool_str)
  | (with_reducible apply LS.isi_non_int)
  | (with_reducible apply LS.isi_non_bool)
  | (with_reducible apply LS.isi_non_str)
  | ((with_reducible apply LS.isi_list_int); array_mem_dec)
  | ((with_reducible apply LS.isi_list_bool); array_mem_dec)
  | ((with_reducible apply LS.isi_list_str); array_mem_dec)
  | ((with_reducible apply LS.isi_list_list); array_mem_dec)
  | ((with_reducible apply LS.isi_list_tuple); array_mem_dec)
  | ((with_reducible apply LS.isi_tuple_int); array_mem_dec)
  | ((with_reducible apply LS.isi_tuple_bool); array_mem_dec)
  | ((with_reducible apply LS.isi_tuple_str); array_mem_dec)
  | ((with_reducible apply LS.isi_tuple_list); array_mem_dec)
  | ((with_reducible apply LS.isi_tuple_tuple); array_mem_dec)
  | ((with_reducible apply LS.isiT_i); array_mem_dec)
  | ((with_reducible apply LS.isiT_s); array_mem_dec)
  | ((with_reducible apply LS.isiT_E); array_mem_dec; array_mem_dec)
  | (with_reducible apply LS.tfld)
  | ((with_reducible apply LS.k_fl); array_mem_dec; assumption; assumption; exact rfl)
  | (with_reducible apply LS.tmeth)
  | ((with_reducible apply LS.k_me); array_mem_dec; exact rfl)
  | (with_reducible apply LS.tmake)
  | (with_reducible apply LS.tsfld)
  | (with_reducible apply LS.tprop)
  | ((with_reducible apply LS.k_pr); array_mem_dec)
  | ((with_reducible apply LS.rlen_own); array_mem_dec)
  | (with_reducible apply LS.rabs)
  | (with_reducible apply LS.rmin2)
  | (with_reducible apply LS.rmax2)
  | (with_reducible apply LS.tsl)
  | (with_reducible apply LS.tthen)
  | (with_reducible apply LS.tstep)
  | (with_reducible apply LS.tnop)
  | (with_reducible apply LS.tpart)
  | (with_reducible apply LS.k_part)
  | (with_reducible apply LS.ttup)
  | (with_reducible apply LS.tlst)
  | (with_reducible apply LS.tbm)
  | (with_reducible apply LS.tbm0)
  | ((with_reducible apply LS.ty_l); array_mem_dec)
  | (with_reducible apply LS.tpar)
  | (with_reducible apply LS.tfor)
  | (with_reducible apply LS.tlc)
  | (with_reducible apply LS.ilist)
  | ((with_reducible apply LS.k_il); array_mem_dec)
  | (with_reducible apply LS.itup)
  | ((with_reducible apply LS.k_it); array_mem_dec)
  | (with_reducible apply LS.istr)
  | (with_reducible apply LS.k_is)
  | (with_reducible apply LS.irng1)
  | ((with_reducible apply LS.k_r1n); omega)
  | ((with_reducible apply LS.k_r1); (first | omega | decide); (first | omega | decide))
  | (with_reducible apply LS.irng2)
  | ((with_reducible apply LS.k_r2); (first | omega | decide); (first | omega | decide); (first | omega | decide); (first | omega | decide))
  | (with_reducible apply LS.ienum)
  | ((with_reducible apply LS.k_en); array_mem_dec)
  | (with_reducible apply LS.izip)
  | ((with_reducible apply LS.k_zip); array_mem_dec; array_mem_dec)
  | (with_reducible apply LS.tlstrg)
  | (with_reducible apply LS.trg1)
  | (with_reducible apply LS.k_g1)
  | (with_reducible apply LS.risn_i)
  | (with_reducible apply LS.risn_s)
  | (with_reducible apply LS.risn_n)
  | (with_reducible apply LS.rnotn_i)
  | (with_reducible apply LS.rnotn_n)
  | (with_reducible apply LS.rint_b)
  | (with_reducible apply LS.rint_i)
  | (with_reducible apply LS.tm0)
  | (with_reducible apply LS.tm1)
  | (with_reducible apply LS.is_str)
  | (with_reducible apply LS.ex_s0)
  | (with_reducible apply LS.ex_int_b)
  | (with_reducible apply LS.k_par)
  | (with_reducible apply LS.tpar3)
  | (with_reducible apply LS.k_par3)
  | ((with_reducible apply LS.taug); exact rfl)
  | (with_reducible apply LS.ipi)
  | ((with_reducible apply LS.gtup); array_mem_dec; exact rfl)
  | ((with_reducible apply LS.gunl); array_mem_dec; exact rfl)
  | (with_reducible apply LS.gnil)
  | (with_reducible apply LS.gcons)
  | (with_reducible apply LS.gsub)
  | ((with_reducible apply LS.ri); first | omega | decide | assumption | exact ⟨by decide, by decide, by decide⟩ | exact .inl ⟨by decide, by decide⟩ | exact .inr ⟨by decide, by decide⟩ | exact .inl ⟨by omega, by omega⟩ | exact .inr ⟨by omega, by omega⟩)
  | (with_reducible apply LS.ex_ss)
  | (with_reducible apply LS.ex_s1)
  | (with_reducible apply LS.ex_i1)
  | (with_reducible apply LS.and_rfl)
  | (with_reducible apply LS.and_tr)
  | (with_reducible apply LS.is_non))
local macro_rules | `(tactic| array_mem_dec) => `(tactic| first
  | ((with_reducible apply LP.sg_s); assumption; array_mem_dec)
  | ((with_reducible apply LP.sg_f); assumption; array_mem_dec; array_mem_dec)
  | ((with_reducible apply LP.sg_l); assumption; array_mem_dec; array_mem_dec)
  | ((with_reducible apply LP.sg_ne); assumption; array_mem_dec)
  | ((with_reducible apply LP.sg_ne'); assumption; array_mem_dec)
  | ((with_reducible apply LS.se_q); array_mem_dec)
  | ((with_reducible apply LS.se_u); array_mem_dec)
  | ((with_reducible apply LP.sg_no); assumption; array_mem_dec; array_mem_dec))
local macro_rules | `(tactic| array_get_dec) => `(tactic| first
  | ((with_reducible apply LS.rne_same); exact rfl)
  | ((with_reducible apply LS.req_same); exact rfl)
  | (with_reducible apply LS.trevl)
  | (with_reducible apply LS.irng3)
  | (with_reducible apply LS.risn_b)
  | ((with_reducible apply LS.isiT_n); array_mem_dec)
  | ((with_reducible apply LS.isiT_b); array_mem_dec))
local macro_rules | `(tactic| array_get_dec) => `(tactic| first
  | (with_reducible apply LS.tcalle)
  | (with_reducible apply LS.tcalls))
local macro_rules | `(tactic| array_get_dec) => `(tactic| first
  | (with_reducible apply LS.trg2)
  | (with_reducible apply LS.k_g2))

section
variable {P : Program} {w : World} {K : PySem.W.Frag} {mg : Str → Option Value} {base : Heap}

def sp__law_parked : Sp := fun vs H Q _ => ∃ (a : Addr) (w : List Int), vs = [.ref a] ∧ H a = some (.lst (w.map V.int)) ∧ w.length ≤ 200 ∧ (∀ x ∈ w, 0 ≤ x ∧ x < w.length) ∧
  ∀ (H' : Hp) (v : V), Same H H' → ((Pk w ∧ ∃ p, v = .ref p ∧ H p = none ∧ H' p = some (.lst ((cars w).map V.int))) ∨ (¬ Pk w ∧ v = .non)) → Q v H'
theorem ok__law_parked (e : Env K mg) : FnOk P w K mg base CX0 1 e.a__law_parked e.d__law_parked ["wishes"] (sp__law_parked) := by
  refine Fun.ok e.f__law_parked sc__law_parked (fun vs H Q E h => ?_) (fun cdv A outer s H vs Q E hr h => ?_)
  · obtain ⟨a, w, rfl, _⟩ := h; rfl
  · obtain ⟨a, w, rfl, ha, h2, rg, k⟩ := h
    refine ⟨_, (pss_cons (ps_set (i := 1) sc__law_parked.nd rfl (by first | exact Or.inl rfl | exact Or.inr rfl) (pe_op op_rep (pe_lst (pa_cons pe_non pa_nil)) (pe_callB LS.call_len (by rfl) e.n_len PySem.boot_len (pa_cons (pv 0) pa_nil))))
      (pss_cons (ps_for PassesOwn.never rfl (pi_enum (by rfl) e.n_enumerate (pa_cons (pv 0) pa_nil)) (pg_tup (by rfl) (pgs_cons (pg_name (i := 2) sc__law_parked.nd rfl (by first | exact Or.inl rfl | exact Or.inr rfl)) (pgs_cons (pg_name (i := 3) sc__law_parked.nd rfl (by first | exact Or.inl rfl | exact Or.inr rfl)) pgs_nil)))
      (pss_cons (ps_setLc (i := 4) (own := [("spot", 5)]) rfl sc__law_parked.nd rfl rfl (sw_true rfl rfl rfl (by decide +kernel)) (pi_range2 (by rfl) e.n_range (pa_cons (pv 3) (pa_cons (pe_callB LS.call_len (by rfl) e.n_len PySem.boot_len (pa_cons (pv 0) pa_nil)) pa_nil))) (blkOk_by (N := ["wishes", "spots", "car", "wish", "free", "spot"]) (sc := defScope s__law_parked) (by decide +kernel)) (fun _ _ _ _ _ => (pg_name (i := 5) sc__law_parked.nd rfl (by first | exact Or.inl rfl | exact Or.inr rfl))) (fun _ _ _ _ _ => pts_one (pt_cmpR LS.op_isN (pe_ix (show IxR _ (rIxL K) from ix_list) (pv 1) (pv 5) (fun _ _ => rfl)) pe_non (nomark _))) (fun _ _ _ _ _ => (pv 5)))
      (pss_cons (ps_if (pt_cmpR (op_eqD hr.units) (pv 4) (pe_lst pa_nil) (nomark _))
        (pss_one (ps_ret pe_non))
        pss_nil)
      (pss_one (ps_asg (pv 2) (pg_sub (pv 1) (pe_ix ix_list (pv 4) pe_int (fun _ _ => rfl)) set_list))))))
      (pss_one (ps_ret (pv 1))))), ?_⟩
    repeat array_get_dec
    refine LS.k_lst (by array_mem_dec) fun l H_l n_l s_l h_l => ?_
    repeat array_get_dec
    have hal := s_l _ _ ha
    repeat array_get_dec
    refine LS.rrep1 (n := w.length) h_l (by omega) fun q H2 nq s2 hq => ?_
    have s02 : Same H H2 := s_l.trans s2
    have nq0 : H q = none := s_l.free nq
    rw [show List.replicate w.length V.non = (pkTo w 0).map pV by show _ = (List.replicate w.length none).map pV; rw [List.map_replicate]; rfl] at hq
    have ha2 := s2 _ _ hal
    repeat array_get_dec
    refine LS.for_ (walk_enum (xs := w.map V.int)) (fun i σ H' => ∃ v2 v3 v4 : Option V, Same H H' ∧ Bh w i ∧ H' q = some (.lst ((pkTo w i).map pV)) ∧ σ = [some (.ref a), some (.ref q), v2, v3, v4, none]) ⟨_, _, _, s02, bh_0 w, hq, rfl⟩ (fun i σ H' hi ⟨_, _, _, h, _⟩ => SqL.of (h _ _ ha)) ?_ ?_
    · rintro i x σ H3 H4 hi ⟨v2, v3, v4, s3, bh, hq3, rfl⟩ y
      obtain ⟨T, y, z, rfl, nT, s4, hT, hy, hz⟩ := LS.ypair y
      cases hy
      rw [List.length_map] at hi
      obtain ⟨x, hx, rfl⟩ := at_int hz
      have rx := rg x (List.mem_of_getElem? hx)
      have pl := pk_len w i
      obtain ⟨xn, rfl⟩ : ∃ xn : Nat, x = xn := ⟨x.toNat, by omega⟩
      have s04 : Same H H4 := s3.trans s4
      have hq4 := s4 _ _ hq3
      have ha4 := s04 _ _ ha
      repeat array_get_dec
      rw [show (((w.length : Nat) : Int) - (xn : Int)).toNat = w.length - xn by omega]
      refine LS.comp (walk_range (lo := (xn : Int)) (n := w.length - xn)) (fun D j acc H' => ∃ ns : List Int, Same H4 H' ∧ acc = ns.map V.int ∧ Frs (pkTo w i) xn j ns) (fun D H' nD s' hD => ⟨[], s', rfl, frs_0 _ _⟩) (fun _ _ _ _ _ _ _ _ => trivial) ?_ ?_
      · rintro D j acc x H5 H6 nD hj hl hD ⟨ns, s5, rfl, fr⟩ ⟨rfl, rfl⟩
        have hq6 := s5 _ _ hq4
        obtain ⟨o, ho⟩ : ∃ o, (pkTo w i)[xn + j]? = some o := ⟨_, List.getElem?_eq_getElem (by omega)⟩
        repeat array_get_dec
        refine ⟨rfl, ?_⟩
        repeat array_get_dec
        refine LS.rixl_n (SqL.of hq6) (pV_at ho) (by omega) ?_
        cases o with
        | none =>
          show LS.rIsN .non _ _ _
          repeat array_get_dec
          exact LS.k_lc (acc := ns.map V.int) hD hl (by omega) fun H7 f7 h7 => ⟨ns ++ [((xn + j : Nat) : Int)], LS.Same.fr_new s5 f7 nD, by rw [List.map_append]; show _ ++ [V.int ((xn : Int) + (j : Int))] = _ ++ [V.int ((xn + j : Nat) : Int)]; rw [show ((xn + j : Nat) : Int) = (xn : Int) + (j : Int) by omega], frs_s fr ho⟩
        | some c =>
          show LS.rIsN (.int c) _ _ _
          repeat array_get_dec
          exact LS.k_lc0 hD hl ⟨ns, s5, rfl, frs_n fr (by rw [ho]; simp)⟩
      rintro D acc H5 nD hD hl ⟨ns, s5, rfl, fr⟩
      have hq5 := s5 _ _ hq4
      repeat array_get_dec
      refine LS.k_lst (by array_mem_dec) fun z H_z n_z s_z h_z => ?_
      repeat array_get_dec
      refine LS.req_il (x := ns) (y := []) (SqL.of (s_z _ _ hD)) (SqL.of h_z) ?_
      have s0z := s04.trans (s5.trans s_z)
      have hqz := s_z _ _ hq5
      have hDz := s_z _ _ hD
      rcases fr with ⟨rfl, no⟩ | ⟨r, rfl, f1, f2⟩
      · rw [decide_eq_true rfl]
        repeat array_get_dec
        refine k H_z .non s0z (.inr ⟨fun pk => ?_, rfl⟩)
        obtain ⟨t, ht, htn⟩ := finds pk (pkI pk i (by omega)) hx
        have := (List.getElem?_eq_some_iff.mp htn).1
        exact no t (by omega) (by omega) htn
      · rw [decide_eq_false (by simp)]
        have es : pkTo w (i + 1) = (pkTo w i).set (fre (pkTo w i) xn) (some i) := by
          show (pkTo w i).set (fre (pkTo w i) ((w[i]?).getD 0).toNat) (some i) = _
          rw [hx]; rfl
        have fl := (List.getElem?_eq_some_iff.mp f2).1
        have bh' := bh_s bh hx (t := fre (pkTo w i) xn) (by have := fre_ge (pkTo w i) xn; omega) f2
        repeat array_get_dec
        refine LS.rixl_n (j := 0) (SqL.of hDz) rfl rfl ?_
        refine LS.rset (j := fre (pkTo w i) xn) hqz (by rw [List.length_map]; exact ixN_at fl) fun H6 f6 h6 => ?_
        repeat array_get_dec
        refine ⟨_, _, _, LS.Same.fr_new s0z f6 nq0, bh', ?_, rfl⟩
        rw [h6, es, List.map_set]; rfl
    · rintro σ H3 ⟨v2, v3, v4, s3, bh, hq3, rfl⟩
      rw [List.length_map] at bh hq3
      have pk := bh_pk bh rg
      repeat array_get_dec
      rw [cars_full pk, List.map_map] at hq3
      exact k H3 _ s3 (.inl ⟨pk, q, rfl, nq0, hq3⟩)
def sp__law_all : Sp := fun vs H Q _ => ∃ n : Nat, vs = [.int n] ∧ n ≤ 4 ∧ ∀ (H' : Hp) (p : Addr) (as : List Addr), Same H H' → H p = none → H' p = some (.lst (as.map V.ref)) → as.length ≤ 256 → (∀ a ∈ as, H a = none ∧ ∃ w : List Int, H' a = some (.lst (w.map V.int)) ∧ w.length = n ∧ ∀ x ∈ w, 0 ≤ x ∧ x < (n : Int)) → Q (.ref p) H'
theorem rext {l b : Addr} {xs zs : List V} {H : Hp} {Q : VK} (h : H l = some (.lst xs)) (h' : H b = some (.lst zs)) (hz : xs.length + zs.length ≤ sizeLine) (q : ∀ H' : Hp, Fr H H' l → H' l = some (.lst (xs ++ zs)) → Q .non H') : rExtend (.ref l) [.ref b] H Q := ⟨l, b, xs, zs, rfl, rfl, h, h', hz, q _ LS.Fr.upd upd_same⟩
/-- rows of k numbers below n, at the addresses as -/
def RwA (H0 H : Hp) (n k : Nat) (as : List Addr) : Prop := ∀ a ∈ as, H0 a = none ∧ ∃ w : List Int, H a = some (.lst (w.map V.int)) ∧ w.length = k ∧ ∀ x ∈ w, 0 ≤ x ∧ x < (n : Int)
theorem pow4 : ∀ n : Fin 5, ∀ k : Fin 5, k.val ≤ n.val → n.val ^ k.val ≤ 256 := by decide
theorem ok__law_all (e : Env K mg) : FnOk P w K mg base CX0 1 e.a__law_all e.d__law_all ["size"] (sp__law_all) := by
  refine Fun.ok e.f__law_all sc__law_all (fun vs H Q E h => ?_) (fun cdv A outer s H vs Q E hr h => ?_)
  · obtain ⟨n, rfl, _⟩ := h; rfl
  · obtain ⟨n, rfl, hn, k⟩ := h
    refine ⟨_, (pss_cons (ps_set (i := 1) sc__law_all.nd rfl (by first | exact Or.inl rfl | exact Or.inr rfl) (pe_lst (pa_cons (pe_lst pa_nil) pa_nil)))
      (pss_cons (ps_for PassesOwn.never rfl (pi_range1 (by rfl) e.n_range (pa_cons (pv 0) pa_nil)) (pg_name (i := 2) sc__law_all.nd rfl (by first | exact Or.inl rfl | exact Or.inr rfl))
      (pss_cons (ps_set (i := 3) sc__law_all.nd rfl (by first | exact Or.inl rfl | exact Or.inr rfl) (pe_lst pa_nil))
      (pss_cons (ps_for PassesOwn.never rfl (pi_list (pv 1)) (pg_name (i := 4) sc__law_all.nd rfl (by first | exact Or.inl rfl | exact Or.inr rfl))
      (pss_one (ps_expr (pe_bm PySem.F.plainAttrs_list PySem.F.slot_list_extend PySem.F.type_list_extend mt_extend (pv 3) (pa_cons (pe_lc (own := [("number", 5)]) rfl sc__law_all.nd (pi_range1 (by rfl) e.n_range (pa_cons (pv 0) pa_nil)) (blkOk_by (N := ["size", "found", "k", "longer", "row", "number"]) (sc := defScope s__law_all) (by decide +kernel)) (fun _ _ _ _ _ => (pg_name (i := 5) sc__law_all.nd rfl (by first | exact Or.inl rfl | exact Or.inr rfl))) (fun _ _ _ _ _ => pts_nil) (fun _ _ _ _ _ => (pe_op op_cat (pv 4) (pe_lst (pa_cons (pv 5) pa_nil))))) pa_nil)))))
      (pss_one (ps_set (i := 1) sc__law_all.nd rfl (by first | exact Or.inl rfl | exact Or.inr rfl) (pv 3))))))
      (pss_one (ps_ret (pv 1))))), ?_⟩
    repeat array_get_dec
    refine LS.k_lst (by array_mem_dec) fun l0 H_l0 n_l0 s_l0 h_l0 => ?_
    repeat array_get_dec
    refine LS.k_lst (by array_mem_dec) fun l1 H_l1 n_l1 s_l1 h_l1 => ?_
    repeat array_get_dec
    have h0 := s_l1 _ _ h_l0
    have s01 := s_l0.trans s_l1
    have n10 : H l1 = none := s_l0.free n_l1
    repeat array_get_dec
    refine LS.for_ walk_range (fun i σ H' => ∃ (p : Addr) (as : List Addr) (v2 v3 v4 : Option V), Same H H' ∧ H p = none ∧ H' p = some (.lst (as.map V.ref)) ∧ as.length = n ^ i ∧ RwA H H' n i as ∧ σ = [some (.int n), some (.ref p), v2, v3, v4, none])
      ⟨l1, [l0], _, _, _, s01, n10, h_l1, rfl, fun a ha => ?_, rfl⟩ (fun _ _ _ _ _ => trivial) ?_ ?_
    · rw [List.mem_singleton.mp ha]
      exact ⟨n_l0, [], h0, rfl, fun x hx => by cases hx⟩
    · rintro i x σ H2 H3 hi ⟨p, as, v2, v3, v4, s2, np, hp, al, rw_, rfl⟩ ⟨rfl, rfl⟩
      have a256 : as.length ≤ 256 := by rw [al]; exact pow4 ⟨n, by omega⟩ ⟨i, by omega⟩ (show i ≤ n by omega)
      have a256' : n ^ i * n ≤ 256 := by rw [← Nat.pow_succ]; exact pow4 ⟨n, by omega⟩ ⟨i + 1, by omega⟩ (show i + 1 ≤ n by omega)
      repeat array_get_dec
      refine LS.k_lst (by array_mem_dec) fun lg H_lg n_lg s_lg h_lg => ?_
      repeat array_get_dec
      have s0g : Same H H_lg := s2.trans s_lg
      have ng0 : H lg = none := s2.free n_lg
      have hpg := s_lg _ _ hp
      have pg : p ≠ lg := ne_of_none hp n_lg
      have rwg : ∀ a ∈ as, a ≠ lg ∧ ∃ w : List Int, H_lg a = some (.lst (w.map V.int)) ∧ w.length = i ∧ ∀ x ∈ w, 0 ≤ x ∧ x < (n : Int) := fun a ha => by
        obtain ⟨_, w, h1, h2, h3⟩ := rw_ a ha
        exact ⟨ne_of_none h1 n_lg, w, s_lg _ _ h1, h2, h3⟩
      repeat array_get_dec
      refine LS.for_ (walk_list (xs := as.map V.ref)) (fun j σ H' => ∃ (bs : List Addr) (v4 : Option V), Same H H' ∧ Fr H_lg H' lg ∧ H' lg = some (.lst (bs.map V.ref)) ∧ bs.length = j * n ∧ (∀ b ∈ bs, b ≠ lg) ∧ RwA H H' n (i + 1) bs ∧ σ = [some (.int n), some (.ref p), some (.int (0 + (i : Int))), some (.ref lg), v4, none])
        ⟨[], _, s0g, Fr.refl _ _, h_lg, by rw [Nat.zero_mul]; rfl, (fun b hb => by cases hb), (fun b hb => by cases hb), rfl⟩ (fun j σ H' hj ⟨_, _, _, f, _⟩ => SqL.of (f _ _ hpg pg)) ?_ ?_
      · rintro j x σ H4 H5 hj ⟨bs, v4, s4, f4, hg4, bl, nbs, rb, rfl⟩ ⟨rfl, hx⟩
        rw [List.length_map] at hj
        rw [List.getElem?_map] at hx
        obtain ⟨r, hr⟩ : ∃ r, as[j]? = some r := ⟨_, List.getElem?_eq_getElem hj⟩
        rw [hr] at hx
        cases hx
        obtain ⟨rg, w, hw, wl, wr⟩ := rwg r (List.mem_of_getElem? hr)
        have hw5 := f4 _ _ hw rg
        repeat array_get_dec
        refine LS.comp (walk_range (lo := 0) (n := n)) (fun D m acc H' => ∃ cs : List Addr, Same H5 H' ∧ acc = cs.map V.ref ∧ cs.length = m ∧ (∀ c ∈ cs, c ≠ lg ∧ c ≠ D) ∧ RwA H H' n (i + 1) cs) (fun D H' nD s' hD => ⟨[], s', rfl, rfl, (fun c hc => by cases hc), fun c hc => by cases hc⟩) (fun _ _ _ _ _ _ _ _ => trivial) ?_ ?_
        · rintro D m acc x H6 H7 nD hm hl hD ⟨cs, s6, rfl, cl, ncs, rc⟩ ⟨rfl, rfl⟩
          have hw7 := s6 _ _ hw5
          have hg7 := s6 _ _ hg4
          refine ⟨rfl, ?_⟩
          repeat array_get_dec
          refine LS.k_lst (by array_mem_dec) fun u H_u n_u s_u h_u => ?_
          repeat array_get_dec
          refine LS.rcat (s_u _ _ hw7) h_u (LS.sz (by rw [List.length_map, wl]; show _ + 1 ≤ _; omega)) fun c H8 nc s8 hc => ?_
          have su8 := s_u.trans s8
          have hD8 := su8 _ _ hD
          have hg8 := su8 _ _ hg7
          have cD : c ≠ D := (ne_of_none (s_u _ _ hD) nc).symm
          have cg : c ≠ lg := (ne_of_none (s_u _ _ hg7) nc).symm
          have nc0 : H c = none := (s4.trans (s6.trans s_u)).free nc
          refine LS.k_lc (acc := cs.map V.ref) hD8 hl (by omega) fun H9 f9 h9 => ⟨cs ++ [c], LS.Same.fr_new (s6.trans su8) f9 nD, by rw [List.map_append]; rfl, by rw [List.length_append, cl]; rfl, fun y hy => ?_, fun y hy => ?_⟩
          · rcases List.mem_append.mp hy with hy | hy
            · exact ncs y hy
            · rw [List.mem_singleton.mp hy]; exact ⟨cg, cD⟩
          · rcases List.mem_append.mp hy with hy | hy
            · obtain ⟨a1, v, a2, a3, a4⟩ := rc y hy
              exact ⟨a1, v, f9 _ _ (su8 _ _ a2) (ncs y hy).2, a3, a4⟩
            · rw [List.mem_singleton.mp hy]
              refine ⟨nc0, w ++ [(0 : Int) + (m : Int)], by rw [List.map_append]; exact f9 _ _ hc cD, by rw [List.length_append, wl]; rfl, fun x hx => ?_⟩
              rcases List.mem_append.mp hx with hx | hx
              · exact wr x hx
              · rw [List.mem_singleton.mp hx]; omega
        · rintro D acc H6 nD hD hl ⟨cs, s6, rfl, cl, ncs, rc⟩
          have hg6 := s6 _ _ hg4
          have b256 : bs.length + cs.length ≤ 256 := by
            rw [bl, cl]
            have h1 : (j + 1) * n ≤ n ^ i * n := Nat.mul_le_mul_right n (by omega)
            rw [Nat.add_mul, Nat.one_mul] at h1
            omega
          repeat array_get_dec
          refine rext hg6 hD (LS.sz (by rw [List.length_map, List.length_map]; omega)) fun H7 f7 h7 => ?_
          repeat array_get_dec
          refine ⟨bs ++ cs, _, LS.Same.fr_new (s4.trans s6) f7 ng0, (f4.trans (Fr.of s6)).trans f7, by rw [h7, List.map_append], by rw [List.length_append, bl, cl, Nat.add_mul, Nat.one_mul], fun b hb => ?_, fun b hb => ?_, rfl⟩
          · rcases List.mem_append.mp hb with hb | hb
            · exact nbs b hb
            · exact (ncs b hb).1
          · rcases List.mem_append.mp hb with hb | hb
            · obtain ⟨a1, v, a2, a3, a4⟩ := rb b hb
              exact ⟨a1, v, f7 _ _ (s6 _ _ a2) (nbs b hb), a3, a4⟩
            · obtain ⟨a1, v, a2, a3, a4⟩ := rc b hb
              exact ⟨a1, v, f7 _ _ a2 (ncs b hb).1, a3, a4⟩
      · rintro σ H4 ⟨bs, v4, s4, f4, hg4, bl, nbs, rb, rfl⟩
        rw [List.length_map, al, ← Nat.pow_succ] at bl
        repeat array_get_dec
        exact ⟨lg, bs, _, _, _, s4, ng0, hg4, bl, rb, rfl⟩
    · rintro σ H2 ⟨p, as, v2, v3, v4, s2, np, hp, al, rw_, rfl⟩
      repeat array_get_dec
      exact k H2 p as s2 np hp (by rw [al]; exact pow4 ⟨n, by omega⟩ ⟨n, by omega⟩ (Nat.le_refl _)) rw_
end
end LP

namespace LP
open PySem L2 LT LG LQ LH LC LX LR
local macro_rules | `(tactic| array_mem_dec) => `(tactic| first
  | assumption
  | ((with_reducible apply LS.hp_s); assumption; array_mem_dec)
  | ((with_reducible apply LS.hp_f); assumption; array_mem_dec; array_mem_dec)
  | ((with_reducible apply LS.hp_t); assumption; array_mem_dec; array_mem_dec)
  | ((with_reducible apply LS.hp_l); assumption; array_mem_dec; array_mem_dec)
  | ((with_reducible apply LS.sq_o); array_mem_dec)
  | ((with_reducible apply LS.sq_s); assumption; array_mem_dec)
  | ((with_reducible apply LS.sq_f); assumption; array_mem_dec; array_mem_dec)
  | ((with_reducible apply LS.sq_t); assumption; array_mem_dec; array_mem_dec)
  | ((with_reducible apply LS.sq_l); assumption; array_mem_dec; array_mem_dec)
  | ((with_reducible apply LS.tu_o); array_mem_dec)
  | ((with_reducible apply LS.tu_s); assumption; array_mem_dec)
  | ((with_reducible apply LS.tu_f); assumption; array_mem_dec; array_mem_dec)
  | ((with_reducible apply LS.tu_t); assumption; array_mem_dec; array_mem_dec)
  | ((with_reducible apply LS.tu_l); assumption; array_mem_dec; array_mem_dec)
  | ((with_reducible apply LS.se_l); array_mem_dec)
  | ((with_reducible apply LS.se_t); array_mem_dec)
  | ((with_reducible apply LS.se_s); assumption; array_mem_dec)
  | ((with_reducible apply LS.se_f); assumption; array_mem_dec; array_mem_dec)
  | ((with_reducible apply LS.se_tt); assumption; array_mem_dec; array_mem_dec)
  | ((with_reducible exact Same.refl _))
  | ((with_reducible apply LS.sm_s); assumption; array_mem_dec)
  | ((with_reducible apply LS.sm_f); assumption; array_mem_dec; array_mem_dec)
  | ((with_reducible exact Fr.refl _ _))
  | ((with_reducible apply LS.fr_b); assumption; array_mem_dec)
  | ((with_reducible apply LS.fr_s); assumption; array_mem_dec)
  | ((with_reducible apply LS.fr_n); assumption; array_mem_dec; array_mem_dec)
  | ((with_reducible apply LS.fr_t); assumption; array_mem_dec)
  | ((with_reducible apply LS.no_s); assumption; array_mem_dec)
  | ((with_reducible apply LS.no_f); assumption; array_mem_dec; array_mem_dec)
  | ((with_reducible apply LS.no_t); assumption; array_mem_dec)
  | ((with_reducible apply LS.no_l); assumption; assumption)
  | ((with_reducible apply Ne.symm); assumption)
  | ((with_reducible apply LS.ne_a); assumption; array_mem_dec)
  | ((with_reducible apply LS.ne_b); assumption; array_mem_dec)
  | ((with_reducible apply LS.ne_ap); assumption)
  | ((with_reducible apply LS.ne_il); assumption; array_mem_dec)
  | ((with_reducible apply LS.ne_li); assumption; array_mem_dec)
  | ((with_reducible apply LS.ne_lt); assumption; assumption)
  | ((with_reducible apply LS.ne_tl); assumption; assumption)
  | ((with_reducible apply LS.ne_rl); assumption; array_mem_dec)
  | ((with_reducible apply LS.rl_t); assumption)
  | ((with_reducible apply LS.rl_s); assumption; array_mem_dec)
  | ((with_reducible apply LS.rl_f); assumption; array_mem_dec; array_mem_dec)
  | ((with_reducible apply LS.rl_l); assumption; array_mem_dec; array_mem_dec)
  | ((with_reducible apply LS.ap_new); assumption; assumption; array_mem_dec)
  | ((with_reducible apply LS.ap_t); assumption; array_mem_dec; array_mem_dec)
  | ((with_reducible apply LS.ap_s); assumption; array_mem_dec; array_mem_dec)
  | ((with_reducible apply LS.ap_f); assumption; array_mem_dec; array_mem_dec; array_mem_dec)
  | ((with_reducible apply LS.ap_l); assumption; array_mem_dec; array_mem_dec; array_mem_dec)
  | (with_reducible apply LS.ni_nil)
  | ((with_reducible apply LS.ni_cons); array_mem_dec; array_mem_dec)
  | (with_reducible apply LS.trk_nil)
  | ((with_reducible apply LS.trk_cons); array_mem_dec; array_mem_dec)
  | (with_reducible apply LS.al_nil)
  | ((with_reducible apply LS.al_cons); array_mem_dec; array_mem_dec)
  | (with_reducible apply LS.mem_hd)
  | ((with_reducible apply LS.mem_tl); array_mem_dec)
  | ((with_reducible apply LS.fl_refl); array_mem_dec)
  | ((with_reducible apply LS.fl_l); assumption; array_mem_dec)
  | ((with_reducible apply LS.fl_lm); assumption; array_mem_dec; array_mem_dec)
  | (with_reducible apply LS.sub_nil)
  | ((with_reducible apply LS.sub_cons); array_mem_dec; array_mem_dec)
  | ((with_reducible apply LS.fl_s); assumption; array_mem_dec)
  | ((with_reducible apply LS.fl_m); assumption; array_mem_dec; array_mem_dec; array_mem_dec)
  | ((with_reducible apply LS.fl_n); assumption; array_mem_dec; array_mem_dec; array_mem_dec)
  | ((with_reducible apply LS.rt_refl); array_mem_dec)
  | ((with_reducible apply LS.rt_t); assumption; array_mem_dec)
  | ((with_reducible apply LS.rt_s); assumption; array_mem_dec)
  | ((with_reducible apply LS.rt_f); assumption; array_mem_dec; array_mem_dec; array_mem_dec)
  | ((with_reducible apply LS.sz); (first | decide | (simp only [List.length_append, List.length_map, List.length_cons, List.length_nil, List.length_replicate]; omega)))
  | ((with_reducible apply LS.szl); (first | decide | (simp only [List.length_append, List.length_map, List.length_cons, List.length_nil, List.length_replicate]; omega))))
local macro_rules | `(tactic| array_get_dec) => `(tactic| first
  | ((with_reducible apply LS.var); exact rfl)
  | (with_reducible apply LS.con)
  | (with_reducible apply LS.op)
  | (with_reducible apply LS.ri0)
  | (with_reducible apply LS.tseq)
  | (with_reducible apply LS.tasg)
  | (with_reducible apply LS.gname)
  | (with_reducible apply LS.tcons)
  | (with_reducible apply LS.tnil)
  | (with_reducible apply LS.tcb)
  | (with_reducible apply LS.tcall)
  | (with_reducible apply LS.ttest)
  | (with_reducible apply LS.k_b)
  | (with_reducible apply LS.tb)
  | (with_reducible apply LS.tifs)
  | (with_reducible apply LS.ift)
  | (with_reducible apply LS.iff_)
  | (with_reducible apply LS.ifnt)
  | (with_reducible apply LS.ifnf)
  | (with_reducible apply LS.tnext)
  | (with_reducible apply LS.tdrop)
  | (with_reducible apply LS.tret)
  | (with_reducible apply LS.tretn)
  | (with_reducible apply LS.un)
  | (with_reducible apply LS.ru)
  | (with_reducible apply LS.tyes)
  | (with_reducible apply LS.tand)
  | (with_reducible apply LS.tor)
  | (with_reducible apply LS.tnot)
  | (with_reducible apply LS.tif)
  | (with_reducible apply LS.tandv)
  | (with_reducible apply LS.k_av)
  | (with_reducible apply LS.torv)
  | (with_reducible apply LS.k_ov)
  | (with_reducible apply LS.tnotv)
  | (with_reducible apply LS.k_nv)
  | (with_reducible apply LS.tchain)
  | (with_reducible apply LS.k_ch)
  | (with_reducible apply LS.req_i)
  | (with_reducible apply LS.rne_i)
  | (with_reducible apply LS.req_s)
  | (with_reducible apply LS.rne_s)
  | (with_reducible apply LS.req_b)
  | (with_reducible apply LS.rne_b)
  | ((with_reducible apply LS.rin_i); array_mem_dec)
  | ((with_reducible apply LS.rni_i); array_mem_dec)
  | ((with_reducible apply LS.rlen_li); array_mem_dec)
  | ((with_reducible apply LS.rlen_ls); array_mem_dec)
  | ((with_reducible apply LS.rlen_l); array_mem_dec)
  | ((with_reducible apply LS.rlen_Ei); array_mem_dec)
  | ((with_reducible apply LS.rlen_E); array_mem_dec)
  | ((with_reducible apply LS.rlen_t); array_mem_dec)
  | ((with_reducible apply LS.rixl); array_mem_dec; exact rfl)
  | ((with_reducible apply LS.rixt); array_mem_dec; exact rfl)
  | (with_reducible apply LS.isi_int_int)
  | (with_reducible apply LS.isi_int_bool)
  | (with_reducible apply LS.isi_int_str)
  | (with_reducible apply LS.isi_str_int)
  | (with_reducible apply LS.isi_str_bool)
  | (with_reducible apply LS.isi_str_str)
  | (with_reducible apply LS.isi_bool_int)
  | (with_reducible apply LS.isi_bool_bool)
  | (with_reducible apply LS.isi_bool_str)
  | (with_reducible apply LS.isi_non_int)
  | (with_reducible apply LS.isi_non_bool)
  | (with_reducible apply LS.isi_non_str)
  | ((with_reducible apply LS.isi_list_int); array_mem_dec)
  | ((with_reducible apply LS.isi_list_bool); array_mem_dec)
  | ((with_reducible apply LS.isi_list_str); array_mem_dec)
  | ((with_reducible apply LS.isi_list_list); array_mem_dec)
  | ((with_reducible apply LS.isi_list_tuple); array_mem_dec)
  | ((with_reducible apply LS.isi_tuple_int); array_mem_dec)
  | ((with_reducible apply LS.isi_tuple_bool); array_mem_dec)
  | ((with_reducible apply LS.isi_tuple_str); array_mem_dec)
  | ((with_reducible apply LS.isi_tuple_list); array_mem_dec)
  | ((with_reducible apply LS.isi_tuple_tuple); array_mem_dec)
  | ((with_reducible apply LS.isiT_i); array_mem_dec)
  | ((with_reducible apply LS.isiT_s); array_mem_dec)
  | ((with_reducible apply LS.isiT_E); array_mem_dec; array_mem_dec)
  | (with_reducible apply LS.tfld)
  | ((with_reducible apply LS.k_fl); array_mem_dec; assumption; assumption; exact rfl)
  | (with_reducible apply LS.tmeth)
  | ((with_reducible apply LS.k_me); array_mem_dec; exact rfl)
  | (with_reducible apply LS.tmake)
  | (with_reducible apply LS.tsfld)
  | (with_reducible apply LS.tprop)
  | ((with_reducible apply LS.k_pr); array_mem_dec)
  | ((with_reducible apply LS.rlen_own); array_mem_dec)
  | (with_reducible apply LS.rabs)
  | (with_reducible apply LS.rmin2)
  | (with_reducible apply LS.rmax2)
  | (with_reducible apply LS.tsl)
  | (with_reducible apply LS.tthen)
  | (with_reducible apply LS.tstep)
  | (with_reducible apply LS.tnop)
  | (with_reducible apply LS.tpart)
  | (with_reducible apply LS.k_part)
  | (with_reducible apply LS.ttup)
  | (with_reducible apply LS.tlst)
  | (with_reducible apply LS.tbm)
  | (with_reducible apply LS.tbm0)
  | ((with_reducible apply LS.ty_l); array_mem_dec)
  | (with_reducible apply LS.tpar)
  | (with_reducible apply LS.tfor)
  | (with_reducible apply LS.tlc)
  | (with_reducible apply LS.ilist)
  | ((with_reducible apply LS.k_il); array_mem_dec)
  | (with_reducible apply LS.itup)
  | ((with_reducible apply LS.k_it); array_mem_dec)
  | (with_reducible apply LS.istr)
  | (with_reducible apply LS.k_is)
  | (with_reducible apply LS.irng1)
  | ((with_reducible apply LS.k_r1n); omega)
  | ((with_reducible apply LS.k_r1); (first | omega | decide); (first | omega | decide))
  | (with_reducible apply LS.irng2)
  | ((with_reducible apply LS.k_r2); (first | omega | decide); (first | omega | decide); (first | omega | decide); (first | omega | decide))
  | (with_reducible apply LS.ienum)
  | ((with_reducible apply LS.k_en); array_mem_dec)
  | (with_reducible apply LS.izip)
  | ((with_reducible apply LS.k_zip); array_mem_dec; array_mem_dec)
  | (with_reducible apply LS.tlstrg)
  | (with_reducible apply LS.trg1)
  | (with_reducible apply LS.k_g1)
  | (with_reducible apply LS.risn_i)
  | (with_reducible apply LS.risn_s)
  | (with_reducible apply LS.risn_n)
  | (with_reducible apply LS.rnotn_i)
  | (with_reducible apply LS.rnotn_n)
  | (with_reducible apply LS.rint_b)
  | (with_reducible apply LS.rint_i)
  | (with_reducible apply LS.tm0)
  | (with_reducible apply LS.tm1)
  | (with_reducible apply LS.is_str)
  | (with_reducible apply LS.ex_s0)
  | (with_reducible apply LS.ex_int_b)
  | (with_reducible apply LS.k_par)
  | (with_reducible apply LS.tpar3)
  | (with_reducible apply LS.k_par3)
  | ((with_reducible apply LS.taug); exact rfl)
  | (with_reducible apply LS.ipi)
  | ((with_reducible apply LS.gtup); array_mem_dec; exact rfl)
  | ((with_reducible apply LS.gunl); array_mem_dec; exact rfl)
  | (with_reducible apply LS.gnil)
  | (with_reducible apply LS.gcons)
  | (with_reducible apply LS.gsub)
  | ((with_reducible apply LS.ri); first | omega | decide | assumption | exact ⟨by decide, by decide, by decide⟩ | exact .inl ⟨by decide, by decide⟩ | exact .inr ⟨by decide, by decide⟩ | exact .inl ⟨by omega, by omega⟩ | exact .inr ⟨by omega, by omega⟩)
  | (with_reducible apply LS.ex_ss)
  | (with_reducible apply LS.ex_s1)
  | (with_reducible apply LS.ex_i1)
  | (with_reducible apply LS.and_rfl)
  | (with_reducible apply LS.and_tr)
  | (with_reducible apply LS.is_non))
local macro_rules | `(tactic| array_mem_dec) => `(tactic| first
  | ((with_reducible apply LP.sg_s); assumption; array_mem_dec)
  | ((with_reducible apply LP.sg_f); assumption; array_mem_dec; array_mem_dec)
  | ((with_reducible apply LP.sg_l); assumption; array_mem_dec; array_mem_dec)
  | ((with_reducible apply LP.sg_ne); assumption; array_mem_dec)
  | ((with_reducible apply LP.sg_ne'); assumption; array_mem_dec)
  | ((with_reducible apply LS.se_q); array_mem_dec)
  | ((with_reducible apply LS.se_u); array_mem_dec)
  | ((with_reducible apply LP.sg_no); assumption; array_mem_dec; array_mem_dec))
local macro_rules | `(tactic| array_get_dec) => `(tactic| first
  | ((with_reducible apply LS.rne_same); exact rfl)
  | ((with_reducible apply LS.req_same); exact rfl)
  | (with_reducible apply LS.trevl)
  | (with_reducible apply LS.irng3)
  | (with_reducible apply LS.risn_b)
  | ((with_reducible apply LS.isiT_n); array_mem_dec)
  | ((with_reducible apply LS.isiT_b); array_mem_dec))
local macro_rules | `(tactic| array_get_dec) => `(tactic| first
  | (with_reducible apply LS.tcalle)
  | (with_reducible apply LS.tcalls))
local macro_rules | `(tactic| array_get_dec) => `(tactic| first
  | (with_reducible apply LS.trg2)
  | (with_reducible apply LS.k_g2))

section
variable {P : Program} {w : World} {K : PySem.W.Frag} {mg : Str → Option Value} {base : Heap}

theorem ok0__law_dressed (e : Env K mg) : FnOk P w K mg base CX0 3 e.a__law_dressed e.d__law_dressed ["spring", "value"] (sp__law_dressed0_s) := by
  refine Fun.ok e.f__law_dressed sc__law_dressed (fun vs H Q E h => ?_) (fun cdv A outer s H vs Q E hr h => ?_)
  · obtain ⟨b, z, rfl, _⟩ := h; rfl
  · obtain ⟨b, z, rfl, k⟩ := h
    have hrec := LS.fn_no (P := P) (w := w) (K := K) (mg := mg) (base := base) (CX := CX0) (f := e.a__law_dressed) (fd := e.d__law_dressed) (ps := ["spring", "value"])
    refine ⟨_, (pss_cons (ps_if (pt_not (pt_val (pe_callB call_isiT (by rfl) e.n_isinstance (by decide +kernel) (pa_cons (pv 1) (pa_cons (pe_tup (pa_cons (pe_bltn (v := V.ty "list") (by rfl) e.n_list (by decide +kernel) rfl) (pa_cons (pe_bltn (v := V.ty "tuple") (by rfl) e.n_tuple (by decide +kernel) rfl) pa_nil))) pa_nil)))))
        (pss_one (ps_ret (pv 1)))
        pss_nil)
      (pss_cons (ps_setLc (i := 2) (own := [("part", 3)]) rfl sc__law_dressed.nd rfl rfl (sw_true rfl rfl rfl (by decide +kernel)) (pi_list (pv 1)) (blkOk_by (N := ["spring", "value", "parts", "part"]) (sc := defScope s__law_dressed) (by decide +kernel)) (fun _ _ _ _ _ => (pg_name (i := 3) sc__law_dressed.nd rfl (by first | exact Or.inl rfl | exact Or.inr rfl))) (fun _ _ _ _ _ => pts_nil) (fun _ _ _ _ _ => (pe_call (hrec.mono (by first | decide | exact Nat.le_refl _)) hr rfl e.g__law_dressed e.f__law_dressed.kp e.b__law_dressed .nil pass0 (pa_cons (pv 0) (pa_cons (pv 3) pa_nil)))))
      (pss_one (ps_ret (pe_ifExp (pt_cmpR op_eq (pe_call ((ok__law_draw e).mono (by decide)) hr rfl e.g__law_draw e.f__law_draw.kp e.b__law_draw .nil pass0 (pa_cons (pv 0) (pa_cons pe_int pa_nil))) pe_int (nomark _)) (pv 2) (pe_tupleOf (by rfl) e.n_tuple (pv 2))))))), ?_⟩
    repeat array_get_dec
    refine LS.k_tup (by decide) fun tp H1 nt s1 ht => ?_
    repeat array_get_dec
    exact k _ s1
theorem ok__law_dressed (e : Env K mg) : FnOk P w K mg base CX0 4 e.a__law_dressed e.d__law_dressed ["spring", "value"] (sp__law_dressed_s) := by
  refine Fun.ok e.f__law_dressed sc__law_dressed (fun vs H Q E h => ?_) (fun cdv A outer s H vs Q E hr h => ?_)
  · obtain ⟨b, d, p, ns, rfl, _⟩ := h; rfl
  · obtain ⟨b, d, p, ns, rfl, R, hd, hp, hn, k⟩ := h
    have hrec := ok0__law_dressed (P := P) (w := w) (base := base) e
    refine ⟨_, (pss_cons (ps_if (pt_not (pt_val (pe_callB call_isiT (by rfl) e.n_isinstance (by decide +kernel) (pa_cons (pv 1) (pa_cons (pe_tup (pa_cons (pe_bltn (v := V.ty "list") (by rfl) e.n_list (by decide +kernel) rfl) (pa_cons (pe_bltn (v := V.ty "tuple") (by rfl) e.n_tuple (by decide +kernel) rfl) pa_nil))) pa_nil)))))
        (pss_one (ps_ret (pv 1)))
        pss_nil)
      (pss_cons (ps_setLc (i := 2) (own := [("part", 3)]) rfl sc__law_dressed.nd rfl rfl (sw_true rfl rfl rfl (by decide +kernel)) (pi_list (pv 1)) (blkOk_by (N := ["spring", "value", "parts", "part"]) (sc := defScope s__law_dressed) (by decide +kernel)) (fun _ _ _ _ _ => (pg_name (i := 3) sc__law_dressed.nd rfl (by first | exact Or.inl rfl | exact Or.inr rfl))) (fun _ _ _ _ _ => pts_nil) (fun _ _ _ _ _ => (pe_call (hrec.mono (by first | decide | exact Nat.le_refl _)) hr rfl e.g__law_dressed e.f__law_dressed.kp e.b__law_dressed .nil pass0 (pa_cons (pv 0) (pa_cons (pv 3) pa_nil)))))
      (pss_one (ps_ret (pe_ifExp (pt_cmpR op_eq (pe_call ((ok__law_draw e).mono (by decide)) hr rfl e.g__law_draw e.f__law_draw.kp e.b__law_draw .nil pass0 (pa_cons (pv 0) (pa_cons pe_int pa_nil))) pe_int (nomark _)) (pv 2) (pe_tupleOf (by rfl) e.n_tuple (pv 2))))))), ?_⟩
    repeat array_get_dec
    refine LS.k_tup (by decide) fun tp H1 nt s1 ht => ?_
    repeat array_get_dec
    refine LS.map_ (xs := ns.map V.int) walk_list (by rw [List.length_map]; omega) id (fun H' s => (by array_mem_dec)) (fun x Hq hx s KK KN kk => ?_) fun D H2 nD s2 h2 => ?_
    · obtain ⟨i, hi, rfl⟩ := List.mem_map.mp hx
      refine ⟨rfl, ?_⟩
      repeat array_get_dec
      exact ⟨b, i, rfl, kk⟩
    rw [List.map_id] at h2
    repeat array_get_dec
    refine ⟨b, _, 2, rfl, (by array_mem_dec), by decide, by decide +kernel, by omega, fun H3 r r0 r1 R3 F3 => ?_⟩
    repeat array_get_dec
    refine LS.if2 (fun hr => ?_) fun hr => ?_
    · repeat array_get_dec
      exact k H3 D (by array_mem_dec) (by array_mem_dec) (by array_mem_dec) (.inl (by array_mem_dec))
    · repeat array_get_dec
      exact LS.tup_l (xs := ns.map V.int) (by array_mem_dec) fun q H4 nq s4 h4 => k H4 q (by array_mem_dec) (by array_mem_dec) (by array_mem_dec) (.inr h4)
def SameRec (P : Program) (w : World) (K : PySem.W.Frag) (mg : Str → Option Value) (base : Heap) (e : Env K mg) : Nat → Prop
  | 0 => FnOk P w K mg base CX0 0 e.a__law_same e.d__law_same ["found", "due"] (fun _ _ _ _ => False)
  | k + 1 => FnOk P w K mg base CX0 (k + 1) e.a__law_same e.d__law_same ["found", "due"] (sp__law_same K k)
theorem same_body (e : Env K mg) (k : Nat) (sp : Sp) (hrec : FnOk P w K mg base CX0 k e.a__law_same e.d__law_same ["found", "due"] sp) (hsp : ∀ j, k = j + 1 → sp = sp__law_same K j) : FnOk P w K mg base CX0 (k + 1) e.a__law_same e.d__law_same ["found", "due"] (sp__law_same K k) := by
  refine Fun.ok e.f__law_same sc__law_same (fun vs H Q E h => ?_) (fun cdv A outer s H vs Q E hr h => ?_)
  · obtain ⟨x, y, d, rfl, _⟩ := h; rfl
  · obtain ⟨x, y, d, rfl, h1, h2, pl, kk⟩ := h
    refine ⟨_, (pss_cons (ps_if (pt_val (pe_callB call_isiT (by rfl) e.n_isinstance (by decide +kernel) (pa_cons (pv 1) (pa_cons (pe_tup (pa_cons (pe_bltn (v := V.ty "list") (by rfl) e.n_list (by decide +kernel) rfl) (pa_cons (pe_bltn (v := V.ty "tuple") (by rfl) e.n_tuple (by decide +kernel) rfl) pa_nil))) pa_nil))))
        (pss_cons (ps_if (PW.pt (pw_or (pt_cmpR op_ne (pe_callB call_isi (by rfl) e.n_isinstance (by decide +kernel) (pa_cons (pv 0) (pa_cons (pe_bltn (v := V.ty "list") (by rfl) e.n_list (by decide +kernel) rfl) pa_nil))) (pe_callB call_isi (by rfl) e.n_isinstance (by decide +kernel) (pa_cons (pv 1) (pa_cons (pe_bltn (v := V.ty "list") (by rfl) e.n_list (by decide +kernel) rfl) pa_nil))) (nomark _)) (pw_or1 (pt_cmpR op_ne (pe_callB call_isi (by rfl) e.n_isinstance (by decide +kernel) (pa_cons (pv 0) (pa_cons (pe_bltn (v := V.ty "tuple") (by rfl) e.n_tuple (by decide +kernel) rfl) pa_nil))) (pe_callB call_isi (by rfl) e.n_isinstance (by decide +kernel) (pa_cons (pv 1) (pa_cons (pe_bltn (v := V.ty "tuple") (by rfl) e.n_tuple (by decide +kernel) rfl) pa_nil))) (nomark _)))))
        (pss_one (ps_ret pe_bl))
        pss_nil)
      (pss_one (ps_ret (pe_and (pe_cmpR op_eq (pe_callB LS.call_len (by rfl) e.n_len PySem.boot_len (pa_cons (pv 0) pa_nil)) (pe_callB LS.call_len (by rfl) e.n_len PySem.boot_len (pa_cons (pv 1) pa_nil)) (nomark _)) (pe_one (pe_callB (cr_all rfl) (by rfl) e.n_all (by decide +kernel) (pa_cons (pe_lc (own := [("k", 2)]) rfl sc__law_same.nd (pi_range1 (by rfl) e.n_range (pa_cons (pe_callB LS.call_len (by rfl) e.n_len PySem.boot_len (pa_cons (pv 1) pa_nil)) pa_nil)) (blkOk_by (N := ["found", "due", "k"]) (sc := defScope s__law_same) (by decide +kernel)) (fun _ _ _ _ _ => (pg_name (i := 2) sc__law_same.nd rfl (by first | exact Or.inl rfl | exact Or.inr rfl))) (fun _ _ _ _ _ => pts_nil) (fun _ _ _ _ _ => (pe_call (hrec.mono (by first | decide | exact Nat.le_refl _)) hr rfl e.g__law_same e.f__law_same.kp e.b__law_same .nil pass0 (pa_cons (PE.or (pe_ix (show IxR _ (rIxL K) from ix_list) (pv 0) (pv 2) (fun _ _ => rfl)) (pe_ix (show IxR _ (rIxT K) from ix_tup) (pv 0) (pv 2) (fun _ _ => rfl))) (pa_cons (PE.or (pe_ix (show IxR _ (rIxL K) from ix_list) (pv 1) (pv 2) (fun _ _ => rfl)) (pe_ix (show IxR _ (rIxT K) from ix_tup) (pv 1) (pv 2) (fun _ _ => rfl))) pa_nil))))) pa_nil)))))))
        pss_nil)
      (pss_cons (ps_if (PW.pt (pw_or (pt_cmpR LS.op_isN (pv 1) pe_non (nomark _)) (pw_or1 (pt_cmpR LS.op_isN (pv 0) pe_non (nomark _)))))
        (pss_one (ps_ret (pe_and (pe_cmpR LS.op_isN (pv 1) pe_non (nomark _)) (pe_one (pe_cmpR LS.op_isN (pv 0) pe_non (nomark _))))))
        pss_nil)
      (pss_cons (ps_if (PW.pt (pw_or (pt_cmpR op_ne (pe_callB call_isi (by rfl) e.n_isinstance (by decide +kernel) (pa_cons (pv 1) (pa_cons (pe_bltn (v := V.ty "bool") (by rfl) e.n_bool (by decide +kernel) rfl) pa_nil))) (pe_callB call_isi (by rfl) e.n_isinstance (by decide +kernel) (pa_cons (pv 0) (pa_cons (pe_bltn (v := V.ty "bool") (by rfl) e.n_bool (by decide +kernel) rfl) pa_nil))) (nomark _)) (pw_or1 (pt_cmpR op_ne (pe_callB call_isi (by rfl) e.n_isinstance (by decide +kernel) (pa_cons (pv 1) (pa_cons (pe_bltn (v := V.ty "str") (by rfl) e.n_str (by decide +kernel) rfl) pa_nil))) (pe_callB call_isi (by rfl) e.n_isinstance (by decide +kernel) (pa_cons (pv 0) (pa_cons (pe_bltn (v := V.ty "str") (by rfl) e.n_str (by decide +kernel) rfl) pa_nil))) (nomark _)))))
        (pss_one (ps_ret pe_bl))
        pss_nil)
      (pss_one (ps_ret (pe_cmpR op_eq (pv 0) (pv 1) (nomark _))))))), ?_⟩
    repeat array_get_dec
    refine LS.k_tup (by decide) fun tp H1 nt s1 ht => ?_
    repeat array_get_dec
    have rows : ∀ (a b : Addr) (xs ys : List V) (ds : List PyData), ds.length ≤ 10000 → (∀ j, k = j + 1 → ∀ d ∈ ds, plain j d) → (ds = [] ∨ ∃ j, k = j + 1) → SqE K H1 a xs → SqE K H1 b ys → DpAll K H1 xs ds → DpAll K H1 ys ds → ∀ (D : Ends) , D.rt = Q →
        tRet (tAndV (tOp rEq (tCB (rLenS K) (tCons (tVar 0) tNil)) (tCB (rLenS K) (tCons (tVar 1) tNil))) (tCB (rAll K) (tCons (tLc (iRng1 (tCons (tCB (rLenS K) (tCons (tVar 1) tNil)) tNil)) (gName 2) tYes (tCall sp [] E0 (tCons (fun σ H Q => tOp (rIxL K) (tVar 0) (tVar 2) σ H Q ∨ tOp (rIxT K) (tVar 0) (tVar 2) σ H Q) (tCons (fun σ H Q => tOp (rIxL K) (tVar 1) (tVar 2) σ H Q ∨ tOp (rIxT K) (tVar 1) (tVar 2) σ H Q) tNil))) (List.map (fun x => x.snd) [("k", 2)])) tNil))) D (L2.start ["found", "due", "k"] [.ref a, .ref b]) H1 := by
      intro a b xs ys ds dl dpl dk ha hb da db D hD
      have lx := LS.dpA_len da
      have ly := LS.dpA_len db
      repeat array_get_dec
      rw [decide_eq_true (by omega)]
      repeat array_get_dec
      rw [ly]
      repeat array_get_dec
      refine LS.comp (walk_range (lo := 0) (n := ds.length)) (fun D i acc H' => Same H1 H' ∧ acc = (List.replicate i true).map V.bl) (fun D H' nD s' hD => ⟨s', rfl⟩) (fun _ _ _ _ _ _ _ _ => trivial) ?_ ?_
      · rintro D i acc x H2 H3 nD hi hl2 hD ⟨s2, rfl⟩ ⟨rfl, rfl⟩
        refine ⟨rfl, ?_⟩
        repeat array_get_dec
        have hd := List.getElem?_eq_getElem (l := ds) hi
        obtain ⟨vx, hvx, dx⟩ := LS.dpA_get da hd
        obtain ⟨vy, hvy, dy⟩ := LS.dpA_get db hd
        refine LS.ixe (m := i) rfl rfl (by array_mem_dec) hvx (by omega) ?_
        repeat array_get_dec
        refine LS.ixe (m := i) rfl rfl (by array_mem_dec) hvy (by omega) ?_
        repeat array_get_dec
        obtain ⟨j, rfl⟩ : ∃ j, k = j + 1 := by
          rcases dk with e | e
          · rw [e] at hi; simp at hi
          · exact e
        rw [hsp j rfl]
        refine ⟨vx, vy, _, rfl, LS.dp_same s2 dx, LS.dp_same s2 dy, dpl j rfl _ (List.getElem_mem hi), fun H4 s4 => ?_⟩
        exact LS.k_lc (acc := (List.replicate i true).map V.bl) (by array_mem_dec) hl2 (by omega) fun H5 f5 h5 => ⟨(by array_mem_dec), by rw [List.replicate_succ', List.map_append]; rfl⟩
      rintro D2 acc H2 nD hD2 hl2 ⟨s2, rfl⟩
      refine LS.rall (bs := List.replicate ds.length true) (by array_mem_dec) ?_
      rw [show (List.replicate ds.length true).all id = true from List.all_eq_true.mpr fun b hb => (List.mem_replicate.mp hb).2]
      rw [hD]
      exact kk _ (by array_mem_dec)
    cases d with
    | none =>
      cases h1; cases h2
      repeat array_get_dec
      exact kk _ s1
    | bool b =>
      cases h1; cases h2
      repeat array_get_dec
      exact kk _ s1
    | int b =>
      cases h1; cases h2
      repeat array_get_dec
      exact kk _ s1
    | str b =>
      cases h1; cases h2
      repeat array_get_dec
      exact kk _ s1
    | list ds =>
      cases h1 with | @lst a xs _ ha da =>
      cases h2 with | @lst b ys _ hb db =>
      cases k with
      | zero => exact pl.elim
      | succ j =>
        refine LS.isiT_E (xs := ys) (by array_mem_dec) ht ?_
        refine LS.k_b ?_
        refine LS.ift ?_
        refine LS.seq_cut (fun σ' H' => σ' = L2.start ["found", "due", "k"] [.ref a, .ref b] ∧ H' = H1) (fun D' _ kk2 => ?_) ?_
        · repeat array_get_dec
          exact kk2 _ _ ⟨rfl, rfl⟩
        · rintro σ' H' ⟨rfl, rfl⟩
          exact rows a b xs ys ds pl.1 (fun j' e d hd => by cases e; exact pl.2 d hd) (.inr ⟨j, rfl⟩) (by array_mem_dec) (by array_mem_dec) (LS.dpA_same s1 da) (LS.dpA_same s1 db) _ rfl
    | tuple ds =>
      cases h1 with | @tup a xs _ ha da =>
      cases h2 with | @tup b ys _ hb db =>
      cases k with
      | zero => exact pl.elim
      | succ j =>
        refine LS.isiT_E (xs := ys) (by array_mem_dec) ht ?_
        refine LS.k_b ?_
        refine LS.ift ?_
        refine LS.seq_cut (fun σ' H' => σ' = L2.start ["found", "due", "k"] [.ref a, .ref b] ∧ H' = H1) (fun D' _ kk2 => ?_) ?_
        · repeat array_get_dec
          exact kk2 _ _ ⟨rfl, rfl⟩
        · rintro σ' H' ⟨rfl, rfl⟩
          exact rows a b xs ys ds pl.1 (fun j' e d hd => by cases e; exact pl.2 d hd) (.inr ⟨j, rfl⟩) (by array_mem_dec) (by array_mem_dec) (LS.dpA_same s1 da) (LS.dpA_same s1 db) _ rfl
    | dict ds => cases k <;> exact pl.elim
theorem ok_same (e : Env K mg) : ∀ k, FnOk P w K mg base CX0 (k + 1) e.a__law_same e.d__law_same ["found", "due"] (sp__law_same K k)
  | 0 => same_body e 0 _ LS.fn_no (fun j h => by omega)
  | k + 1 => same_body e (k + 1) _ (ok_same e k) (fun j h => by cases h; rfl)
theorem ok__law_same (e : Env K mg) : FnOk P w K mg base CX0 5 e.a__law_same e.d__law_same ["found", "due"] (sp__law_same K 4) := ok_same e 4
end
end LP

namespace LP
open PySem L2 LT LG LQ LH LC LX LR
local macro_rules | `(tactic| array_mem_dec) => `(tactic| first
  | assumption
  | ((with_reducible apply LS.hp_s); assumption; array_mem_dec)
  | ((with_reducible apply LS.hp_f); assumption; array_mem_dec; array_mem_dec)
  | ((with_reducible apply LS.hp_t); assumption; array_mem_dec; array_mem_dec)
  | ((with_reducible apply LS.hp_l); assumption; array_mem_dec; array_mem_dec)
  | ((with_reducible apply LS.sq_o); array_mem_dec)
  | ((with_reducible apply LS.sq_s); assumption; array_mem_dec)
  | ((with_reducible apply LS.sq_f); assumption; array_mem_dec; array_mem_dec)
  | ((with_reducible apply LS.sq_t); assumption; array_mem_dec; array_mem_dec)
  | ((with_reducible apply LS.sq_l); assumption; array_mem_dec; array_mem_dec)
  | ((with_reducible apply LS.tu_o); array_mem_dec)
  | ((with_reducible apply LS.tu_s); assumption; array_mem_dec)
  | ((with_reducible apply LS.tu_f); assumption; array_mem_dec; array_mem_dec)
  | ((with_reducible apply LS.tu_t); assumption; array_mem_dec; array_mem_dec)
  | ((with_reducible apply LS.tu_l); assumption; array_mem_dec; array_mem_dec)
  | ((with_reducible apply LS.se_l); array_mem_dec)
  | ((with_reducible apply LS.se_t); array_mem_dec)
  | ((with_reducible apply LS.se_s); assumption; array_mem_dec)
  | ((with_reducible apply LS.se_f); assumption; array_mem_dec; array_mem_dec)
  | ((with_reducible apply LS.se_tt); assumption; array_mem_dec; array_mem_dec)
  | ((with_reducible exact Same.refl _))
  | ((with_reducible apply LS.sm_s); assumption; array_mem_dec)
  | ((with_reducible apply LS.sm_f); assumption; array_mem_dec; array_mem_dec)
  | ((with_reducible exact Fr.refl _ _))
  | ((with_reducible apply LS.fr_b); assumption; array_mem_dec)
  | ((with_reducible apply LS.fr_s); assumption; array_mem_dec)
  | ((with_reducible apply LS.fr_n); assumption; array_mem_dec; array_mem_dec)
  | ((with_reducible apply LS.fr_t); assumption; array_mem_dec)
  | ((with_reducible apply LS.no_s); assumption; array_mem_dec)
  | ((with_reducible apply LS.no_f); assumption; array_mem_dec; array_mem_dec)
  | ((with_reducible apply LS.no_t); assumption; array_mem_dec)
  | ((with_reducible apply LS.no_l); assumption; assumption)
  | ((with_reducible apply Ne.symm); assumption)
  | ((with_reducible apply LS.ne_a); assumption; array_mem_dec)
  | ((with_reducible apply LS.ne_b); assumption; array_mem_dec)
  | ((with_reducible apply LS.ne_ap); assumption)
  | ((with_reducible apply LS.ne_il); assumption; array_mem_dec)
  | ((with_reducible apply LS.ne_li); assumption; array_mem_dec)
  | ((with_reducible apply LS.ne_lt); assumption; assumption)
  | ((with_reducible apply LS.ne_tl); assumption; assumption)
  | ((with_reducible apply LS.ne_rl); assumption; array_mem_dec)
  | ((with_reducible apply LS.rl_t); assumption)
  | ((with_reducible apply LS.rl_s); assumption; array_mem_dec)
  | ((with_reducible apply LS.rl_f); assumption; array_mem_dec; array_mem_dec)
  | ((with_reducible apply LS.rl_l); assumption; array_mem_dec; array_mem_dec)
  | ((with_reducible apply LS.ap_new); assumption; assumption; array_mem_dec)
  | ((with_reducible apply LS.ap_t); assumption; array_mem_dec; array_mem_dec)
  | ((with_reducible apply LS.ap_s); assumption; array_mem_dec; array_mem_dec)
  | ((with_reducible apply LS.ap_f); assumption; array_mem_dec; array_mem_dec; array_mem_dec)
  | ((with_reducible apply LS.ap_l); assumption; array_mem_dec; array_mem_dec; array_mem_dec)
  | (with_reducible apply LS.ni_nil)
  | ((with_reducible apply LS.ni_cons); array_mem_dec; array_mem_dec)
  | (with_reducible apply LS.trk_nil)
  | ((with_reducible apply LS.trk_cons); array_mem_dec; array_mem_dec)
  | (with_reducible apply LS.al_nil)
  | ((with_reducible apply LS.al_cons); array_mem_dec; array_mem_dec)
  | (with_reducible apply LS.mem_hd)
  | ((with_reducible apply LS.mem_tl); array_mem_dec)
  | ((with_reducible apply LS.fl_refl); array_mem_dec)
  | ((with_reducible apply LS.fl_l); assumption; array_mem_dec)
  | ((with_reducible apply LS.fl_lm); assumption; array_mem_dec; array_mem_dec)
  | (with_reducible apply LS.sub_nil)
  | ((with_reducible apply LS.sub_cons); array_mem_dec; array_mem_dec)
  | ((with_reducible apply LS.fl_s); assumption; array_mem_dec)
  | ((with_reducible apply LS.fl_m); assumption; array_mem_dec; array_mem_dec; array_mem_dec)
  | ((with_reducible apply LS.fl_n); assumption; array_mem_dec; array_mem_dec; array_mem_dec)
  | ((with_reducible apply LS.rt_refl); array_mem_dec)
  | ((with_reducible apply LS.rt_t); assumption; array_mem_dec)
  | ((with_reducible apply LS.rt_s); assumption; array_mem_dec)
  | ((with_reducible apply LS.rt_f); assumption; array_mem_dec; array_mem_dec; array_mem_dec)
  | ((with_reducible apply LS.sz); (first | decide | (simp only [List.length_append, List.length_map, List.length_cons, List.length_nil, List.length_replicate]; omega)))
  | ((with_reducible apply LS.szl); (first | decide | (simp only [List.length_append, List.length_map, List.length_cons, List.length_nil, List.length_replicate]; omega))))
local macro_rules | `(tactic| array_get_dec) => `(tactic| first
  | ((with_reducible apply LS.var); exact rfl)
  | (with_reducible apply LS.con)
  | (with_reducible apply LS.op)
  | (with_reducible apply LS.ri0)
  | (with_reducible apply LS.tseq)
  | (with_reducible apply LS.tasg)
  | (with_reducible apply LS.gname)
  | (with_reducible apply LS.tcons)
  | (with_reducible apply LS.tnil)
  | (with_reducible apply LS.tcb)
  | (with_reducible apply LS.tcall)
  | (with_reducible apply LS.ttest)
  | (with_reducible apply LS.k_b)
  | (with_reducible apply LS.tb)
  | (with_reducible apply LS.tifs)
  | (with_reducible apply LS.ift)
  | (with_reducible apply LS.iff_)
  | (with_reducible apply LS.ifnt)
  | (with_reducible apply LS.ifnf)
  | (with_reducible apply LS.tnext)
  | (with_reducible apply LS.tdrop)
  | (with_reducible apply LS.tret)
  | (with_reducible apply LS.tretn)
  | (with_reducible apply LS.un)
  | (with_reducible apply LS.ru)
  | (with_reducible apply LS.tyes)
  | (with_reducible apply LS.tand)
  | (with_reducible apply LS.tor)
  | (with_reducible apply LS.tnot)
  | (with_reducible apply LS.tif)
  | (with_reducible apply LS.tandv)
  | (with_reducible apply LS.k_av)
  | (with_reducible apply LS.torv)
  | (with_reducible apply LS.k_ov)
  | (with_reducible apply LS.tnotv)
  | (with_reducible apply LS.k_nv)
  | (with_reducible apply LS.tchain)
  | (with_reducible apply LS.k_ch)
  | (with_reducible apply LS.req_i)
  | (with_reducible apply LS.rne_i)
  | (with_reducible apply LS.req_s)
  | (with_reducible apply LS.rne_s)
  | (with_reducible apply LS.req_b)
  | (with_reducible apply LS.rne_b)
  | ((with_reducible apply LS.rin_i); array_mem_dec)
  | ((with_reducible apply LS.rni_i); array_mem_dec)
  | ((with_reducible apply LS.rlen_li); array_mem_dec)
  | ((with_reducible apply LS.rlen_ls); array_mem_dec)
  | ((with_reducible apply LS.rlen_l); array_mem_dec)
  | ((with_reducible apply LS.rlen_Ei); array_mem_dec)
  | ((with_reducible apply LS.rlen_E); array_mem_dec)
  | ((with_reducible apply LS.rlen_t); array_mem_dec)
  | ((with_reducible apply LS.rixl); array_mem_dec; exact rfl)
  | ((with_reducible apply LS.rixt); array_mem_dec; exact rfl)
  | (with_reducible apply LS.isi_int_int)
  | (with_reducible apply LS.isi_int_bool)
  | (with_reducible apply LS.isi_int_str)
  | (with_reducible apply LS.isi_str_int)
  | (with_reducible apply LS.isi_str_bool)
  | (with_reducible apply LS.isi_str_str)
  | (with_reducible apply LS.isi_bool_int)
  | (with_reducible apply LS.isi_bool_bool)
  | (with_reducible apply LS.isi_bool_str)
  | (with_reducible apply LS.isi_non_int)
  | (with_reducible apply LS.isi_non_bool)
  | (with_reducible apply LS.isi_non_str)
  | ((with_reducible apply LS.isi_list_int); array_mem_dec)
  | ((with_reducible apply LS.isi_list_bool); array_mem_dec)
  | ((with_reducible apply LS.isi_list_str); array_mem_dec)
  | ((with_reducible apply LS.isi_list_list); array_mem_dec)
  | ((with_reducible apply LS.isi_list_tuple); array_mem_dec)
  | ((with_reducible apply LS.isi_tuple_int); array_mem_dec)
  | ((with_reducible apply LS.isi_tuple_bool); array_mem_dec)
  | ((with_reducible apply LS.isi_tuple_str); array_mem_dec)
  | ((with_reducible apply LS.isi_tuple_list); array_mem_dec)
  | ((with_reducible apply LS.isi_tuple_tuple); array_mem_dec)
  | ((with_reducible apply LS.isiT_i); array_mem_dec)
  | ((with_reducible apply LS.isiT_s); array_mem_dec)
  | ((with_reducible apply LS.isiT_E); array_mem_dec; array_mem_dec)
  | (with_reducible apply LS.tfld)
  | ((with_reducible apply LS.k_fl); array_mem_dec; assumption; assumption; exact rfl)
  | (with_reducible apply LS.tmeth)
  | ((with_reducible apply LS.k_me); array_mem_dec; exact rfl)
  | (with_reducible apply LS.tmake)
  | (with_reducible apply LS.tsfld)
  | (with_reducible apply LS.tprop)
  | ((with_reducible apply LS.k_pr); array_mem_dec)
  | ((with_reducible apply LS.rlen_own); array_mem_dec)
  | (with_reducible apply LS.rabs)
  | (with_reducible apply LS.rmin2)
  | (with_reducible apply LS.rmax2)
  | (with_reducible apply LS.tsl)
  | (with_reducible apply LS.tthen)
  | (with_reducible apply LS.tstep)
  | (with_reducible apply LS.tnop)
  | (with_reducible apply LS.tpart)
  | (with_reducible apply LS.k_part)
  | (with_reducible apply LS.ttup)
  | (with_reducible apply LS.tlst)
  | (with_reducible apply LS.tbm)
  | (with_reducible apply LS.tbm0)
  | ((with_reducible apply LS.ty_l); array_mem_dec)
  | (with_reducible apply LS.tpar)
  | (with_reducible apply LS.tfor)
  | (with_reducible apply LS.tlc)
  | (with_reducible apply LS.ilist)
  | ((with_reducible apply LS.k_il); array_mem_dec)
  | (with_reducible apply LS.itup)
  | ((with_reducible apply LS.k_it); array_mem_dec)
  | (with_reducible apply LS.istr)
  | (with_reducible apply LS.k_is)
  | (with_reducible apply LS.irng1)
  | ((with_reducible apply LS.k_r1n); omega)
  | ((with_reducible apply LS.k_r1); (first | omega | decide); (first | omega | decide))
  | (with_reducible apply LS.irng2)
  | ((with_reducible apply LS.k_r2); (first | omega | decide); (first | omega | decide); (first | omega | decide); (first | omega | decide))
  | (with_reducible apply LS.ienum)
  | ((with_reducible apply LS.k_en); array_mem_dec)
  | (with_reducible apply LS.izip)
  | ((with_reducible apply LS.k_zip); array_mem_dec; array_mem_dec)
  | (with_reducible apply LS.tlstrg)
  | (with_reducible apply LS.trg1)
  | (with_reducible apply LS.k_g1)
  | (with_reducible apply LS.risn_i)
  | (with_reducible apply LS.risn_s)
  | (with_reducible apply LS.risn_n)
  | (with_reducible apply LS.rnotn_i)
  | (with_reducible apply LS.rnotn_n)
  | (with_reducible apply LS.rint_b)
  | (with_reducible apply LS.rint_i)
  | (with_reducible apply LS.tm0)
  | (with_reducible apply LS.tm1)
  | (with_reducible apply LS.is_str)
  | (with_reducible apply LS.ex_s0)
  | (with_reducible apply LS.ex_int_b)
  | (with_reducible apply LS.k_par)
  | (with_reducible apply LS.tpar3)
  | (with_reducible apply LS.k_par3)
  | ((with_reducible apply LS.taug); exact rfl)
  | (with_reducible apply LS.ipi)
  | ((with_reducible apply LS.gtup); array_mem_dec; exact rfl)
  | ((with_reducible apply LS.gunl); array_mem_dec; exact rfl)
  | (with_reducible apply LS.gnil)
  | (with_reducible apply LS.gcons)
  | (with_reducible apply LS.gsub)
  | ((with_reducible apply LS.ri); first | omega | decide | assumption | exact ⟨by decide, by decide, by decide⟩ | exact .inl ⟨by decide, by decide⟩ | exact .inr ⟨by decide, by decide⟩ | exact .inl ⟨by omega, by omega⟩ | exact .inr ⟨by omega, by omega⟩)
  | (with_reducible apply LS.ex_ss)
  | (with_reducible apply LS.ex_s1)
  | (with_reducible apply LS.ex_i1)
  | (with_reducible apply LS.and_rfl)
  | (with_reducible apply LS.and_tr)
  | (with_reducible apply LS.is_non))
local macro_rules | `(tactic| array_mem_dec) => `(tactic| first
  | ((with_reducible apply LP.sg_s); assumption; array_mem_dec)
  | ((with_reducible apply LP.sg_f); assumption; array_mem_dec; array_mem_dec)
  | ((with_reducible apply LP.sg_l); assumption; array_mem_dec; array_mem_dec)
  | ((with_reducible apply LP.sg_ne); assumption; array_mem_dec)
  | ((with_reducible apply LP.sg_ne'); assumption; array_mem_dec)
  | ((with_reducible apply LS.se_q); array_mem_dec)
  | ((with_reducible apply LS.se_u); array_mem_dec)
  | ((with_reducible apply LP.sg_no); assumption; array_mem_dec; array_mem_dec))
local macro_rules | `(tactic| array_get_dec) => `(tactic| first
  | ((with_reducible apply LS.rne_same); exact rfl)
  | ((with_reducible apply LS.req_same); exact rfl)
  | (with_reducible apply LS.trevl)
  | (with_reducible apply LS.irng3)
  | (with_reducible apply LS.risn_b)
  | ((with_reducible apply LS.isiT_n); array_mem_dec)
  | ((with_reducible apply LS.isiT_b); array_mem_dec))
local macro_rules | `(tactic| array_get_dec) => `(tactic| first
  | (with_reducible apply LS.tcalle)
  | (with_reducible apply LS.tcalls))
local macro_rules | `(tactic| array_get_dec) => `(tactic| first
  | (with_reducible apply LS.trg2)
  | (with_reducible apply LS.k_g2))

section
variable {P : Program} {w : World} {K : PySem.W.Frag} {mg : Str → Option Value} {base : Heap}

theorem get_erase {α : Type} : ∀ {l : List α} {i : Nat} {x : α}, l[i]? = some x → (x :: l.eraseIdx i).Perm l
  | [], i, x, h => by simp at h
  | a :: r, 0, x, h => by
    have e : a = x := Option.some.inj h
    subst e; exact List.Perm.refl _
  | a :: r, i + 1, x, h => by
    have ih := get_erase (l := r) (i := i) (x := x) h
    exact (List.Perm.swap a x (r.eraseIdx i)).trans (ih.cons a)
theorem pop_perm {lf dn xs : List Int} {i : Nat} {x : Int} (h : (lf ++ dn).Perm xs) (hx : lf[i]? = some x) : (lf.eraseIdx i ++ (dn ++ [x])).Perm xs := by
  refine List.Perm.trans ?_ h
  have p : (x :: lf.eraseIdx i).Perm lf := get_erase hx
  have q : (lf.eraseIdx i ++ (dn ++ [x])).Perm (x :: (lf.eraseIdx i ++ dn)) := by
    rw [← List.append_assoc]
    exact List.perm_append_singleton _ _
  exact q.trans ((List.perm_append_right_iff dn).mpr p)
theorem ok__law_mixed (e : Env K mg) : FnOk P w K mg base CX0 3 e.a__law_mixed e.d__law_mixed ["spring", "row"] (sp__law_mixed) := by
  refine Fun.ok e.f__law_mixed sc__law_mixed (fun vs H Q E h => ?_) (fun cdv A outer s H vs Q E hr h => ?_)
  · obtain ⟨b, d, p, xs, rfl, _⟩ := h; rfl
  · obtain ⟨b, d, p, xs, rfl, R, hd, hp, hx, hpb, k⟩ := h
    refine ⟨_, (pss_cons (ps_set (i := 2) sc__law_mixed.nd rfl (by first | exact Or.inl rfl | exact Or.inr rfl) (pe_callTy LS.call_list (by rfl) e.n_list (by decide +kernel) (pa_cons (pv 1) pa_nil)))
      (pss_one (ps_ret (pe_lc (own := [("k", 3)]) rfl sc__law_mixed.nd (pi_range1 (by rfl) e.n_range (pa_cons (pe_callB LS.call_len (by rfl) e.n_len PySem.boot_len (pa_cons (pv 1) pa_nil)) pa_nil)) (blkOk_by (N := ["spring", "row", "left", "k"]) (sc := defScope s__law_mixed) (by decide +kernel)) (fun _ _ _ _ _ => (pg_name (i := 3) sc__law_mixed.nd rfl (by first | exact Or.inl rfl | exact Or.inr rfl))) (fun _ _ _ _ _ => pts_nil) (fun _ _ _ _ _ => (show PE _ _ (tBM K "list" _ _ _) from pe_bm PySem.F.plainAttrs_list PySem.F.slot_list_pop PySem.F.type_list_pop mt_popAt (pv 2) (pa_cons (pe_call ((ok__law_draw e).mono (by decide)) hr rfl e.g__law_draw e.f__law_draw.kp e.b__law_draw .nil pass0 (pa_cons (pv 0) (pa_cons (pe_callB (show CallR _ _ (rLenS K) from LS.call_len) (by rfl) e.n_len PySem.boot_len (pa_cons (pv 2) pa_nil)) pa_nil))) pa_nil))))))), ?_⟩
    repeat array_get_dec
    refine LS.rlist_l (by array_mem_dec) fun L H1 nL s1 hL => ?_
    repeat array_get_dec
    refine LS.comp (walk_range (lo := 0) (n := xs.length)) (fun D j acc H' => ∃ lf dn : List Int, acc = dn.map V.int ∧ (lf ++ dn).Perm xs ∧ dn.length = j ∧ Spring H' b (d + j) ∧ Fr H H' b ∧ H' L = some (.lst (lf.map V.int))) ?_ ?_ ?_ ?_
    · intro D H2 nD s2 hD
      exact ⟨xs, [], rfl, by rw [List.append_nil], rfl, (by array_mem_dec), (by array_mem_dec), (by array_mem_dec)⟩
    · rintro D j acc H2 hj nD hD ⟨lf, dn, rfl, pm, dl, R2, F2, hL2⟩
      trivial
    · rintro D j acc x H2 H3 nD hj hl hD ⟨lf, dn, rfl, pm, dl, R2, F2, hL2⟩ ⟨rfl, rfl⟩
      have hlen := pm.length_eq
      rw [List.length_append] at hlen
      refine ⟨rfl, ?_⟩
      repeat array_get_dec
      refine ⟨b, _, _, rfl, (by array_mem_dec), by omega, log_small (by omega), by omega, fun H4 r r0 r1 R4 F4 => ?_⟩
      have hr : r.toNat < lf.length := by omega
      have hg := List.getElem?_eq_getElem hr
      repeat array_get_dec
      refine LS.rpopi (xs := lf.map V.int) (k := r.toNat) (by array_mem_dec) (by omega) (by omega) (by rw [List.length_map]; exact seq_int r0 hr) (int_at hg) fun H5 f5 h5 => ?_
      refine LS.k_lc (acc := dn.map V.int) (by array_mem_dec) hl (by omega) fun H6 f6 h6 => ?_
      refine ⟨lf.eraseIdx r.toNat, dn ++ [lf[r.toNat]], by rw [List.map_append]; rfl, pop_perm pm hg, by rw [List.length_append, dl]; rfl, (by array_mem_dec), (by array_mem_dec), ?_⟩
      rw [erase_map] at h5
      exact (by array_mem_dec)
    · rintro D acc H2 nD hD hl ⟨lf, dn, rfl, pm, dl, R2, F2, hL2⟩
      have hlen := pm.length_eq
      rw [List.length_append] at hlen
      have e : lf = [] := List.length_eq_zero_iff.mp (by omega)
      subst e
      exact k H2 D dn R2 F2 (by array_mem_dec) pm hD
end
end LP

namespace LP
open PySem L2 LT LG LQ LH LC LX LR
local macro_rules | `(tactic| array_mem_dec) => `(tactic| first
  | assumption
  | ((with_reducible apply LS.hp_s); assumption; array_mem_dec)
  | ((with_reducible apply LS.hp_f); assumption; array_mem_dec; array_mem_dec)
  | ((with_reducible apply LS.hp_t); assumption; array_mem_dec; array_mem_dec)
  | ((with_reducible apply LS.hp_l); assumption; array_mem_dec; array_mem_dec)
  | ((with_reducible apply LS.sq_o); array_mem_dec)
  | ((with_reducible apply LS.sq_s); assumption; array_mem_dec)
  | ((with_reducible apply LS.sq_f); assumption; array_mem_dec; array_mem_dec)
  | ((with_reducible apply LS.sq_t); assumption; array_mem_dec; array_mem_dec)
  | ((with_reducible apply LS.sq_l); assumption; array_mem_dec; array_mem_dec)
  | ((with_reducible apply LS.tu_o); array_mem_dec)
  | ((with_reducible apply LS.tu_s); assumption; array_mem_dec)
  | ((with_reducible apply LS.tu_f); assumption; array_mem_dec; array_mem_dec)
  | ((with_reducible apply LS.tu_t); assumption; array_mem_dec; array_mem_dec)
  | ((with_reducible apply LS.tu_l); assumption; array_mem_dec; array_mem_dec)
  | ((with_reducible apply LS.se_l); array_mem_dec)
  | ((with_reducible apply LS.se_t); array_mem_dec)
  | ((with_reducible apply LS.se_s); assumption; array_mem_dec)
  | ((with_reducible apply LS.se_f); assumption; array_mem_dec; array_mem_dec)
  | ((with_reducible apply LS.se_tt); assumption; array_mem_dec; array_mem_dec)
  | ((with_reducible exact Same.refl _))
  | ((with_reducible apply LS.sm_s); assumption; array_mem_dec)
  | ((with_reducible apply LS.sm_f); assumption; array_mem_dec; array_mem_dec)
  | ((with_reducible exact Fr.refl _ _))
  | ((with_reducible apply LS.fr_b); assumption; array_mem_dec)
  | ((with_reducible apply LS.fr_s); assumption; array_mem_dec)
  | ((with_reducible apply LS.fr_n); assumption; array_mem_dec; array_mem_dec)
  | ((with_reducible apply LS.fr_t); assumption; array_mem_dec)
  | ((with_reducible apply LS.no_s); assumption; array_mem_dec)
  | ((with_reducible apply LS.no_f); assumption; array_mem_dec; array_mem_dec)
  | ((with_reducible apply LS.no_t); assumption; array_mem_dec)
  | ((with_reducible apply LS.no_l); assumption; assumption)
  | ((with_reducible apply Ne.symm); assumption)
  | ((with_reducible apply LS.ne_a); assumption; array_mem_dec)
  | ((with_reducible apply LS.ne_b); assumption; array_mem_dec)
  | ((with_reducible apply LS.ne_ap); assumption)
  | ((with_reducible apply LS.ne_il); assumption; array_mem_dec)
  | ((with_reducible apply LS.ne_li); assumption; array_mem_dec)
  | ((with_reducible apply LS.ne_lt); assumption; assumption)
  | ((with_reducible apply LS.ne_tl); assumption; assumption)
  | ((with_reducible apply LS.ne_rl); assumption; array_mem_dec)
  | ((with_reducible apply LS.rl_t); assumption)
  | ((with_reducible apply LS.rl_s); assumption; array_mem_dec)
  | ((with_reducible apply LS.rl_f); assumption; array_mem_dec; array_mem_dec)
  | ((with_reducible apply LS.rl_l); assumption; array_mem_dec; array_mem_dec)
  | ((with_reducible apply LS.ap_new); assumption; assumption; array_mem_dec)
  | ((with_reducible apply LS.ap_t); assumption; array_mem_dec; array_mem_dec)
  | ((with_reducible apply LS.ap_s); assumption; array_mem_dec; array_mem_dec)
  | ((with_reducible apply LS.ap_f); assumption; array_mem_dec; array_mem_dec; array_mem_dec)
  | ((with_reducible apply LS.ap_l); assumption; array_mem_dec; array_mem_dec; array_mem_dec)
  | (with_reducible apply LS.ni_nil)
  | ((with_reducible apply LS.ni_cons); array_mem_dec; array_mem_dec)
  | (with_reducible apply LS.trk_nil)
  | ((with_reducible apply LS.trk_cons); array_mem_dec; array_mem_dec)
  | (with_reducible apply LS.al_nil)
  | ((with_reducible apply LS.al_cons); array_mem_dec; array_mem_dec)
  | (with_reducible apply LS.mem_hd)
  | ((with_reducible apply LS.mem_tl); array_mem_dec)
  | ((with_reducible apply LS.fl_refl); array_mem_dec)
  | ((with_reducible apply LS.fl_l); assumption; array_mem_dec)
  | ((with_reducible apply LS.fl_lm); assumption; array_mem_dec; array_mem_dec)
  | (with_reducible apply LS.sub_nil)
  | ((with_reducible apply LS.sub_cons); array_mem_dec; array_mem_dec)
  | ((with_reducible apply LS.fl_s); assumption; array_mem_dec)
  | ((with_reducible apply LS.fl_m); assumption; array_mem_dec; array_mem_dec; array_mem_dec)
  | ((with_reducible apply LS.fl_n); assumption; array_mem_dec; array_mem_dec; array_mem_dec)
  | ((with_reducible apply LS.rt_refl); array_mem_dec)
  | ((with_reducible apply LS.rt_t); assumption; array_mem_dec)
  | ((with_reducible apply LS.rt_s); assumption; array_mem_dec)
  | ((with_reducible apply LS.rt_f); assumption; array_mem_dec; array_mem_dec; array_mem_dec)
  | ((with_reducible apply LS.sz); (first | decide | (simp only [List.length_append, List.length_map, List.length_cons, List.length_nil, List.length_replicate]; omega)))
  | ((with_reducible apply LS.szl); (first | decide | (simp only [List.length_append, List.length_map, List.length_cons, List.length_nil, List.length_replicate]; omega))))
local macro_rules | `(tactic| array_get_dec) => `(tactic| first
  | ((with_reducible apply LS.var); exact rfl)
  | (with_reducible apply LS.con)
  | (with_reducible apply LS.op)
  | (with_reducible apply LS.ri0)
  | (with_reducible apply LS.tseq)
  | (with_reducible apply LS.tasg)
  | (with_reducible apply LS.gname)
  | (with_reducible apply LS.tcons)
  | (with_reducible apply LS.tnil)
  | (with_reducible apply LS.tcb)
  | (with_reducible apply LS.tcall)
  | (with_reducible apply LS.ttest)
  | (with_reducible apply LS.k_b)
  | (with_reducible apply LS.tb)
  | (with_reducible apply LS.tifs)
  | (with_reducible apply LS.ift)
  | (with_reducible apply LS.iff_)
  | (with_reducible apply LS.ifnt)
  | (with_reducible apply LS.ifnf)
  | (with_reducible apply LS.tnext)
  | (with_reducible apply LS.tdrop)
  | (with_reducible apply LS.tret)
  | (with_reducible apply LS.tretn)
  | (with_reducible apply LS.un)
  | (with_reducible apply LS.ru)
  | (with_reducible apply LS.tyes)
  | (with_reducible apply LS.tand)
  | (with_reducible apply LS.tor)
  | (with_reducible apply LS.tnot)
  | (with_reducible apply LS.tif)
  | (with_reducible apply LS.tandv)
  | (with_reducible apply LS.k_av)
  | (with_reducible apply LS.torv)
  | (with_reducible apply LS.k_ov)
  | (with_reducible apply LS.tnotv)
  | (with_reducible apply LS.k_nv)
  | (with_reducible apply LS.tchain)
  | (with_reducible apply LS.k_ch)
  | (with_reducible apply LS.req_i)
  | (with_reducible apply LS.rne_i)
  | (with_reducible apply LS.req_s)
  | (with_reducible apply LS.rne_s)
  | (with_reducible apply LS.req_b)
  | (with_reducible apply LS.rne_b)
  | ((with_reducible apply LS.rin_i); array_mem_dec)
  | ((with_reducible apply LS.rni_i); array_mem_dec)
  | ((with_reducible apply LS.rlen_li); array_mem_dec)
  | ((with_reducible apply LS.rlen_ls); array_mem_dec)
  | ((with_reducible apply LS.rlen_l); array_mem_dec)
  | ((with_reducible apply LS.rlen_Ei); array_mem_dec)
  | ((with_reducible apply LS.rlen_E); array_mem_dec)
  | ((with_reducible apply LS.rlen_t); array_mem_dec)
  | ((with_reducible apply LS.rixl); array_mem_dec; exact rfl)
  | ((with_reducible apply LS.rixt); array_mem_dec; exact rfl)
  | (with_reducible apply LS.isi_int_int)
  | (with_reducible apply LS.isi_int_bool)
  | (with_reducible apply LS.isi_int_str)
  | (with_reducible apply LS.isi_str_int)
  | (with_reducible apply LS.isi_str_bool)
  | (with_reducible apply LS.isi_str_str)
  | (with_reducible apply LS.isi_bool_int)
  | (with_reducible apply LS.isi_bool_bool)
  | (with_reducible apply LS.isi_bool_str)
  | (with_reducible apply LS.isi_non_int)
  | (with_reducible apply LS.isi_non_bool)
  | (with_reducible apply LS.isi_non_str)
  | ((with_reducible apply LS.isi_list_int); array_mem_dec)
  | ((with_reducible apply LS.isi_list_bool); array_mem_dec)
  | ((with_reducible apply LS.isi_list_str); array_mem_dec)
  | ((with_reducible apply LS.isi_list_list); array_mem_dec)
  | ((with_reducible apply LS.isi_list_tuple); array_mem_dec)
  | ((with_reducible apply LS.isi_tuple_int); array_mem_dec)
  | ((with_reducible apply LS.isi_tuple_bool); array_mem_dec)
  | ((with_reducible apply LS.isi_tuple_str); array_mem_dec)
  | ((with_reducible apply LS.isi_tuple_list); array_mem_dec)
  | ((with_reducible apply LS.isi_tuple_tuple); array_mem_dec)
  | ((with_reducible apply LS.isiT_i); array_mem_dec)
  | ((with_reducible apply LS.isiT_s); array_mem_dec)
  | ((with_reducible apply LS.isiT_E); array_mem_dec; array_mem_dec)
  | (with_reducible apply LS.tfld)
  | ((with_reducible apply LS.k_fl); array_mem_dec; assumption; assumption; exact rfl)
  | (with_reducible apply LS.tmeth)
  | ((with_reducible apply LS.k_me); array_mem_dec; exact rfl)
  | (with_reducible apply LS.tmake)
  | (with_reducible apply LS.tsfld)
  | (with_reducible apply LS.tprop)
  | ((with_reducible apply LS.k_pr); array_mem_dec)
  | ((with_reducible apply LS.rlen_own); array_mem_dec)
  | (with_reducible apply LS.rabs)
  | (with_reducible apply LS.rmin2)
  | (with_reducible apply LS.rmax2)
  | (with_reducible apply LS.tsl)
  | (with_reducible apply LS.tthen)
  | (with_reducible apply LS.tstep)
  | (with_reducible apply LS.tnop)
  | (with_reducible apply LS.tpart)
  | (with_reducible apply LS.k_part)
  | (with_reducible apply LS.ttup)
  | (with_reducible apply LS.tlst)
  | (with_reducible apply LS.tbm)
  | (with_reducible apply LS.tbm0)
  | ((with_reducible apply LS.ty_l); array_mem_dec)
  | (with_reducible apply LS.tpar)
  | (with_reducible apply LS.tfor)
  | (with_reducible apply LS.tlc)
  | (with_reducible apply LS.ilist)
  | ((with_reducible apply LS.k_il); array_mem_dec)
  | (with_reducible apply LS.itup)
  | ((with_reducible apply LS.k_it); array_mem_dec)
  | (with_reducible apply LS.istr)
  | (with_reducible apply LS.k_is)
  | (with_reducible apply LS.irng1)
  | ((with_reducible apply LS.k_r1n); omega)
  | ((with_reducible apply LS.k_r1); (first | omega | decide); (first | omega | decide))
  | (with_reducible apply LS.irng2)
  | ((with_reducible apply LS.k_r2); (first | omega | decide); (first | omega | decide); (first | omega | decide); (first | omega | decide))
  | (with_reducible apply LS.ienum)
  | ((with_reducible apply LS.k_en); array_mem_dec)
  | (with_reducible apply LS.izip)
  | ((with_reducible apply LS.k_zip); array_mem_dec; array_mem_dec)
  | (with_reducible apply LS.tlstrg)
  | (with_reducible apply LS.trg1)
  | (with_reducible apply LS.k_g1)
  | (with_reducible apply LS.risn_i)
  | (with_reducible apply LS.risn_s)
  | (with_reducible apply LS.risn_n)
  | (with_reducible apply LS.rnotn_i)
  | (with_reducible apply LS.rnotn_n)
  | (with_reducible apply LS.rint_b)
  | (with_reducible apply LS.rint_i)
  | (with_reducible apply LS.tm0)
  | (with_reducible apply LS.tm1)
  | (with_reducible apply LS.is_str)
  | (with_reducible apply LS.ex_s0)
  | (with_reducible apply LS.ex_int_b)
  | (with_reducible apply LS.k_par)
  | (with_reducible apply LS.tpar3)
  | (with_reducible apply LS.k_par3)
  | ((with_reducible apply LS.taug); exact rfl)
  | (with_reducible apply LS.ipi)
  | ((with_reducible apply LS.gtup); array_mem_dec; exact rfl)
  | ((with_reducible apply LS.gunl); array_mem_dec; exact rfl)
  | (with_reducible apply LS.gnil)
  | (with_reducible apply LS.gcons)
  | (with_reducible apply LS.gsub)
  | ((with_reducible apply LS.ri); first | omega | decide | assumption | exact ⟨by decide, by decide, by decide⟩ | exact .inl ⟨by decide, by decide⟩ | exact .inr ⟨by decide, by decide⟩ | exact .inl ⟨by omega, by omega⟩ | exact .inr ⟨by omega, by omega⟩)
  | (with_reducible apply LS.ex_ss)
  | (with_reducible apply LS.ex_s1)
  | (with_reducible apply LS.ex_i1)
  | (with_reducible apply LS.and_rfl)
  | (with_reducible apply LS.and_tr)
  | (with_reducible apply LS.is_non))
local macro_rules | `(tactic| array_mem_dec) => `(tactic| first
  | ((with_reducible apply LP.sg_s); assumption; array_mem_dec)
  | ((with_reducible apply LP.sg_f); assumption; array_mem_dec; array_mem_dec)
  | ((with_reducible apply LP.sg_l); assumption; array_mem_dec; array_mem_dec)
  | ((with_reducible apply LP.sg_ne); assumption; array_mem_dec)
  | ((with_reducible apply LP.sg_ne'); assumption; array_mem_dec)
  | ((with_reducible apply LS.se_q); array_mem_dec)
  | ((with_reducible apply LS.se_u); array_mem_dec)
  | ((with_reducible apply LP.sg_no); assumption; array_mem_dec; array_mem_dec))
local macro_rules | `(tactic| array_get_dec) => `(tactic| first
  | ((with_reducible apply LS.rne_same); exact rfl)
  | ((with_reducible apply LS.req_same); exact rfl)
  | (with_reducible apply LS.trevl)
  | (with_reducible apply LS.irng3)
  | (with_reducible apply LS.risn_b)
  | ((with_reducible apply LS.isiT_n); array_mem_dec)
  | ((with_reducible apply LS.isiT_b); array_mem_dec))
local macro_rules | `(tactic| array_get_dec) => `(tactic| first
  | (with_reducible apply LS.tcalle)
  | (with_reducible apply LS.tcalls))
local macro_rules | `(tactic| array_get_dec) => `(tactic| first
  | (with_reducible apply LS.trg2)
  | (with_reducible apply LS.k_g2))

section
variable {P : Program} {w : World} {K : PySem.W.Frag} {mg : Str → Option Value} {base : Heap}

def Rk (w : List Int) : Prop := ∀ (i : Nat) (y : Int), w[i]? = some y → 0 ≤ y ∧ y ≤ (i : Int)
theorem rk_nil : Rk [] := fun i y h => by simp at h
theorem rk_snoc {w : List Int} {j : Nat} {r : Int} (h : Rk w) (hl : w.length = j) (h0 : 0 ≤ r) (h1 : r ≤ (j : Int)) : Rk (w ++ [r]) := fun i y hy => by
  rcases Nat.lt_or_ge i w.length with q | q
  · rw [List.getElem?_append_left q] at hy; exact h i y hy
  · rw [List.getElem?_append_right q] at hy
    cases z : i - w.length with
    | zero => rw [z] at hy; cases hy; omega
    | succ m => rw [z] at hy; simp at hy
theorem rk_pk {w : List Int} (h : Rk w) : Pk w := by
  refine ⟨fun x hx => ?_, fun k hk => ?_⟩
  · obtain ⟨i, hi⟩ := List.mem_iff_getElem?.mp hx
    have := h i x hi
    have := (List.getElem?_eq_some_iff.mp hi).1
    omega
  · have e : ((w.take k).filter fun x => decide (x < (k : Int))) = w.take k := by
      rw [List.filter_eq_self]
      intro a ha
      obtain ⟨i, hi⟩ := List.mem_iff_getElem?.mp ha
      have hik := (List.getElem?_eq_some_iff.mp hi).1
      rw [List.length_take] at hik
      rw [List.getElem?_take_of_lt (by omega)] at hi
      have := h i a hi
      exact decide_eq_true (by omega)
    have sub : (w.take k).Sublist w := List.take_sublist ..
    have l := (sub.filter fun x => decide (x < (k : Int))).length_le
    rw [e, List.length_take, Nat.min_eq_left hk] at l
    exact l
def sp__law_parking : Sp := fun vs H Q _ => ∃ (b : Addr) (d n : Nat), vs = [.ref b, .int n] ∧ Spring H b d ∧ d < 800000 ∧ 1 ≤ n ∧ n ≤ 200 ∧
  ∀ (H' : Hp) (q : Addr) (w : List Int), Spring H' b (d + 900) → Fr H H' b → H q = none → w.length = n → Pk w → H' q = some (.lst (w.map V.int)) → Q (.ref q) H'
theorem ok__law_parking (e : Env K mg) : FnOk P w K mg base CX0 4 e.a__law_parking e.d__law_parking ["spring", "size"] (sp__law_parking) := by
  refine Fun.ok e.f__law_parking sc__law_parking (fun vs H Q E h => ?_) (fun cdv A outer s H vs Q E hr h => ?_)
  · obtain ⟨b, d, n, rfl, _⟩ := h; rfl
  · obtain ⟨b, d, n, rfl, R, hd, hn1, hn, k⟩ := h
    refine ⟨_, (pss_cons (ps_set (i := 2) sc__law_parking.nd rfl (by first | exact Or.inl rfl | exact Or.inr rfl) (pe_call ((ok__law_draw e).mono (by decide)) hr rfl e.g__law_draw e.f__law_draw.kp e.b__law_draw .nil pass0 (pa_cons (pv 0) (pa_cons pe_int pa_nil))))
      (pss_cons (ps_setLc (i := 3) (own := [("spot", 4)]) rfl sc__law_parking.nd rfl rfl (sw_true rfl rfl rfl (by decide +kernel)) (pi_range1 (by rfl) e.n_range (pa_cons (pv 1) pa_nil)) (blkOk_by (N := ["spring", "size", "style", "wishes", "spot"]) (sc := defScope s__law_parking) (by decide +kernel)) (fun _ _ _ _ _ => (pg_name (i := 4) sc__law_parking.nd rfl (by first | exact Or.inl rfl | exact Or.inr rfl))) (fun _ _ _ _ _ => pts_nil) (fun _ _ _ _ _ => (pe_call ((ok__law_draw e).mono (by decide)) hr rfl e.g__law_draw e.f__law_draw.kp e.b__law_draw .nil pass0 (pa_cons (pv 0) (pa_cons (pe_op op_add (pv 4) pe_int) pa_nil)))))
      (pss_cons (ps_if (pt_cmpR op_eq (pv 2) pe_int (nomark _))
        (pss_one (ps_setLc (i := 3) (own := [("spot", 4)]) rfl sc__law_parking.nd rfl rfl (sw_true rfl rfl rfl (by decide +kernel)) (pi_range1 (by rfl) e.n_range (pa_cons (pv 1) pa_nil)) (blkOk_by (N := ["spring", "size", "style", "wishes", "spot"]) (sc := defScope s__law_parking) (by decide +kernel)) (fun _ _ _ _ _ => (pg_name (i := 4) sc__law_parking.nd rfl (by first | exact Or.inl rfl | exact Or.inr rfl))) (fun _ _ _ _ _ => pts_nil) (fun _ _ _ _ _ => (pe_callB (LS.call_max2 rfl) (by rfl) e.n_max (by decide +kernel) (pa_cons pe_int (pa_cons (pe_op op_sub (pv 4) (pe_call ((ok__law_draw e).mono (by decide)) hr rfl e.g__law_draw e.f__law_draw.kp e.b__law_draw .nil pass0 (pa_cons (pv 0) (pa_cons pe_int pa_nil)))) pa_nil))))))
        pss_nil)
      (pss_cons (ps_if (pt_cmpR op_eq (pv 2) pe_int (nomark _))
        (pss_one (ps_setLc (i := 3) (own := [("spot", 4)]) rfl sc__law_parking.nd rfl rfl (sw_true rfl rfl rfl (by decide +kernel)) (pi_range1 (by rfl) e.n_range (pa_cons (pv 1) pa_nil)) (blkOk_by (N := ["spring", "size", "style", "wishes", "spot"]) (sc := defScope s__law_parking) (by decide +kernel)) (fun _ _ _ _ _ => (pg_name (i := 4) sc__law_parking.nd rfl (by first | exact Or.inl rfl | exact Or.inr rfl))) (fun _ _ _ _ _ => pts_nil) (fun _ _ _ _ _ => (pe_call ((ok__law_draw e).mono (by decide)) hr rfl e.g__law_draw e.f__law_draw.kp e.b__law_draw .nil pass0 (pa_cons (pv 0) (pa_cons (pe_op op_add pe_int (pe_callB (LS.call_min2 rfl) (by rfl) e.n_min (by decide +kernel) (pa_cons (pv 4) (pa_cons pe_int pa_nil)))) pa_nil))))))
        pss_nil)
      (pss_one (ps_ret (pe_call ((ok__law_mixed e).mono (by decide)) hr rfl e.g__law_mixed e.f__law_mixed.kp e.b__law_mixed .nil pass0 (pa_cons (pv 0) (pa_cons (pv 3) pa_nil))))))))), ?_⟩
    repeat array_get_dec
    refine ⟨b, d, 4, rfl, R, by decide, by decide +kernel, by omega, fun H1 style w0 w1 R1 F1 => ?_⟩
    repeat array_get_dec
    refine LS.comp (walk_range (lo := 0) (n := n)) (fun D j acc H' => ∃ ws : List Int, acc = ws.map V.int ∧ ws.length = j ∧ Rk ws ∧ Spring H' b (d + 1 + j) ∧ Fr H H' b) (fun D H2 nD s2 hD => ⟨[], rfl, rfl, rk_nil, sg_s s2 R1, LS.fr_s s2 F1⟩) (fun _ _ _ _ _ _ _ _ => trivial) ?_ ?_
    · rintro D j acc x H2 H3 nD hj hl hD ⟨ws, rfl, wl, rk, R2, F2⟩ ⟨rfl, rfl⟩
      have Db : D ≠ b := sg_ne nD R1
      refine ⟨rfl, ?_⟩
      repeat array_get_dec
      refine ⟨b, _, (0 + (j : Int)) + 1, rfl, R2, by omega, by
        rw [show (0 + (j : Int)) + 1 = ((j + 1 : Nat) : Int) by omega]
        exact log_small (by omega), by omega, fun H4 r r0 r1 R4 F4 => ?_⟩
      have hD4 := F4 _ _ hD Db
      refine LS.k_lc (acc := ws.map V.int) hD4 hl (by omega) fun H5 f5 h5 => ?_
      exact ⟨ws ++ [r], by rw [List.map_append]; rfl, by rw [List.length_append, wl]; rfl, rk_snoc rk wl r0 (by omega), sg_f f5 R4 Db, LS.fr_n f5 (F2.trans F4) (sg_no nD F1 R1)⟩
    rintro D acc H2 nD hD hl ⟨ws, rfl, wl, rk, R2, F2⟩
    have nD0 : H D = none := sg_no nD F1 R1
    have Db : D ≠ b := sg_ne nD R1
    repeat array_get_dec
    refine LS.if_join (fun σ H' => ∃ (p : Addr) (ws : List Int), Spring H' b (d + 1 + 2 * n) ∧ Fr H H' b ∧ H p = none ∧ p ≠ b ∧ H' p = some (.lst (ws.map V.int)) ∧ ws.length = n ∧ Rk ws ∧ σ = [some (.ref b), some (.int n), some (.int style), some (.ref p), none]) (fun hw D' eD kk => ?_) (fun hw D' eD kk => ?_) ?_
    · repeat array_get_dec
      refine LS.comp (walk_range (lo := 0) (n := n)) (fun D j acc H' => ∃ ws : List Int, acc = ws.map V.int ∧ ws.length = j ∧ Rk ws ∧ Spring H' b (d + 1 + n + j) ∧ Fr H H' b) (fun D H3 nD s3 hD => ⟨[], rfl, rfl, rk_nil, sg_s s3 R2, LS.fr_s s3 F2⟩) (fun _ _ _ _ _ _ _ _ => trivial) ?_ ?_
      · rintro D j acc x H3 H4 nD hj hl hD ⟨ws, rfl, wl, rk, R3, F3⟩ ⟨rfl, rfl⟩
        have Db : D ≠ b := sg_ne nD R2
        refine ⟨rfl, ?_⟩
        repeat array_get_dec
        refine ⟨b, _, 3, rfl, R3, by omega, by decide +kernel, by omega, fun H4 r r0 r1 R4 F4 => ?_⟩
        have hD4 := F4 _ _ hD Db
        repeat array_get_dec
        refine LS.k_lc (acc := ws.map V.int) hD4 hl (by omega) fun H5 f5 h5 => ?_
        exact ⟨ws ++ [_], by rw [List.map_append]; rfl, by rw [List.length_append, wl]; rfl, rk_snoc rk wl (by omega) (by omega), sg_f f5 R4 Db, LS.fr_n f5 (F3.trans F4) (sg_no nD F2 R2)⟩
      · rintro D acc H3 nD hD hl ⟨ws, rfl, wl, rk, R3, F3⟩
        repeat array_get_dec
        exact kk _ _ ⟨D, ws, by rw [show d + 1 + 2 * n = d + 1 + n + n by omega]; exact R3, F3, sg_no nD F2 R2, sg_ne nD R2, hD, wl, rk, rfl⟩
    · repeat array_get_dec
      exact kk _ _ ⟨D, ws, R2.mono (by omega), F2, nD0, Db, hD, wl, rk, rfl⟩
    clear hD wl rk F2 R2 nD0 Db ws nD H2 hl D
    rintro σ' H2 ⟨D, ws, R2, F2, nD, Db, hD, wl, rk, rfl⟩
    repeat array_get_dec
    refine LS.if_join (fun σ H' => ∃ (p : Addr) (ws : List Int), Spring H' b (d + 1 + 3 * n) ∧ Fr H H' b ∧ H p = none ∧ p ≠ b ∧ H' p = some (.lst (ws.map V.int)) ∧ ws.length = n ∧ Rk ws ∧ σ = [some (.ref b), some (.int n), some (.int style), some (.ref p), none]) (fun hw D' eD kk => ?_) (fun hw D' eD kk => ?_) ?_
    · repeat array_get_dec
      refine LS.comp (walk_range (lo := 0) (n := n)) (fun D j acc H' => ∃ ws : List Int, acc = ws.map V.int ∧ ws.length = j ∧ Rk ws ∧ Spring H' b (d + 1 + 2 * n + j) ∧ Fr H H' b) (fun D H3 nD s3 hD => ⟨[], rfl, rfl, rk_nil, sg_s s3 R2, LS.fr_s s3 F2⟩) (fun _ _ _ _ _ _ _ _ => trivial) ?_ ?_
      · rintro D j acc x H3 H4 nD hj hl hD ⟨ws, rfl, wl, rk, R3, F3⟩ ⟨rfl, rfl⟩
        have Db : D ≠ b := sg_ne nD R2
        refine ⟨rfl, ?_⟩
        repeat array_get_dec
        refine ⟨b, _, _, rfl, R3, by omega, by
          obtain ⟨m, hm, hm2⟩ : ∃ m : Nat, 1 + min (0 + (j : Int)) 2 = (m : Int) ∧ m < 1024 := ⟨(1 + min (0 + (j : Int)) 2).toNat, by omega, by omega⟩
          rw [hm]
          exact log_small hm2, by omega, fun H4 r r0 r1 R4 F4 => ?_⟩
        have hD4 := F4 _ _ hD Db
        refine LS.k_lc (acc := ws.map V.int) hD4 hl (by omega) fun H5 f5 h5 => ?_
        exact ⟨ws ++ [r], by rw [List.map_append]; rfl, by rw [List.length_append, wl]; rfl, rk_snoc rk wl (by omega) (by omega), sg_f f5 R4 Db, LS.fr_n f5 (F3.trans F4) (sg_no nD F2 R2)⟩
      · rintro D acc H3 nD hD hl ⟨ws, rfl, wl, rk, R3, F3⟩
        repeat array_get_dec
        exact kk _ _ ⟨D, ws, by rw [show d + 1 + 3 * n = d + 1 + 2 * n + n by omega]; exact R3, F3, sg_no nD F2 R2, sg_ne nD R2, hD, wl, rk, rfl⟩
    · repeat array_get_dec
      exact kk _ _ ⟨D, ws, R2.mono (by omega), F2, nD, Db, hD, wl, rk, rfl⟩
    clear hD wl rk F2 R2 nD Db ws H2 D
    rintro σ' H2 ⟨D, ws, R2, F2, nD, Db, hD, wl, rk, rfl⟩
    repeat array_get_dec
    refine ⟨b, _, D, ws, rfl, R2, by omega, hD, by omega, Db, fun H3 q ys R3 F3 nq pm hq => ?_⟩
    exact k H3 q ys (R3.mono (by omega)) (F2.trans F3) (sg_no nq F2 R2) (by rw [pm.length_eq, wl]) ((rk_pk rk).perm pm) hq
end
end LP

namespace LP
open PySem L2 LT LG LQ LH LC LX LR
local macro_rules | `(tactic| array_mem_dec) => `(tactic| first
  | assumption
  | ((with_reducible apply LS.hp_s); assumption; array_mem_dec)
  | ((with_reducible apply LS.hp_f); assumption; array_mem_dec; array_mem_dec)
  | ((with_reducible apply LS.hp_t); assumption; array_mem_dec; array_mem_dec)
  | ((with_reducible apply LS.hp_l); assumption; array_mem_dec; array_mem_dec)
  | ((with_reducible apply LS.sq_o); array_mem_dec)
  | ((with_reducible apply LS.sq_s); assumption; array_mem_dec)
  | ((with_reducible apply LS.sq_f); assumption; array_mem_dec; array_mem_dec)
  | ((with_reducible apply LS.sq_t); assumption; array_mem_dec; array_mem_dec)
  | ((with_reducible apply LS.sq_l); assumption; array_mem_dec; array_mem_dec)
  | ((with_reducible apply LS.tu_o); array_mem_dec)
  | ((with_reducible apply LS.tu_s); assumption; array_mem_dec)
  | ((with_reducible apply LS.tu_f); assumption; array_mem_dec; array_mem_dec)
  | ((with_reducible apply LS.tu_t); assumption; array_mem_dec; array_mem_dec)
  | ((with_reducible apply LS.tu_l); assumption; array_mem_dec; array_mem_dec)
  | ((with_reducible apply LS.se_l); array_mem_dec)
  | ((with_reducible apply LS.se_t); array_mem_dec)
  | ((with_reducible apply LS.se_s); assumption; array_mem_dec)
  | ((with_reducible apply LS.se_f); assumption; array_mem_dec; array_mem_dec)
  | ((with_reducible apply LS.se_tt); assumption; array_mem_dec; array_mem_dec)
  | ((with_reducible exact Same.refl _))
  | ((with_reducible apply LS.sm_s); assumption; array_mem_dec)
  | ((with_reducible apply LS.sm_f); assumption; array_mem_dec; array_mem_dec)
  | ((with_reducible exact Fr.refl _ _))
  | ((with_reducible apply LS.fr_b); assumption; array_mem_dec)
  | ((with_reducible apply LS.fr_s); assumption; array_mem_dec)
  | ((with_reducible apply LS.fr_n); assumption; array_mem_dec; array_mem_dec)
  | ((with_reducible apply LS.fr_t); assumption; array_mem_dec)
  | ((with_reducible apply LS.no_s); assumption; array_mem_dec)
  | ((with_reducible apply LS.no_f); assumption; array_mem_dec; array_mem_dec)
  | ((with_reducible apply LS.no_t); assumption; array_mem_dec)
  | ((with_reducible apply LS.no_l); assumption; assumption)
  | ((with_reducible apply Ne.symm); assumption)
  | ((with_reducible apply LS.ne_a); assumption; array_mem_dec)
  | ((with_reducible apply LS.ne_b); assumption; array_mem_dec)
  | ((with_reducible apply LS.ne_ap); assumption)
  | ((with_reducible apply LS.ne_il); assumption; array_mem_dec)
  | ((with_reducible apply LS.ne_li); assumption; array_mem_dec)
  | ((with_reducible apply LS.ne_lt); assumption; assumption)
  | ((with_reducible apply LS.ne_tl); assumption; assumption)
  | ((with_reducible apply LS.ne_rl); assumption; array_mem_dec)
  | ((with_reducible apply LS.rl_t); assumption)
  | ((with_reducible apply LS.rl_s); assumption; array_mem_dec)
  | ((with_reducible apply LS.rl_f); assumption; array_mem_dec; array_mem_dec)
  | ((with_reducible apply LS.rl_l); assumption; array_mem_dec; array_mem_dec)
  | ((with_reducible apply LS.ap_new); assumption; assumption; array_mem_dec)
  | ((with_reducible apply LS.ap_t); assumption; array_mem_dec; array_mem_dec)
  | ((with_reducible apply LS.ap_s); assumption; array_mem_dec; array_mem_dec)
  | ((with_reducible apply LS.ap_f); assumption; array_mem_dec; array_mem_dec; array_mem_dec)
  | ((with_reducible apply LS.ap_l); assumption; array_mem_dec; array_mem_dec; array_mem_dec)
  | (with_reducible apply LS.ni_nil)
  | ((with_reducible apply LS.ni_cons); array_mem_dec; array_mem_dec)
  | (with_reducible apply LS.trk_nil)
  | ((with_reducible apply LS.trk_cons); array_mem_dec; array_mem_dec)
  | (with_reducible apply LS.al_nil)
  | ((with_reducible apply LS.al_cons); array_mem_dec; array_mem_dec)
  | (with_reducible apply LS.mem_hd)
  | ((with_reducible apply LS.mem_tl); array_mem_dec)
  | ((with_reducible apply LS.fl_refl); array_mem_dec)
  | ((with_reducible apply LS.fl_l); assumption; array_mem_dec)
  | ((with_reducible apply LS.fl_lm); assumption; array_mem_dec; array_mem_dec)
  | (with_reducible apply LS.sub_nil)
  | ((with_reducible apply LS.sub_cons); array_mem_dec; array_mem_dec)
  | ((with_reducible apply LS.fl_s); assumption; array_mem_dec)
  | ((with_reducible apply LS.fl_m); assumption; array_mem_dec; array_mem_dec; array_mem_dec)
  | ((with_reducible apply LS.fl_n); assumption; array_mem_dec; array_mem_dec; array_mem_dec)
  | ((with_reducible apply LS.rt_refl); array_mem_dec)
  | ((with_reducible apply LS.rt_t); assumption; array_mem_dec)
  | ((with_reducible apply LS.rt_s); assumption; array_mem_dec)
  | ((with_reducible apply LS.rt_f); assumption; array_mem_dec; array_mem_dec; array_mem_dec)
  | ((with_reducible apply LS.sz); (first | decide | (simp only [List.length_append, List.length_map, List.length_cons, List.length_nil, List.length_replicate]; omega)))
  | ((with_reducible apply LS.szl); (first | decide | (simp only [List.length_append, List.length_map, List.length_cons, List.length_nil, List.length_replicate]; omega))))
local macro_rules | `(tactic| array_get_dec) => `(tactic| first
  | ((with_reducible apply LS.var); exact rfl)
  | (with_reducible apply LS.con)
  | (with_reducible apply LS.op)
  | (with_reducible apply LS.ri0)
  | (with_reducible apply LS.tseq)
  | (with_reducible apply LS.tasg)
  | (with_reducible apply LS.gname)
  | (with_reducible apply LS.tcons)
  | (with_reducible apply LS.tnil)
  | (with_reducible apply LS.tcb)
  | (with_reducible apply LS.tcall)
  | (with_reducible apply LS.ttest)
  | (with_reducible apply LS.k_b)
  | (with_reducible apply LS.tb)
  | (with_reducible apply LS.tifs)
  | (with_reducible apply LS.ift)
  | (with_reducible apply LS.iff_)
  | (with_reducible apply LS.ifnt)
  | (with_reducible apply LS.ifnf)
  | (with_reducible apply LS.tnext)
  | (with_reducible apply LS.tdrop)
  | (with_reducible apply LS.tret)
  | (with_reducible apply LS.tretn)
  | (with_reducible apply LS.un)
  | (with_reducible apply LS.ru)
  | (with_reducible apply LS.tyes)
  | (with_reducible apply LS.tand)
  | (with_reducible apply LS.tor)
  | (with_reducible apply LS.tnot)
  | (with_reducible apply LS.tif)
  | (with_reducible apply LS.tandv)
  | (with_reducible apply LS.k_av)
  | (with_reducible apply LS.torv)
  | (with_reducible apply LS.k_ov)
  | (with_reducible apply LS.tnotv)
  | (with_reducible apply LS.k_nv)
  | (with_reducible apply LS.tchain)
  | (with_reducible apply LS.k_ch)
  | (with_reducible apply LS.req_i)
  | (with_reducible apply LS.rne_i)
  | (with_reducible apply LS.req_s)
  | (with_reducible apply LS.rne_s)
  | (with_reducible apply LS.req_b)
  | (with_reducible apply LS.rne_b)
  | ((with_reducible apply LS.rin_i); array_mem_dec)
  | ((with_reducible apply LS.rni_i); array_mem_dec)
  | ((with_reducible apply LS.rlen_li); array_mem_dec)
  | ((with_reducible apply LS.rlen_ls); array_mem_dec)
  | ((with_reducible apply LS.rlen_l); array_mem_dec)
  | ((with_reducible apply LS.rlen_Ei); array_mem_dec)
  | ((with_reducible apply LS.rlen_E); array_mem_dec)
  | ((with_reducible apply LS.rlen_t); array_mem_dec)
  | ((with_reducible apply LS.rixl); array_mem_dec; exact rfl)
  | ((with_reducible apply LS.rixt); array_mem_dec; exact rfl)
  | (with_reducible apply LS.isi_int_int)
  | (with_reducible apply LS.isi_int_bool)
  | (with_reducible apply LS.isi_int_str)
  | (with_reducible apply LS.isi_str_int)
  | (with_reducible apply LS.isi_str_bool)
  | (with_reducible apply LS.isi_str_str)
  | (with_reducible apply LS.isi_bool_int)
  | (with_reducible apply LS.isi_bool_bool)
  | (with_reducible apply LS.isi_bool_str)
  | (with_reducible apply LS.isi_non_int)
  | (with_reducible apply LS.isi_non_bool)
  | (with_reducible apply LS.isi_non_str)
  | ((with_reducible apply LS.isi_list_int); array_mem_dec)
  | ((with_reducible apply LS.isi_list_bool); array_mem_dec)
  | ((with_reducible apply LS.isi_list_str); array_mem_dec)
  | ((with_reducible apply LS.isi_list_list); array_mem_dec)
  | ((with_reducible apply LS.isi_list_tuple); array_mem_dec)
  | ((with_reducible apply LS.isi_tuple_int); array_mem_dec)
  | ((with_reducible apply LS.isi_tuple_bool); array_mem_dec)
  | ((with_reducible apply LS.isi_tuple_str); array_mem_dec)
  | ((with_reducible apply LS.isi_tuple_list); array_mem_dec)
  | ((with_reducible apply LS.isi_tuple_tuple); array_mem_dec)
  | ((with_reducible apply LS.isiT_i); array_mem_dec)
  | ((with_reducible apply LS.isiT_s); array_mem_dec)
  | ((with_reducible apply LS.isiT_E); array_mem_dec; array_mem_dec)
  | (with_reducible apply LS.tfld)
  | ((with_reducible apply LS.k_fl); array_mem_dec; assumption; assumption; exact rfl)
  | (with_reducible apply LS.tmeth)
  | ((with_reducible apply LS.k_me); array_mem_dec; exact rfl)
  | (with_reducible apply LS.tmake)
  | (with_reducible apply LS.tsfld)
  | (with_reducible apply LS.tprop)
  | ((with_reducible apply LS.k_pr); array_mem_dec)
  | ((with_reducible apply LS.rlen_own); array_mem_dec)
  | (with_reducible apply LS.rabs)
  | (with_reducible apply LS.rmin2)
  | (with_reducible apply LS.rmax2)
  | (with_reducible apply LS.tsl)
  | (with_reducible apply LS.tthen)
  | (with_reducible apply LS.tstep)
  | (with_reducible apply LS.tnop)
  | (with_reducible apply LS.tpart)
  | (with_reducible apply LS.k_part)
  | (with_reducible apply LS.ttup)
  | (with_reducible apply LS.tlst)
  | (with_reducible apply LS.tbm)
  | (with_reducible apply LS.tbm0)
  | ((with_reducible apply LS.ty_l); array_mem_dec)
  | (with_reducible apply LS.tpar)
  | (with_reducible apply LS.tfor)
  | (with_reducible apply LS.tlc)
  | (with_reducible apply LS.ilist)
  | ((with_reducible apply LS.k_il); array_mem_dec)
  | (with_reducible apply LS.itup)
  | ((with_reducible apply LS.k_it); array_mem_dec)
  | (with_reducible apply LS.istr)
  | (with_reducible apply LS.k_is)
  | (with_reducible apply LS.irng1)
  | ((with_reducible apply LS.k_r1n); omega)
  | ((with_reducible apply LS.k_r1); (first | omega | decide); (first | omega | decide))
  | (with_reducible apply LS.irng2)
  | ((with_reducible apply LS.k_r2); (first | omega | decide); (first | omega | decide); (first | omega | decide); (first | omega | decide))
  | (with_reducible apply LS.ienum)
  | ((with_reducible apply LS.k_en); array_mem_dec)
  | (with_reducible apply LS.izip)
  | ((with_reducible apply LS.k_zip); array_mem_dec; array_mem_dec)
  | (with_reducible apply LS.tlstrg)
  | (with_reducible apply LS.trg1)
  | (with_reducible apply LS.k_g1)
  | (with_reducible apply LS.risn_i)
  | (with_reducible apply LS.risn_s)
  | (with_reducible apply LS.risn_n)
  | (with_reducible apply LS.rnotn_i)
  | (with_reducible apply LS.rnotn_n)
  | (with_reducible apply LS.rint_b)
  | (with_reducible apply LS.rint_i)
  | (with_reducible apply LS.tm0)
  | (with_reducible apply LS.tm1)
  | (with_reducible apply LS.is_str)
  | (with_reducible apply LS.ex_s0)
  | (with_reducible apply LS.ex_int_b)
  | (with_reducible apply LS.k_par)
  | (with_reducible apply LS.tpar3)
  | (with_reducible apply LS.k_par3)
  | ((with_reducible apply LS.taug); exact rfl)
  | (with_reducible apply LS.ipi)
  | ((with_reducible apply LS.gtup); array_mem_dec; exact rfl)
  | ((with_reducible apply LS.gunl); array_mem_dec; exact rfl)
  | (with_reducible apply LS.gnil)
  | (with_reducible apply LS.gcons)
  | (with_reducible apply LS.gsub)
  | ((with_reducible apply LS.ri); first | omega | decide | assumption | exact ⟨by decide, by decide, by decide⟩ | exact .inl ⟨by decide, by decide⟩ | exact .inr ⟨by decide, by decide⟩ | exact .inl ⟨by omega, by omega⟩ | exact .inr ⟨by omega, by omega⟩)
  | (with_reducible apply LS.ex_ss)
  | (with_reducible apply LS.ex_s1)
  | (with_reducible apply LS.ex_i1)
  | (with_reducible apply LS.and_rfl)
  | (with_reducible apply LS.and_tr)
  | (with_reducible apply LS.is_non))
local macro_rules | `(tactic| array_mem_dec) => `(tactic| first
  | ((with_reducible apply LP.sg_s); assumption; array_mem_dec)
  | ((with_reducible apply LP.sg_f); assumption; array_mem_dec; array_mem_dec)
  | ((with_reducible apply LP.sg_l); assumption; array_mem_dec; array_mem_dec)
  | ((with_reducible apply LP.sg_ne); assumption; array_mem_dec)
  | ((with_reducible apply LP.sg_ne'); assumption; array_mem_dec)
  | ((with_reducible apply LS.se_q); array_mem_dec)
  | ((with_reducible apply LS.se_u); array_mem_dec)
  | ((with_reducible apply LP.sg_no); assumption; array_mem_dec; array_mem_dec))
local macro_rules | `(tactic| array_get_dec) => `(tactic| first
  | ((with_reducible apply LS.rne_same); exact rfl)
  | ((with_reducible apply LS.req_same); exact rfl)
  | (with_reducible apply LS.trevl)
  | (with_reducible apply LS.irng3)
  | (with_reducible apply LS.risn_b)
  | ((with_reducible apply LS.isiT_n); array_mem_dec)
  | ((with_reducible apply LS.isiT_b); array_mem_dec))
local macro_rules | `(tactic| array_get_dec) => `(tactic| first
  | (with_reducible apply LS.tcalle)
  | (with_reducible apply LS.tcalls))
local macro_rules | `(tactic| array_get_dec) => `(tactic| first
  | (with_reducible apply LS.trg2)
  | (with_reducible apply LS.k_g2))

section
variable {P : Program} {w : World} {K : PySem.W.Frag} {mg : Str → Option Value} {base : Heap}

theorem plain_dI {l : List Int} (h : l.length ≤ 10000) : plain 1 (LS.dI l) := ⟨by rw [List.length_map]; exact h, fun d hd => by
  obtain ⟨i, _, rfl⟩ := List.mem_map.mp hd
  trivial⟩
theorem plain_up : ∀ {k : Nat} {d : PyData}, plain k d → plain (k + 1) d := fun {k d} h => by
  induction k generalizing d with
  | zero =>
    cases d <;> first | trivial | exact h.elim
  | succ k ih =>
    cases d with
    | list ds => exact ⟨h.1, fun x hx => ih (h.2 x hx)⟩
    | tuple ds => exact ⟨h.1, fun x hx => ih (h.2 x hx)⟩
    | none => trivial
    | bool _ => trivial
    | int _ => trivial
    | str _ => trivial
    | dict _ => exact h.elim
def sp__law_right (K : PySem.W.Frag) : Sp := fun vs H Q _ => ∃ (b a : Addr) (d : Nat) (w : List Int), vs = [.ref b, .ref a] ∧ Spring H b d ∧ d < 800000 ∧ H a = some (.lst (w.map V.int)) ∧ a ≠ b ∧ 1 ≤ w.length ∧ w.length ≤ 200 ∧ (∀ x ∈ w, 0 ≤ x ∧ x < w.length) ∧ ∀ H', Spring H' b (d + 1) → Fr H H' b → Q (.bl true) H'
theorem ok__law_right (e : Env K mg) : LG.FnG P w K mg base CX0 9 e.a__law_right e.d__law_right ["spring", "wishes"] (sp__law_right K) := by
  refine LG.okG e.f__law_right sc__law_right (fun vs H Q E h => ?_) (fun cdv A outer s H vs Q E hgd hr h => ?_)
  · obtain ⟨b, a, d, w, rfl, _⟩ := h; rfl
  · obtain ⟨b, a, d, w, rfl, R, hd, ha, nab, h1, h2, rg, k⟩ := h
    refine ⟨_, (pss_cons (ps_set (i := 2) sc__law_right.nd rfl (by first | exact Or.inl rfl | exact Or.inr rfl) (pe_call ((ok__law_parked e).mono (by decide)) hr rfl e.g__law_parked e.f__law_parked.kp e.b__law_parked .nil pass0 (pa_cons (pv 1) pa_nil)))
      (pss_cons (ps_set (i := 3) sc__law_right.nd rfl (by first | exact Or.inl rfl | exact Or.inr rfl) (pe_call ((ok__law_dressed e).mono (by decide)) hr rfl e.g__law_dressed e.f__law_dressed.kp e.b__law_dressed .nil pass0 (pa_cons (pv 0) (pa_cons (pv 1) pa_nil))))
      (pss_cons (ps_set (i := 4) sc__law_right.nd rfl (by first | exact Or.inl rfl | exact Or.inr rfl) (pe_callB (LX.call_reprN hgd (u66 hr)) (by rfl) e.n_repr (by decide +kernel) (pa_cons (pv 3) pa_nil)))
      (pss_cons (ps_if (PW.pt (pw_or (pt_not (pt_val (pe_call ((ok__law_same e).mono (by decide)) hr rfl e.g__law_same e.f__law_same.kp e.b__law_same .nil pass0 (pa_cons (pe_call ((ok_is_parking e).mono (by decide)) hr rfl e.g_is_parking e.f_is_parking.kp e.b_is_parking .nil pass0 (pa_cons (pv 3) pa_nil)) (pa_cons (pe_cmpR LS.op_notN (pv 2) pe_non (nomark _)) pa_nil))))) (pw_or1 (pt_cmpR op_ne (pe_callB (LX.call_reprN hgd (u66 hr)) (by rfl) e.n_repr (by decide +kernel) (pa_cons (pv 3) pa_nil)) (pv 4) (nomark _)))))
        (pss_one (ps_ret pe_bl))
        pss_nil)
      (pss_cons (ps_if (pt_cmpR LS.op_isN (pv 2) pe_non (nomark _))
        (pss_one (ps_ret (pe_and (pe_cmpR (op_eqD hr.units) (pe_lc (own := [("way", 7)]) rfl sc__law_right.nd (pi_range1 (by rfl) e.n_range (pa_cons pe_int pa_nil)) (blkOk_by (N := ["spring", "wishes", "due", "handed", "before", "again", "found", "way"]) (sc := defScope s__law_right) (by decide +kernel)) (fun _ _ _ _ _ => (pg_name (i := 7) sc__law_right.nd rfl (by first | exact Or.inl rfl | exact Or.inr rfl))) (fun _ _ _ _ _ => pts_one (pt_not (pt_val (pe_call ((ok__law_refused e).mono (by decide)) hr rfl e.g__law_refused e.f__law_refused.kp e.b__law_refused .nil pass0 (pa_cons (pv 3) (pa_cons (pv 7) pa_nil)))))) (fun _ _ _ _ _ => (pv 7))) (pe_lst pa_nil) (nomark _)) (pe_one (pe_cmpR op_eq (pe_callB (LX.call_reprN hgd (u66 hr)) (by rfl) e.n_repr (by decide +kernel) (pa_cons (pv 3) pa_nil)) (pv 4) (nomark _))))))
        pss_nil)
      (pss_cons (ps_for PassesOwn.never rfl (pi_range1 (by rfl) e.n_range (pa_cons pe_int pa_nil)) (pg_name (i := 5) sc__law_right.nd rfl (by first | exact Or.inl rfl | exact Or.inr rfl))
      (pss_cons (ps_set (i := 6) sc__law_right.nd rfl (by first | exact Or.inl rfl | exact Or.inr rfl) (pe_call ((ok_cars_parked e).mono (by decide)) hr rfl e.g_cars_parked e.f_cars_parked.kp e.b_cars_parked .nil pass0 (pa_cons (pv 3) pa_nil)))
      (pss_cons (ps_if (PW.pt (pw_or (pt_not (pt_val (pe_call ((ok__law_same e).mono (by decide)) hr rfl e.g__law_same e.f__law_same.kp e.b__law_same .nil pass0 (pa_cons (pv 6) (pa_cons (pv 2) pa_nil))))) (pw_or1 (pt_cmpR op_ne (pe_callB (LX.call_reprN hgd (u66 hr)) (by rfl) e.n_repr (by decide +kernel) (pa_cons (pv 3) pa_nil)) (pv 4) (nomark _)))))
        (pss_one (ps_ret pe_bl))
        pss_nil)
      (pss_one (ps_expr (pe_bm PySem.F.plainAttrs_list PySem.F.slot_list_append PySem.F.type_list_append mt_append (pv 6) (pa_cons pe_non pa_nil)))))))
      (pss_one (ps_ret pe_bl)))))))), ?_⟩
    repeat array_get_dec
    refine ⟨a, w, rfl, ha, h2, rg, fun H1 v s1 hv => ?_⟩
    have R1 := sg_s s1 R
    have ha1 := s1 _ _ ha
    repeat array_get_dec
    refine ⟨b, d, a, w, rfl, R1, by omega, ha1, by omega, fun H2 q R2 F2 nq hq => ?_⟩
    have hqE : SqE K H2 q (w.map V.int) := hq.elim (fun h => .inl (SqL.of h)) fun h => .inr (SqT.of h)
    obtain ⟨t, hB⟩ := LX.sqB_E hqE
    have F02 : Fr H H2 b := (Fr.of s1).trans F2
    have sm : LG.Sm (mkD t (w.map PyData.int)) 1 24400 := sm_iD (fun x hx => by have := rg x hx; omega) h2
    have dpq : ∀ H', Same H2 H' → Dp K H' (.ref q) (mkD t (w.map PyData.int)) := fun H' s => mk_dp (LX.sqB_same s hB) (LS.dpA_i _)
    repeat array_get_dec
    refine LS.rrepr (dpq _ (Same.refl _)) sm (by decide) (by decide) ?_
    repeat array_get_dec
    refine ⟨q, w, rfl, hqE, by omega, fun H3 b' s3 hb' => ?_⟩
    rcases hv with ⟨pk, p, rfl, np, hp⟩ | ⟨npk, rfl⟩
    · obtain rfl := hb'.mpr ⟨h1, h2, pk⟩
      have pb : p ≠ b := sg_ne np R
      have hp2 := F2 _ _ hp pb
      repeat array_get_dec
      refine LS.rnotn_r ?_
      repeat array_get_dec
      refine ⟨.bl true, .bl true, .bool true, rfl, .bl _, .bl _, trivial, fun H4 s4 => ?_⟩
      have s24 := s3.trans s4
      repeat array_get_dec
      refine LS.rrepr (dpq _ s24) sm (by decide) (by decide) ?_
      repeat array_get_dec
      refine LS.risn_r ?_
      repeat array_get_dec
      refine LS.for_ (walk_range (lo := 0) (n := 2)) (fun i σ H' => ∃ (v5 v6 : Option V), Same H2 H' ∧ σ = [some (.ref b), some (.ref a), some (.ref p), some (.ref q), some (.str (mkD t (w.map PyData.int)).shown), v5, v6, none]) ⟨_, _, s24, rfl⟩ (fun _ _ _ _ _ => trivial) ?_ ?_
      · rintro i x σ H5 H6 hi ⟨v5, v6, s5, rfl⟩ ⟨rfl, rfl⟩
        repeat array_get_dec
        refine ⟨q, w, rfl, hqE.same s5, h1, h2, pk, fun H7 f s7 nf hf => ?_⟩
        have s27 := s5.trans s7
        have nf2 : H2 f = none := s5.free nf
        repeat array_get_dec
        refine ⟨.ref f, .ref p, LS.dI (cars w), rfl, LS.dp_i (SqL.of hf), LS.dp_i (SqL.of (s27 _ _ hp2)), plain_up (plain_up (plain_up (plain_dI (by rw [cars_len]; omega)))), fun H8 s8 => ?_⟩
        have s28 := s27.trans s8
        have hf8 := s8 _ _ hf
        repeat array_get_dec
        refine LS.rrepr (dpq _ s28) sm (by decide) (by decide) ?_
        repeat array_get_dec
        refine LS.rapp hf8 (LS.szl (by rw [List.length_map, cars_len]; omega)) fun H9 f9 h9 => ?_
        repeat array_get_dec
        exact ⟨_, _, LS.Same.fr_new s28 f9 nf2, rfl⟩
      · rintro σ H5 ⟨v5, v6, s5, rfl⟩
        repeat array_get_dec
        exact k H5 (sg_s s5 R2) (LS.fr_s s5 F02)
    · have no : ¬ (1 ≤ w.length ∧ w.length ≤ 200 ∧ Pk w) := fun q => npk q.2.2
      obtain rfl : b' = false := by
        cases b' with
        | false => rfl
        | true => exact absurd (hb'.mp rfl) no
      repeat array_get_dec
      refine ⟨.bl false, .bl false, .bool false, rfl, .bl _, .bl _, trivial, fun H4 s4 => ?_⟩
      have s24 := s3.trans s4
      repeat array_get_dec
      refine LS.rrepr (dpq _ s24) sm (by decide) (by decide) ?_
      repeat array_get_dec
      refine LS.comp (walk_range (lo := 0) (n := 3)) (fun D i acc H' => Same H4 H' ∧ acc = []) (fun D H' nD s' hD => ⟨s', rfl⟩) (fun _ _ _ _ _ _ _ _ => trivial) ?_ ?_
      · rintro D i acc x H5 H6 nD hi hl hD ⟨s5, rfl⟩ ⟨rfl, rfl⟩
        refine ⟨rfl, ?_⟩
        repeat array_get_dec
        refine ⟨q, w, i, by show [V.ref q, V.int (0 + (i : Int))] = _; rw [Int.zero_add], hi, hqE.same (s24.trans s5), by omega, no, fun H7 s7 => ?_⟩
        repeat array_get_dec
        exact LS.k_lc0 (acc := []) (s7 _ _ hD) (by omega) ⟨s5.trans s7, rfl⟩
      · rintro D acc H5 nD hD hl ⟨s5, rfl⟩
        repeat array_get_dec
        refine LS.k_lst (by array_mem_dec) fun z H_z n_z s_z h_z => ?_
        repeat array_get_dec
        refine LS.req_il (x := []) (y := []) (SqL.of (s_z _ _ hD)) (SqL.of h_z) ?_
        rw [decide_eq_true rfl]
        have s2z := s24.trans (s5.trans s_z)
        repeat array_get_dec
        refine LS.rrepr (dpq _ s2z) sm (by decide) (by decide) ?_
        repeat array_get_dec
        exact k _ (sg_s s2z R2) (LS.fr_s s2z F02)
def sp__law_odd_right (K : PySem.W.Frag) : Sp := fun vs H Q _ => ∃ (b a : Addr) (d : Nat) (w : List Int), vs = [.ref b, .ref a] ∧ Spring H b d ∧ d < 800000 ∧ H a = some (.lst (w.map V.int)) ∧ a ≠ b ∧ 1 ≤ w.length ∧ w.length ≤ 200 ∧ ∀ H', Spring H' b (d + 1) → Fr H H' b → Q (.bl true) H'
theorem ok__law_odd_right (e : Env K mg) : FnOk P w K mg base CX0 4 e.a__law_odd_right e.d__law_odd_right ["spring", "wishes"] (sp__law_odd_right K) := by
  refine Fun.ok e.f__law_odd_right sc__law_odd_right (fun vs H Q E h => ?_) (fun cdv A outer s H vs Q E hr h => ?_)
  · obtain ⟨b, a, d, w, rfl, _⟩ := h; rfl
  · obtain ⟨b, a, d, w, rfl, R, hd, ha, nab, h1, h2, k⟩ := h
    refine ⟨_, (pss_cons (ps_set (i := 2) sc__law_odd_right.nd rfl (by first | exact Or.inl rfl | exact Or.inr rfl) (pe_call ((ok__law_draw e).mono (by decide)) hr rfl e.g__law_draw e.f__law_draw.kp e.b__law_draw .nil pass0 (pa_cons (pv 0) (pa_cons (pe_callB LS.call_len (by rfl) e.n_len PySem.boot_len (pa_cons (pv 1) pa_nil)) pa_nil))))
      (pss_cons (ps_for PassesOwn.never rfl (pi_list (pe_lst (pa_cons pe_non (pa_cons pe_bl (pa_cons pe_bl (pa_cons (pe_un un_neg pe_int) (pa_cons (pe_callB LS.call_len (by rfl) e.n_len PySem.boot_len (pa_cons (pv 1) pa_nil)) (pa_cons pe_str (pa_cons (pe_lst (pa_cons pe_int pa_nil)) (pa_cons (pe_tup (pa_cons pe_int pa_nil)) (pa_cons pe_dnewK (pa_cons (pe_op op_pow pe_int pe_int) pa_nil)))))))))))) (pg_name (i := 3) sc__law_odd_right.nd rfl (by first | exact Or.inl rfl | exact Or.inr rfl))
      (pss_one (ps_if (pt_cmpR op_notBl (pe_call ((okV_is_parking e).mono (by decide)) hr rfl e.g_is_parking e.f_is_parking.kp e.b_is_parking .nil pass0 (pa_cons (pe_op op_cat (pe_op op_cat (pe_slice sl_list (pv 1) po_none (po_some (pv 2))) (pe_lst (pa_cons (pv 3) pa_nil))) (pe_slice sl_list (pv 1) (po_some (pe_op op_add (pv 2) pe_int)) po_none)) pa_nil)) pe_bl (nomark _))
        (pss_one (ps_ret pe_bl))
        pss_nil)))
      (pss_cons (ps_set (i := 4) sc__law_odd_right.nd rfl (by first | exact Or.inl rfl | exact Or.inr rfl) (pe_lst (pa_cons pe_non (pa_cons pe_int (pa_cons pe_bl (pa_cons pe_str (pa_cons pe_str (pa_cons pe_dnewK (pa_cons (pe_lst pa_nil) (pa_cons (pe_tup pa_nil) (pa_cons (pe_lst (pa_cons (pe_lst (pa_cons pe_int pa_nil)) pa_nil)) (pa_cons (pe_op op_rep (pe_lst (pa_cons pe_int pa_nil)) pe_int) (pa_cons (pe_disp (pps_cons pe_str pe_int pps_nil) (by rfl) (by rfl) (fun z => by cases z) (by decide)) (pa_cons (pe_listRg rfl (by rfl) e.n_list (prg_1 (by rfl) e.n_range pe_int)) (pa_cons (pe_lst (pa_cons pe_non pa_nil)) (pa_cons (pe_lst (pa_cons pe_str pa_nil)) pa_nil))))))))))))))))
      (pss_one (ps_ret (pe_cmpR (op_eqD hr.units) (pe_lc (own := [("value", 5)]) rfl sc__law_odd_right.nd (pi_list (pv 4)) (blkOk_by (N := ["spring", "wishes", "at", "odd", "others", "value"]) (sc := defScope s__law_odd_right) (by decide +kernel)) (fun _ _ _ _ _ => (pg_name (i := 5) sc__law_odd_right.nd rfl (by first | exact Or.inl rfl | exact Or.inr rfl))) (fun _ _ _ _ _ => pts_one (pt_cmpR op_notBl (pe_call ((okV_is_parking e).mono (by decide)) hr rfl e.g_is_parking e.f_is_parking.kp e.b_is_parking .nil pass0 (pa_cons (pv 5) pa_nil)) pe_bl (nomark _))) (fun _ _ _ _ _ => (pv 5))) (pe_lst pa_nil) (nomark _))))))), ?_⟩
    repeat array_get_dec
    refine ⟨b, d, w.length, rfl, R, by omega, log_small (by omega), by omega, fun H1 r r0 r1 R1 F1 => ?_⟩
    obtain ⟨i, rfl⟩ : ∃ i : Nat, r = i := ⟨r.toNat, by omega⟩
    have hi : i < w.length := by omega
    have ha1 := F1 _ _ ha nab
    repeat array_get_dec
    refine LS.k_lst (by array_mem_dec) fun l1 H_l1 n_l1 s_l1 h_l1 => ?_
    repeat array_get_dec
    refine LS.k_tup (by array_mem_dec) fun t1 H_t1 n_t1 s_t1 h_t1 => ?_
    repeat array_get_dec
    refine LS.dnew fun d1 H2 nd1 sd1 hd1 => ?_
    repeat array_get_dec
    have ha2 : H2 a = some (.lst (w.map V.int)) := sd1 _ _ (s_t1 _ _ (s_l1 _ _ ha1))
    have hl2 : H2 l1 = some (.lst [.int 0]) := sd1 _ _ (s_t1 _ _ h_l1)
    have ht2 : H2 t1 = some (.tup [.int 0]) := sd1 _ _ h_t1
    refine LS.k_lst (by array_mem_dec) fun os H_os n_os s_os h_os => ?_
    repeat array_get_dec
    have s1o : Same H1 H_os := s_l1.trans (s_t1.trans (sd1.trans s_os))
    have hk : ∀ x ∈ ([V.non, V.bl true, V.bl false, V.int (-1), V.int (w.length : Nat), V.str "0", V.ref l1, V.ref t1, V.ref d1, V.int (10 ^ (39 : Int).toNat)] : List V), Kd K H_os x (w.length : Nat) false := fun x hx => by
      simp only [List.mem_cons, List.not_mem_nil, or_false] at hx
      rcases hx with rfl | rfl | rfl | rfl | rfl | rfl | rfl | rfl | rfl | rfl
      · exact kd_n
      · exact kd_b
      · exact kd_b
      · exact kd_no (by omega)
      · exact kd_no (by omega)
      · exact kd_s'
      · exact kd_l (s_os _ _ hl2)
      · exact kd_t (s_os _ _ ht2)
      · exact kd_d (s_os _ _ hd1)
      · exact kd_no (by
          have : (10 : Int) ^ (39 : Int).toNat = 1000000000000000000000000000000000000000 := by decide
          rw [this]; omega)
    have hao := s_os _ _ ha2
    generalize ([V.non, V.bl true, V.bl false, V.int (-1), V.int (w.length : Nat), V.str "0", V.ref l1, V.ref t1, V.ref d1, V.int (10 ^ (39 : Int).toNat)] : List V) = odds at hk h_os
    refine LS.for_ (walk_list (xs := odds)) (fun j σ H' => ∃ v3 : Option V, Same H_os H' ∧ σ = [some (.ref b), some (.ref a), some (.int (i : Nat)), v3, none, none]) ⟨_, Same.refl _, rfl⟩ (fun j σ H' hj ⟨_, h, _⟩ => SqL.of (h _ _ h_os)) ?_ ?_
    · rintro j x σ H3 H4 hj ⟨v3, s3, rfl⟩ ⟨rfl, hx⟩
      have kx := kd_s s3 (hk x (List.mem_of_getElem? hx))
      have ha3 := s3 _ _ hao
      repeat array_get_dec
      refine LS.rsll (SqL.of ha3) fun c1 H5 n1 s5 hc1 => ?_
      rw [LS.cut_to, ← List.map_take] at hc1
      repeat array_get_dec
      refine LS.k_lst (by array_mem_dec) fun l H_l n_l s_l h_l => ?_
      repeat array_get_dec
      refine LS.rcat (s_l _ _ hc1) h_l (LS.sz (by rw [List.length_map, List.length_take]; show _ + 1 ≤ _; omega)) fun c2 H7 n2 s7 hc2 => ?_
      have ha7 := s7 _ _ (s_l _ _ (s5 _ _ ha3))
      repeat array_get_dec
      refine LS.rsll (SqL.of ha7) fun c3 H8 n3 s8 hc3 => ?_
      rw [show (i : Int) + 1 = ((i + 1 : Nat) : Int) by omega, LS.cut_from, ← List.map_drop] at hc3
      refine LS.rcat (s8 _ _ hc2) hc3 (LS.sz (by rw [List.length_append, List.length_map, List.length_map, List.length_take, List.length_drop]; show _ + 1 + _ ≤ _; omega)) fun c4 H9 n4 s9 hc4 => ?_
      have s39 : Same H4 H9 := s5.trans (s_l.trans (s7.trans (s8.trans s9)))
      have e4 : (((w.take i).map V.int ++ [x]) ++ (w.drop (i + 1)).map V.int).length = w.length := by
        rw [List.length_append, List.length_append, List.length_map, List.length_map, List.length_take, List.length_drop]; show _ + 1 + _ = _; omega
      repeat array_get_dec
      refine ⟨.ref c4, rfl, .inr ⟨c4, _, rfl, LS.se_l hc4, by rw [e4]; omega, .inr (.inr ⟨((w.take i).map fun y => decide (0 ≤ y ∧ y < ((w.length : Nat) : Int))) ++ [false] ++ (w.drop (i + 1)).map fun y => decide (0 ≤ y ∧ y < ((w.length : Nat) : Int)), ?_, ?_, by simp⟩)⟩, fun HA sA => ?_⟩
      · rw [e4, List.length_append, List.length_append, List.length_map, List.length_map, List.length_take, List.length_drop]; show _ + 1 + _ = _; omega
      · rw [e4]
        exact fa_app (by rw [List.length_append, List.length_append, List.length_map, List.length_map]; rfl) (fa_app (by rw [List.length_map, List.length_map]) (fa_ints _) (fa_one (kd_s s39 kx))) (fa_ints _)
      repeat array_get_dec
      refine LS.rnotb ?_
      rw [decide_eq_true rfl]
      repeat array_get_dec
      exact ⟨_, s3.trans (s39.trans sA), rfl⟩
    · rintro σ H3 ⟨v3, s3, rfl⟩
      have s13 := s1o.trans s3
      clear hk h_os hao ha2 hl2 ht2 hd1 s1o s_os sd1 s_t1 s_l1 h_t1 h_l1 n_t1 n_l1 n_os nd1
      repeat array_get_dec
      refine LS.dnew fun d2 H4 nd2 sd2 hd2 => ?_
      repeat array_get_dec
      refine LS.k_lst (by array_mem_dec) fun e1 H_e1 n_e1 s_e1 h_e1 => ?_
      repeat array_get_dec
      refine LS.k_tup (by array_mem_dec) fun e2 H_e2 n_e2 s_e2 h_e2 => ?_
      repeat array_get_dec
      refine LS.k_lst (by array_mem_dec) fun e3 H_e3 n_e3 s_e3 h_e3 => ?_
      repeat array_get_dec
      refine LS.k_lst (by array_mem_dec) fun e4 H_e4 n_e4 s_e4 h_e4 => ?_
      repeat array_get_dec
      refine LS.k_lst (by array_mem_dec) fun e5 H_e5 n_e5 s_e5 h_e5 => ?_
      repeat array_get_dec
      refine LS.rrep1 (n := 201) h_e5 (by omega) fun e6 H5 ne6 s5 he6 => ?_
      repeat array_get_dec
      refine LS.disp1 fun d3 H6 nd3 sd3 hd3 => ?_
      repeat array_get_dec
      refine LS.k_lr (n := 201) (by omega) fun e7 H7 ne7 s7 he7 => ?_
      repeat array_get_dec
      refine LS.k_lst (by array_mem_dec) fun e8 H_e8 n_e8 s_e8 h_e8 => ?_
      repeat array_get_dec
      refine LS.k_lst (by array_mem_dec) fun e9 H_e9 n_e9 s_e9 h_e9 => ?_
      repeat array_get_dec
      refine LS.k_lst (by array_mem_dec) fun os2 H_os2 n_os2 s_os2 h_os2 => ?_
      repeat array_get_dec
      have sA : Same H_e9 H_os2 := s_os2
      have g2 : H_os2 d2 = some (.dK []) := s_os2 _ _ (s_e9 _ _ (s_e8 _ _ (s7 _ _ (sd3 _ _ (s5 _ _ (s_e5 _ _ (s_e4 _ _ (s_e3 _ _ (s_e2 _ _ (s_e1 _ _ hd2))))))))))
      have g1 : H_os2 e1 = some (.lst []) := s_os2 _ _ (s_e9 _ _ (s_e8 _ _ (s7 _ _ (sd3 _ _ (s5 _ _ (s_e5 _ _ (s_e4 _ _ (s_e3 _ _ (s_e2 _ _ h_e1)))))))))
      have gt : H_os2 e2 = some (.tup []) := s_os2 _ _ (s_e9 _ _ (s_e8 _ _ (s7 _ _ (sd3 _ _ (s5 _ _ (s_e5 _ _ (s_e4 _ _ (s_e3 _ _ h_e2))))))))
      have g3 : H_os2 e3 = some (.lst [.int 0]) := s_os2 _ _ (s_e9 _ _ (s_e8 _ _ (s7 _ _ (sd3 _ _ (s5 _ _ (s_e5 _ _ (s_e4 _ _ h_e3)))))))
      have g4 : H_os2 e4 = some (.lst [.ref e3]) := s_os2 _ _ (s_e9 _ _ (s_e8 _ _ (s7 _ _ (sd3 _ _ (s5 _ _ (s_e5 _ _ h_e4))))))
      have g6 : H_os2 e6 = some (.lst (List.replicate 201 (V.int 0))) := s_os2 _ _ (s_e9 _ _ (s_e8 _ _ (s7 _ _ (sd3 _ _ he6))))
      have g7 : H_os2 d3 = some (.dK (mergeK [] [(Sum.inr "a", V.int 0)])) := s_os2 _ _ (s_e9 _ _ (s_e8 _ _ (s7 _ _ hd3)))
      have g8 : H_os2 e7 = some (.lst (rgV 0 (201 : Nat))) := s_os2 _ _ (s_e9 _ _ (s_e8 _ _ he7))
      have g9 : H_os2 e8 = some (.lst [.non]) := s_os2 _ _ (s_e9 _ _ h_e8)
      have gA : H_os2 e9 = some (.lst [.str "0"]) := s_os2 _ _ h_e9
      have s3z : Same H3 H_os2 := sd2.trans (s_e1.trans (s_e2.trans (s_e3.trans (s_e4.trans (s_e5.trans (s5.trans (sd3.trans (s7.trans (s_e8.trans (s_e9.trans s_os2))))))))))
      have one : ∀ {a : Addr} {x : V}, H_os2 a = some (.lst [x]) → Kd K H_os2 x ((1 : Nat) : Int) false → Bd K H_os2 (.ref a) := fun {a x} ha hx => .inr ⟨a, [x], rfl, LS.se_l ha, by show 1 ≤ _; omega, .inr (.inr ⟨[false], rfl, fa_one hx, by simp⟩)⟩
      have hb : ∀ x ∈ ([V.non, V.int 0, V.bl true, V.str "", V.str "0", V.ref d2, V.ref e1, V.ref e2, V.ref e4, V.ref e6, V.ref d3, V.ref e7, V.ref e8, V.ref e9] : List V), Bd K H_os2 x := fun x hx => by
        simp only [List.mem_cons, List.not_mem_nil, or_false] at hx
        rcases hx with rfl | rfl | rfl | rfl | rfl | rfl | rfl | rfl | rfl | rfl | rfl | rfl | rfl | rfl
        · exact .inl nols_n
        · exact .inl nols_i
        · exact .inl nols_b
        · exact .inl nols_s'
        · exact .inl nols_s'
        · exact .inl (nols_d g2)
        · exact .inr ⟨e1, [], rfl, LS.se_l g1, by show 0 ≤ _; omega, .inl rfl⟩
        · exact .inr ⟨e2, [], rfl, LS.se_t gt, by show 0 ≤ _; omega, .inl rfl⟩
        · exact one g4 (kd_l g3)
        · exact .inr ⟨e6, _, rfl, LS.se_l g6, by rw [List.length_replicate]; omega, .inr (.inl (by rw [List.length_replicate]; omega))⟩
        · exact .inl (nols_d g7)
        · have l : (rgV 0 ((201 : Nat) : Int)).length = 201 := by unfold rgV; rw [List.length_map, List.length_range]; rfl
          exact .inr ⟨e7, _, rfl, LS.se_l g8, by rw [l]; omega, .inr (.inl (by rw [l]; omega))⟩
        · exact one g9 kd_n
        · exact one gA kd_s'
      generalize ([V.non, V.int 0, V.bl true, V.str "", V.str "0", V.ref d2, V.ref e1, V.ref e2, V.ref e4, V.ref e6, V.ref d3, V.ref e7, V.ref e8, V.ref e9] : List V) = vals at hb h_os2
      repeat array_get_dec
      refine LS.comp (walk_list (xs := vals)) (fun D i acc H' => Same H_os2 H' ∧ acc = []) (fun D H' nD s' hD => ⟨s', rfl⟩) (fun D j acc H' hi nD hD h => (by obtain ⟨h, _⟩ := h; exact SqL.of (h _ _ h_os2))) ?_ ?_
      · rintro D j acc x H8 H9 nD hj hl hD ⟨s8, rfl⟩ ⟨rfl, hx⟩
        refine ⟨rfl, ?_⟩
        repeat array_get_dec
        refine ⟨x, rfl, bd_s s8 (hb x (List.mem_of_getElem? hx)), fun HA sA => ?_⟩
        repeat array_get_dec
        refine LS.rnotb ?_
        rw [decide_eq_true rfl]
        repeat array_get_dec
        exact LS.k_lc0 (acc := []) (sA _ _ hD) (by omega) ⟨s8.trans sA, rfl⟩
      · rintro D acc H8 nD hD hl ⟨s8, rfl⟩
        repeat array_get_dec
        refine LS.k_lst (by array_mem_dec) fun z H_z n_z s_z h_z => ?_
        repeat array_get_dec
        refine LS.req_il (x := []) (y := []) (SqL.of (s_z _ _ hD)) (SqL.of h_z) ?_
        rw [decide_eq_true rfl]
        have s1z := s13.trans (s3z.trans (s8.trans s_z))
        exact k _ (sg_s s1z R1) (LS.fr_s s1z F1)
end
end LP

namespace LP
open PySem L2 LT LG LQ LH LC LX LR
local macro_rules | `(tactic| array_mem_dec) => `(tactic| first
  | assumption
  | ((with_reducible apply LS.hp_s); assumption; array_mem_dec)
  | ((with_reducible apply LS.hp_f); assumption; array_mem_dec; array_mem_dec)
  | ((with_reducible apply LS.hp_t); assumption; array_mem_dec; array_mem_dec)
  | ((with_reducible apply LS.hp_l); assumption; array_mem_dec; array_mem_dec)
  | ((with_reducible apply LS.sq_o); array_mem_dec)
  | ((with_reducible apply LS.sq_s); assumption; array_mem_dec)
  | ((with_reducible apply LS.sq_f); assumption; array_mem_dec; array_mem_dec)
  | ((with_reducible apply LS.sq_t); assumption; array_mem_dec; array_mem_dec)
  | ((with_reducible apply LS.sq_l); assumption; array_mem_dec; array_mem_dec)
  | ((with_reducible apply LS.tu_o); array_mem_dec)
  | ((with_reducible apply LS.tu_s); assumption; array_mem_dec)
  | ((with_reducible apply LS.tu_f); assumption; array_mem_dec; array_mem_dec)
  | ((with_reducible apply LS.tu_t); assumption; array_mem_dec; array_mem_dec)
  | ((with_reducible apply LS.tu_l); assumption; array_mem_dec; array_mem_dec)
  | ((with_reducible apply LS.se_l); array_mem_dec)
  | ((with_reducible apply LS.se_t); array_mem_dec)
  | ((with_reducible apply LS.se_s); assumption; array_mem_dec)
  | ((with_reducible apply LS.se_f); assumption; array_mem_dec; array_mem_dec)
  | ((with_reducible apply LS.se_tt); assumption; array_mem_dec; array_mem_dec)
  | ((with_reducible exact Same.refl _))
  | ((with_reducible apply LS.sm_s); assumption; array_mem_dec)
  | ((with_reducible apply LS.sm_f); assumption; array_mem_dec; array_mem_dec)
  | ((with_reducible exact Fr.refl _ _))
  | ((with_reducible apply LS.fr_b); assumption; array_mem_dec)
  | ((with_reducible apply LS.fr_s); assumption; array_mem_dec)
  | ((with_reducible apply LS.fr_n); assumption; array_mem_dec; array_mem_dec)
  | ((with_reducible apply LS.fr_t); assumption; array_mem_dec)
  | ((with_reducible apply LS.no_s); assumption; array_mem_dec)
  | ((with_reducible apply LS.no_f); assumption; array_mem_dec; array_mem_dec)
  | ((with_reducible apply LS.no_t); assumption; array_mem_dec)
  | ((with_reducible apply LS.no_l); assumption; assumption)
  | ((with_reducible apply Ne.symm); assumption)
  | ((with_reducible apply LS.ne_a); assumption; array_mem_dec)
  | ((with_reducible apply LS.ne_b); assumption; array_mem_dec)
  | ((with_reducible apply LS.ne_ap); assumption)
  | ((with_reducible apply LS.ne_il); assumption; array_mem_dec)
  | ((with_reducible apply LS.ne_li); assumption; array_mem_dec)
  | ((with_reducible apply LS.ne_lt); assumption; assumption)
  | ((with_reducible apply LS.ne_tl); assumption; assumption)
  | ((with_reducible apply LS.ne_rl); assumption; array_mem_dec)
  | ((with_reducible apply LS.rl_t); assumption)
  | ((with_reducible apply LS.rl_s); assumption; array_mem_dec)
  | ((with_reducible apply LS.rl_f); assumption; array_mem_dec; array_mem_dec)
  | ((with_reducible apply LS.rl_l); assumption; array_mem_dec; array_mem_dec)
  | ((with_reducible apply LS.ap_new); assumption; assumption; array_mem_dec)
  | ((with_reducible apply LS.ap_t); assumption; array_mem_dec; array_mem_dec)
  | ((with_reducible apply LS.ap_s); assumption; array_mem_dec; array_mem_dec)
  | ((with_reducible apply LS.ap_f); assumption; array_mem_dec; array_mem_dec; array_mem_dec)
  | ((with_reducible apply LS.ap_l); assumption; array_mem_dec; array_mem_dec; array_mem_dec)
  | (with_reducible apply LS.ni_nil)
  | ((with_reducible apply LS.ni_cons); array_mem_dec; array_mem_dec)
  | (with_reducible apply LS.trk_nil)
  | ((with_reducible apply LS.trk_cons); array_mem_dec; array_mem_dec)
  | (with_reducible apply LS.al_nil)
  | ((with_reducible apply LS.al_cons); array_mem_dec; array_mem_dec)
  | (with_reducible apply LS.mem_hd)
  | ((with_reducible apply LS.mem_tl); array_mem_dec)
  | ((with_reducible apply LS.fl_refl); array_mem_dec)
  | ((with_reducible apply LS.fl_l); assumption; array_mem_dec)
  | ((with_reducible apply LS.fl_lm); assumption; array_mem_dec; array_mem_dec)
  | (with_reducible apply LS.sub_nil)
  | ((with_reducible apply LS.sub_cons); array_mem_dec; array_mem_dec)
  | ((with_reducible apply LS.fl_s); assumption; array_mem_dec)
  | ((with_reducible apply LS.fl_m); assumption; array_mem_dec; array_mem_dec; array_mem_dec)
  | ((with_reducible apply LS.fl_n); assumption; array_mem_dec; array_mem_dec; array_mem_dec)
  | ((with_reducible apply LS.rt_refl); array_mem_dec)
  | ((with_reducible apply LS.rt_t); assumption; array_mem_dec)
  | ((with_reducible apply LS.rt_s); assumption; array_mem_dec)
  | ((with_reducible apply LS.rt_f); assumption; array_mem_dec; array_mem_dec; array_mem_dec)
  | ((with_reducible apply LS.sz); (first | decide | (simp only [List.length_append, List.length_map, List.length_cons, List.length_nil, List.length_replicate]; omega)))
  | ((with_reducible apply LS.szl); (first | decide | (simp only [List.length_append, List.length_map, List.length_cons, List.length_nil, List.length_replicate]; omega))))
local macro_rules | `(tactic| array_get_dec) => `(tactic| first
  | ((with_reducible apply LS.var); exact rfl)
  | (with_reducible apply LS.con)
  | (with_reducible apply LS.op)
  | (with_reducible apply LS.ri0)
  | (with_reducible apply LS.tseq)
  | (with_reducible apply LS.tasg)
  | (with_reducible apply LS.gname)
  | (with_reducible apply LS.tcons)
  | (with_reducible apply LS.tnil)
  | (with_reducible apply LS.tcb)
  | (with_reducible apply LS.tcall)
  | (with_reducible apply LS.ttest)
  | (with_reducible apply LS.k_b)
  | (with_reducible apply LS.tb)
  | (with_reducible apply LS.tifs)
  | (with_reducible apply LS.ift)
  | (with_reducible apply LS.iff_)
  | (with_reducible apply LS.ifnt)
  | (with_reducible apply LS.ifnf)
  | (with_reducible apply LS.tnext)
  | (with_reducible apply LS.tdrop)
  | (with_reducible apply LS.tret)
  | (with_reducible apply LS.tretn)
  | (with_reducible apply LS.un)
  | (with_reducible apply LS.ru)
  | (with_reducible apply LS.tyes)
  | (with_reducible apply LS.tand)
  | (with_reducible apply LS.tor)
  | (with_reducible apply LS.tnot)
  | (with_reducible apply LS.tif)
  | (with_reducible apply LS.tandv)
  | (with_reducible apply LS.k_av)
  | (with_reducible apply LS.torv)
  | (with_reducible apply LS.k_ov)
  | (with_reducible apply LS.tnotv)
  | (with_reducible apply LS.k_nv)
  | (with_reducible apply LS.tchain)
  | (with_reducible apply LS.k_ch)
  | (with_reducible apply LS.req_i)
  | (with_reducible apply LS.rne_i)
  | (with_reducible apply LS.req_s)
  | (with_reducible apply LS.rne_s)
  | (with_reducible apply LS.req_b)
  | (with_reducible apply LS.rne_b)
  | ((with_reducible apply LS.rin_i); array_mem_dec)
  | ((with_reducible apply LS.rni_i); array_mem_dec)
  | ((with_reducible apply LS.rlen_li); array_mem_dec)
  | ((with_reducible apply LS.rlen_ls); array_mem_dec)
  | ((with_reducible apply LS.rlen_l); array_mem_dec)
  | ((with_reducible apply LS.rlen_Ei); array_mem_dec)
  | ((with_reducible apply LS.rlen_E); array_mem_dec)
  | ((with_reducible apply LS.rlen_t); array_mem_dec)
  | ((with_reducible apply LS.rixl); array_mem_dec; exact rfl)
  | ((with_reducible apply LS.rixt); array_mem_dec; exact rfl)
  | (with_reducible apply LS.isi_int_int)
  | (with_reducible apply LS.isi_int_bool)
  | (with_reducible apply LS.isi_int_str)
  | (with_reducible apply LS.isi_str_int)
  | (with_reducible apply LS.isi_str_bool)
  | (with_reducible apply LS.isi_str_str)
  | (with_reducible apply LS.isi_bool_int)
  | (with_reducible apply LS.isi_bool_bool)
  | (with_reducible apply LS.isi_bool_str)
  | (with_reducible apply LS.isi_non_int)
  | (with_reducible apply LS.isi_non_bool)
  | (with_reducible apply LS.isi_non_str)
  | ((with_reducible apply LS.isi_list_int); array_mem_dec)
  | ((with_reducible apply LS.isi_list_bool); array_mem_dec)
  | ((with_reducible apply LS.isi_list_str); array_mem_dec)
  | ((with_reducible apply LS.isi_list_list); array_mem_dec)
  | ((with_reducible apply LS.isi_list_tuple); array_mem_dec)
  | ((with_reducible apply LS.isi_tuple_int); array_mem_dec)
  | ((with_reducible apply LS.isi_tuple_bool); array_mem_dec)
  | ((with_reducible apply LS.isi_tuple_str); array_mem_dec)
  | ((with_reducible apply LS.isi_tuple_list); array_mem_dec)
  | ((with_reducible apply LS.isi_tuple_tuple); array_mem_dec)
  | ((with_reducible apply LS.isiT_i); array_mem_dec)
  | ((with_reducible apply LS.isiT_s); array_mem_dec)
  | ((with_reducible apply LS.isiT_E); array_mem_dec; array_mem_dec)
  | (with_reducible apply LS.tfld)
  | ((with_reducible apply LS.k_fl); array_mem_dec; assumption; assumption; exact rfl)
  | (with_reducible apply LS.tmeth)
  | ((with_reducible apply LS.k_me); array_mem_dec; exact rfl)
  | (with_reducible apply LS.tmake)
  | (with_reducible apply LS.tsfld)
  | (with_reducible apply LS.tprop)
  | ((with_reducible apply LS.k_pr); array_mem_dec)
  | ((with_reducible apply LS.rlen_own); array_mem_dec)
  | (with_reducible apply LS.rabs)
  | (with_reducible apply LS.rmin2)
  | (with_reducible apply LS.rmax2)
  | (with_reducible apply LS.tsl)
  | (with_reducible apply LS.tthen)
  | (with_reducible apply LS.tstep)
  | (with_reducible apply LS.tnop)
  | (with_reducible apply LS.tpart)
  | (with_reducible apply LS.k_part)
  | (with_reducible apply LS.ttup)
  | (with_reducible apply LS.tlst)
  | (with_reducible apply LS.tbm)
  | (with_reducible apply LS.tbm0)
  | ((with_reducible apply LS.ty_l); array_mem_dec)
  | (with_reducible apply LS.tpar)
  | (with_reducible apply LS.tfor)
  | (with_reducible apply LS.tlc)
  | (with_reducible apply LS.ilist)
  | ((with_reducible apply LS.k_il); array_mem_dec)
  | (with_reducible apply LS.itup)
  | ((with_reducible apply LS.k_it); array_mem_dec)
  | (with_reducible apply LS.istr)
  | (with_reducible apply LS.k_is)
  | (with_reducible apply LS.irng1)
  | ((with_reducible apply LS.k_r1n); omega)
  | ((with_reducible apply LS.k_r1); (first | omega | decide); (first | omega | decide))
  | (with_reducible apply LS.irng2)
  | ((with_reducible apply LS.k_r2); (first | omega | decide); (first | omega | decide); (first | omega | decide); (first | omega | decide))
  | (with_reducible apply LS.ienum)
  | ((with_reducible apply LS.k_en); array_mem_dec)
  | (with_reducible apply LS.izip)
  | ((with_reducible apply LS.k_zip); array_mem_dec; array_mem_dec)
  | (with_reducible apply LS.tlstrg)
  | (with_reducible apply LS.trg1)
  | (with_reducible apply LS.k_g1)
  | (with_reducible apply LS.risn_i)
  | (with_reducible apply LS.risn_s)
  | (with_reducible apply LS.risn_n)
  | (with_reducible apply LS.rnotn_i)
  | (with_reducible apply LS.rnotn_n)
  | (with_reducible apply LS.rint_b)
  | (with_reducible apply LS.rint_i)
  | (with_reducible apply LS.tm0)
  | (with_reducible apply LS.tm1)
  | (with_reducible apply LS.is_str)
  | (with_reducible apply LS.ex_s0)
  | (with_reducible apply LS.ex_int_b)
  | (with_reducible apply LS.k_par)
  | (with_reducible apply LS.tpar3)
  | (with_reducible apply LS.k_par3)
  | ((with_reducible apply LS.taug); exact rfl)
  | (with_reducible apply LS.ipi)
  | ((with_reducible apply LS.gtup); array_mem_dec; exact rfl)
  | ((with_reducible apply LS.gunl); array_mem_dec; exact rfl)
  | (with_reducible apply LS.gnil)
  | (with_reducible apply LS.gcons)
  | (with_reducible apply LS.gsub)
  | ((with_reducible apply LS.ri); first | omega | decide | assumption | exact ⟨by decide, by decide, by decide⟩ | exact .inl ⟨by decide, by decide⟩ | exact .inr ⟨by decide, by decide⟩ | exact .inl ⟨by omega, by omega⟩ | exact .inr ⟨by omega, by omega⟩)
  | (with_reducible apply LS.ex_ss)
  | (with_reducible apply LS.ex_s1)
  | (with_reducible apply LS.ex_i1)
  | (with_reducible apply LS.and_rfl)
  | (with_reducible apply LS.and_tr)
  | (with_reducible apply LS.is_non))
local macro_rules | `(tactic| array_mem_dec) => `(tactic| first
  | ((with_reducible apply LP.sg_s); assumption; array_mem_dec)
  | ((with_reducible apply LP.sg_f); assumption; array_mem_dec; array_mem_dec)
  | ((with_reducible apply LP.sg_l); assumption; array_mem_dec; array_mem_dec)
  | ((with_reducible apply LP.sg_ne); assumption; array_mem_dec)
  | ((with_reducible apply LP.sg_ne'); assumption; array_mem_dec)
  | ((with_reducible apply LS.se_q); array_mem_dec)
  | ((with_reducible apply LS.se_u); array_mem_dec)
  | ((with_reducible apply LP.sg_no); assumption; array_mem_dec; array_mem_dec))
local macro_rules | `(tactic| array_get_dec) => `(tactic| first
  | ((with_reducible apply LS.rne_same); exact rfl)
  | ((with_reducible apply LS.req_same); exact rfl)
  | (with_reducible apply LS.trevl)
  | (with_reducible apply LS.irng3)
  | (with_reducible apply LS.risn_b)
  | ((with_reducible apply LS.isiT_n); array_mem_dec)
  | ((with_reducible apply LS.isiT_b); array_mem_dec))
local macro_rules | `(tactic| array_get_dec) => `(tactic| first
  | (with_reducible apply LS.tcalle)
  | (with_reducible apply LS.tcalls))
local macro_rules | `(tactic| array_get_dec) => `(tactic| first
  | (with_reducible apply LS.trg2)
  | (with_reducible apply LS.k_g2))

section
variable {P : Program} {w : World} {K : PySem.W.Frag} {mg : Str → Option Value} {base : Heap}

def sp_law (K : PySem.W.Frag) : Sp := fun vs H Q _ => ∃ (a : Addr) (ns : List Int), vs = [.ref a] ∧ SqL K H a (ns.map V.int) ∧ ns.length ≤ 63 ∧ ∀ H', Q (.bl true) H'
def Rw (b : Addr) (H : Hp) (as : List Addr) : Prop := ∀ a ∈ as, a ≠ b ∧ ∃ w : List Int, H a = some (.lst (w.map V.int)) ∧ 1 ≤ w.length ∧ w.length ≤ 200 ∧ ∀ x ∈ w, 0 ≤ x ∧ x < w.length
theorem rw_of {b : Addr} {H H' : Hp} {d n : Nat} {as : List Addr} (R : Spring H b d) (hn : 1 ≤ n) (hn2 : n ≤ 4) (h : ∀ a ∈ as, H a = none ∧ ∃ w : List Int, H' a = some (.lst (w.map V.int)) ∧ w.length = n ∧ ∀ x ∈ w, 0 ≤ x ∧ x < (n : Int)) : Rw b H' as := fun a ha => by
  obtain ⟨na, w, h1, h2, h3⟩ := h a ha
  exact ⟨sg_ne na R, w, h1, by omega, by omega, fun x hx => by rw [h2]; exact h3 x hx⟩
theorem rw_s {b : Addr} {H H' : Hp} {as : List Addr} (s : Same H H') (h : Rw b H as) : Rw b H' as := fun a ha => by
  obtain ⟨na, w, h1, h2⟩ := h a ha
  exact ⟨na, w, s _ _ h1, h2⟩
theorem rw_app {b : Addr} {H : Hp} {as cs : List Addr} (h : Rw b H as) (h' : Rw b H cs) : Rw b H (as ++ cs) := fun a ha => (List.mem_append.mp ha).elim (h a) (h' a)
theorem rk_rep (n : Nat) : Rk (List.replicate n 0) := fun i y h => by
  rw [List.getElem?_replicate] at h
  split at h
  · cases h; omega
  · cases h
theorem rg_set {w : List Int} {i : Nat} {v : Int} (h : ∀ x ∈ w, 0 ≤ x ∧ x < w.length) (h0 : 0 ≤ v) (h1 : v < w.length) : ∀ x ∈ w.set i v, 0 ≤ x ∧ x < ((w.set i v).length : Nat) := fun x hx => by
  rw [List.length_set]
  rcases List.mem_or_eq_of_mem_set hx with hx | rfl
  · exact h x hx
  · exact ⟨h0, h1⟩
theorem int_set (l : List Int) (i : Nat) (x : Int) : (l.map V.int).set i (.int x) = (l.set i x).map V.int := by rw [List.map_set]
theorem sq_new {K : PySem.W.Frag} {H H' : Hp} {a b : Addr} {xs : List V} (f : Fr H H' b) (nb : H b = none) (h : SqL K H a xs) : SqL K H' a xs := by
  rcases h with (h | ⟨o, h⟩) | h
  · exact .inl (.inl (f _ _ h (ne_of_none h nb)))
  · exact .inl (.inr ⟨o, f _ _ h (ne_of_none h nb)⟩)
  · exact .inr h
theorem ok_law (e : Env K mg) : LG.FnG P w K mg base CX0 10 e.a_law e.d_law ["script"] (sp_law K) := by
  refine LG.okG e.f_law sc_law (fun vs H Q E h => ?_) (fun cdv A outer s H vs Q E hgd hr h => ?_)
  · obtain ⟨a, ns, rfl, _⟩ := h; rfl
  · obtain ⟨a, ns, rfl, hS, hl, k⟩ := h
    refine ⟨_, (pss_cons (ps_set (i := 1) sc_law.nd rfl (by first | exact Or.inl rfl | exact Or.inr rfl) (pe_call ((ok__law_spring e).mono (by decide)) hr rfl e.g__law_spring e.f__law_spring.kp e.b__law_spring .nil pass0 (pa_cons (pv 0) pa_nil)))
      (pss_cons (ps_for PassesOwn.never rfl (pi_list (pe_op op_cat (pe_op op_cat (pe_op op_cat (pe_call ((ok__law_all e).mono (by decide)) hr rfl e.g__law_all e.f__law_all.kp e.b__law_all .nil pass0 (pa_cons pe_int pa_nil)) (pe_call ((ok__law_all e).mono (by decide)) hr rfl e.g__law_all e.f__law_all.kp e.b__law_all .nil pass0 (pa_cons pe_int pa_nil))) (pe_call ((ok__law_all e).mono (by decide)) hr rfl e.g__law_all e.f__law_all.kp e.b__law_all .nil pass0 (pa_cons pe_int pa_nil))) (pe_call ((ok__law_all e).mono (by decide)) hr rfl e.g__law_all e.f__law_all.kp e.b__law_all .nil pass0 (pa_cons pe_int pa_nil)))) (pg_name (i := 2) sc_law.nd rfl (by first | exact Or.inl rfl | exact Or.inr rfl))
      (pss_one (ps_if (pt_not (pt_val (pe_callG ((ok__law_right e).up (by decide)) hgd hr rfl e.g__law_right e.f__law_right.kp e.b__law_right .nil pass0 (pa_cons (pv 1) (pa_cons (pv 2) pa_nil)))))
        (pss_one (ps_ret pe_bl))
        pss_nil)))
      (pss_cons (ps_for PassesOwn.never rfl (pi_range1 (by rfl) e.n_range (pa_cons (pe_op op_add pe_int (pe_callB (LS.call_min2 rfl) (by rfl) e.n_min (by decide +kernel) (pa_cons (pe_callB LS.call_len (by rfl) e.n_len PySem.boot_len (pa_cons (pv 0) pa_nil)) (pa_cons pe_int pa_nil)))) pa_nil)) (pg_name (i := 3) sc_law.nd rfl (by first | exact Or.inl rfl | exact Or.inr rfl))
      (pss_cons (ps_set (i := 2) sc_law.nd rfl (by first | exact Or.inl rfl | exact Or.inr rfl) (pe_call ((ok__law_parking e).mono (by decide)) hr rfl e.g__law_parking e.f__law_parking.kp e.b__law_parking .nil pass0 (pa_cons (pv 1) (pa_cons (pe_op op_add pe_int (pe_call ((ok__law_draw e).mono (by decide)) hr rfl e.g__law_draw e.f__law_draw.kp e.b__law_draw .nil pass0 (pa_cons (pv 1) (pa_cons (pe_ix ix_list (pe_lst (pa_cons pe_int (pa_cons pe_int pa_nil))) (pe_callTy LS.call_int1 (by rfl) e.n_int (by decide +kernel) (pa_cons (pe_cmpR op_eq (pv 3) pe_int (nomark _)) pa_nil)) (fun _ _ => rfl)) pa_nil)))) pa_nil))))
      (pss_cons (ps_if (PW.pt (pw_or (pt_not (pt_val (pe_callG ((ok__law_right e).up (by decide)) hgd hr rfl e.g__law_right e.f__law_right.kp e.b__law_right .nil pass0 (pa_cons (pv 1) (pa_cons (pv 2) pa_nil))))) (pw_or1 (pt_not (pt_val (pe_call ((ok__law_odd_right e).mono (by decide)) hr rfl e.g__law_odd_right e.f__law_odd_right.kp e.b__law_odd_right .nil pass0 (pa_cons (pv 1) (pa_cons (pv 2) pa_nil))))))))
        (pss_one (ps_ret pe_bl))
        pss_nil)
      (pss_one (ps_for PassesOwn.never rfl (pi_range1 (by rfl) e.n_range (pa_cons pe_int pa_nil)) (pg_name (i := 4) sc_law.nd rfl (by first | exact Or.inl rfl | exact Or.inr rfl))
      (pss_cons (ps_set (i := 5) sc_law.nd rfl (by first | exact Or.inl rfl | exact Or.inr rfl) (pe_call ((ok__law_draw e).mono (by decide)) hr rfl e.g__law_draw e.f__law_draw.kp e.b__law_draw .nil pass0 (pa_cons (pv 1) (pa_cons (pe_callB LS.call_len (by rfl) e.n_len PySem.boot_len (pa_cons (pv 2) pa_nil)) pa_nil))))
      (pss_cons (ps_asg (pe_ix ix_list (pe_lst (pa_cons (pe_op op_sub (pe_callB LS.call_len (by rfl) e.n_len PySem.boot_len (pa_cons (pv 2) pa_nil)) pe_int) (pa_cons (pe_call ((ok__law_draw e).mono (by decide)) hr rfl e.g__law_draw e.f__law_draw.kp e.b__law_draw .nil pass0 (pa_cons (pv 1) (pa_cons (pe_callB LS.call_len (by rfl) e.n_len PySem.boot_len (pa_cons (pv 2) pa_nil)) pa_nil))) (pa_cons (pe_ix ix_list (pv 2) pe_int (fun _ _ => rfl)) pa_nil)))) (pe_call ((ok__law_draw e).mono (by decide)) hr rfl e.g__law_draw e.f__law_draw.kp e.b__law_draw .nil pass0 (pa_cons (pv 1) (pa_cons pe_int pa_nil))) (fun _ _ => rfl)) (pg_sub (pv 2) (pv 5) set_list))
      (pss_one (ps_if (pt_not (pt_val (pe_callG ((ok__law_right e).up (by decide)) hgd hr rfl e.g__law_right e.f__law_right.kp e.b__law_right .nil pass0 (pa_cons (pv 1) (pa_cons (pv 2) pa_nil)))))
        (pss_one (ps_ret pe_bl))
        pss_nil)))))))))
      (pss_one (ps_ret (pe_and (pe_cmpR op_isBl (pe_call ((ok_is_parking e).mono (by decide)) hr rfl e.g_is_parking e.f_is_parking.kp e.b_is_parking .nil pass0 (pa_cons (pe_op op_rep (pe_lst (pa_cons pe_int pa_nil)) pe_int) pa_nil)) pe_bl (nomark _)) (pe_one (pe_cmpR (op_eqD hr.units) (pe_call ((ok_cars_parked e).mono (by decide)) hr rfl e.g_cars_parked e.f_cars_parked.kp e.b_cars_parked .nil pass0 (pa_cons (pe_op op_rep (pe_lst (pa_cons pe_int pa_nil)) pe_int) pa_nil)) (pe_lst (pa_cons pe_int (pa_cons pe_int (pa_cons pe_int pa_nil)))) (nomark _))))))))), ?_⟩
    repeat array_get_dec
    refine ⟨a, ns, rfl, hS, hl, fun H1 b s1 nb R => ?_⟩
    repeat array_get_dec
    refine ⟨1, rfl, by decide, fun H2 p1 as1 s2 np1 hp1 l1 r1 => ?_⟩
    have R2 := sg_s s2 R
    have w1 := rw_of R (by decide) (by decide) r1
    repeat array_get_dec
    refine ⟨2, rfl, by decide, fun H3 p2 as2 s3 np2 hp2 l2 r2 => ?_⟩
    have R3 := sg_s s3 R2
    have w2 := rw_of R2 (by decide) (by decide) r2
    refine LS.rcat (s3 _ _ hp1) hp2 (LS.sz (by rw [List.length_map, List.length_map]; omega)) fun q1 H4 nq1 s4 hq1 => ?_
    rw [← List.map_append] at hq1
    have R4 := sg_s s4 R3
    have w12 := rw_app (rw_s (s3.trans s4) w1) (rw_s s4 w2)
    repeat array_get_dec
    refine ⟨3, rfl, by decide, fun H5 p3 as3 s5 np3 hp3 l3 r3 => ?_⟩
    have R5 := sg_s s5 R4
    have w3 := rw_of R4 (by decide) (by decide) r3
    refine LS.rcat (s5 _ _ hq1) hp3 (LS.sz (by rw [List.length_map, List.length_map, List.length_append]; omega)) fun q2 H6 nq2 s6 hq2 => ?_
    rw [← List.map_append] at hq2
    have R6 := sg_s s6 R5
    have w13 := rw_app (rw_s (s5.trans s6) w12) (rw_s s6 w3)
    repeat array_get_dec
    refine ⟨4, rfl, by decide, fun H7 p4 as4 s7 np4 hp4 l4 r4 => ?_⟩
    have R7 := sg_s s7 R6
    have w4 := rw_of R6 (by decide) (by decide) r4
    refine LS.rcat (s7 _ _ hq2) hp4 (LS.sz (by rw [List.length_map, List.length_map, List.length_append, List.length_append]; omega)) fun q3 H8 nq3 s8 hq3 => ?_
    rw [← List.map_append] at hq3
    have R8 := sg_s s8 R7
    have w14 := rw_app (rw_s (s7.trans s8) w13) (rw_s s8 w4)
    have lt : (as1 ++ as2 ++ as3 ++ as4).length ≤ 1024 := by rw [List.length_append, List.length_append, List.length_append]; omega
    have q3b : q3 ≠ b := sg_ne nq3 R7
    have s18 : Same H H8 := s1.trans (s2.trans (s3.trans (s4.trans (s5.trans (s6.trans (s7.trans s8))))))
    generalize as1 ++ as2 ++ as3 ++ as4 = as at hq3 w14 lt
    clear w4 w13 R7 R6 R5 R4 R3 R2 hp4 r4 hq2 hp3 r3 w3 w12 hq1 hp2 r2 w2 hp1 r1 w1
    repeat array_get_dec
    refine LS.for_ (walk_list (xs := as.map V.ref)) (fun i σ H' => ∃ v2 : Option V, Spring H' b (0 + i) ∧ Fr H8 H' b ∧ σ = [some (.ref a), some (.ref b), v2, none, none, none]) ⟨_, R8, Fr.refl _ _, rfl⟩ (fun i σ H' hi ⟨_, _, f, _⟩ => SqL.of (f _ _ hq3 q3b)) ?_ ?_
    · rintro i x σ H2 H3 hi ⟨v2, R2, F2, rfl⟩ ⟨rfl, hx⟩
      rw [List.length_map] at hi
      rw [List.getElem?_map] at hx
      obtain ⟨r, hr⟩ : ∃ r, as[i]? = some r := ⟨_, List.getElem?_eq_getElem hi⟩
      rw [hr] at hx
      cases hx
      obtain ⟨nrb, w, hw, a1, a2, a3⟩ := w14 r (List.mem_of_getElem? hr)
      repeat array_get_dec
      refine ⟨b, r, _, w, rfl, R2, by omega, F2 _ _ hw nrb, nrb, a1, a2, a3, fun H4 R4 F4 => ?_⟩
      repeat array_get_dec
      exact ⟨_, R4, F2.trans F4, rfl⟩
    · rintro σ H2 ⟨v2, R2, F2, rfl⟩
      rw [List.length_map] at R2
      have hS2 : SqL K H2 a (ns.map V.int) := sq_new ((Fr.of s18).trans F2) nb hS
      clear hq3 w14 q3b F2 R8
      repeat array_get_dec
      refine LS.for_ walk_range (fun i σ H' => ∃ v2 v3 v4 v5 : Option V, Spring H' b (2000 + i * 1000) ∧ σ = [some (.ref a), some (.ref b), v2, v3, v4, v5]) ⟨_, _, _, _, R2.mono (by omega), rfl⟩ (fun _ _ _ _ _ => trivial) ?_ ?_
      · rintro i x σ H3 H4 hi ⟨v2, v3, v4, v5, R3, rfl⟩ ⟨rfl, rfl⟩
        have hi9 : i < 5 := by omega
        repeat array_get_dec
        refine LS.k_lst (by array_mem_dec) fun l H_l n_l s_l h_l => ?_
        repeat array_get_dec
        obtain ⟨m, hm0, hm1, hat⟩ : ∃ m : Nat, 0 < m ∧ m ≤ 200 ∧ atI [V.int 12, V.int 200] (if decide (0 + (i : Int) = 0) = true then 1 else 0) = some (.int m) := by
          by_cases e : 0 + (i : Int) = 0
          · rw [if_pos (decide_eq_true e)]; exact ⟨200, by decide, by decide, rfl⟩
          · rw [if_neg (by rw [decide_eq_false e]; exact Bool.false_ne_true)]; exact ⟨12, by decide, by decide, rfl⟩
        refine LS.rixl (by array_mem_dec) hat ?_
        have R5 : Spring H_l b (2000 + i * 1000) := sg_s s_l R3
        repeat array_get_dec
        refine ⟨b, _, m, rfl, R5, by omega, log_small (by omega), by omega, fun H5 r r0 r1 R5 F5 => ?_⟩
        obtain ⟨n, rfl⟩ : ∃ n : Nat, r = n := ⟨r.toNat, by omega⟩
        repeat array_get_dec
        refine ⟨b, _, n + 1, by rw [show ((n + 1 : Nat) : Int) = 1 + (n : Int) by omega]; rfl, R5, by omega, by omega, by omega, fun H6 p w R6 F6 np wl pk hp => ?_⟩
        have pb : p ≠ b := sg_ne np R5
        repeat array_get_dec
        refine ⟨b, p, _, w, rfl, R6, by omega, hp, pb, by omega, by omega, pk.rg, fun H7 R7 F7 => ?_⟩
        have hp7 := F7 _ _ hp pb
        repeat array_get_dec
        refine ⟨b, p, _, w, rfl, R7, by omega, hp7, pb, by omega, by omega, fun H8 R8 F8 => ?_⟩
        have hp8 := F8 _ _ hp7 pb
        repeat array_get_dec
        refine LS.for_ walk_range (fun j σ H' => ∃ (w : List Int) (v4 v5 : Option V), Spring H' b (2000 + i * 1000 + 950 + j * 4) ∧ H' p = some (.lst (w.map V.int)) ∧ w.length = n + 1 ∧ (∀ x ∈ w, 0 ≤ x ∧ x < w.length) ∧ σ = [some (.ref a), some (.ref b), some (.ref p), some (.int (0 + (i : Int))), v4, v5]) ⟨w, _, _, R8.mono (by omega), hp8, wl, pk.rg, rfl⟩ (fun _ _ _ _ _ => trivial) ?_ ?_
        · clear hp8 hp7 hp R8 R7 R6 F8 F7 F6 wl pk w
          rintro j x σ H9 HA hj ⟨w, v4, v5, R9, hp9, wl, rg, rfl⟩ ⟨rfl, rfl⟩
          have hj4 : j < 4 := hj
          obtain ⟨w0, hw0⟩ : ∃ x, w[0]? = some x := ⟨_, List.getElem?_eq_getElem (by omega)⟩
          have rw0 := rg w0 (List.mem_of_getElem? hw0)
          repeat array_get_dec
          refine ⟨b, _, w.length, rfl, R9, by omega, log_small (by omega), by omega, fun HB at_ t0 t1 RB FB => ?_⟩
          have hpB := FB _ _ hp9 pb
          repeat array_get_dec
          refine ⟨b, _, w.length, rfl, RB, by omega, log_small (by omega), by omega, fun HC u u0 u1 RC FC => ?_⟩
          have hpC := FC _ _ hpB pb
          repeat array_get_dec
          refine LS.rixl_n (SqL.of hpC) (int_at hw0) rfl ?_
          repeat array_get_dec
          refine LS.k_lst (by array_mem_dec) fun z H_z n_z s_z h_z => ?_
          repeat array_get_dec
          have RD := sg_s s_z RC
          have hpD := s_z _ _ hpC
          have zb : z ≠ b := sg_ne n_z RC
          refine ⟨b, _, 3, rfl, RD, by omega, by decide +kernel, by omega, fun HE c c0 c1 RE FE => ?_⟩
          have hzE := FE _ _ h_z zb
          have hpE := FE _ _ hpD pb
          obtain ⟨v, hv0, hv1, hat⟩ : ∃ v : Int, 0 ≤ v ∧ v < w.length ∧ atI [V.int (((w.length : Nat) : Int) - 1), V.int u, V.int w0] c = some (.int v) := by
            obtain rfl | rfl | rfl : c = 0 ∨ c = 1 ∨ c = 2 := by omega
            · exact ⟨_, by omega, by omega, rfl⟩
            · exact ⟨_, u0, u1, rfl⟩
            · exact ⟨_, rw0.1, rw0.2, rfl⟩
          refine LS.rixl (SqL.of hzE) hat ?_
          repeat array_get_dec
          refine LS.rset (j := at_.toNat) hpE (by rw [List.length_map]; exact ixN_int t0 (by omega)) fun HF fF hF => ?_
          rw [int_set] at hF
          have RF := sg_f fF RE pb
          have rgs := rg_set (i := at_.toNat) rg hv0 hv1
          repeat array_get_dec
          refine ⟨b, p, _, w.set at_.toNat v, rfl, RF, by omega, hF, pb, by rw [List.length_set]; omega, by rw [List.length_set]; omega, rgs, fun HG RG FG => ?_⟩
          repeat array_get_dec
          exact ⟨_, _, _, RG.mono (by omega), FG _ _ hF pb, by rw [List.length_set]; exact wl, rgs, rfl⟩
        · rintro σ H9 ⟨w, v4, v5, R9, hp9, wl, rg, rfl⟩
          exact ⟨_, _, _, _, R9.mono (by show _ + (4 : Int).toNat * 4 ≤ _; omega), rfl⟩
      · rintro σ H3 ⟨v2, v3, v4, v5, R3, rfl⟩
        repeat array_get_dec
        refine LS.k_lst (by array_mem_dec) fun z H_z n_z s_z h_z => ?_
        repeat array_get_dec
        refine LS.rrep1 (n := 200) h_z (by omega) fun z2 H4 nz2 s4 hz2 => ?_
        rw [show List.replicate 200 (V.int 0) = (List.replicate 200 (0 : Int)).map V.int by rw [List.map_replicate]] at hz2
        repeat array_get_dec
        refine ⟨z2, List.replicate 200 0, rfl, LS.se_l hz2, by rw [List.length_replicate]; omega, fun H5 b' s5 hb' => ?_⟩
        obtain rfl := hb'.mpr ⟨by rw [List.length_replicate]; omega, by rw [List.length_replicate]; omega, rk_pk (rk_rep 200)⟩
        repeat array_get_dec
        refine LS.risb ?_
        rw [decide_eq_true rfl]
        repeat array_get_dec
        refine LS.k_lst (by array_mem_dec) fun z3 H_z3 n_z3 s_z3 h_z3 => ?_
        repeat array_get_dec
        refine LS.rrep1 (n := 3) h_z3 (by omega) fun z4 H6 nz4 s6 hz4 => ?_
        rw [show List.replicate 3 (V.int 0) = (List.replicate 3 (0 : Int)).map V.int by rw [List.map_replicate]] at hz4
        repeat array_get_dec
        refine ⟨z4, List.replicate 3 0, rfl, LS.se_l hz4, by decide, by decide, rk_pk (rk_rep 3), fun H7 p s7 np hp => ?_⟩
        repeat array_get_dec
        refine LS.k_lst (by array_mem_dec) fun z5 H_z5 n_z5 s_z5 h_z5 => ?_
        repeat array_get_dec
        refine LS.req_il (x := cars (List.replicate 3 0)) (y := [0, 1, 2]) (SqL.of (s_z5 _ _ hp)) (SqL.of h_z5) ?_
        rw [decide_eq_true (by decide)]
        exact k _
end
end LP

namespace LP
open PySem L2 LT LG LQ LH LC LX
set_option maxHeartbeats 4000000 in
theorem all_mk {l : PySem.W.OpenLaw} {w : World} {K : PySem.W.Frag} {h : Heap} {mg : Str → Option Value} {fa : Addr} (X : K.In h) (G : h.Ns mainGlobals mg) (hfa : mg "law" = some (.ref fa))
    {t_MOST_SIZE : Tok}
    {t_MOST_PLACES : Tok}
    {t_GREATEST_PLACE : Tok}
    {C_InvalidWishes : Addr}
    {a_is_whole : Addr} {od_is_whole an_is_whole : Option Addr} {sl_is_whole : Array (Option Value)} {oc_is_whole kV_is_whole dc_is_whole pm_is_whole cd_is_whole ct_is_whole : Value}
    {a_is_listed : Addr} {od_is_listed an_is_listed : Option Addr} {sl_is_listed : Array (Option Value)} {oc_is_listed kV_is_listed dc_is_listed pm_is_listed cd_is_listed ct_is_listed : Value}
    {a_is_number : Addr} {od_is_number an_is_number : Option Addr} {sl_is_number : Array (Option Value)} {oc_is_number kV_is_number dc_is_number pm_is_number cd_is_number ct_is_number : Value}
    {a_is_place : Addr} {od_is_place an_is_place : Option Addr} {sl_is_place : Array (Option Value)} {oc_is_place kV_is_place dc_is_place pm_is_place cd_is_place ct_is_place : Value}
    {a_is_place_list : Addr} {od_is_place_list an_is_place_list : Option Addr} {sl_is_place_list : Array (Option Value)} {oc_is_place_list kV_is_place_list dc_is_place_list pm_is_place_list cd_is_place_list ct_is_place_list : Value}
    {a_check_places : Addr} {od_check_places an_check_places : Option Addr} {sl_check_places : Array (Option Value)} {oc_check_places kV_check_places dc_check_places pm_check_places cd_check_places ct_check_places : Value}
    {a_stretch_lengths : Addr} {od_stretch_lengths an_stretch_lengths : Option Addr} {sl_stretch_lengths : Array (Option Value)} {oc_stretch_lengths kV_stretch_lengths dc_stretch_lengths pm_stretch_lengths cd_stretch_lengths ct_stretch_lengths : Value}
    {a_check_offsets : Addr} {od_check_offsets an_check_offsets : Option Addr} {sl_check_offsets : Array (Option Value)} {oc_check_offsets kV_check_offsets dc_check_offsets pm_check_offsets cd_check_offsets ct_check_offsets : Value}
    {a_takes_by : Addr} {od_takes_by an_takes_by : Option Addr} {sl_takes_by : Array (Option Value)} {oc_takes_by kV_takes_by dc_takes_by pm_takes_by cd_takes_by ct_takes_by : Value}
    {a_number_with : Addr} {od_number_with an_number_with : Option Addr} {sl_number_with : Array (Option Value)} {oc_number_with kV_number_with dc_number_with pm_number_with cd_number_with ct_number_with : Value}
    {a_is_parking : Addr} {od_is_parking an_is_parking : Option Addr} {sl_is_parking : Array (Option Value)} {oc_is_parking kV_is_parking dc_is_parking pm_is_parking cd_is_parking ct_is_parking : Value}
    {a_check_wishes : Addr} {od_check_wishes an_check_wishes : Option Addr} {sl_check_wishes : Array (Option Value)} {oc_check_wishes kV_check_wishes dc_check_wishes pm_check_wishes cd_check_wishes ct_check_wishes : Value}
    {a_cars_parked : Addr} {od_cars_parked an_cars_parked : Option Addr} {sl_cars_parked : Array (Option Value)} {oc_cars_parked kV_cars_parked dc_cars_parked pm_cars_parked cd_cars_parked ct_cars_parked : Value}
    {a_first_fills : Addr} {od_first_fills an_first_fills : Option Addr} {sl_first_fills : Array (Option Value)} {oc_first_fills kV_first_fills dc_first_fills pm_first_fills cd_first_fills ct_first_fills : Value}
    {a_pair_of : Addr} {od_pair_of an_pair_of : Option Addr} {sl_pair_of : Array (Option Value)} {oc_pair_of kV_pair_of dc_pair_of pm_pair_of cd_pair_of ct_pair_of : Value}
    {a_code_bases : Addr} {od_code_bases an_code_bases : Option Addr} {sl_code_bases : Array (Option Value)} {oc_code_bases kV_code_bases dc_code_bases pm_code_bases cd_code_bases ct_code_bases : Value}
    {a_wishes_index : Addr} {od_wishes_index an_wishes_index : Option Addr} {sl_wishes_index : Array (Option Value)} {oc_wishes_index kV_wishes_index dc_wishes_index pm_wishes_index cd_wishes_index ct_wishes_index : Value}
    {a__law_spring : Addr} {od__law_spring an__law_spring : Option Addr} {sl__law_spring : Array (Option Value)} {oc__law_spring kV__law_spring dc__law_spring pm__law_spring cd__law_spring ct__law_spring : Value}
    {a__law_draw : Addr} {od__law_draw an__law_draw : Option Addr} {sl__law_draw : Array (Option Value)} {oc__law_draw kV__law_draw dc__law_draw pm__law_draw cd__law_draw ct__law_draw : Value}
    {a__law_same : Addr} {od__law_same an__law_same : Option Addr} {sl__law_same : Array (Option Value)} {oc__law_same kV__law_same dc__law_same pm__law_same cd__law_same ct__law_same : Value}
    {a__law_dressed : Addr} {od__law_dressed an__law_dressed : Option Addr} {sl__law_dressed : Array (Option Value)} {oc__law_dressed kV__law_dressed dc__law_dressed pm__law_dressed cd__law_dressed ct__law_dressed : Value}
    {a__law_mixed : Addr} {od__law_mixed an__law_mixed : Option Addr} {sl__law_mixed : Array (Option Value)} {oc__law_mixed kV__law_mixed dc__law_mixed pm__law_mixed cd__law_mixed ct__law_mixed : Value}
    {a__law_parked : Addr} {od__law_parked an__law_parked : Option Addr} {sl__law_parked : Array (Option Value)} {oc__law_parked kV__law_parked dc__law_parked pm__law_parked cd__law_parked ct__law_parked : Value}
    {a__law_parking : Addr} {od__law_parking an__law_parking : Option Addr} {sl__law_parking : Array (Option Value)} {oc__law_parking kV__law_parking dc__law_parking pm__law_parking cd__law_parking ct__law_parking : Value}
    {a__law_all : Addr} {od__law_all an__law_all : Option Addr} {sl__law_all : Array (Option Value)} {oc__law_all kV__law_all dc__law_all pm__law_all cd__law_all ct__law_all : Value}
    {a__law_refused : Addr} {od__law_refused an__law_refused : Option Addr} {sl__law_refused : Array (Option Value)} {oc__law_refused kV__law_refused dc__law_refused pm__law_refused cd__law_refused ct__law_refused : Value}
    {a__law_right : Addr} {od__law_right an__law_right : Option Addr} {sl__law_right : Array (Option Value)} {oc__law_right kV__law_right dc__law_right pm__law_right cd__law_right ct__law_right : Value}
    {a__law_odd_right : Addr} {od__law_odd_right an__law_odd_right : Option Addr} {sl__law_odd_right : Array (Option Value)} {oc__law_odd_right kV__law_odd_right dc__law_odd_right pm__law_odd_right cd__law_odd_right ct__law_odd_right : Value}
    {a_law : Addr} {od_law an_law : Option Addr} {sl_law : Array (Option Value)} {oc_law kV_law dc_law pm_law cd_law ct_law : Value}
    (z_len : PySem.W.nsIn K mainGlobals "len" = some none)
    (z_range : PySem.W.nsIn K mainGlobals "range" = some none)
    (z_list : PySem.W.nsIn K mainGlobals "list" = some none)
    (z_tuple : PySem.W.nsIn K mainGlobals "tuple" = some none)
    (z_int : PySem.W.nsIn K mainGlobals "int" = some none)
    (z_bool : PySem.W.nsIn K mainGlobals "bool" = some none)
    (z_str : PySem.W.nsIn K mainGlobals "str" = some none)
    (z_isinstance : PySem.W.nsIn K mainGlobals "isinstance" = some none)
    (z_min : PySem.W.nsIn K mainGlobals "min" = some none)
    (z_max : PySem.W.nsIn K mainGlobals "max" = some none)
    (z_set : PySem.W.nsIn K mainGlobals "set" = some none)
    (z_all : PySem.W.nsIn K mainGlobals "all" = some none)
    (z_zip : PySem.W.nsIn K mainGlobals "zip" = some none)
    (z_abs : PySem.W.nsIn K mainGlobals "abs" = some none)
    (z_sorted : PySem.W.nsIn K mainGlobals "sorted" = some none)
    (z_enumerate : PySem.W.nsIn K mainGlobals "enumerate" = some none)
    (z_repr : PySem.W.nsIn K mainGlobals "repr" = some none)
    (z_MOST_SIZE : PySem.W.nsIn K mainGlobals "MOST_SIZE" = some (some (.int 200 t_MOST_SIZE)))
    (z_MOST_PLACES : PySem.W.nsIn K mainGlobals "MOST_PLACES" = some (some (.int 200 t_MOST_PLACES)))
    (z_GREATEST_PLACE : PySem.W.nsIn K mainGlobals "GREATEST_PLACE" = some (some (.int 1000000000000000000000000000000 t_GREATEST_PLACE)))
    (z_InvalidWishes : PySem.W.nsIn K mainGlobals "InvalidWishes" = some (some (.ref C_InvalidWishes)))
    (ex_InvalidWishes : PySem.W.excIn K C_InvalidWishes [.type "ValueError", .type "Exception", .type "BaseException", .type "object"] "ValueError.__new__" = true)
    (ek_InvalidWishes : PySem.W.keepIn K (.ref C_InvalidWishes) = true)
    (eb_InvalidWishes : PySem.W.subIn K (.ref C_InvalidWishes) (.type "BaseException") = some true)
    (et_InvalidWishes : PySem.W.typeIn K (.ref C_InvalidWishes) = some (.type "type"))
    (xb_InvalidWishes : PySem.W.subIn K (.ref C_InvalidWishes) (.type "BaseException") = some true)
    (xc_InvalidWishes : PySem.W.isClsIn K C_InvalidWishes = true)
    (xt_InvalidWishes : PySem.W.typeIn K (.ref C_InvalidWishes) = some (.type "type"))
    (xm_InvalidWishes_InvalidWishes : PySem.W.subIn K (.ref C_InvalidWishes) (.ref C_InvalidWishes) = some true)
    (z_is_whole : PySem.W.nsIn K mainGlobals "is_whole" = some (some (.ref a_is_whole)))
    (l_is_whole : K.lookup a_is_whole = some ⟨oc_is_whole, od_is_whole, .func (PySem.W.fnOf "is_whole" "is_whole" (defArgs s_is_whole) (defBody s_is_whole) (defScope s_is_whole) .none kV_is_whole dc_is_whole pm_is_whole an_is_whole cd_is_whole ct_is_whole), sl_is_whole⟩)
    (c_is_whole : PySem.W.codeIn K cd_is_whole "is_whole" = true)
    (k_is_whole : PySem.W.keepIn K (.ref a_is_whole) = true)
    (z_is_listed : PySem.W.nsIn K mainGlobals "is_listed" = some (some (.ref a_is_listed)))
    (l_is_listed : K.lookup a_is_listed = some ⟨oc_is_listed, od_is_listed, .func (PySem.W.fnOf "is_listed" "is_listed" (defArgs s_is_listed) (defBody s_is_listed) (defScope s_is_listed) .none kV_is_listed dc_is_listed pm_is_listed an_is_listed cd_is_listed ct_is_listed), sl_is_listed⟩)
    (c_is_listed : PySem.W.codeIn K cd_is_listed "is_listed" = true)
    (k_is_listed : PySem.W.keepIn K (.ref a_is_listed) = true)
    (z_is_number : PySem.W.nsIn K mainGlobals "is_number" = some (some (.ref a_is_number)))
    (l_is_number : K.lookup a_is_number = some ⟨oc_is_number, od_is_number, .func (PySem.W.fnOf "is_number" "is_number" (defArgs s_is_number) (defBody s_is_number) (defScope s_is_number) .none kV_is_number dc_is_number pm_is_number an_is_number cd_is_number ct_is_number), sl_is_number⟩)
    (c_is_number : PySem.W.codeIn K cd_is_number "is_number" = true)
    (k_is_number : PySem.W.keepIn K (.ref a_is_number) = true)
    (z_is_place : PySem.W.nsIn K mainGlobals "is_place" = some (some (.ref a_is_place)))
    (l_is_place : K.lookup a_is_place = some ⟨oc_is_place, od_is_place, .func (PySem.W.fnOf "is_place" "is_place" (defArgs s_is_place) (defBody s_is_place) (defScope s_is_place) .none kV_is_place dc_is_place pm_is_place an_is_place cd_is_place ct_is_place), sl_is_place⟩)
    (c_is_place : PySem.W.codeIn K cd_is_place "is_place" = true)
    (k_is_place : PySem.W.keepIn K (.ref a_is_place) = true)
    (z_is_place_list : PySem.W.nsIn K mainGlobals "is_place_list" = some (some (.ref a_is_place_list)))
    (l_is_place_list : K.lookup a_is_place_list = some ⟨oc_is_place_list, od_is_place_list, .func (PySem.W.fnOf "is_place_list" "is_place_list" (defArgs s_is_place_list) (defBody s_is_place_list) (defScope s_is_place_list) .none kV_is_place_list dc_is_place_list pm_is_place_list an_is_place_list cd_is_place_list ct_is_place_list), sl_is_place_list⟩)
    (c_is_place_list : PySem.W.codeIn K cd_is_place_list "is_place_list" = true)
    (k_is_place_list : PySem.W.keepIn K (.ref a_is_place_list) = true)
    (z_check_places : PySem.W.nsIn K mainGlobals "check_places" = some (some (.ref a_check_places)))
    (l_check_places : K.lookup a_check_places = some ⟨oc_check_places, od_check_places, .func (PySem.W.fnOf "check_places" "check_places" (defArgs s_check_places) (defBody s_check_places) (defScope s_check_places) .none kV_check_places dc_check_places pm_check_places an_check_places cd_check_places ct_check_places), sl_check_places⟩)
    (c_check_places : PySem.W.codeIn K cd_check_places "check_places" = true)
    (k_check_places : PySem.W.keepIn K (.ref a_check_places) = true)
    (z_stretch_lengths : PySem.W.nsIn K mainGlobals "stretch_lengths" = some (some (.ref a_stretch_lengths)))
    (l_stretch_lengths : K.lookup a_stretch_lengths = some ⟨oc_stretch_lengths, od_stretch_lengths, .func (PySem.W.fnOf "stretch_lengths" "stretch_lengths" (defArgs s_stretch_lengths) (defBody s_stretch_lengths) (defScope s_stretch_lengths) .none kV_stretch_lengths dc_stretch_lengths pm_stretch_lengths an_stretch_lengths cd_stretch_lengths ct_stretch_lengths), sl_stretch_lengths⟩)
    (c_stretch_lengths : PySem.W.codeIn K cd_stretch_lengths "stretch_lengths" = true)
    (k_stretch_lengths : PySem.W.keepIn K (.ref a_stretch_lengths) = true)
    (z_check_offsets : PySem.W.nsIn K mainGlobals "check_offsets" = some (some (.ref a_check_offsets)))
    (l_check_offsets : K.lookup a_check_offsets = some ⟨oc_check_offsets, od_check_offsets, .func (PySem.W.fnOf "check_offsets" "check_offsets" (defArgs s_check_offsets) (defBody s_check_offsets) (defScope s_check_offsets) .none kV_check_offsets dc_check_offsets pm_check_offsets an_check_offsets cd_check_offsets ct_check_offsets), sl_check_offsets⟩)
    (c_check_offsets : PySem.W.codeIn K cd_check_offsets "check_offsets" = true)
    (k_check_offsets : PySem.W.keepIn K (.ref a_check_offsets) = true)
    (z_takes_by : PySem.W.nsIn K mainGlobals "takes_by" = some (some (.ref a_takes_by)))
    (l_takes_by : K.lookup a_takes_by = some ⟨oc_takes_by, od_takes_by, .func (PySem.W.fnOf "takes_by" "takes_by" (defArgs s_takes_by) (defBody s_takes_by) (defScope s_takes_by) .none kV_takes_by dc_takes_by pm_takes_by an_takes_by cd_takes_by ct_takes_by), sl_takes_by⟩)
    (c_takes_by : PySem.W.codeIn K cd_takes_by "takes_by" = true)
    (k_takes_by : PySem.W.keepIn K (.ref a_takes_by) = true)
    (z_number_with : PySem.W.nsIn K mainGlobals "number_with" = some (some (.ref a_number_with)))
    (l_number_with : K.lookup a_number_with = some ⟨oc_number_with, od_number_with, .func (PySem.W.fnOf "number_with" "number_with" (defArgs s_number_with) (defBody s_number_with) (defScope s_number_with) .none kV_number_with dc_number_with pm_number_with an_number_with cd_number_with ct_number_with), sl_number_with⟩)
    (c_number_with : PySem.W.codeIn K cd_number_with "number_with" = true)
    (k_number_with : PySem.W.keepIn K (.ref a_number_with) = true)
    (z_is_parking : PySem.W.nsIn K mainGlobals "is_parking" = some (some (.ref a_is_parking)))
    (l_is_parking : K.lookup a_is_parking = some ⟨oc_is_parking, od_is_parking, .func (PySem.W.fnOf "is_parking" "is_parking" (defArgs s_is_parking) (defBody s_is_parking) (defScope s_is_parking) .none kV_is_parking dc_is_parking pm_is_parking an_is_parking cd_is_parking ct_is_parking), sl_is_parking⟩)
    (c_is_parking : PySem.W.codeIn K cd_is_parking "is_parking" = true)
    (k_is_parking : PySem.W.keepIn K (.ref a_is_parking) = true)
    (z_check_wishes : PySem.W.nsIn K mainGlobals "check_wishes" = some (some (.ref a_check_wishes)))
    (l_check_wishes : K.lookup a_check_wishes = some ⟨oc_check_wishes, od_check_wishes, .func (PySem.W.fnOf "check_wishes" "check_wishes" (defArgs s_check_wishes) (defBody s_check_wishes) (defScope s_check_wishes) .none kV_check_wishes dc_check_wishes pm_check_wishes an_check_wishes cd_check_wishes ct_check_wishes), sl_check_wishes⟩)
    (c_check_wishes : PySem.W.codeIn K cd_check_wishes "check_wishes" = true)
    (k_check_wishes : PySem.W.keepIn K (.ref a_check_wishes) = true)
    (z_cars_parked : PySem.W.nsIn K mainGlobals "cars_parked" = some (some (.ref a_cars_parked)))
    (l_cars_parked : K.lookup a_cars_parked = some ⟨oc_cars_parked, od_cars_parked, .func (PySem.W.fnOf "cars_parked" "cars_parked" (defArgs s_cars_parked) (defBody s_cars_parked) (defScope s_cars_parked) .none kV_cars_parked dc_cars_parked pm_cars_parked an_cars_parked cd_cars_parked ct_cars_parked), sl_cars_parked⟩)
    (c_cars_parked : PySem.W.codeIn K cd_cars_parked "cars_parked" = true)
    (k_cars_parked : PySem.W.keepIn K (.ref a_cars_parked) = true)
    (z_first_fills : PySem.W.nsIn K mainGlobals "first_fills" = some (some (.ref a_first_fills)))
    (l_first_fills : K.lookup a_first_fills = some ⟨oc_first_fills, od_first_fills, .func (PySem.W.fnOf "first_fills" "first_fills" (defArgs s_first_fills) (defBody s_first_fills) (defScope s_first_fills) .none kV_first_fills dc_first_fills pm_first_fills an_first_fills cd_first_fills ct_first_fills), sl_first_fills⟩)
    (c_first_fills : PySem.W.codeIn K cd_first_fills "first_fills" = true)
    (k_first_fills : PySem.W.keepIn K (.ref a_first_fills) = true)
    (z_pair_of : PySem.W.nsIn K mainGlobals "pair_of" = some (some (.ref a_pair_of)))
    (l_pair_of : K.lookup a_pair_of = some ⟨oc_pair_of, od_pair_of, .func (PySem.W.fnOf "pair_of" "pair_of" (defArgs s_pair_of) (defBody s_pair_of) (defScope s_pair_of) .none kV_pair_of dc_pair_of pm_pair_of an_pair_of cd_pair_of ct_pair_of), sl_pair_of⟩)
    (c_pair_of : PySem.W.codeIn K cd_pair_of "pair_of" = true)
    (k_pair_of : PySem.W.keepIn K (.ref a_pair_of) = true)
    (z_code_bases : PySem.W.nsIn K mainGlobals "code_bases" = some (some (.ref a_code_bases)))
    (l_code_bases : K.lookup a_code_bases = some ⟨oc_code_bases, od_code_bases, .func (PySem.W.fnOf "code_bases" "code_bases" (defArgs s_code_bases) (defBody s_code_bases) (defScope s_code_bases) .none kV_code_bases dc_code_bases pm_code_bases an_code_bases cd_code_bases ct_code_bases), sl_code_bases⟩)
    (c_code_bases : PySem.W.codeIn K cd_code_bases "code_bases" = true)
    (k_code_bases : PySem.W.keepIn K (.ref a_code_bases) = true)
    (z_wishes_index : PySem.W.nsIn K mainGlobals "wishes_index" = some (some (.ref a_wishes_index)))
    (l_wishes_index : K.lookup a_wishes_index = some ⟨oc_wishes_index, od_wishes_index, .func (PySem.W.fnOf "wishes_index" "wishes_index" (defArgs s_wishes_index) (defBody s_wishes_index) (defScope s_wishes_index) .none kV_wishes_index dc_wishes_index pm_wishes_index an_wishes_index cd_wishes_index ct_wishes_index), sl_wishes_index⟩)
    (c_wishes_index : PySem.W.codeIn K cd_wishes_index "wishes_index" = true)
    (k_wishes_index : PySem.W.keepIn K (.ref a_wishes_index) = true)
    (z__law_spring : PySem.W.nsIn K mainGlobals "_law_spring" = some (some (.ref a__law_spring)))
    (l__law_spring : K.lookup a__law_spring = some ⟨oc__law_spring, od__law_spring, .func (PySem.W.fnOf "_law_spring" "_law_spring" (defArgs s__law_spring) (defBody s__law_spring) (defScope s__law_spring) .none kV__law_spring dc__law_spring pm__law_spring an__law_spring cd__law_spring ct__law_spring), sl__law_spring⟩)
    (c__law_spring : PySem.W.codeIn K cd__law_spring "_law_spring" = true)
    (k__law_spring : PySem.W.keepIn K (.ref a__law_spring) = true)
    (z__law_draw : PySem.W.nsIn K mainGlobals "_law_draw" = some (some (.ref a__law_draw)))
    (l__law_draw : K.lookup a__law_draw = some ⟨oc__law_draw, od__law_draw, .func (PySem.W.fnOf "_law_draw" "_law_draw" (defArgs s__law_draw) (defBody s__law_draw) (defScope s__law_draw) .none kV__law_draw dc__law_draw pm__law_draw an__law_draw cd__law_draw ct__law_draw), sl__law_draw⟩)
    (c__law_draw : PySem.W.codeIn K cd__law_draw "_law_draw" = true)
    (k__law_draw : PySem.W.keepIn K (.ref a__law_draw) = true)
    (z__law_same : PySem.W.nsIn K mainGlobals "_law_same" = some (some (.ref a__law_same)))
    (l__law_same : K.lookup a__law_same = some ⟨oc__law_same, od__law_same, .func (PySem.W.fnOf "_law_same" "_law_same" (defArgs s__law_same) (defBody s__law_same) (defScope s__law_same) .none kV__law_same dc__law_same pm__law_same an__law_same cd__law_same ct__law_same), sl__law_same⟩)
    (c__law_same : PySem.W.codeIn K cd__law_same "_law_same" = true)
    (k__law_same : PySem.W.keepIn K (.ref a__law_same) = true)
    (z__law_dressed : PySem.W.nsIn K mainGlobals "_law_dressed" = some (some (.ref a__law_dressed)))
    (l__law_dressed : K.lookup a__law_dressed = some ⟨oc__law_dressed, od__law_dressed, .func (PySem.W.fnOf "_law_dressed" "_law_dressed" (defArgs s__law_dressed) (defBody s__law_dressed) (defScope s__law_dressed) .none kV__law_dressed dc__law_dressed pm__law_dressed an__law_dressed cd__law_dressed ct__law_dressed), sl__law_dressed⟩)
    (c__law_dressed : PySem.W.codeIn K cd__law_dressed "_law_dressed" = true)
    (k__law_dressed : PySem.W.keepIn K (.ref a__law_dressed) = true)
    (z__law_mixed : PySem.W.nsIn K mainGlobals "_law_mixed" = some (some (.ref a__law_mixed)))
    (l__law_mixed : K.lookup a__law_mixed = some ⟨oc__law_mixed, od__law_mixed, .func (PySem.W.fnOf "_law_mixed" "_law_mixed" (defArgs s__law_mixed) (defBody s__law_mixed) (defScope s__law_mixed) .none kV__law_mixed dc__law_mixed pm__law_mixed an__law_mixed cd__law_mixed ct__law_mixed), sl__law_mixed⟩)
    (c__law_mixed : PySem.W.codeIn K cd__law_mixed "_law_mixed" = true)
    (k__law_mixed : PySem.W.keepIn K (.ref a__law_mixed) = true)
    (z__law_parked : PySem.W.nsIn K mainGlobals "_law_parked" = some (some (.ref a__law_parked)))
    (l__law_parked : K.lookup a__law_parked = some ⟨oc__law_parked, od__law_parked, .func (PySem.W.fnOf "_law_parked" "_law_parked" (defArgs s__law_parked) (defBody s__law_parked) (defScope s__law_parked) .none kV__law_parked dc__law_parked pm__law_parked an__law_parked cd__law_parked ct__law_parked), sl__law_parked⟩)
    (c__law_parked : PySem.W.codeIn K cd__law_parked "_law_parked" = true)
    (k__law_parked : PySem.W.keepIn K (.ref a__law_parked) = true)
    (z__law_parking : PySem.W.nsIn K mainGlobals "_law_parking" = some (some (.ref a__law_parking)))
    (l__law_parking : K.lookup a__law_parking = some ⟨oc__law_parking, od__law_parking, .func (PySem.W.fnOf "_law_parking" "_law_parking" (defArgs s__law_parking) (defBody s__law_parking) (defScope s__law_parking) .none kV__law_parking dc__law_parking pm__law_parking an__law_parking cd__law_parking ct__law_parking), sl__law_parking⟩)
    (c__law_parking : PySem.W.codeIn K cd__law_parking "_law_parking" = true)
    (k__law_parking : PySem.W.keepIn K (.ref a__law_parking) = true)
    (z__law_all : PySem.W.nsIn K mainGlobals "_law_all" = some (some (.ref a__law_all)))
    (l__law_all : K.lookup a__law_all = some ⟨oc__law_all, od__law_all, .func (PySem.W.fnOf "_law_all" "_law_all" (defArgs s__law_all) (defBody s__law_all) (defScope s__law_all) .none kV__law_all dc__law_all pm__law_all an__law_all cd__law_all ct__law_all), sl__law_all⟩)
    (c__law_all : PySem.W.codeIn K cd__law_all "_law_all" = true)
    (k__law_all : PySem.W.keepIn K (.ref a__law_all) = true)
    (z__law_refused : PySem.W.nsIn K mainGlobals "_law_refused" = some (some (.ref a__law_refused)))
    (l__law_refused : K.lookup a__law_refused = some ⟨oc__law_refused, od__law_refused, .func (PySem.W.fnOf "_law_refused" "_law_refused" (defArgs s__law_refused) (defBody s__law_refused) (defScope s__law_refused) .none kV__law_refused dc__law_refused pm__law_refused an__law_refused cd__law_refused ct__law_refused), sl__law_refused⟩)
    (c__law_refused : PySem.W.codeIn K cd__law_refused "_law_refused" = true)
    (k__law_refused : PySem.W.keepIn K (.ref a__law_refused) = true)
    (z__law_right : PySem.W.nsIn K mainGlobals "_law_right" = some (some (.ref a__law_right)))
    (l__law_right : K.lookup a__law_right = some ⟨oc__law_right, od__law_right, .func (PySem.W.fnOf "_law_right" "_law_right" (defArgs s__law_right) (defBody s__law_right) (defScope s__law_right) .none kV__law_right dc__law_right pm__law_right an__law_right cd__law_right ct__law_right), sl__law_right⟩)
    (c__law_right : PySem.W.codeIn K cd__law_right "_law_right" = true)
    (k__law_right : PySem.W.keepIn K (.ref a__law_right) = true)
    (z__law_odd_right : PySem.W.nsIn K mainGlobals "_law_odd_right" = some (some (.ref a__law_odd_right)))
    (l__law_odd_right : K.lookup a__law_odd_right = some ⟨oc__law_odd_right, od__law_odd_right, .func (PySem.W.fnOf "_law_odd_right" "_law_odd_right" (defArgs s__law_odd_right) (defBody s__law_odd_right) (defScope s__law_odd_right) .none kV__law_odd_right dc__law_odd_right pm__law_odd_right an__law_odd_right cd__law_odd_right ct__law_odd_right), sl__law_odd_right⟩)
    (c__law_odd_right : PySem.W.codeIn K cd__law_odd_right "_law_odd_right" = true)
    (k__law_odd_right : PySem.W.keepIn K (.ref a__law_odd_right) = true)
    (z_law : PySem.W.nsIn K mainGlobals "law" = some (some (.ref a_law)))
    (l_law : K.lookup a_law = some ⟨oc_law, od_law, .func (PySem.W.fnOf "law" "law" (defArgs s_law) (defBody s_law) (defScope s_law) .none kV_law dc_law pm_law an_law cd_law ct_law), sl_law⟩)
    (c_law : PySem.W.codeIn K cd_law "law" = true)
    (k_law : PySem.W.keepIn K (.ref a_law) = true) :
    ∃ fd : FuncData, (∀ (s : Shared) (v : Value), BindsTo s fd ⟨[v], []⟩ [("script", v)]) ∧ ∀ base : Heap, K.In base → base.Ns mainGlobals mg → LG.FnG l.prog w K mg base CX0 10 fa fd ["script"] (sp_law K) := by
  have e0 := hfa.symm.trans (PySem.W.mg_of X G z_law)
  cases e0
  have F_is_whole := fun_mk (st := s_is_whole) l_is_whole c_is_whole k_is_whole
  have B_is_whole := F_is_whole.binds (ps := ["value"]) fun _ _ _ _ _ _ us hl => match us, hl with | [_], _ => rfl
  have F_is_listed := fun_mk (st := s_is_listed) l_is_listed c_is_listed k_is_listed
  have B_is_listed := F_is_listed.binds (ps := ["value"]) fun _ _ _ _ _ _ us hl => match us, hl with | [_], _ => rfl
  have F_is_number := fun_mk (st := s_is_number) l_is_number c_is_number k_is_number
  have B_is_number := F_is_number.binds (ps := ["value", "count"]) fun _ _ _ _ _ _ us hl => match us, hl with | [_, _], _ => rfl
  have F_is_place := fun_mk (st := s_is_place) l_is_place c_is_place k_is_place
  have B_is_place := F_is_place.binds (ps := ["value"]) fun _ _ _ _ _ _ us hl => match us, hl with | [_], _ => rfl
  have F_is_place_list := fun_mk (st := s_is_place_list) l_is_place_list c_is_place_list k_is_place_list
  have B_is_place_list := F_is_place_list.binds (ps := ["value"]) fun _ _ _ _ _ _ us hl => match us, hl with | [_], _ => rfl
  have F_check_places := fun_mk (st := s_check_places) l_check_places c_check_places k_check_places
  have B_check_places := F_check_places.binds (ps := ["value"]) fun _ _ _ _ _ _ us hl => match us, hl with | [_], _ => rfl
  have F_stretch_lengths := fun_mk (st := s_stretch_lengths) l_stretch_lengths c_stretch_lengths k_stretch_lengths
  have B_stretch_lengths := F_stretch_lengths.binds (ps := ["fills"]) fun _ _ _ _ _ _ us hl => match us, hl with | [_], _ => rfl
  have F_check_offsets := fun_mk (st := s_check_offsets) l_check_offsets c_check_offsets k_check_offsets
  have B_check_offsets := F_check_offsets.binds (ps := ["value", "lengths"]) fun _ _ _ _ _ _ us hl => match us, hl with | [_, _], _ => rfl
  have F_takes_by := fun_mk (st := s_takes_by) l_takes_by c_takes_by k_takes_by
  have B_takes_by := F_takes_by.binds (ps := ["fills", "offsets"]) fun _ _ _ _ _ _ us hl => match us, hl with | [_, _], _ => rfl
  have F_number_with := fun_mk (st := s_number_with) l_number_with c_number_with k_number_with
  have B_number_with := F_number_with.binds (ps := ["digits", "bases"]) fun _ _ _ _ _ _ us hl => match us, hl with | [_, _], _ => rfl
  have F_is_parking := fun_mk (st := s_is_parking) l_is_parking c_is_parking k_is_parking
  have B_is_parking := F_is_parking.binds (ps := ["value"]) fun _ _ _ _ _ _ us hl => match us, hl with | [_], _ => rfl
  have F_check_wishes := fun_mk (st := s_check_wishes) l_check_wishes c_check_wishes k_check_wishes
  have B_check_wishes := F_check_wishes.binds (ps := ["value"]) fun _ _ _ _ _ _ us hl => match us, hl with | [_], _ => rfl
  have F_cars_parked := fun_mk (st := s_cars_parked) l_cars_parked c_cars_parked k_cars_parked
  have B_cars_parked := F_cars_parked.binds (ps := ["wishes"]) fun _ _ _ _ _ _ us hl => match us, hl with | [_], _ => rfl
  have F_first_fills := fun_mk (st := s_first_fills) l_first_fills c_first_fills k_first_fills
  have B_first_fills := F_first_fills.binds (ps := ["fills"]) fun _ _ _ _ _ _ us hl => match us, hl with | [_], _ => rfl
  have F_pair_of := fun_mk (st := s_pair_of) l_pair_of c_pair_of k_pair_of
  have B_pair_of := F_pair_of.binds (ps := ["wishes"]) fun _ _ _ _ _ _ us hl => match us, hl with | [_], _ => rfl
  have F_code_bases := fun_mk (st := s_code_bases) l_code_bases c_code_bases k_code_bases
  have B_code_bases := F_code_bases.binds (ps := ["size"]) fun _ _ _ _ _ _ us hl => match us, hl with | [_], _ => rfl
  have F_wishes_index := fun_mk (st := s_wishes_index) l_wishes_index c_wishes_index k_wishes_index
  have B_wishes_index := F_wishes_index.binds (ps := ["wishes"]) fun _ _ _ _ _ _ us hl => match us, hl with | [_], _ => rfl
  have F__law_spring := fun_mk (st := s__law_spring) l__law_spring c__law_spring k__law_spring
  have B__law_spring := F__law_spring.binds (ps := ["script"]) fun _ _ _ _ _ _ us hl => match us, hl with | [_], _ => rfl
  have F__law_draw := fun_mk (st := s__law_draw) l__law_draw c__law_draw k__law_draw
  have B__law_draw := F__law_draw.binds (ps := ["spring", "many"]) fun _ _ _ _ _ _ us hl => match us, hl with | [_, _], _ => rfl
  have F__law_same := fun_mk (st := s__law_same) l__law_same c__law_same k__law_same
  have B__law_same := F__law_same.binds (ps := ["found", "due"]) fun _ _ _ _ _ _ us hl => match us, hl with | [_, _], _ => rfl
  have F__law_dressed := fun_mk (st := s__law_dressed) l__law_dressed c__law_dressed k__law_dressed
  have B__law_dressed := F__law_dressed.binds (ps := ["spring", "value"]) fun _ _ _ _ _ _ us hl => match us, hl with | [_, _], _ => rfl
  have F__law_mixed := fun_mk (st := s__law_mixed) l__law_mixed c__law_mixed k__law_mixed
  have B__law_mixed := F__law_mixed.binds (ps := ["spring", "row"]) fun _ _ _ _ _ _ us hl => match us, hl with | [_, _], _ => rfl
  have F__law_parked := fun_mk (st := s__law_parked) l__law_parked c__law_parked k__law_parked
  have B__law_parked := F__law_parked.binds (ps := ["wishes"]) fun _ _ _ _ _ _ us hl => match us, hl with | [_], _ => rfl
  have F__law_parking := fun_mk (st := s__law_parking) l__law_parking c__law_parking k__law_parking
  have B__law_parking := F__law_parking.binds (ps := ["spring", "size"]) fun _ _ _ _ _ _ us hl => match us, hl with | [_, _], _ => rfl
  have F__law_all := fun_mk (st := s__law_all) l__law_all c__law_all k__law_all
  have B__law_all := F__law_all.binds (ps := ["size"]) fun _ _ _ _ _ _ us hl => match us, hl with | [_], _ => rfl
  have F__law_refused := fun_mk (st := s__law_refused) l__law_refused c__law_refused k__law_refused
  have B__law_refused := F__law_refused.binds (ps := ["wishes", "way"]) fun _ _ _ _ _ _ us hl => match us, hl with | [_, _], _ => rfl
  have F__law_right := fun_mk (st := s__law_right) l__law_right c__law_right k__law_right
  have B__law_right := F__law_right.binds (ps := ["spring", "wishes"]) fun _ _ _ _ _ _ us hl => match us, hl with | [_, _], _ => rfl
  have F__law_odd_right := fun_mk (st := s__law_odd_right) l__law_odd_right c__law_odd_right k__law_odd_right
  have B__law_odd_right := F__law_odd_right.binds (ps := ["spring", "wishes"]) fun _ _ _ _ _ _ us hl => match us, hl with | [_, _], _ => rfl
  have F_law := fun_mk (st := s_law) l_law c_law k_law
  have B_law := F_law.binds (ps := ["script"]) fun _ _ _ _ _ _ us hl => match us, hl with | [_], _ => rfl
  refine ⟨PySem.W.fnOf "law" "law" (defArgs s_law) (defBody s_law) (defScope s_law) .none kV_law dc_law pm_law an_law cd_law ct_law, fun s v => .of_eq rfl, fun base _ _ => ?_⟩
  exact ok_law (({
    n_len := PySem.W.mg_none_of X G z_len,
    n_range := PySem.W.mg_none_of X G z_range,
    n_list := PySem.W.mg_none_of X G z_list,
    n_tuple := PySem.W.mg_none_of X G z_tuple,
    n_int := PySem.W.mg_none_of X G z_int,
    n_bool := PySem.W.mg_none_of X G z_bool,
    n_str := PySem.W.mg_none_of X G z_str,
    n_isinstance := PySem.W.mg_none_of X G z_isinstance,
    n_min := PySem.W.mg_none_of X G z_min,
    n_max := PySem.W.mg_none_of X G z_max,
    n_set := PySem.W.mg_none_of X G z_set,
    n_all := PySem.W.mg_none_of X G z_all,
    n_zip := PySem.W.mg_none_of X G z_zip,
    n_abs := PySem.W.mg_none_of X G z_abs,
    n_sorted := PySem.W.mg_none_of X G z_sorted,
    n_enumerate := PySem.W.mg_none_of X G z_enumerate,
    n_repr := PySem.W.mg_none_of X G z_repr,
    t_MOST_SIZE := t_MOST_SIZE, g_MOST_SIZE := PySem.W.mg_of X G z_MOST_SIZE,
    t_MOST_PLACES := t_MOST_PLACES, g_MOST_PLACES := PySem.W.mg_of X G z_MOST_PLACES,
    t_GREATEST_PLACE := t_GREATEST_PLACE, g_GREATEST_PLACE := PySem.W.mg_of X G z_GREATEST_PLACE,
    C_InvalidWishes := C_InvalidWishes, g_InvalidWishes := PySem.W.mg_of X G z_InvalidWishes,
    e_InvalidWishes := ⟨ex_InvalidWishes, ek_InvalidWishes, eb_InvalidWishes, et_InvalidWishes⟩,
    te_InvalidWishes_InvalidWishes := LX.exm_mk xb_InvalidWishes xc_InvalidWishes xt_InvalidWishes xm_InvalidWishes_InvalidWishes,
    a_is_whole := a_is_whole, d_is_whole := _, f_is_whole := F_is_whole, b_is_whole := B_is_whole, g_is_whole := PySem.W.mg_of X G z_is_whole,
    a_is_listed := a_is_listed, d_is_listed := _, f_is_listed := F_is_listed, b_is_listed := B_is_listed, g_is_listed := PySem.W.mg_of X G z_is_listed,
    a_is_number := a_is_number, d_is_number := _, f_is_number := F_is_number, b_is_number := B_is_number, g_is_number := PySem.W.mg_of X G z_is_number,
    a_is_place := a_is_place, d_is_place := _, f_is_place := F_is_place, b_is_place := B_is_place, g_is_place := PySem.W.mg_of X G z_is_place,
    a_is_place_list := a_is_place_list, d_is_place_list := _, f_is_place_list := F_is_place_list, b_is_place_list := B_is_place_list, g_is_place_list := PySem.W.mg_of X G z_is_place_list,
    a_check_places := a_check_places, d_check_places := _, f_check_places := F_check_places, b_check_places := B_check_places, g_check_places := PySem.W.mg_of X G z_check_places,
    a_stretch_lengths := a_stretch_lengths, d_stretch_lengths := _, f_stretch_lengths := F_stretch_lengths, b_stretch_lengths := B_stretch_lengths, g_stretch_lengths := PySem.W.mg_of X G z_stretch_lengths,
    a_check_offsets := a_check_offsets, d_check_offsets := _, f_check_offsets := F_check_offsets, b_check_offsets := B_check_offsets, g_check_offsets := PySem.W.mg_of X G z_check_offsets,
    a_takes_by := a_takes_by, d_takes_by := _, f_takes_by := F_takes_by, b_takes_by := B_takes_by, g_takes_by := PySem.W.mg_of X G z_takes_by,
    a_number_with := a_number_with, d_number_with := _, f_number_with := F_number_with, b_number_with := B_number_with, g_number_with := PySem.W.mg_of X G z_number_with,
    a_is_parking := a_is_parking, d_is_parking := _, f_is_parking := F_is_parking, b_is_parking := B_is_parking, g_is_parking := PySem.W.mg_of X G z_is_parking,
    a_check_wishes := a_check_wishes, d_check_wishes := _, f_check_wishes := F_check_wishes, b_check_wishes := B_check_wishes, g_check_wishes := PySem.W.mg_of X G z_check_wishes,
    a_cars_parked := a_cars_parked, d_cars_parked := _, f_cars_parked := F_cars_parked, b_cars_parked := B_cars_parked, g_cars_parked := PySem.W.mg_of X G z_cars_parked,
    a_first_fills := a_first_fills, d_first_fills := _, f_first_fills := F_first_fills, b_first_fills := B_first_fills, g_first_fills := PySem.W.mg_of X G z_first_fills,
    a_pair_of := a_pair_of, d_pair_of := _, f_pair_of := F_pair_of, b_pair_of := B_pair_of, g_pair_of := PySem.W.mg_of X G z_pair_of,
    a_code_bases := a_code_bases, d_code_bases := _, f_code_bases := F_code_bases, b_code_bases := B_code_bases, g_code_bases := PySem.W.mg_of X G z_code_bases,
    a_wishes_index := a_wishes_index, d_wishes_index := _, f_wishes_index := F_wishes_index, b_wishes_index := B_wishes_index, g_wishes_index := PySem.W.mg_of X G z_wishes_index,
    a__law_spring := a__law_spring, d__law_spring := _, f__law_spring := F__law_spring, b__law_spring := B__law_spring, g__law_spring := PySem.W.mg_of X G z__law_spring,
    a__law_draw := a__law_draw, d__law_draw := _, f__law_draw := F__law_draw, b__law_draw := B__law_draw, g__law_draw := PySem.W.mg_of X G z__law_draw,
    a__law_same := a__law_same, d__law_same := _, f__law_same := F__law_same, b__law_same := B__law_same, g__law_same := PySem.W.mg_of X G z__law_same,
    a__law_dressed := a__law_dressed, d__law_dressed := _, f__law_dressed := F__law_dressed, b__law_dressed := B__law_dressed, g__law_dressed := PySem.W.mg_of X G z__law_dressed,
    a__law_mixed := a__law_mixed, d__law_mixed := _, f__law_mixed := F__law_mixed, b__law_mixed := B__law_mixed, g__law_mixed := PySem.W.mg_of X G z__law_mixed,
    a__law_parked := a__law_parked, d__law_parked := _, f__law_parked := F__law_parked, b__law_parked := B__law_parked, g__law_parked := PySem.W.mg_of X G z__law_parked,
    a__law_parking := a__law_parking, d__law_parking := _, f__law_parking := F__law_parking, b__law_parking := B__law_parking, g__law_parking := PySem.W.mg_of X G z__law_parking,
    a__law_all := a__law_all, d__law_all := _, f__law_all := F__law_all, b__law_all := B__law_all, g__law_all := PySem.W.mg_of X G z__law_all,
    a__law_refused := a__law_refused, d__law_refused := _, f__law_refused := F__law_refused, b__law_refused := B__law_refused, g__law_refused := PySem.W.mg_of X G z__law_refused,
    a__law_right := a__law_right, d__law_right := _, f__law_right := F__law_right, b__law_right := B__law_right, g__law_right := PySem.W.mg_of X G z__law_right,
    a__law_odd_right := a__law_odd_right, d__law_odd_right := _, f__law_odd_right := F__law_odd_right, b__law_odd_right := B__law_odd_right, g__law_odd_right := PySem.W.mg_of X G z__law_odd_right,
    a_law := fa, d_law := _, f_law := F_law, b_law := B_law, g_law := PySem.W.mg_of X G z_law } : Env K mg))
theorem walk {l : PySem.W.OpenLaw} {q : Program} {loose : List Str} {XP : (Str → Option Value) → Heap → Prop} {YP : World → Heap → Prop} {d : DefRec} {K : Params → PySem.W.Frag} (hn : l.most = some 63) (hdf : d.params.defaults = [])
    (hY : ∀ (w : World) (h : Heap), YP w h → (K w.params).In h)
    (F : ∀ (w : World) (mg : Str → Option Value) (fa : Addr) (h : Heap), (K w.params).In h → h.Ns mainGlobals mg → mg d.name = some (.ref fa) →
      ∃ fd : FuncData, (∀ (s : Shared) (u : Value), BindsTo s fd ⟨[u], []⟩ [("script", u)]) ∧ ∀ base : Heap, (K w.params).In base → base.Ns mainGlobals mg → LG.FnG l.prog w (K w.params) mg base CX0 10 fa fd ["script"] (sp_law (K w.params))) :
    PySem.W.WalkO q loose XP YP l.row.toRowW d [] (fun f vs => PySem.call f vs) :=
  LG.walk_ofG (n := 63) (k := 10) (x := "script") (sp := sp_law) hn (by decide) hdf ⟨rfl, by decide, by decide⟩ hY F (fun _ _ a ns hl _ hS => ⟨a, ns, rfl, hS, hl, fun _ => rfl⟩)
end LP
open PySem PySem.W PyProof.Rows
set_option maxRecDepth 100000 in
set_option maxHeartbeats 0 in
theorem PySem.Challenge.cw_leftreturn_k31_parking_functions_holds : PySem.Challenge.rw_leftreturn_k31_parking_functions.Holds := by
  w_on; o_law; k_head; (case hw => w_witness2)
  k_fill
  refine LP.walk (l := PySem.Challenge.rw_leftreturn_k31_parking_functions) rfl rfl (fun w h Y => PySem.W.kIn_of Y) ?F
  case F =>
    intro w mg fa h KX G hmg
    refine' LP.all_mk KX G hmg ?z_len ?z_range ?z_list ?z_tuple ?z_int ?z_bool ?z_str ?z_isinstance ?z_min ?z_max ?z_set ?z_all ?z_zip ?z_abs ?z_sorted ?z_enumerate ?z_repr ?z_MOST_SIZE ?z_MOST_PLACES ?z_GREATEST_PLACE ?z_InvalidWishes ?ex_InvalidWishes ?ek_InvalidWishes ?eb_InvalidWishes ?et_InvalidWishes ?xb_InvalidWishes ?xc_InvalidWishes ?xt_InvalidWishes ?xm_InvalidWishes_InvalidWishes ?z_is_whole ?l_is_whole ?c_is_whole ?k_is_whole ?z_is_listed ?l_is_listed ?c_is_listed ?k_is_listed ?z_is_number ?l_is_number ?c_is_number ?k_is_number ?z_is_place ?l_is_place ?c_is_place ?k_is_place ?z_is_place_list ?l_is_place_list ?c_is_place_list ?k_is_place_list ?z_check_places ?l_check_places ?c_check_places ?k_check_places ?z_stretch_lengths ?l_stretch_lengths ?c_stretch_lengths ?k_stretch_lengths ?z_check_offsets ?l_check_offsets ?c_check_offsets ?k_check_offsets ?z_takes_by ?l_takes_by ?c_takes_by ?k_takes_by ?z_number_with ?l_number_with ?c_number_with ?k_number_with ?z_is_parking ?l_is_parking ?c_is_parking ?k_is_parking ?z_check_wishes ?l_check_wishes ?c_check_wishes ?k_check_wishes ?z_cars_parked ?l_cars_parked ?c_cars_parked ?k_cars_parked ?z_first_fills ?l_first_fills ?c_first_fills ?k_first_fills ?z_pair_of ?l_pair_of ?c_pair_of ?k_pair_of ?z_code_bases ?l_code_bases ?c_code_bases ?k_code_bases ?z_wishes_index ?l_wishes_index ?c_wishes_index ?k_wishes_index ?z__law_spring ?l__law_spring ?c__law_spring ?k__law_spring ?z__law_draw ?l__law_draw ?c__law_draw ?k__law_draw ?z__law_same ?l__law_same ?c__law_same ?k__law_same ?z__law_dressed ?l__law_dressed ?c__law_dressed ?k__law_dressed ?z__law_mixed ?l__law_mixed ?c__law_mixed ?k__law_mixed ?z__law_parked ?l__law_parked ?c__law_parked ?k__law_parked ?z__law_parking ?l__law_parking ?c__law_parking ?k__law_parking ?z__law_all ?l__law_all ?c__law_all ?k__law_all ?z__law_refused ?l__law_refused ?c__law_refused ?k__law_refused ?z__law_right ?l__law_right ?c__law_right ?k__law_right ?z__law_odd_right ?l__law_odd_right ?c__law_odd_right ?k__law_odd_right ?z_law ?l_law ?c_law ?k_law
    (case z_len => k_is)
    (case z_range => k_is)
    (case z_list => k_is)
    (case z_tuple => k_is)
    (case z_int => k_is)
    (case z_bool => k_is)
    (case z_str => k_is)
    (case z_isinstance => k_is)
    (case z_min => k_is)
    (case z_max => k_is)
    (case z_set => k_is)
    (case z_all => k_is)
    (case z_zip => k_is)
    (case z_abs => k_is)
    (case z_sorted => k_is)
    (case z_enumerate => k_is)
    (case z_repr => k_is)
    (case z_MOST_SIZE => k_is)
    (case z_MOST_PLACES => k_is)
    (case z_GREATEST_PLACE => k_is)
    (case z_InvalidWishes => k_is)
    (case ex_InvalidWishes => k_exc)
    (case ek_InvalidWishes => k_is)
    (case eb_InvalidWishes => k_is)
    (case et_InvalidWishes => k_is)
    (case xb_InvalidWishes => k_is)
    (case xc_InvalidWishes => k_is)
    (case xt_InvalidWishes => k_is)
    (case xm_InvalidWishes_InvalidWishes => first | rfl | k_is)
    (case z_is_whole => k_is)
    (case l_is_whole => k_is)
    (case c_is_whole => k_is)
    (case k_is_whole => k_is)
    (case z_is_listed => k_is)
    (case l_is_listed => k_is)
    (case c_is_listed => k_is)
    (case k_is_listed => k_is)
    (case z_is_number => k_is)
    (case l_is_number => k_is)
    (case c_is_number => k_is)
    (case k_is_number => k_is)
    (case z_is_place => k_is)
    (case l_is_place => k_is)
    (case c_is_place => k_is)
    (case k_is_place => k_is)
    (case z_is_place_list => k_is)
    (case l_is_place_list => k_is)
    (case c_is_place_list => k_is)
    (case k_is_place_list => k_is)
    (case z_check_places => k_is)
    (case l_check_places => k_is)
    (case c_check_places => k_is)
    (case k_check_places => k_is)
    (case z_stretch_lengths => k_is)
    (case l_stretch_lengths => k_is)
    (case c_stretch_lengths => k_is)
    (case k_stretch_lengths => k_is)
    (case z_check_offsets => k_is)
    (case l_check_offsets => k_is)
    (case c_check_offsets => k_is)
    (case k_check_offsets => k_is)
    (case z_takes_by => k_is)
    (case l_takes_by => k_is)
    (case c_takes_by => k_is)
    (case k_takes_by => k_is)
    (case z_number_with => k_is)
    (case l_number_with => k_is)
    (case c_number_with => k_is)
    (case k_number_with => k_is)
    (case z_is_parking => k_is)
    (case l_is_parking => k_is)
    (case c_is_parking => k_is)
    (case k_is_parking => k_is)
    (case z_check_wishes => k_is)
    (case l_check_wishes => k_is)
    (case c_check_wishes => k_is)
    (case k_check_wishes => k_is)
    (case z_cars_parked => k_is)
    (case l_cars_parked => k_is)
    (case c_cars_parked => k_is)
    (case k_cars_parked => k_is)
    (case z_first_fills => k_is)
    (case l_first_fills => k_is)
    (case c_first_fills => k_is)
    (case k_first_fills => k_is)
    (case z_pair_of => k_is)
    (case l_pair_of => k_is)
    (case c_pair_of => k_is)
    (case k_pair_of => k_is)
    (case z_code_bases => k_is)
    (case l_code_bases => k_is)
    (case c_code_bases => k_is)
    (case k_code_bases => k_is)
    (case z_wishes_index => k_is)
    (case l_wishes_index => k_is)
    (case c_wishes_index => k_is)
    (case k_wishes_index => k_is)
    (case z__law_spring => k_is)
    (case l__law_spring => k_is)
    (case c__law_spring => k_is)
    (case k__law_spring => k_is)
    (case z__law_draw => k_is)
    (case l__law_draw => k_is)
    (case c__law_draw => k_is)
    (case k__law_draw => k_is)
    (case z__law_same => k_is)
    (case l__law_same => k_is)
    (case c__law_same => k_is)
    (case k__law_same => k_is)
    (case z__law_dressed => k_is)
    (case l__law_dressed => k_is)
    (case c__law_dressed => k_is)
    (case k__law_dressed => k_is)
    (case z__law_mixed => k_is)
    (case l__law_mixed => k_is)
    (case c__law_mixed => k_is)
    (case k__law_mixed => k_is)
    (case z__law_parked => k_is)
    (case l__law_parked => k_is)
    (case c__law_parked => k_is)
    (case k__law_parked => k_is)
    (case z__law_parking => k_is)
    (case l__law_parking => k_is)
    (case c__law_parking => k_is)
    (case k__law_parking => k_is)
    (case z__law_all => k_is)
    (case l__law_all => k_is)
    (case c__law_all => k_is)
    (case k__law_all => k_is)
    (case z__law_refused => k_is)
    (case l__law_refused => k_is)
    (case c__law_refused => k_is)
    (case k__law_refused => k_is)
    (case z__law_right => k_is)
    (case l__law_right => k_is)
    (case c__law_right => k_is)
    (case k__law_right => k_is)
    (case z__law_odd_right => k_is)
    (case l__law_odd_right => k_is)
    (case c__law_odd_right => k_is)
    (case k__law_odd_right => k_is)
    (case z_law => k_is)
    (case l_law => k_is)
    (case c_law => k_is)
    (case k_law => k_is)
