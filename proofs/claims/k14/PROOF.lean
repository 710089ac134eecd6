import PyProof.Rows.All
import Wide.All
import OpenK.AllK
import Wide.FinOn
import HandS.ForMost
import HandS.IsInst
import HandS.Conv
import HandS.Style
import HandS.Wide
import HandS.SortInts
import HandS.ForExc
import HandS.SetFor
import HandS.Walk
import HandS.Gcd
import HandS.SortKw
import HandS.Dict
import HandS.NoneIn
import HandS.List
import HandS.StrMore
import HandS.RaiseMore
import PyProof.ReprRoads
import PyProof.ReprLen
import HandS.Zip
import HandS.DictComp
import PyProof.TupleOfSeq
import KE.GoesMore
import KE.GoesZip
import HandS.Text
import HandS.More
import HandS.SlotsOwn
import HandS.Property
import HandS.ClsMeth
import KE.DataMinMax
import KE.KDictZip
import PyProof.StrOps2
import HandS.Comp
import HandS.CallLocal
import HandS.TryOnly
import HandS.ExcOwn
import HandS.ExcIs
import HandS.CallSlots
import KE.KExcSuper
import HandS.ExcField
import HandS.Strs
import HandS.RepeatKit
import HandS.Records
import HandS.RevRange
import PySem.Challenge.RW_leftreturn_k14_ranges_of_times
set_option Elab.async false
set_option linter.all false
set_option maxRecDepth 100000
set_option maxHeartbeats 4000000
/-! defs that may be run only where no repr is under way: the promise FnG beside FnOk; repr of data -/
namespace LG
open PySem PySem.Spec PyProof.Rows L2
structure FnG (P : Program) (w : World) (K : PySem.W.Frag) (mg : Str → Option Value) (base : Heap) (CX : CXT) (k : Nat) (f : Addr) (fd : FuncData) (ps : List Str) (sp : Sp) : Prop where
  arity : ∀ vs H Q E, sp vs H Q E → vs.length = ps.length
  does : ∀ (A : Around) (out : List Env) (s : Shared) (H : Hp) (ar : Args) (us : List Value) (vs : List V) (Q : VK) (E : XK), A.guards = some [] →
    Room k A → Env0 P w K mg base A out s H → BindsTo s fd ar (ps.zip us) → Vals vs us → sp vs H Q E → codeAny (model P w) A (.call (.ref f) ar) (CR CX out P w H s Q E) s
section
variable {P : Program} {w : World} {K : PySem.W.Frag} {mg : Str → Option Value} {base : Heap} {CX : CXT}
theorem FnG.up {j k : Nat} {f : Addr} {fd : FuncData} {ps : List Str} {sp : Sp} (F : FnG P w K mg base CX j f fd ps sp) (h : j ≤ k) : FnG P w K mg base CX k f fd ps sp :=
  ⟨F.arity, fun A out s H ar us vs Q E hg hr => F.does A out s H ar us vs Q E hg (hr.mono h)⟩
theorem fnG_of {k : Nat} {f : Addr} {name qual : Str} {params : Arguments} {body : List Stmt} {scope : Scope} {dV kV doc pm cdv ct oc : Value} {an od : Option Addr} {osl : Array (Option Value)} {N ps : List Str} {sp : Sp}
    (lk : K.lookup f = some ⟨oc, od, .func (PySem.W.fnOf name qual params body scope dV kV doc pm an cdv ct), osl⟩) (cd : PySem.W.codeIn K cdv qual = true) (S : FnScope N ps scope) (ar : ∀ vs H Q E, sp vs H Q E → vs.length = ps.length)
    (hb : ∀ (A : Around) (out : List Env) (s : Shared) (H : Hp) (vs : List V) (Q : VK) (E : XK), A.guards = some [] → Room k (A.deeper (envOfC qual scope s.heap.objs.size f cdv)) → sp vs H Q E →
      ∃ t, PSs (cxOf CX P w K mg base N qual scope f cdv A out s H E) body t ∧ t ⟨fun _ H1 => Q .non H1, Q, fun _ _ => False, fun _ _ => False⟩ (start N vs) H) :
    FnG P w K mg base CX (k + 1) f (PySem.W.fnOf name qual params body scope dV kV doc pm an cdv ct) ps sp := by
  constructor
  · exact ar
  intro A out s H args us vs Q E hgd hr e0 bnd rel want
  obtain ⟨t, der, wish⟩ := hb A out s H vs Q E hgd (hr.deeper _) want
  have old := fun b o (e : base.get? b = some o) => (e0.bs b o e).1
  have kin : K.In s.heap := e0.mod.kin.keeps old
  have slots : ∀ y ∈ ps.zip us, scope.names.lookup y.1 = some .local ∨ scope.names.lookup y.1 = some .cell ∧ ((cellsFrom (s.heap.objs.size + 1) scope.names []).lookup y.1).isSome = true := by
    rintro ⟨nm, v⟩ mem
    have z := S.par nm (List.of_mem_zip mem).1
    exact z.imp id fun c => ⟨c, PySem.W.cellsFrom_some _ _ _ (Or.inl c)⟩
  apply codeAny_call_function hr.depth (kin _ _ lk) rfl S.co S.gen rfl (PySem.W.codeRec_of kin cd)
  apply bnd
  apply wpAny_newFunctionEnv_cells S.kind slots
  rintro env rfl s1 inC
  refine ⟨(e0.mod.nolimit.keeps old).keeps inC.toInCall.keep, ?_⟩
  apply codeAny_func
  have J := inv_start (CX := CX) (E := E) S hr.hd e0 (ar _ _ _ _ want) rel inC
  apply wpAny_mono (der.run [] s1 (start N vs) H _ J wish)
  · intro fl s2 got
    cases fl with
    | next => obtain ⟨σ2, H2, J2, q⟩ := got; exact ⟨V.non, H2, J2.os, J2.bare, J2.base, J2.hok, rfl, q⟩
    | ret u => obtain ⟨v, σ2, H2, J2, rv, q⟩ := got; exact ⟨v, H2, J2.os, J2.bare, J2.base, J2.hok, rv, q⟩
    | brk => obtain ⟨_, _, _, q⟩ := got; exact q.elim
    | cont => obtain ⟨_, _, _, q⟩ := got; exact q.elim
  · exact fun _ _ z => z
/-- a def of the text by its body, where nothing is raised -/
theorem okG {x qual : Str} {st : Stmt} {f : Addr} {fd : FuncData} {N ps : List Str} {k : Nat} {sp : Sp} (F : Fun K x qual st f fd) (S : FnScope N ps (defScope st)) (ar : ∀ vs H Q E, sp vs H Q E → vs.length = ps.length)
    (hb : ∀ (cdv : Value) (A : Around) (out : List Env) (s : Shared) (H : Hp) (vs : List V) (Q : VK) (E : XK), A.guards = some [] → Room k (A.deeper (envOfC qual (defScope st) s.heap.objs.size f cdv)) → sp vs H Q E →
      ∃ t, PSs (cxOf CX0 P w K mg base N qual (defScope st) f cdv A out s H E).nox (defBody st) t ∧ t ⟨fun _ H1 => Q .non H1, Q, fun _ _ => False, fun _ _ => False⟩ (start N vs) H) : FnG P w K mg base CX0 (k + 1) f fd ps sp := by
  obtain ⟨oc, od, kV, doc, pm, an, cdv, ct, osl, rfl, lk, cd⟩ := F.ex
  refine fnG_of lk cd S ar fun A out s H vs Q E hgd hr want => ?_
  obtain ⟨t, der, wish⟩ := hb cdv A out s H vs Q E hgd hr want
  exact ⟨t, der.nox, wish⟩
theorem of_ok {k : Nat} {f : Addr} {fd : FuncData} {ps : List Str} {sp : Sp} (F : FnOk P w K mg base CX k f fd ps sp) : FnG P w K mg base CX k f fd ps sp :=
  ⟨F.len, fun A out s H ar us vs Q E _ hr => F.run A out s H ar us vs Q E hr⟩
end
section
variable {X : Cx} {CX : CXT} {k : Nat} {f : Addr} {fd : FuncData} {ps : List Str} {sp : Sp} {dvs : List V} {ds : List Value} {E : XK} {x : Str} {p pos : Pos} {e : Expr} {es : List Expr} {t : TA}
/-- f(e, ..), f such a def -/
theorem pe_callG (F : FnG X.prog X.w X.K X.mg X.base CX k f fd ps sp) (hgd : X.A.guards = some []) (hr : Room k X.A) (hg : Gl X x) (hm : X.mg x = some (.ref f)) (hk : PySem.W.keepIn X.K (.ref f) = true) (hb : Binds X.K fd ps ds) (hd : Vals dvs ds) (hx : Passes CX X E)
    (ha : PA X (e :: es) t) (hdb : (x == ("__debug__" : Str)) = false := by decide) (he : starEach (e :: es) X.env = (false, eval e X.env) :: starEach es X.env := by rfl) (hpl : (backTo pos (starEach es X.env)).any (·.1) = false := by rfl) :
    PE X (.Call (.Name x p) (e :: es) [] pos) (tCall sp dvs E t) := by
  constructor
  intro pins s σ H Q I want
  apply wpAny_Call_Name_kw (ld_glob I hg hm _ hdb)
  apply PySem.W.callWith_K (h₀ := X.base) I.ok.mod.kin hk (thn (ha.run pos pins s σ H _ I want) _) he hpl
  rintro us s1 ⟨vs, H1, J, rel, q⟩
  have rel2 : Vals (vs ++ dvs) (us ++ ds) := rel.append hd
  have len : (us ++ ds).length = ps.length := rel2.length.symm.trans (F.arity _ _ _ _ q)
  refine ⟨J.kIn, wpAny_call (codeAny_mono (F.does X.A X.stack s1 H1 ⟨us, []⟩ _ _ Q E hgd hr J.env0 (hb s1 us J.kIn len) rel2 q) ?_)⟩
  intro r s2 got
  match r, got with
  | .error err, got => exact hx pins σ H1 s1 err s2 J got
  | .ok (.ret u), got => exact J.after got
  | .ok .next, got => exact got.elim
  | .ok .brk, got => exact got.elim
  | .ok .cont, got => exact got.elim
/-- repr of a list or a tuple of data -/
def rRepr (K : PySem.W.Frag) : List V → Hp → VK → Prop := fun xs H Q => ∃ (a : Addr) (d : PyData), xs = [.ref a] ∧ Dp K H (.ref a) d ∧ d.showable = true ∧ SeqAt.shaped d = true ∧ d.shown.length ≤ sizeLine ∧ Q (.str d.shown) H
theorem call_repr (hgd : X.A.guards = some []) (hu : X.A.units + 66 < cLine) : CallR X (.builtin "repr") (rRepr X.K) := by
  rintro pins s σ H xs us Q I rel ⟨a, d, rfl, hd, sh, sp, len, q⟩
  obtain ⟨u, rfl, ru⟩ := vals1 rel
  obtain ⟨as, rd⟩ := Dp.reads I d (.ref a) u hd ru
  cases ru
  have dep := SeqAt.depth_of_shaped sp
  refine repr_of_reads' rd sh (PyData.noDict_hsm (PyData.hasDict_of_canLay d (SeqAt.canLay_of_shaped sp))) hgd (by omega) (fun _ _ z => z) (fun h1 u1 tk keep => ?_) len
  exact ⟨.str d.shown, H, I.kept keep, ⟨_, rfl⟩, q⟩
end
/-! the end of a law's row -/
theorem law_callG {P : Program} {w : World} {K : PySem.W.Frag} {mg mb : Str → Option Value} {k : Nat} {fa a : Addr} {fd : FuncData} {x : Str} {sp : Sp} {s : Shared} {vs : List Value} {ns : List Int}
    (kin : K.In s.heap) (gns : s.heap.Ns mainGlobals mg) (bns : s.heap.Ns builtinsNs mb) (hbb : ∀ x : Str, x ≠ "__name__" → mb x = bootBuiltins x) (lim : s.heap.NoLimit) (gens : s.gens = #[])
    (obj : s.heap.get? a = some { cls := .type "list", data := .seq vs.toArray }) (hin : IntsAre vs ns) (len : ns.length ≤ sizeLine) (hr : Room k callerA)
    (F : ∀ base : Heap, K.In base → base.Ns mainGlobals mg → FnG P w K mg base CX0 k fa fd [x] sp) (bnd : ∀ (s : Shared) (u : Value), BindsTo s fd ⟨[u], []⟩ [(x, u)])
    (want : ∀ H : Hp, Only H → SqL K H a (ns.map V.int) → sp [.ref a] H (fun v _ => v = .bl true) fun _ _ _ => False) :
    codeAny (model P w) callerA (.call (.ref fa) ⟨[.ref a], []⟩) (fun r s1 => r = .ok (.ret (.bool true)) ∧ OldK s.heap s1.heap ∧ s1.os = s.os ∧ AllBare s1.gens) s := by
  have rel := vals_ints hin
  have nlen := hin.length
  obtain ⟨H, hH⟩ : ∃ H : Hp, ∀ b, H b = if b = a ∧ K.lookup a = none then some (.frz { cls := .type "list", data := .seq vs.toArray } (.lst (ns.map V.int))) else none := ⟨_, fun b => rfl⟩
  have off : ∀ {b o}, s.heap.get? b = some o → (b = a → K.lookup a ≠ none) → H b = none := fun {b o} _ hne => by
    rw [hH, if_neg fun z => hne z.1 z.2]
  have at_ : ∀ b u, H b = some u → b = a ∧ K.lookup a = none ∧ u = .frz { cls := .type "list", data := .seq vs.toArray } (.lst (ns.map V.int)) := fun b u z => by
    rw [hH] at z
    by_cases c : b = a ∧ K.lookup a = none
    · rw [if_pos c] at z; exact ⟨c.1, c.2, (Option.some.inj z).symm⟩
    · rw [if_neg c] at z; cases z
  have only : Only H := fun b => by
    cases z : H b with
    | none => exact Or.inl rfl
    | some u => obtain ⟨_, _, rfl⟩ := at_ b u z; exact Or.inr ⟨_, _, rfl⟩
  have seq : SqL K H a (ns.map V.int) := by
    cases z : K.lookup a with
    | none => exact Or.inl (Or.inr ⟨_, by rw [hH, if_pos ⟨rfl, z⟩]⟩)
    | some o =>
      have e := kin a o z
      rw [obj] at e
      cases e
      exact Or.inr ⟨_, vs.toArray, _, z, rfl, rfl, rfl, by rw [List.size_toArray, nlen]; exact len, by simpa using rel⟩
  have hok : HOk P w H s.heap := fun b u z => by
    obtain ⟨rfl, _, rfl⟩ := at_ b u z
    exact ⟨obj, by rw [List.length_map]; exact len, vs, _, rel, obj⟩
  have kept : ∀ {b o}, s.heap.get? b = some o → H b = none → (hidT s.heap H).get? b = some o := fun e z => hidT_get e z
  have dicts : ∀ {b o es n}, s.heap.get? b = some o → o.data = .dict es n → H b = none := fun {b o es n} e d => off e fun q => by
    rw [q, obj] at e
    cases e
    have d2 : Data.seq vs.toArray _ = Data.dict es n := d
    cases d2
  have names : ∀ {b m}, s.heap.Ns b m → (hidT s.heap H).Ns b m := fun ⟨o, es, n, e, d, r⟩ => ⟨o, es, n, kept e (dicts e d), d, r⟩
  have kin2 : K.In (hidT s.heap H) := fun b o e => kept (kin b o e) (off (kin b o e) fun q => by rw [← q, e]; exact fun z => nomatch z)
  have lim2 : (hidT s.heap H).NoLimit := let ⟨mc, l1, l2⟩ := lim; ⟨mc, names l1, l2⟩
  have e0 : Env0 P w K mg (hidT s.heap H) callerA [] s H := ⟨rfl, ⟨kin2, names gns, ⟨mb, names bns, hbb⟩, lim2⟩, fun b o e => of_hidT e, Nat.le_of_eq (hidT_size _ _), trivial, fun b m => (by cases (show b ∈ ([] : List Addr) from m)), hok, .of_eq gens⟩
  refine codeAny_mono ((F _ kin2 (names gns)).does callerA [] s H ⟨[.ref a], []⟩ [.ref a] [.ref a] _ _ rfl hr e0 (bnd s (.ref a)) (.cons rfl .nil) (want H only seq)) ?_
  intro r s1 got
  match r, got with
  | .error _, got => exact got.elim
  | .ok .next, got => exact got.elim
  | .ok .brk, got => exact got.elim
  | .ok .cont, got => exact got.elim
  | .ok (.ret u), got =>
    obtain ⟨v, H1, os, bare, un, hok1, ru, q⟩ := got
    cases (show v = .bl true from q)
    cases (show u = Value.bool true from ru)
    refine ⟨rfl, OldK.of_keep fun b o e => ?_, os, bare⟩
    cases z : H b with
    | none => exact un.keep b o e z (by intro y; cases (show b ∈ ([] : List Addr) from y)) (by simp)
    | some u =>
      obtain ⟨rfl, _, rfl⟩ := at_ b u z
      have y := un.frzs b _ _ z
      rw [obj] at e
      cases e
      exact (hok1 b _ y).1
theorem walk_ofG {l : PySem.W.OpenLaw} {n k : Nat} {q : Program} {loose : List Str} {XP : (Str → Option Value) → Heap → Prop} {YP : World → Heap → Prop} {d : DefRec} {K : Params → PySem.W.Frag} {sp : PySem.W.Frag → Sp} {x : Str}
    (hn : l.most = some n) (hn2 : n ≤ sizeLine) (hdf : d.params.defaults = []) (hr : Room k callerA) (hY : ∀ (w : World) (h : Heap), YP w h → (K w.params).In h)
    (F : ∀ (w : World) (mg : Str → Option Value) (fa : Addr) (h : Heap), (K w.params).In h → h.Ns mainGlobals mg → mg d.name = some (.ref fa) →
      ∃ fd : FuncData, (∀ (s : Shared) (u : Value), BindsTo s fd ⟨[u], []⟩ [(x, u)]) ∧ ∀ base : Heap, (K w.params).In base → base.Ns mainGlobals mg → FnG l.prog w (K w.params) mg base CX0 k fa fd [x] (sp (K w.params)))
    (want : ∀ (K : PySem.W.Frag) (H : Hp) (a : Addr) (ns : List Int), ns.length ≤ n → Only H → SqL K H a (ns.map V.int) → sp K [.ref a] H (fun v _ => v = .bl true) fun _ _ _ => False) :
    PySem.W.WalkO q loose XP YP l.row.toRowW d [] (fun f vs => PySem.call f vs) := by
  apply Att.attach_call hn hdf
  intro w s0 s1 mg mb fa o pm cd doc a vs ns G Y ho hd hcd hmg obj hin len gens
  have kin := hY w _ Y
  obtain ⟨fd, bnd, does⟩ := F w mg fa _ kin G.T.g hmg
  exact law_callG kin G.T.g G.T.b G.T.builtins G.T.nolimit gens obj hin (Nat.le_trans len hn2) hr does bnd fun H o q => want _ H a ns len o q
end LG

namespace LT
open PySem PySem.Spec PyProof.Rows L2
section
variable {prog : Program} {w : World} {A : Around} {E : Value → Shared → Prop} {s : Shared}
/-- what is to be iterated is gathered into a new list; the heap does not get shorter -/
theorem gather {Q : List Value → Shared → Prop} (l : Addr) {T : String} {o : Obj} {its : Array Value} {n : Nat} (hT : T = "list" ∨ T = "tuple") (ho : s.heap.get? l = some o) (hc : o.cls = .type T) (hd : o.data = .seq its n) (hz : its.size ≤ sizeLine)
    (fin : ∀ h1 : Heap, s.heap.objs.size ≤ h1.objs.size → (∀ b u, s.heap.get? b = some u → h1.get? b = some u) → Q its.toList { s with heap := h1 }) : wpAny (model prog w) A (collect (.ref l)) Q E s := by
  unfold collect
  refine wpAny_bind (wpAny_runValue (codeAny_builtin PySem.F.entry_proto_collect ?_))
  rw [Around.under_plainId PySem.F.plain_proto_collect _]
  refine wpAny_bind (m := newList []) (wpAny_newObj_type ?_)
  refine wpAny_pure ⟨plainId_quiet PySem.F.plain_list_iadd _, codeAny_builtin PySem.F.entry_list_iadd ?_⟩
  rw [Around.under_plainId PySem.F.plain_list_iadd _]
  generalize hp : s.heap.push { cls := .type "list", data := .seq ([] : List Value).toArray } = h0
  have e0 : h0.get? s.heap.objs.size = some { cls := .type "list", data := .seq #[] 0 } := by rw [← hp]; exact Heap.get?_push_size _ rfl
  have k0 : ∀ b u, s.heap.get? b = some u → h0.get? b = some u := fun b u q => by rw [← hp]; exact Heap.get?_push_of_some _ q
  have z0 : s.heap.objs.size ≤ h0.objs.size := by rw [← hp, Heap.size_push]; exact Nat.le_succ _
  have e1 := Heap.get?_update_self (Obj.mapSeq (· ++ its)) e0 rfl
  have last : Q its.toList { s with heap := h0.update s.heap.objs.size (Obj.mapSeq (· ++ its)) } :=
    fin _ (by rw [Heap.size_update]; exact z0) fun b u q => (Heap.get?_update_other _ _ (Nat.ne_of_gt (Heap.lt_size q))).trans (k0 b u q)
  have tail : wpAny (model prog w) A (do match (← load s.heap.objs.size).data with
      | Data.seq xs _ => pure xs.toList
      | _ => unsupported "internal:collect") Q E { s with heap := h0.update s.heap.objs.size (Obj.mapSeq (· ++ its)) } := by
    refine wpAny_bind (wpAny_load e1 (wpAny_pure ?_))
    show Q ((#[] : Array Value) ++ its).toList _
    rw [show ((#[] : Array Value) ++ its).toList = its.toList by simp]
    exact last
  refine wpAny_mono (wpAny_extend_seq (hsz := hz) (A := A) (R := fun r t => r = .ok (.ret (.ref s.heap.objs.size)) ∧ t = { s with heap := h0.update s.heap.objs.size (Obj.mapSeq (· ++ its)) })
    (s := { s with heap := h0 }) _ l _ 0 hT e0 (k0 _ _ ho) hc hd ⟨rfl, rfl⟩) (fun r t q => ?_) fun _ t q => absurd q.1 (by simp)
  cases r with
  | done f =>
    obtain ⟨e, rfl⟩ := q
    cases e
    exact tail
  | again c => exact ⟨q.1, codeAny_mono q.2 fun r u hr => by obtain ⟨rfl, rfl⟩ := hr; exact tail⟩
open Srt SrtO in
/-- sorted(x), x a list or a tuple: a new list -/
theorem sorted_seq {l : Addr} {T : String} {o : Obj} {vs : List Value} {n : Nat} {ltv : Value → Value → Bool} {Q : Value → Shared → Prop} (O : Swo ltv) (hT : T = "list" ∨ T = "tuple") (ho : s.heap.get? l = some o) (hc : o.cls = .type T) (hd : o.data = .seq vs.toArray n) (hz : vs.length ≤ sizeLine)
    (hS : 2 ≤ vs.length → ∀ (h₁ : Heap) (a : Addr), h₁.get? a = some (seqObj "list" vs.toArray 0) → (∀ b o, s.heap.get? b = some o → b ≠ a ∧ h₁.get? b = some o) → SortableO prog w A.in1.in1 { s with heap := h₁ } a vs ltv)
    (h : ∀ (out : List Value) (p : Addr) (h' : Heap), Srtd ltv out → Stb ltv out vs → s.heap.objs.size ≤ p → (∃ e, h'.get? p = some (seqObj "list" out.toArray e)) → (∀ b o, s.heap.get? b = some o → h'.get? b = some o) → Q (.ref p) { s with heap := h' }) :
    wpAny (model prog w) A (call (.builtin "sorted") [.ref l]) Q E s := by
  refine Calls.call_function_entry kind_sorted plain_sorted entry_sorted (args_sorted1 _) ?_
  unfold Builtin.«sorted»
  refine wpAny_bind (m := checkCount "sorted" 1 1 _) (wpAny_pure ?_)
  refine wpAny_bind (gather l hT ho hc hd (by rw [List.size_toArray]; exact hz) fun h1 hz2 k1 => ?_)
  refine wpAny_bind (wpAny_newList ?_ (by simpa using hz))
  have hoL : (h1.push (seqObj "list" vs.toArray 0)).get? h1.objs.size = some (seqObj "list" vs.toArray 0) := Heap.get?_push_size _ rfl
  have keep : ∀ b o, s.heap.get? b = some o → b ≠ h1.objs.size ∧ (h1.push (seqObj "list" vs.toArray 0)).get? b = some o := fun b o q =>
    ⟨Nat.ne_of_lt (Heap.lt_size (k1 b o q)), Heap.get?_push_of_some _ (k1 b o q)⟩
  show wpAny _ _ _ _ _ { s with heap := h1.push (seqObj "list" vs.toArray 0) }
  refine wpAny_bind (wpAny_holding (wpAny_call_entry slot_list_sort ⟨_, hoL, rfl⟩ entry_list_sort (list_sort_ord O hoL hz (fun h2 => hS h2 _ _ hoL keep) fun out hs hb => ⟨_, rfl, ?_⟩) (args_list_sort _)))
  refine wpAny_pure ⟨_, rfl, h out _ _ hs hb hz2 (sortedHeap_at hoL) fun b o q => ?_⟩
  obtain ⟨ne, q1⟩ := keep b o q
  rw [sortedHeap_old ne (Heap.lt_size q1)]
  exact q1
end
/-- sorted(xs), xs a list or a tuple of ints -/
def rSortedE (K : PySem.W.Frag) : List V → Hp → VK → Prop := fun vs H Q => ∃ (a : Addr) (ns : List Int), vs = [V.ref a] ∧ (SqL K H a (ns.map V.int) ∨ SqT K H a (ns.map V.int)) ∧
  ∀ (ns' : List Int) (p : Addr), ns'.Perm ns → ns'.Pairwise (· ≤ ·) → H p = none → Q (.ref p) (upd H p (.lst (ns'.map V.int)))
theorem cr_sortedE {X : Cx} : CallR X (.builtin "sorted") (rSortedE X.K) := by
  intro pins s σ H vs us Q I r h
  obtain ⟨a, ns, rfl, hs, q⟩ := h
  rcases hs with hs | hs
  · exact cr_sortedI pins s σ H _ us Q I r ⟨a, ns, rfl, hs, q⟩
  obtain ⟨its, rv, ⟨o, ho, hc, n, hd⟩, hz⟩ := I.tuple hs
  rw [Vals.ref1 r]
  have hi := rv.ints
  refine sorted_seq SrtO.swo_int (.inr rfl) ho hc hd (by rw [← rv.length]; exact hz) (fun h2 h₁ a' _ _ => SrtO.ints_sortable hi h2) fun out p h' h1 h2 le at_ keep => ?_
  obtain ⟨k1, k2, k3⟩ := SrtO.ints_out hi h1 h2
  obtain ⟨ep, he'⟩ := at_
  have hlen : ((out.map SrtO.iv).map V.int).length ≤ sizeLine := by
    rw [List.length_map, k2.length_eq]
    rw [List.length_map] at hz
    exact hz
  exact ⟨.ref p, upd H p (.lst ((out.map SrtO.iv).map V.int)), I.laid (t' := s.toks) keep le ⟨hlen, out, ep, vals_of_ints k1, he'⟩, rfl, q _ _ k2 k3 (I.hok.fresh le)⟩
/-- len(set(xs)), xs a list or a tuple of ints, each once -/
def tLenSetS (K : PySem.W.Frag) (ta : TE) : TE := fun σ H Q => ta σ H fun x H1 => ∃ (l : Addr) (ns : List Int), x = .ref l ∧ (SqL K H1 l (ns.map V.int) ∨ SqT K H1 l (ns.map V.int)) ∧ ns.Nodup ∧ ns.length ≤ 4000 ∧ Q (.int (ns.length : Nat)) H1
theorem pe_lenSetS {X : Cx} {a : Expr} {ta : TE} {p p2 q pos : Pos} (hg : Gl X "len") (hm : X.mg "len" = none) (hg2 : Gl X "set") (hm2 : X.mg "set" = none) (ha : PE X a ta) (hc : X.calm = true := by rfl)
    (na : starEach [a] X.env = (false, eval a X.env) :: starEach [] X.env := by rfl) : PE X (.Call (.Name "len" p) [.Call (.Name "set" p2) [a] [] q] [] pos) (tLenSetS X.K ta) := by
  refine ⟨fun pins s σ H Q I h => ?_⟩
  refine Call_ (ld_blt I hg hm boot_len ?_)
  refine PyProof.Rows.callWith_builtin1 (PyProof.Rows.args_cons ?_ rfl) rfl rfl
  refine Call_ (ld_blt I hg2 hm2 boot_set ?_)
  refine PyProof.Rows.callWith_type1 (PyProof.Rows.args_cons (thn (ha.run pins s σ H _ I h) fun v s1 ⟨x, H1, I1, r1, q1⟩ => PyProof.Rows.args_nil ?_) na) na rfl
  obtain ⟨l, ns, rfl, hq, hnd, hl, q1⟩ := q1
  cases r1
  rcases hq with hq | hq
  · obtain ⟨its, r, pl, hz⟩ := I1.list hq
    have hlen : its.toArray.size = ns.length := by rw [List.size_toArray, ← r.length, List.length_map]
    refine call_set_list (I1.ok.hd hc) pl.isList (by simpa using RZ.intsAre_vals r) (by rw [hlen]; unfold scanBound; omega) fun h' tk hS hk => ?_
    refine PyProof.Rows.args_nil ?_
    rw [hlen, RZ.firstMet_nodup hnd ns.length (Nat.le_refl _), List.take_length] at hS
    obtain ⟨o, es, ep, t, ho, hex, hd, _, _, _, hf, hn⟩ := hS
    have I2 : Inv X pins σ H1 { s1 with heap := h', toks := tk } := I1.kept fun b o e => hk b o (Heap.lt_size e) e
    exact call_len_set ho hex hd hf (by rw [hn] <;> omega) ⟨.int ns.length, H1, I2.tok _, ⟨_, by rw [hn]⟩, q1⟩
  · obtain ⟨its, r, pl, hz⟩ := I1.tuple hq
    refine call_set_tupI ns (I1.ok.hd hc) (show s1.heap.IsTuple l its.toArray from pl) (by simpa using r.ints) (by unfold scanBound; omega) fun h' tk c R hcn hk => ?_
    refine PyProof.Rows.args_nil ?_
    obtain ⟨o, es, ep, t, ho, hex, hd, g, nd, mem, _, hf, hn, _⟩ := R
    have I2 : Inv X pins σ H1 { s1 with heap := h', toks := tk } := I1.kept fun b o e => hk b o e
    have hperm : (es.toList.map keyOf).Perm ns := (List.perm_ext_iff_of_nodup nd hnd).mpr fun k => by rw [← mem k, decide_eq_true_iff]
    have hes : es.size = ns.length := by have := hperm.length_eq; simpa using this
    exact call_len_set ho hex hd hf (by omega) ⟨.int ns.length, H1, I2.tok _, ⟨_, by rw [hes]⟩, q1⟩
/-- a dict comprehension over it: Pv by the turn and the heap (the new dict at D within) -/
theorem dc_it {J : It} {n : Nat} {G : Hp → Prop} {Y : Nat → Hp → V → Hp → Prop} (w : Walk J n G Y) {g : TG} {tt : TT} {tk tv : TE} {vs : List Nat} {σ : L2.St} {H1 : Hp} {D : Addr} {Qd : Hp → Prop} (Pv : Nat → Hp → Prop) (h0 : Pv 0 (upd H1 D (.dK []))) (hG : ∀ i H, i ≤ n → Pv i H → G H)
    (hs : ∀ i x H H', i < n → Pv i H → Y i H x H' → g x (wipe σ vs) H' fun σ2 H2 => wipe σ2 vs = wipe σ vs ∧ tt σ2 H2 fun b H3 =>
      if b = true then tk σ2 H3 fun y H4 => tv σ2 H4 fun z H5 => ∃ kvs k, y = kV k ∧ H5 D = some (.dK kvs) ∧ kvs.length < sizeLine ∧ Pv (i + 1) (upd H5 D (.dK (putK kvs k z))) else Pv (i + 1) H3) (hd : ∀ H, Pv n H → Qd H) :
    ∃ W : Nat → Nat → Hp → Prop, (∃ m, W 0 m (upd H1 D (.dK []))) ∧ ∀ i m H, W i m H →
      (J.stop i H ∧ Qd H) ∨ (J.go i H ∧ ∃ Nx : Hp → Prop, (∀ H', Nx H' → ∃ m', m' < m ∧ W (i + 1) m' H') ∧ ∀ x H', J.yld i H x H' → g x (wipe σ vs) H' fun σ2 H2 => wipe σ2 vs = wipe σ vs ∧ tt σ2 H2 fun b H3 =>
        if b = true then tk σ2 H3 fun y H4 => tv σ2 H4 fun z H5 => ∃ kvs k, y = kV k ∧ H5 D = some (.dK kvs) ∧ kvs.length < sizeLine ∧ Nx (upd H5 D (.dK (putK kvs k z))) else Nx H3) := by
  refine ⟨fun i m H => m = n - i ∧ i ≤ n ∧ Pv i H, ⟨n, by simp, Nat.zero_le _, h0⟩, ?_⟩
  rintro i m H ⟨rfl, hi, p⟩
  have q := hG i H hi p
  by_cases hlt : i < n
  · refine .inr ⟨w.goes i H hlt q, Pv (i + 1), fun H' p' => ⟨n - (i + 1), by omega, rfl, hlt, p'⟩, fun x H' y => hs i x H H' hlt p (w.yields i H x H' hlt q y)⟩
  · obtain rfl : i = n := by omega
    exact .inl ⟨w.stops H q, hd H p⟩
end LT

namespace LT
open PySem PySem.Spec PyProof.Rows L2
open Sem (wp)
open AutoSeq1 (wpAny_loadPart')
theorem meets_enum_tup (l : Addr) (items : Array Value) (n : Nat) (dct : Option Addr) (sl : Array (Option Value)) :
    Meets (Builtin.«enumerate.__new__» ⟨[.type "enumerate", .ref l], []⟩) (fun _ R s => s.heap.get? l = some { cls := .type "tuple", dict := dct, data := .seq items n, slots := sl } ∧
      R (.ok (.ret (.ref (s.heap.objs.size + 1))))
        { s with heap := (s.heap.push { cls := .type "tuple_iterator", data := .fields #[.ref l, .int 0 0] }).push { cls := .type "enumerate", data := .fields #[.none, .bool false, .ref s.heap.objs.size, rawInt 0, .none, .none] } }) :=
  .of_wp fun prog w A R s h => by
    obtain ⟨hp, g, d, tk, os⟩ := s
    obtain ⟨hl, h⟩ := h
    have sub := sub_enumerate
    have tup : Heap.IsTuple (Shared.heap ⟨hp, g, d, tk, os⟩) l items := ⟨_, hl, rfl, n, rfl⟩
    wp_walk using wpAny_loadPart' hl
    refine wpAny_stack_any fun st => wpAny_pure ?_
    have z : (hp.push { cls := .type "tuple_iterator", data := .fields #[.ref l, .int 0 0] }).objs.size = hp.objs.size + 1 := Heap.size_push ..
    split
    · rename_i c _ _ _ _ _
      cases (c == Value.type "enumerate")
      · wp_walk using wpAny_loadPart' hl, wpAny_pyIter_tuple tup
        exact ⟨_, rfl, by rw [z]; exact h⟩
      · wp_walk using wpAny_loadPart' hl, wpAny_pyIter_tuple tup
        exact ⟨_, rfl, by rw [z]; exact h⟩
    · wp_walk using wpAny_loadPart' hl, wpAny_pyIter_tuple tup
      exact ⟨_, rfl, by rw [z]; exact h⟩
section
variable {prog : Program} {w : World} {A : Around} {E : Value → Shared → Prop} {s : Shared}
theorem call_enum_tup {l : Addr} {items : Array Value} {Q : Value → Shared → Prop} (hl : s.heap.IsTuple l items)
    (h : ∀ h', IsEnum h' (s.heap.objs.size + 1) s.heap.objs.size 0 .none → h'.IsTupleIter s.heap.objs.size l 0 →
      (∀ b o, s.heap.get? b = some o → h'.get? b = some o) → Q (.ref (s.heap.objs.size + 1)) { s with heap := h' }) :
    wpAny (model prog w) A (call (.type "enumerate") [.ref l]) Q E s := by
  obtain ⟨⟨c, dct, dt, sl⟩, get, hc, n, hd⟩ := hl
  cases (show c = .type "tuple" from hc)
  cases (show dt = .seq items n from hd)
  refine callType_new F.called_enumerate (by decide) (F.typeCall_enumerate_1 _) (F.newCall_enumerate_1 _) (fun obj => F.args_object_init_2 obj _) F.entry_enumerate_new (meets_enum_tup l items n dct sl) ⟨get, ?_⟩
  have z : (s.heap.push { cls := .type "tuple_iterator", data := .fields #[.ref l, .int 0 0] }).objs.size = s.heap.objs.size + 1 := Heap.size_push ..
  have he := Heap.get?_push_size (s.heap.push { cls := .type "tuple_iterator", data := .fields #[.ref l, .int 0 0] }) (o := { cls := .type "enumerate", data := .fields #[.none, .bool false, .ref s.heap.objs.size, rawInt 0, .none, .none] }) rfl
  rw [z] at he
  exact ⟨⟨_, he, rfl⟩, h _ he ⟨_, Heap.get?_push_of_some _ (Heap.get?_push_size _ rfl), rfl, rfl⟩ fun b o x => Heap.get?_push_of_some _ (Heap.get?_push_of_some _ x)⟩
end
/-- the tuple at a, each item in a new pair with its place -/
def IteT (K : PySem.W.Frag) (a : Addr) : It :=
  ⟨fun i H => ∃ (xs : List V) (x : V), SqT K H a xs ∧ xs[i]? = some x, fun i H v H' => ∃ T x, v = .ref T ∧ H T = none ∧ H' = upd H T (.tup [.int (i : Nat), x]) ∧ ∀ xs, SqT K H a xs → xs[i]? = some x, fun i H => ∃ xs : List V, SqT K H a xs ∧ xs.length = i⟩
theorem apart_it {h : Heap} {it a : Addr} {i : Nat} {items : Array Value} (x : h.IsTupleIter it a i) (p : h.IsTuple a items) : a ≠ it := by
  rintro rfl
  obtain ⟨o, g, c, _⟩ := x
  obtain ⟨o2, g2, c2, _⟩ := p
  rw [g] at g2
  cases g2
  rw [c] at c2
  exact absurd c2 (by decide)
theorem turn_enumT {P : Program} {w : World} {K : PySem.W.Frag} {elts : List Expr} {kk : Nat} {tpos : Pos} (a e it : Addr) :
    Turn P w K (.Tuple elts kk tpos) (IteT K a) [e, it] e (fun i h => (∃ old, IsEnum h e it ((i : Nat) : Int) old) ∧ h.IsTupleIter it a i ∧ e ≠ it) where
  mem := List.mem_cons_self
  obj := fun i h ⟨⟨old, he⟩, ⟨o, ho, _, hd⟩, _⟩ b hb => by
    rcases List.mem_cons.mp hb with rfl | hb
    · exact ⟨_, he, fun v q => by cases q⟩
    · rw [List.mem_singleton.mp hb]; exact ⟨o, ho, fun v q => by rw [hd] at q; cases q⟩
  keep := fun i h h' ⟨⟨old, he⟩, hi, ne⟩ k => ⟨⟨old, k e List.mem_cons_self _ he⟩, hi.at fun o q => k it (List.mem_cons_of_mem _ List.mem_cons_self) o q, ne⟩
  item := by
    intro X hP hw hK hc i pins s σ H E I hf ⟨⟨old, he⟩, hit, ne⟩ ⟨xs, x, hq, hx⟩
    subst hP hw hK
    obtain ⟨its, rv, p, hz⟩ := I.tuple hq
    have tup : s.heap.IsTuple a its.toArray := p
    obtain ⟨u, hu, ru⟩ := rv.get hx
    have hi : i < its.toArray.size := by
      have := (List.getElem?_eq_some_iff.mp hu).1
      simpa using this
    have nai := apart_it hit tup
    have nea : e ≠ a := by
      rintro rfl
      obtain ⟨o2, g2, c2, _⟩ := tup
      rw [show s.heap.get? e = _ from he] at g2
      cases g2
      have c3 : Value.type "enumerate" = Value.type "tuple" := c2
      exact absurd c3 (by decide)
    have lte : e < s.heap.objs.size := Heap.lt_size he
    have lti : it < s.heap.objs.size := let ⟨_, q, _⟩ := hit; Heap.lt_size q
    refine wpAny_pyNext_enum_itemD (Draws.tuple (A := X.A.in1) (show X.A.in1.handled = none from I.ok.hd hc) it a nai its.toArray) he ⟨hit, tup⟩ hi ne (by simp [ne, nea]) fun y h1 tk hy out st new sz kept => ?_
    have ey : y = u := by
      have q : its.toArray[i]? = some u := by simpa using hu
      rw [q] at hy; exact (Option.some.inj hy).symm
    subst ey
    refine ⟨_, rfl, wpAny_letOwnedTupleGo_enum (s := { s with heap := h1, toks := tk + 1 }) out fun h2 he2 sb => ?_⟩
    have new2 := (sb.2 _ (Nat.ne_of_gt lte)).trans new
    have ob : ObjOk X.prog X.w (upd H s.heap.objs.size (.tup [.int (i : Nat), x])) h2 s.heap.objs.size (.tup [.int (i : Nat), x]) :=
      ⟨by show 2 ≤ sizeLine; decide, [.int i tk, y], .cons ⟨_, rfl⟩ (.cons ru .nil), ⟨_, new2, rfl, _, rfl⟩⟩
    have J : Inv X pins σ (upd H s.heap.objs.size (.tup [.int (i : Nat), x])) { s with heap := h2, toks := tk + 1 } :=
      I.turnedNew (ch := [e, it]) (fun b o nb q => (sb.2 b fun z => nb (by simp [z])).trans (kept b o (fun z => nb (by simp [z])) (fun z => nb (by simp [z])) q)) hf (Nat.le_refl _) ob
    refine ⟨.ref s.heap.objs.size, _, J, rfl, ⟨_, x, rfl, I.hok.fresh (Nat.le_refl _), rfl, fun ys hy => by rw [I.tuple_inj hy hq]; exact hx⟩, ⟨⟨y, ?_⟩, st.1.at fun o q => (sb.2 it ne.symm).trans q, ne⟩, fun b hb => ?_⟩
    · rw [show ((i + 1 : Nat) : Int) = (i : Int) + 1 by omega]; exact he2
    · have lt : b < s.heap.objs.size := by
        rcases List.mem_cons.mp hb with rfl | hb
        · exact lte
        · rw [List.mem_singleton.mp hb]; exact lti
      rw [upd_ne (Nat.ne_of_lt lt)]
      exact (hf b hb).1
  done := by
    intro X hP hw hK hc i pins s σ H E I hf ⟨⟨old, he⟩, hit, ne⟩ ⟨xs, hq, hx⟩
    subst hP hw hK
    obtain ⟨its, rv, p, hz⟩ := I.tuple hq
    have tup : s.heap.IsTuple a its.toArray := p
    have nai := apart_it hit tup
    have hl := rv.length
    have ei : i = its.toArray.size := by rw [List.size_toArray, ← hl]; exact hx.symm
    subst ei
    obtain ⟨f0, f1, f2, f3, f4, f5⟩ := hf it (by simp)
    exact wpAny_pyNext_enum_endD (Draws.tuple (A := X.A.in1) (show X.A.in1.handled = none from I.ok.hd hc) it a nai its.toArray) he ⟨hit, tup⟩ fun h1 eb => ⟨rfl, I.turned (t' := s.toks) (fun b o nb q => eb b o nb q) f0 f1 f3 f4 f5⟩
  self := fun A i s Q E ⟨⟨_, he⟩, _⟩ h => wpAny_pyIter_enum he h
def iEnumT (K : PySem.W.Frag) (ta : TA) : TI := fun σ H R => ta σ H fun vs H1 => ∃ a xs, vs = [.ref a] ∧ SqT K H1 a xs ∧ R (IteT K a) H1
/-- enumerate(t), t a tuple -/
theorem pi_enumT {X : Cx} {e : Expr} {ta : TA} {p pos tpos : Pos} {elts : List Expr} {kk : Nat} (hg : Gl X "enumerate") (hm : X.mg "enumerate" = none) (ha : PA X [e] ta) (hs : starEach [e] X.env = [(false, eval e X.env)] := by rfl) :
    PI X (.Tuple elts kk tpos) (.Call (.Name "enumerate" p) [e] [] pos) (iEnumT X.K ta) := by
  constructor
  intro pins s σ H R I want
  refine Call_ (ld_blt I hg hm boot_enumerate (PyProof.Rows.callWith_type1 (thn (ha.run pos pins s σ H _ I want) ?_) hs rfl))
  rintro us s1 ⟨vs, H1, J, rel, a, xs, rfl, hq, q⟩
  obtain ⟨u, rfl, ru⟩ := vals1 rel
  cases ru
  obtain ⟨its, rv, p2, hz⟩ := J.tuple hq
  refine call_enum_tup p2 fun h1 he hit keep => wpAny_pyIter_enum he ?_
  have J2 : Inv X pins σ H1 { s1 with heap := h1 } := J.kept (t' := s1.toks) keep
  refine ⟨s1.heap.objs.size + 1, [s1.heap.objs.size + 1, s1.heap.objs.size], _, _, H1, rfl, J2, turn_enumT a _ _, ⟨⟨.none, he⟩, hit, Nat.succ_ne_self _⟩, fun b hb => ?_, q⟩
  have le : s1.heap.objs.size ≤ b := by
    rcases List.mem_cons.mp hb with rfl | hb
    · exact Nat.le_add_right _ _
    · rw [List.mem_singleton.mp hb]; exact Nat.le_refl _
  exact J.fpOk le (J.hok.fresh le)
theorem walk_enumT {K : PySem.W.Frag} {a : Addr} {xs : List V} : Walk (IteT K a) xs.length (fun H => SqT K H a xs) (YPair (fun i => some (.int (i : Nat))) (fun i => xs[i]?)) := by
  refine ⟨fun i _ hi q => ⟨xs, xs[i], q, by simp [hi]⟩, fun _ q => ⟨xs, q, rfl⟩, fun i H v H' _ q y => ?_⟩
  obtain ⟨T, x, h1, h2, h3, h4⟩ := y
  exact ⟨T, .int (i : Nat), x, h1, h2, h3, rfl, h4 xs q⟩
/-- two derivations of one expression: either reading serves -/
theorem PE.or {X : Cx} {e : Expr} {t u : TE} (h1 : PE X e t) (h2 : PE X e u) : PE X e (fun σ H Q => t σ H Q ∨ u σ H Q) :=
  ⟨fun pins s σ H Q I w => w.elim (h1.run pins s σ H Q I) (h2.run pins s σ H Q I)⟩
theorem PI.or {X : Cx} {tg e : Expr} {t u : TI} (h1 : PI X tg e t) (h2 : PI X tg e u) : PI X tg e (fun σ H R => t σ H R ∨ u σ H R) :=
  ⟨fun pins s σ H R I w => w.elim (h1.run pins s σ H R I) (h2.run pins s σ H R I)⟩
end LT

namespace LT
open PySem PySem.Spec PyProof.Rows L2
/-- zip of the tuple at a and the list at b, as many turns as both have -/
def ItzTL (K : PySem.W.Frag) (a b : Addr) : It :=
  ⟨fun i H => ∃ (xs ys : List V) (x y : V), SqT K H a xs ∧ SqL K H b ys ∧ xs[i]? = some x ∧ ys[i]? = some y,
    fun i H v H' => ∃ T x y, v = .ref T ∧ H T = none ∧ H' = upd H T (.tup [x, y]) ∧ (∀ xs, SqT K H a xs → xs[i]? = some x) ∧ ∀ ys, SqL K H b ys → ys[i]? = some y,
    fun i H => ∃ xs ys : List V, SqT K H a xs ∧ SqL K H b ys ∧ xs.length = i ∧ ys.length = i⟩
theorem sep_tl {z TI TO i1 i2 a b : Addr} (D : ZipApart z TI TO i1 i2 a b) : ZipSep2 z TI TO i1 i2 [i1, a] [i2, b] where
  TIz := D.TIz
  TOz := D.TOz
  TITO := D.TITO
  TIi1 := D.TIi1
  mem1 := List.mem_cons_self
  zf1 := by simp [D.i1z.symm, D.l1z.symm]
  Tf1 := by simp [D.TOi1, D.l1TO.symm]
  TIi2 := D.TIi2
  mem2 := List.mem_cons_self
  zf2 := by simp [D.i2z.symm, D.l2z.symm]
  Tf2 := by simp [D.TOi2, D.l2TO.symm]
  sep1_2 := by simp [D.i12, D.l2i1.symm]
  sep2_1 := by simp [D.i12.symm, D.l1i2.symm]
theorem turn_zipTL {P : Program} {w : World} {K : PySem.W.Frag} {elts : List Expr} {kk : Nat} {tpos : Pos} {a b z TI TO i1 i2 : Addr} (D : ZipApart z TI TO i1 i2 a b) :
    Turn P w K (.Tuple elts kk tpos) (ItzTL K a b) [z, TI, TO, i1, i2] z (fun i h => IsZip h z TI TO .none ∧ IsTupOf2 h TI (.ref i1) (.ref i2) ∧ (∃ x y, IsTupOf2 h TO x y) ∧ h.IsTupleIter i1 a i ∧ h.IsListIter i2 b i) where
  mem := List.mem_cons_self
  obj := fun i h ⟨hz, hTI, ⟨x, y, hTO⟩, ⟨o1, e1, _, d1⟩, ⟨o2, e2, _, d2⟩⟩ c hc => by
    simp only [List.mem_cons, List.not_mem_nil, or_false] at hc
    rcases hc with rfl | rfl | rfl | rfl | rfl
    · exact ⟨_, hz, fun v q => by cases q⟩
    · exact ⟨_, hTI, fun v q => by cases q⟩
    · exact ⟨_, hTO, fun v q => by cases q⟩
    · exact ⟨o1, e1, fun v q => by rw [d1] at q; cases q⟩
    · exact ⟨o2, e2, fun v q => by rw [d2] at q; cases q⟩
  keep := fun i h h' ⟨hz, hTI, ⟨x, y, hTO⟩, h1, h2⟩ k =>
    ⟨k z (by simp) _ hz, k TI (by simp) _ hTI, ⟨x, y, k TO (by simp) _ hTO⟩, h1.at fun o q => k i1 (by simp) o q, h2.at fun o q => k i2 (by simp) o q⟩
  item := by
    intro X hP hw hK hc i pins s σ H E I hf ⟨hz, hTI, ⟨x0, y0, hTO⟩, h1, h2⟩ ⟨xs, ys, x, y, qx, qy, hx, hy⟩
    subst hP hw hK
    obtain ⟨its, rv, p, _⟩ := I.tuple qx
    obtain ⟨its2, rv2, p2, _⟩ := I.list qy
    have tup : s.heap.IsTuple a its.toArray := p
    obtain ⟨u, hu, ru⟩ := rv.get hx
    obtain ⟨u2, hu2, ru2⟩ := rv2.get hy
    have li : i < its.toArray.size := by have := (List.getElem?_eq_some_iff.mp hu).1; simpa using this
    have li2 : i < its2.toArray.size := by have := (List.getElem?_eq_some_iff.mp hu2).1; simpa using this
    have hh : X.A.in1.handled = none := I.ok.hd hc
    have ltz : z < s.heap.objs.size := Heap.lt_size hz
    refine wpAny_pyNext_zipD2_item (sep_tl D) (Draws.tuple hh i1 a D.l1i1 its.toArray) (Draws.list hh i2 b D.l2i2 its2.toArray) hz hTI hTO ⟨h1, tup⟩ ⟨h2, p2.isList⟩ li li2 fun v1 v2 h3 tk y1 y2 z3 TO3 st1 st2 new sz kept => ?_
    have ev1 : v1 = u := by
      have q : its.toArray[i]? = some u := by simpa using hu
      rw [q] at y1; exact (Option.some.inj y1).symm
    have ev2 : v2 = u2 := by
      have q : its2.toArray[i]? = some u2 := by simpa using hu2
      rw [q] at y2; exact (Option.some.inj y2).symm
    subst ev1 ev2
    refine ⟨_, rfl, wpAny_letOwnedTupleGo_zip (s := { s with heap := h3, toks := tk }) z3 fun h4 z4 sb => ?_⟩
    have new4 := (sb.2 _ (Nat.ne_of_gt ltz)).trans new
    have ob : ObjOk X.prog X.w (upd H s.heap.objs.size (.tup [x, y])) h4 s.heap.objs.size (.tup [x, y]) :=
      ⟨by show 2 ≤ sizeLine; decide, [v1, v2], .cons ru (.cons ru2 .nil), ⟨_, new4, rfl, _, rfl⟩⟩
    have J : Inv X pins σ (upd H s.heap.objs.size (.tup [x, y])) { s with heap := h4, toks := tk } :=
      I.turnedNew (ch := [z, TI, TO, i1, i2]) (fun c o nb q => (sb.2 c fun e => nb (by simp [e])).trans (kept c o (fun e => nb (by simp [e])) (fun e => nb (by simp [e])) (fun e => nb (by simp [e])) (fun e => nb (by simp [e])) q)) hf (Nat.le_refl _) ob
    refine ⟨.ref s.heap.objs.size, _, J, rfl, ⟨_, x, y, rfl, I.hok.fresh (Nat.le_refl _), rfl, fun l hl => by rw [I.tuple_inj hl qx]; exact hx, fun l hl => by rw [I.list_inj hl qy]; exact hy⟩, ⟨z4, ?_, ⟨v1, v2, ?_⟩, ?_, ?_⟩, fun c hm => ?_⟩
    · exact (sb.2 _ D.TIz).trans (kept _ _ D.TIz D.TITO D.TIi1 D.TIi2 hTI)
    · exact (sb.2 _ D.TOz).trans TO3
    · exact st1.1.at fun o q => (sb.2 _ D.i1z).trans q
    · exact st2.1.at fun o q => (sb.2 _ D.i2z).trans q
    · have lt : c < s.heap.objs.size := by
        have hm2 := hm
        simp only [List.mem_cons, List.not_mem_nil, or_false] at hm2
        rcases hm2 with rfl | rfl | rfl | rfl | rfl
        · exact ltz
        · exact Heap.lt_size hTI
        · exact Heap.lt_size hTO
        · obtain ⟨_, e1, _⟩ := h1; exact Heap.lt_size e1
        · obtain ⟨_, e2, _⟩ := h2; exact Heap.lt_size e2
      rw [upd_ne (Nat.ne_of_lt lt)]
      exact (hf c hm).1
  done := by
    intro X hP hw hK hc i pins s σ H E I hf ⟨hz, hTI, ⟨x0, y0, hTO⟩, h1, h2⟩ ⟨xs, ys, qx, qy, e1, e2⟩
    subst hP hw hK
    obtain ⟨its, rv, p, _⟩ := I.tuple qx
    obtain ⟨its2, rv2, p2, _⟩ := I.list qy
    have tup : s.heap.IsTuple a its.toArray := p
    have n1 : i = its.toArray.size := by rw [List.size_toArray, ← rv.length]; exact e1.symm
    have n2 : i = its2.toArray.size := by rw [List.size_toArray, ← rv2.length]; exact e2.symm
    have hh : X.A.in1.handled = none := I.ok.hd hc
    exact wpAny_pyNext_zipD2_end (sep_tl D) (Draws.tuple hh i1 a D.l1i1 its.toArray) (Draws.list hh i2 b D.l2i2 its2.toArray) hz hTI hTO ⟨h1, tup⟩ ⟨h2, p2.isList⟩ (Nat.le_of_eq n1) (Nat.le_of_eq n2) (.inl n1) fun h3 tk kept =>
      ⟨rfl, I.turnedL (ch := [z, TI, TO, i1, i2]) (fun c o nb q => kept c o (fun e => nb (by simp [e])) (fun e => nb (by simp [e])) (fun e => nb (by simp [e])) (fun e => nb (by simp [e])) q) hf⟩
  self := fun A i s Q E st h => wpAny_pyIter_zip st.1 h
def iZipTL (K : PySem.W.Frag) (ta : TA) : TI := fun σ H R => ta σ H fun vs H1 => ∃ a b xs ys, vs = [.ref a, .ref b] ∧ SqT K H1 a xs ∧ SqL K H1 b ys ∧ R (ItzTL K a b) H1
theorem pi_zipTL {X : Cx} {e e2 : Expr} {ta : TA} {p pos tpos : Pos} {elts : List Expr} {kk : Nat} (hg : Gl X "zip") (hm : X.mg "zip" = none) (ha : PA X [e, e2] ta)
    (hs : starEach [e, e2] X.env = (false, eval e X.env) :: starEach [e2] X.env := by rfl) (hpl : (backTo pos (starEach [e2] X.env)).any (·.1) = false := by rfl) :
    PI X (.Tuple elts kk tpos) (.Call (.Name "zip" p) [e, e2] [] pos) (iZipTL X.K ta) := by
  constructor
  intro pins s σ H R I want
  refine Call_ (ld_blt I hg hm PyProof.Rows.boot_zip (PyProof.Rows.callWith_type1 (thn (ha.run pos pins s σ H _ I want) ?_) hs hpl))
  rintro us s1 ⟨vs, H1, J, rel, a, b, xs, ys, rfl, qx, qy, q⟩
  obtain ⟨u1, u2, rfl, r1, r2⟩ := vals2 rel
  cases r1
  cases r2
  obtain ⟨its, rv, p1, _⟩ := J.tuple qx
  obtain ⟨its2, rv2, p2, _⟩ := J.list qy
  have la : a < s1.heap.objs.size := let ⟨_, g, _⟩ := p1; Heap.lt_size g
  refine zip_begins2 (begins_tuple a its.toArray) (begins_list b its2.toArray) p1 p2.isList fun h' hz hTI hTO g1 g2 sz keep => wpAny_pyIter_zip hz ?_
  have J2 : Inv X pins σ H1 { s1 with heap := h' } := J.kept (t' := s1.toks) keep
  refine ⟨s1.heap.objs.size + 4, [s1.heap.objs.size + 4, s1.heap.objs.size + 2, s1.heap.objs.size + 3, s1.heap.objs.size, s1.heap.objs.size + 1], _, _, H1, rfl, J2, turn_zipTL (PySem.W.ktu_apart s1.heap.objs.size a b la p2.lt),
    ⟨hz, hTI, ⟨_, _, hTO⟩, ⟨_, g1, rfl, rfl⟩, ⟨_, g2, rfl, rfl⟩⟩, fun c hc => ?_, q⟩
  have le : s1.heap.objs.size ≤ c := by
    simp only [List.mem_cons, List.not_mem_nil, or_false] at hc
    rcases hc with rfl | rfl | rfl | rfl | rfl <;> first | exact Nat.le_add_right _ _ | exact Nat.le_refl _
  exact J.fpOk le (J.hok.fresh le)
theorem walk_zipTL {K : PySem.W.Frag} {a b : Addr} {xs ys : List V} (hl : xs.length = ys.length) : Walk (ItzTL K a b) xs.length (fun H => SqT K H a xs ∧ SqL K H b ys) (YPair (fun i => xs[i]?) (fun i => ys[i]?)) := by
  refine ⟨fun i _ hi q => ⟨xs, ys, xs[i], ys[i]'(by omega), q.1, q.2, by simp [hi], by simp [show i < ys.length by omega]⟩, fun _ q => ⟨xs, ys, q.1, q.2, rfl, hl.symm⟩, fun i H v H' _ q y => ?_⟩
  obtain ⟨T, x, y2, h1, h2, h3, h4, h5⟩ := y
  exact ⟨T, x, y2, h1, h2, h3, h4 xs q.1, h5 ys q.2⟩
end LT

namespace LG
open PySem PySem.Spec PyProof.Rows L2
section
variable {X : Cx}
/-- repr of a bool -/
theorem call_repr_bl : CallR X (.builtin "repr") (fun xs H Q => ∃ b : Bool, xs = [.bl b] ∧ Q (.str (if b then "True" else "False")) H) := by
  intro pins s σ H xs us Q I r h
  obtain ⟨b, rfl, q⟩ := h
  obtain ⟨u, rfl, ru⟩ := vals1 r
  cases ru
  exact PySem.P.repr_of_bool ⟨.str _, H, I.tok _, ⟨_, rfl⟩, q⟩
/-- repr of data: lists, tuples, ints, bools -/
def rReprA (K : PySem.W.Frag) : List V → Hp → VK → Prop := fun xs H Q => (∃ b : Bool, xs = [.bl b] ∧ Q (.str (if b then "True" else "False")) H) ∨ (∃ i : Int, xs = [.int i] ∧ i.natAbs.log2 < 1920 ∧ Q (.str (toString i)) H) ∨ rRepr K xs H Q
theorem call_reprA (hgd : X.A.guards = some []) (hu : X.A.units + 66 < cLine) : CallR X (.builtin "repr") (rReprA X.K) := by
  intro pins s σ H xs us Q I r h
  rcases h with h | h | h
  · exact call_repr_bl pins s σ H xs us Q I r h
  · exact SkE.call_repr_int pins s σ H xs us Q I r h
  · exact call_repr hgd hu pins s σ H xs us Q I r h
end
end LG

/-! what the laws share: tests, values, the bag, lists or tuples -/
namespace LP
open PySem L2 LT LG
theorem iteD {c A B : Prop} [Decidable c] (hc : c) (h : A) : if decide c = true then A else B := by
  rw [if_pos (decide_eq_true hc)]; exact h
theorem iteX {c A B : Prop} [Decidable c] (hc : ¬ c) (h : B) : if decide c = true then A else B := by
  rw [if_neg (by rw [decide_eq_false hc]; exact Bool.false_ne_true)]; exact h
theorem iteNX {c A B : Prop} [Decidable c] (hc : ¬ c) (h : A) : if (!decide c) = true then A else B := by
  rw [decide_eq_false hc]; exact iteT h
theorem ite2d {c A B : Prop} [Decidable c] (h1 : c → A) (h2 : ¬ c → B) : if decide c = true then A else B := by
  by_cases h : c
  · exact iteD h (h1 h)
  · exact iteX h (h2 h)
theorem iteNB {b : Bool} {A B : Prop} (hb : b = true) (h : B) : if (!b) = true then A else B := by
  subst hb; exact iteF h
theorem iteNF {b : Bool} {A B : Prop} (hb : b = false) (h : A) : if (!b) = true then A else B := by
  subst hb; exact iteT h
theorem iteB {b : Bool} {A B : Prop} (hb : b = true) (h : A) : if b = true then A else B := by
  subst hb; exact iteT h
theorem iteBF {b : Bool} {A B : Prop} (hb : b = false) (h : B) : if b = true then A else B := by
  subst hb; exact iteF h
theorem idx_before {α : Type} [BEq α] [LawfulBEq α] {a : α} : ∀ {l : List α} {m : Nat}, m < l.idxOf a → l[m]? ≠ some a
  | [], m, h => by simp at h
  | b :: r, 0, h => by
    intro e
    have e1 : b = a := Option.some.inj e
    subst e1
    rw [List.idxOf_cons] at h
    simp at h
  | b :: r, m + 1, h => by
    rw [List.idxOf_cons] at h
    by_cases q : (b == a) = true
    · simp [q] at h
    · rw [Bool.not_eq_true] at q
      rw [q] at h
      have h' : m + 1 < r.idxOf a + 1 := h
      exact idx_before (l := r) (m := m) (by omega)
theorem idx_get {α : Type} [BEq α] [LawfulBEq α] {a : α} {l : List α} (h : a ∈ l) : l[l.idxOf a]? = some a := by
  have h1 := List.idxOf_lt_length_iff.mpr h
  rw [List.getElem?_eq_getElem h1]
  have h2 := List.findIdx_getElem (p := (· == a)) (xs := l) (w := h1)
  exact congrArg some (eq_of_beq h2)

theorem same_upd {H : Hp} {p : Addr} {o : HO} (h : H p = Option.none) : Same H (upd H p o) := fun b x e => by rw [upd_ne (ne_of_none e h)]; exact e
/-- all but the bag at b is as it was -/
def Fr (H H' : Hp) (b : Addr) : Prop := ∀ a o, H a = some o → a ≠ b → H' a = some o
theorem Fr.refl (H : Hp) (b : Addr) : Fr H H b := fun _ _ h _ => h
theorem Fr.trans {H H1 H2 : Hp} {b : Addr} (a : Fr H H1 b) (c : Fr H1 H2 b) : Fr H H2 b := fun x o h n => c x o (a x o h n) n
theorem Fr.of {H H' : Hp} {b : Addr} (s : Same H H') : Fr H H' b := fun a o h _ => s a o h
theorem Fr.free {H H' : Hp} {b l : Addr} (e : Fr H H' b) (hb : ∃ o, H b = some o) (h : H' l = Option.none) (h' : ∃ o, H' b = some o) : H l = Option.none := by
  cases q : H l with
  | none => rfl
  | some o =>
    by_cases hl : l = b
    · subst hl; obtain ⟨o', h'⟩ := h'; rw [h'] at h; cases h
    · rw [e l o q hl] at h; cases h
abbrev M61 : Int := 2305843009213693951
/-- the bag: the script's copy at l, the place in it, the rest of a large cell, the number of draws (at most d), the script's sum -/
structure Bag (H : Hp) (b l : Addr) (ns : List Int) (d : Nat) : Prop where
  ex : ∃ i c k t : Int, H b = some (.lst [.ref l, .int i, .int c, .int k, .int t]) ∧ 0 ≤ i ∧ i ≤ ns.length ∧ 0 ≤ k ∧ k ≤ d ∧ 0 ≤ t ∧ t < M61
  ls : H l = some (.lst (ns.map V.int))
  ne : l ≠ b
theorem Bag.mono {H : Hp} {b l : Addr} {ns : List Int} {d d' : Nat} (g : Bag H b l ns d) (h : d ≤ d') : Bag H b l ns d' := by
  obtain ⟨⟨i, c, k, t, h1, h2, h3, h4, h5, h6⟩, ls, ne⟩ := g
  exact ⟨⟨i, c, k, t, h1, h2, h3, h4, by omega, h6⟩, ls, ne⟩
theorem Bag.same {H H' : Hp} {b l : Addr} {ns : List Int} {d : Nat} (g : Bag H b l ns d) (s : Same H H') : Bag H' b l ns d := by
  obtain ⟨⟨i, c, k, t, h1, h2⟩, ls, ne⟩ := g
  exact ⟨⟨i, c, k, t, s _ _ h1, h2⟩, s _ _ ls, ne⟩

theorem flat_ints (l : List Int) : (l.map V.int).all flatV = true := by
  rw [List.all_eq_true]; intro v hv; obtain ⟨i, _, rfl⟩ := List.mem_map.mp hv; rfl
theorem in_ints {p : Int} {l : List Int} : inV (.int p) (l.map V.int) = decide (p ∈ l) := by
  induction l with
  | nil => rfl
  | cons a r ih =>
    show (eqV (.int a) (.int p) || inV (.int p) (r.map V.int)) = _
    rw [ih]
    show ((a == p) || decide (p ∈ r)) = _
    by_cases h : a = p
    · subst h; simp
    · have h2 : ¬ p = a := fun q => h q.symm
      simp [h, h2]

theorem Bag.nb {H : Hp} {b l : Addr} {ns : List Int} {d : Nat} (g : Bag H b l ns d) : ∃ o, H b = some o := let ⟨⟨_, _, _, _, h, _⟩, _, _⟩ := g; ⟨_, h⟩
theorem Bag.ne_new {H : Hp} {b l p : Addr} {ns : List Int} {d : Nat} (g : Bag H b l ns d) (hp : H p = none) : p ≠ b := by
  obtain ⟨o, h⟩ := g.nb
  exact (ne_of_none h hp).symm
theorem Bag.l_ne {H : Hp} {b l p : Addr} {ns : List Int} {d : Nat} (g : Bag H b l ns d) (hp : H p = none) : l ≠ p := ne_of_none g.ls hp

section
variable (K : PySem.W.Frag)
def sp__law_bag : Sp := fun vs H Q _ => ∃ (a : Addr) (ns : List Int), vs = [.ref a] ∧ SqL K H a (ns.map V.int) ∧ ns.length ≤ 63 ∧ ∀ (H' : Hp) (b l : Addr), Same H H' → H b = none → H l = none → Bag H' b l ns 0 → Q (.ref b) H'
def sp__law_stir : Sp := fun vs H Q _ => ∃ x y : Int, vs = [.int x, .int y] ∧ 0 ≤ x ∧ x < M61 ∧ 0 ≤ y ∧ y < 2 ^ 40 ∧ ∀ r : Int, Q (.int r) H
def sp__law_draw : Sp := fun vs H Q _ => ∃ (b l : Addr) (ns : List Int) (d : Nat) (n : Int), vs = [.ref b, .int n] ∧ Bag H b l ns d ∧ 0 < n ∧ n.natAbs.log2 < 9000 ∧ d < 1000000 ∧ ns.length ≤ 63 ∧
  ∀ (H' : Hp) (r : Int), 0 ≤ r → r < n → Bag H' b l ns (d + 1) → Fr H H' b → Q (.int r) H'


end
/-- what len asks of a list or a tuple -/
def rLenS (K : PySem.W.Frag) : List V → Hp → VK → Prop := fun vs H Q => ∃ a xs, vs = [.ref a] ∧ (SqL K H a xs ∨ SqT K H a xs) ∧ Q (.int xs.length) H
theorem u1 {k : Nat} {A : Around} (r : Room k A) : A.units + 1 < cLine := by have := r.un; omega
theorem u66 {k : Nat} {A : Around} (r : Room k A) : A.units + 66 < cLine := by have := r.un; omega
theorem ixN_at {n j : Nat} (h : j < n) : ixN n (j : Int) = some j := by
  unfold ixN; rw [if_pos (by omega), if_pos (by omega)]; congr 1
/-- a list or a tuple -/
def SqE (K : PySem.W.Frag) (H : Hp) (a : Addr) (xs : List V) : Prop := SqL K H a xs ∨ SqT K H a xs
theorem same_tup {K : PySem.W.Frag} {H H' : Hp} {a : Addr} {xs : List V} (e : Same H H') (h : SqT K H a xs) : SqT K H' a xs := by
  rcases h with (h | ⟨o, h⟩) | h
  · exact .inl (.inl (e _ _ h))
  · exact .inl (.inr ⟨o, e _ _ h⟩)
  · exact .inr h
theorem SqE.same {K : PySem.W.Frag} {H H' : Hp} {a : Addr} {xs : List V} (h : SqE K H a xs) (e : Same H H') : SqE K H' a xs := h.imp e.seq (same_tup e)
theorem SqE.l {K : PySem.W.Frag} {H : Hp} {a : Addr} {xs : List V} (h : H a = some (.lst xs)) : SqE K H a xs := .inl (SqL.of h)
theorem SqE.t {K : PySem.W.Frag} {H : Hp} {a : Addr} {xs : List V} (h : H a = some (.tup xs)) : SqE K H a xs := .inr (SqT.of h)
theorem rd_ix {K : PySem.W.Frag} {H : Hp} {a : Addr} {Q : VK} {xs : List V} {j : Nat} {v : V} {z : Int} (h : SqL K H a xs) (e : xs[j]? = some v) (hz : z = (j : Int)) (q : Q v H) : rIxL K (.ref a) (.int z) H Q :=
  ⟨a, xs, z, v, rfl, rfl, h, at_of hz e, q⟩
theorem int_at {ns : List Int} {j : Nat} {x : Int} (h : ns[j]? = some x) : (ns.map V.int)[j]? = some (V.int x) := by rw [List.getElem?_map, h]; rfl
theorem at_int {ns : List Int} {j : Nat} {v : V} (h : (ns.map V.int)[j]? = some v) : ∃ x, ns[j]? = some x ∧ v = .int x := by
  rw [List.getElem?_map] at h
  cases q : ns[j]? with
  | none => rw [q] at h; cases h
  | some x => rw [q] at h; cases h; exact ⟨x, rfl, rfl⟩
/-! a walk over a list or a tuple: one turn for both -/
theorem or_E {K : PySem.W.Frag} {H : Hp} {a : Addr} {xs : List V} {σ : St} {i : Nat} {R : It → Hp → Prop} (hE : SqE K H a xs) (hv : σ[i]? = some (some (.ref a))) (k : ∀ (J : It) (G : Hp → Prop), Walk J xs.length G (YAt xs) → (∀ H', Same H H' → G H') → R J H) :
    iList K (tVar i) σ H R ∨ iTup K (tVar i) σ H R := by
  rcases hE with h | h
  · exact .inl ⟨_, hv, a, rfl, ⟨_, h⟩, k _ _ walk_list fun H' s => s.seq h⟩
  · exact .inr ⟨_, hv, a, rfl, ⟨_, h⟩, k _ _ walk_tup fun H' s => same_tup s h⟩
theorem or_enumE {K : PySem.W.Frag} {H : Hp} {a : Addr} {xs : List V} {σ : St} {R : It → Hp → Prop} {ta : TA} (hE : SqE K H a xs) (hv : ∀ Q : List V → Hp → Prop, Q [.ref a] H → ta σ H Q)
    (k : ∀ (J : It) (G : Hp → Prop), Walk J xs.length G (YPair (fun i => some (.int (i : Nat))) (fun i => xs[i]?)) → (∀ H', Same H H' → G H') → R J H) :
    iEnum K ta σ H R ∨ iEnumT K ta σ H R := by
  rcases hE with h | h
  · exact .inl (hv _ ⟨a, xs, rfl, h, k _ _ walk_enum fun H' s => s.seq h⟩)
  · exact .inr (hv _ ⟨a, xs, rfl, h, k _ _ walk_enumT fun H' s => same_tup s h⟩)
theorem or_zipE {K : PySem.W.Frag} {H : Hp} {a : Addr} {xs ys : List V} {σ : St} {R : It → Hp → Prop} {ta : TA} (hE : SqE K H a xs) (hl : xs.length = ys.length)
    (hv : ∀ Q : List V → Hp → Prop, (∀ H1 p, Same H H1 → H p = none → H1 p = some (.lst ys) → Q [.ref a, .ref p] H1) → ta σ H Q)
    (k : ∀ (H1 : Hp) (p : Addr) (J : It) (G : Hp → Prop), Same H H1 → H p = none → H1 p = some (.lst ys) → Walk J xs.length G (YPair (fun i => xs[i]?) (fun i => ys[i]?)) → (∀ H', Same H1 H' → G H') → R J H1) :
    iZip K ta σ H R ∨ iZipTL K ta σ H R := by
  rcases hE with h | h
  · exact .inl (hv _ fun H1 p s np hp => ⟨a, p, xs, ys, rfl, s.seq h, SqL.of hp, k _ p _ _ s np hp (walk_zip (by omega)) fun H' t => ⟨t.seq (s.seq h), SqL.of (t _ _ hp)⟩⟩)
  · exact .inr (hv _ fun H1 p s np hp => ⟨a, p, xs, ys, rfl, same_tup s h, SqL.of hp, k _ p _ _ s np hp (walk_zipTL hl) fun H' t => ⟨same_tup t (same_tup s h), SqL.of (t _ _ hp)⟩⟩)
theorem ty_E {K : PySem.W.Frag} {H : Hp} {a : Addr} {xs : List V} (h : SqE K H a xs) : TyX K H (.ref a) (.type "list") ∨ TyX K H (.ref a) (.type "tuple") := by
  rcases h with ((h | ⟨o, h⟩) | ⟨dd, its, n, h1, h2⟩) | ((h | ⟨o, h⟩) | ⟨dd, its, n, h1, h2⟩)
  · exact .inl (.base (.lst h))
  · exact .inl (.base (.frz h))
  · exact .inl (.kList h1 h2.1)
  · exact .inr (.base (.tup h))
  · exact .inr (.fTuple h)
  · exact .inr (.kTuple h1 h2.1)
theorem kit_lt {K : PySem.W.Frag} : PySem.W.kitAny K (.type "list") [.type "list", .type "tuple"] = some true := kitAny_cons (b := true) (kit_ty (by decide +kernel)) (fun z => nomatch z) fun _ => rfl
theorem kit_tt {K : PySem.W.Frag} : PySem.W.kitAny K (.type "tuple") [.type "list", .type "tuple"] = some true := kitAny_cons (b := false) (kit_ty (by decide +kernel)) (fun _ => kitAny_cons (b := true) (kit_ty (by decide +kernel)) (fun z => nomatch z) fun _ => rfl) fun z => nomatch z
/-! patterns as texts -/
def sgn (b : Bool) : Nat := if b = true then 84 else 82
def pstr (l : List Bool) : Str := ⟨(l.map sgn).toArray⟩
theorem pstr_nil : pstr [] = ("" : Str) := by decide +kernel
theorem pstr_T (l : List Bool) : pstr l ++ ("T" : Str) = pstr (l ++ [true]) := by
  show (⟨(l.map sgn).toArray ++ ("T" : Str).cps⟩ : Str) = _
  rw [show ("T" : Str).cps = #[84] by decide +kernel]
  simp [pstr, sgn]
theorem pstr_R (l : List Bool) : pstr l ++ ("R" : Str) = pstr (l ++ [false]) := by
  show (⟨(l.map sgn).toArray ++ ("R" : Str).cps⟩ : Str) = _
  rw [show ("R" : Str).cps = #[82] by decide +kernel]
  simp [pstr, sgn]
theorem pstr_size (l : List Bool) : (pstr l).cps.size = l.length := by simp [pstr]
theorem pstr_at {l : List Bool} {i c : Nat} (h : (pstr l).cps[i]? = some c) : ∃ b, l[i]? = some b ∧ c = sgn b := by
  simp only [pstr, List.getElem?_toArray, List.getElem?_map] at h
  cases q : l[i]? with
  | none => rw [q] at h; cases h
  | some b => rw [q] at h; cases h; exact ⟨b, rfl, rfl⟩
theorem sgnT : (⟨#[sgn true]⟩ : Str) = ("T" : Str) := by decide +kernel
theorem sgnR : (⟨#[sgn false]⟩ : Str) = ("R" : Str) := by decide +kernel
theorem R_ne_T : ¬ ((⟨#[sgn false]⟩ : Str) = ("T" : Str)) := by decide +kernel
theorem vsT : V.str ⟨#[sgn true]⟩ = V.str "T" := congrArg V.str sgnT
theorem vsR : ¬ (V.str ⟨#[sgn false]⟩ = V.str "T") := fun h => R_ne_T (V.str.inj h)
theorem vsRR : V.str ⟨#[sgn false]⟩ = V.str "R" := congrArg V.str sgnR
theorem count_T (l : List Bool) : Txt.count (pstr l) ("T" : Str) = ((l.count true : Nat) : Int) := by
  rw [show ("T" : Str) = ⟨#[84]⟩ by decide +kernel, PyProof.Rows.count_cnt]
  show PyProof.Rows.cnt 84 (l.map sgn).toArray.toList = _
  rw [List.toList_toArray]
  induction l with
  | nil => rfl
  | cons b r ih =>
    rw [List.map_cons, PyProof.Rows.cnt_cons, ih]
    cases b with
    | true => rw [if_pos (by decide)]; simp; omega
    | false => rw [if_neg (by decide)]; simp
/-! dicts by place -/
def numK (ns : List Int) : List (Key × V) := ns.zipIdx.map fun p => (.inl p.1, .int (p.2 : Nat))
theorem numK_len (ns : List Int) : (numK ns).length = ns.length := by simp [numK]
theorem putK_new {kvs : List (Key × V)} {k : Key} {v : V} (h : ∀ q ∈ kvs, q.1 ≠ k) : putK kvs k v = kvs ++ [(k, v)] := by
  unfold putK
  rw [if_neg]
  intro q
  obtain ⟨x, hx, e⟩ := List.any_eq_true.mp q
  exact h x hx (of_decide_eq_true e)
theorem numK_snoc (ns : List Int) (x : Int) : numK (ns ++ [x]) = numK ns ++ [(.inl x, .int (ns.length : Nat))] := by
  unfold numK
  rw [List.zipIdx_append]
  simp
theorem numK_put {ns : List Int} {x : Int} (h : x ∉ ns) : putK (numK ns) (.inl x) (.int (ns.length : Nat)) = numK (ns ++ [x]) := by
  rw [numK_snoc, putK_new]
  intro q hq e
  obtain ⟨⟨a, i⟩, hp, rfl⟩ := List.mem_map.mp hq
  cases e
  exact h (List.mem_of_getElem? (List.mem_zipIdx_iff_getElem?.mp hp))
theorem numK_val {ns : List Int} (nd : ns.Nodup) {j : Nat} {x : Int} (h : ns[j]? = some x) : valV (numK ns) (.inl x) = some (.int (j : Nat)) := by
  unfold valV
  have key : (numK ns).find? (fun kv => decide (kv.1 = Sum.inl x)) = some (.inl x, .int (j : Nat)) := by
    obtain ⟨hj, e⟩ := List.getElem?_eq_some_iff.mp h
    rw [List.find?_eq_some_iff_getElem]
    refine ⟨decide_eq_true rfl, j, by rw [numK_len]; exact hj, ?_, fun m hm => ?_⟩
    · simp [numK, e]
    · have hm2 : m < ns.length := by omega
      have e2 : ((numK ns)[m]'(by rw [numK_len]; omega)).1 = Sum.inl ns[m] := by simp [numK]
      rw [e2, decide_eq_false]
      · rfl
      · intro z
        cases z
        exact Nat.ne_of_lt hm ((List.getElem_inj nd).mp e.symm)
  rw [key]; rfl

theorem seq_int {n : Nat} {z : Int} (h0 : 0 ≤ z) (h : z.toNat < n) : seqIndex? z n = some z.toNat := by
  unfold seqIndex?
  have e : (if z < 0 then z + (n : Int) else z) = z := if_neg (by omega)
  simp only [e]
  rw [if_pos (by rw [Bool.and_eq_true, decide_eq_true_iff, decide_eq_true_iff]; omega)]
theorem ixN_int {n : Nat} {z : Int} (h0 : 0 ≤ z) (h : z.toNat < n) : ixN n z = some z.toNat := by
  unfold ixN
  rw [if_pos h0, if_pos (by omega)]
theorem log_small {n : Nat} (h : n < 1024) : ((n : Int)).natAbs.log2 < 9000 := by
  rw [Int.natAbs_natCast]
  by_cases h0 : n = 0
  · subst h0; decide
  · exact Nat.lt_trans ((Nat.log2_lt h0).mpr (show n < 2 ^ 10 from h)) (by decide)
theorem erase_map {α β : Type} (f : α → β) : ∀ (l : List α) (k : Nat), (l.map f).eraseIdx k = (l.eraseIdx k).map f
  | [], _ => rfl
  | _ :: _, 0 => rfl
  | a :: r, k + 1 => by
    show f a :: (r.map f).eraseIdx k = f a :: (r.eraseIdx k).map f
    rw [erase_map f r k]
end LP

/-! the draws of the laws with a reel -/
namespace LP
open PySem L2
abbrev M127 : Int := 2 ^ 140
theorem log_m {t : Int} (h0 : 0 ≤ t) (h1 : t < 2 ^ 140) : t.natAbs.log2 < 200 := by
  by_cases z : t.natAbs = 0
  · rw [z]; decide
  · exact Nat.lt_trans ((Nat.log2_lt z).mpr (show t.natAbs < 2 ^ 140 by omega)) (by decide)
structure Reel (H : Hp) (b : Addr) (d : Nat) : Prop where
  ex : ∃ (g c : Addr) (gs cs : List Int) (k t : Int), H b = some (.lst [.ref g, .ref c, .int k, .int t]) ∧ H g = some (.lst (gs.map V.int)) ∧ H c = some (.lst (cs.map V.int)) ∧ g ≠ b ∧ c ≠ b ∧ 0 < cs.length ∧ cs.length ≤ 64 ∧ gs.length ≤ 63 ∧ (∀ x ∈ cs, 0 ≤ x ∧ x < 1000003) ∧ 0 ≤ k ∧ k ≤ d ∧ 0 ≤ t ∧ t < M127
theorem Reel.mono {H : Hp} {b : Addr} {d d' : Nat} (r : Reel H b d) (h : d ≤ d') : Reel H b d' := by
  obtain ⟨g, c, gs, cs, k, t, a1, a2, a3, a4, a5, a6, a7, a8, a9, a10, a11, a12⟩ := r.ex
  exact ⟨⟨g, c, gs, cs, k, t, a1, a2, a3, a4, a5, a6, a7, a8, a9, a10, by omega, a12⟩⟩
theorem Reel.same {H H' : Hp} {b : Addr} {d : Nat} (r : Reel H b d) (s : Same H H') : Reel H' b d := by
  obtain ⟨g, c, gs, cs, k, t, a1, a2, a3, a4⟩ := r.ex
  exact ⟨⟨g, c, gs, cs, k, t, s _ _ a1, s _ _ a2, s _ _ a3, a4⟩⟩
theorem Reel.nb {H : Hp} {b : Addr} {d : Nat} (r : Reel H b d) : ∃ o, H b = some o := let ⟨_, _, _, _, _, _, h, _⟩ := r.ex; ⟨_, h⟩
theorem Reel.ne_new {H : Hp} {b p : Addr} {d : Nat} (r : Reel H b d) (hp : H p = none) : p ≠ b := by
  obtain ⟨o, h⟩ := r.nb
  exact (ne_of_none h hp).symm
/-- an address that is no part of the reel at b -/
def Apart (H : Hp) (b a : Addr) : Prop := a ≠ b ∧ ∀ xs, H b = some (.lst xs) → V.ref a ∉ xs
theorem Reel.new {H : Hp} {b p : Addr} {d : Nat} (r : Reel H b d) (hp : H p = none) : Apart H b p := by
  refine ⟨r.ne_new hp, fun xs hx hm => ?_⟩
  obtain ⟨g, c, gs, cs, k, t, a1, a2, a3, _⟩ := r.ex
  rw [a1] at hx; cases hx
  simp at hm
  rcases hm with rfl | rfl
  · rw [hp] at a2; cases a2
  · rw [hp] at a3; cases a3
theorem Reel.upd {H : Hp} {b a : Addr} {d : Nat} {o : HO} (r : Reel H b d) (h : Apart H b a) : Reel (L2.upd H a o) b d := by
  obtain ⟨g, c, gs, cs, k, t, a1, a2, a3, a4⟩ := r.ex
  have n := h.2 _ a1
  have n1 : g ≠ a := fun e => n (by rw [e]; simp)
  have n2 : c ≠ a := fun e => n (by rw [e]; simp)
  exact ⟨⟨g, c, gs, cs, k, t, by rw [upd_ne (Ne.symm h.1)]; exact a1, by rw [upd_ne n1]; exact a2, by rw [upd_ne n2]; exact a3, a4⟩⟩
theorem Apart.upd {H : Hp} {b a c : Addr} {o : HO} (h : Apart H b a) (hc : c ≠ b) : Apart (L2.upd H c o) b a := ⟨h.1, fun xs hx => h.2 xs (by rw [upd_ne (Ne.symm hc)] at hx; exact hx)⟩
section
variable (K : PySem.W.Frag)
def sp__law_reel : Sp := fun vs H Q _ => ∃ (a : Addr) (ns : List Int), vs = [.ref a] ∧ SqL K H a (ns.map V.int) ∧ ns.length ≤ 63 ∧ ∀ (H' : Hp) (b : Addr), Same H H' → H b = none → Reel H' b 0 → Q (.ref b) H'
def sp__law_draw_r : Sp := fun vs H Q _ => ∃ (b : Addr) (d : Nat) (n : Int), vs = [.ref b, .int n] ∧ Reel H b d ∧ 0 < n ∧ n.natAbs.log2 < 9000 ∧ d < 1000000 ∧
  ∀ (H' : Hp) (r : Int), 0 ≤ r → r < n → Reel H' b (d + 1) → Fr H H' b → (∀ a, Apart H b a → H a ≠ none → Apart H' b a) → Q (.int r) H'
def sp__law_shuffled_r : Sp := fun vs H Q _ => ∃ (b : Addr) (d : Nat) (p : Addr) (xs : List Int), vs = [.ref b, .ref p] ∧ Reel H b d ∧ d < 900000 ∧ H p = some (.lst (xs.map V.int)) ∧ xs.length ≤ 400 ∧ p ≠ b ∧
  ∀ (H' : Hp) (q : Addr) (ys : List Int), Reel H' b (d + xs.length) → Fr H H' b → (∀ a, Apart H b a → H a ≠ none → Apart H' b a) → H q = none → ys.Perm xs → H' q = some (.lst (ys.map V.int)) → Apart H' b q → Q (.ref q) H'
end
end LP

namespace LX
open PySem PySem.Spec PyProof.Rows L2 LG
/-- repr, of None too -/
def rReprN (K : PySem.W.Frag) : List V → Hp → VK → Prop := fun xs H Q => (xs = [.non] ∧ Q (.str "None") H) ∨ rReprA K xs H Q
theorem call_reprN {X : Cx} (hgd : X.A.guards = some []) (hu : X.A.units + 66 < cLine) : CallR X (.builtin "repr") (rReprN X.K) := by
  intro pins s σ H xs us Q I r h
  rcases h with h | h
  · obtain ⟨rfl, q⟩ := h
    obtain ⟨u, rfl, ru⟩ := vals1 r
    cases ru
    exact PySem.P.repr_of_none ⟨.str _, H, I.tok _, ⟨_, rfl⟩, q⟩
  · exact call_reprA hgd hu pins s σ H xs us Q I r h
end LX

/-! xs[::e], e of 1 or -1 -/
namespace LX
open PySem PySem.Spec PyProof.Rows L2
section
variable {X : Cx}
def kStep (K : PySem.W.Frag) (x : V) (Q : VK) : Option Int → Hp → Prop := fun o H2 => ∃ a xs, x = .ref a ∧ (o = some 1 ∨ o = some (-1)) ∧ SqL K H2 a xs ∧ ∀ p, H2 p = none → Q (.ref p) (upd H2 p (.lst (if o = some 1 then xs else xs.reverse)))
def tStepL (K : PySem.W.Frag) (te tk : TE) : TE := fun σ H Q => te σ H fun x H1 => tPart tk σ H1 (kStep K x Q)
theorem pick_one (its : List Value) : slicePick its.toArray none none (some 1) = its.toArray := by
  have e : slicePick its.toArray none none (some 1) = slicePick its.toArray none none none := rfl
  rw [e, slicePick_cut, HT.sIx_none, HT.sIx_none]
  simp
theorem pe_stepL {e st : Expr} {te tk : TE} {p3 pos : Pos} (he : PE X e te) (hk : PE X st tk) : PE X (.Subscript e (.Slice none none (some st) p3) pos) (tStepL X.K te tk) := by
  refine ⟨fun pins s σ H Q I h => ?_⟩
  refine Subscript_ (thn (he.run pins s σ H _ I h) fun v s1 ⟨x, H1, I1, r1, q1⟩ => ?_)
  have hst : PO X (some st) (tPart tk) := po_some hk
  refine wpAny_Slice (thn (po_none.run pins s1 σ H1 (fun o H2 => o = none ∧ H2 = H1) I1 ⟨rfl, rfl⟩) fun vl s2 ⟨l, H2, I2, pl, el, e2⟩ => ?_)
  subst el e2
  refine thn (po_none.run pins s2 σ H2 (fun o H3 => o = none ∧ H3 = H2) I2 ⟨rfl, rfl⟩) fun vu s3 ⟨u, H3, I3, pu, eu, e3⟩ => ?_
  subst eu e3
  refine thn (hst.run pins s3 σ H3 _ I3 q1) fun vs s4 ⟨o, H4, I4, ps, a, xs, ex, eo, hx, q⟩ => ?_
  subst ex
  cases r1
  have I5 : Inv X pins σ H4 { s4 with heap := s4.heap.push { cls := .type "slice", data := .fields #[vl, vu, vs] } } := I4.kept (t' := s4.toks) fun b ob q => Heap.get?_push_of_some _ q
  obtain ⟨its, r, ht, hz⟩ := I5.list hx
  have hlen := r.length
  show wpAny (model X.prog X.w) X.A (subscriptTail e (.Slice none none (some st) p3) (.ref a) (.ref s4.heap.objs.size)) (EP X pins σ Q) X.xe { s4 with heap := s4.heap.push { cls := .type "slice", data := .fields #[vl, vu, vs] } }
  refine tail_any (ops := [.ref a, .ref s4.heap.objs.size]) ht.isList.typeIs (PySem.slot_list_getitem.lookup) ?_ (by with_unfolding_all rfl)
  rcases eo with rfl | rfl
  · refine wpAny_getItem_list_slice ht.isList (Heap.IsSliceOf.new _ vl vu vs) pl pu ps (by decide) ?_ (by rw [List.size_toArray]; omega)
    rw [pick_one]
    refine ⟨.ref _, _, I5.laid (t' := s4.toks) (o := .lst (if (some 1 : Option Int) = some 1 then xs else xs.reverse)) (fun b ob q => Heap.get?_push_of_some _ q) (Nat.le_refl _) ?_, rfl, q _ (I5.hok.fresh (Nat.le_refl _))⟩
    rw [if_pos rfl]
    exact ⟨hz, _, 0, r, Heap.get?_push_size _ rfl⟩
  · refine wpAny_getItem_list_slice ht.isList (Heap.IsSliceOf.new _ vl vu vs) pl pu ps (by decide) ?_ (by rw [List.size_toArray]; omega)
    rw [PySem.W.krv_pick]
    refine ⟨.ref _, _, I5.laid (t' := s4.toks) (o := .lst (if (some (-1) : Option Int) = some 1 then xs else xs.reverse)) (fun b ob q => Heap.get?_push_of_some _ q) (Nat.le_refl _) ?_, rfl, q _ (I5.hok.fresh (Nat.le_refl _))⟩
    rw [if_neg (by decide)]
    exact ⟨by rw [List.length_reverse]; exact hz, _, 0, r.reverse, Heap.get?_push_size _ rfl⟩
end
end LX

/-! own __len__ and own == of instances -/
namespace LX
open PySem PySem.Spec PyProof.Rows L2
section
variable {X : Cx} {CX : CXT} {k : Nat} {C g : Addr} {fd : FuncData} {ps : List Str} {sp : Sp} {E : XK}
/-- len(x), x an instance whose class has its own __len__ -/
def rLenOwn (C : Addr) (sp : Sp) (E : XK) : List V → Hp → VK → Prop := fun xs H Q => ∃ a dx fs, xs = [.ref a] ∧ H a = some (.ins C dx fs) ∧ sp [.ref a] H (fun z H' => ∃ i, z = .int i ∧ 0 ≤ i ∧ i < 2 ^ 63 ∧ Q z H') E
theorem call_lenOwn (M : Meth X.K C "__len__" g) (F : FnOk X.prog X.w X.K X.mg X.base CX k g fd ps sp) (hr : Room (k + 1) X.A) (hb : Binds X.K fd ps []) (hx : Passes CX X E) : CallR X (.builtin "len") (rLenOwn C sp E) := by
  intro pins s σ H xs us Q I r h
  obtain ⟨a, dx, fs, rfl, ha, q⟩ := h
  obtain ⟨u, rfl, ru⟩ := r.one
  cases (show u = Value.ref a from ru)
  obtain ⟨mA, J, _⟩ := ins_get I.hok ha
  obtain ⟨od, J, _⟩ := J.look
  obtain ⟨m, hF⟩ := I.fr
  have G := F.raw hb (.nil)
  have run := wpAny_call (SlX.run_at (Q := fun z H' => ∃ i, z = .int i ∧ 0 ≤ i ∧ i < 2 ^ 63 ∧ Q z H') (us := [.ref a]) (ws := [.ref a]) G hr.in1 I.env0.in1 hx I (.cons rfl .nil) q)
  refine PySem.W.len_K hF I.ok.mod.kin J M.at_ M.fn (wpAny_mono run (fun w s' z => ?_) fun _ _ x => x)
  obtain ⟨z', H', I', rz, i, ei, i0, i1, qz⟩ := z
  subst ei
  obtain ⟨t, e⟩ := (show ∃ t, w = Value.int i t from rz)
  cases e
  exact ⟨⟨i0, i1⟩, .int i, H', I'.tok _, ⟨_, rfl⟩, qz⟩
/-- x == y, x an instance whose class has its own ==, y no instance of a class below -/
def rEqOwn (K : PySem.W.Frag) (C : Addr) (sp : Sp) (E : XK) : R2 := fun x y H Q => ∃ a dx fs b dy gs, x = .ref a ∧ y = .ref b ∧ H a = some (.ins C dx fs) ∧ H b = some (.ins C dy gs) ∧ sp [x, y] H Q E
theorem op_eqOwn (M : Meth X.K C "__eq__" g) (F : FnOk X.prog X.w X.K X.mg X.base CX k g fd ps sp) (hr : Room k X.A) (hb : Binds X.K fd ps []) (hx : Passes CX X E) : OpR X (compareOp .Eq) (rEqOwn X.K C sp E) := by
  intro pins s σ H x y v u Q I rx ry h
  obtain ⟨a, dx, fs, b, dy, gs, rfl, rfl, ha, hb', q⟩ := h
  cases (show v = Value.ref a from rx)
  cases (show u = Value.ref b from ry)
  obtain ⟨mA, J, _⟩ := ins_get I.hok ha
  obtain ⟨mB, J', _⟩ := ins_get I.hok hb'
  obtain ⟨od, J, _⟩ := J.look
  obtain ⟨od', J', _⟩ := J'.look
  obtain ⟨m, hF⟩ := I.fr
  have G := F.raw hb (.nil)
  show wpAny (model X.prog X.w) X.A (richCompare .Eq (.ref a) (.ref b)) (EP X pins σ Q) X.xe s
  refine PySem.W.cmp_K (op := .Eq) (tb := .ref C) hr.units0 hF I.ok.mod.kin J J'.type (by simp [PySem.W.notFirst]) M.at_ M.fn ?_
  have run := wpAny_call (run_fnR (Q := Q) (us := [.ref a, .ref b]) (vs := [.ref a, .ref b]) G hr hx I (.cons rfl (.cons rfl .nil)) q)
  refine wpAny_mono run (fun w s' z => ?_) fun _ _ x => x
  obtain ⟨z', H', I', rz, qz⟩ := z
  exact SlX.cmpback rz ⟨z', H', I', rz, qz⟩
end
end LX

namespace LX
open PySem PySem.Spec PyProof.Rows L2
/-! ### a sign, n times -/
def repS (c : Nat) (n : Int) : Str := ⟨Array.replicate n.toNat c⟩
theorem rep_fold (c : Nat) : ∀ (k : Nat) (a : Array Nat), (List.replicate k #[c]).foldl (· ++ ·) a = a ++ Array.replicate k c
  | 0, a => by simp
  | k + 1, a => by
    rw [List.replicate_succ, List.foldl_cons, rep_fold c k]
    apply Array.toList_inj.mp
    simp [List.replicate_succ]
theorem op_mulS {X : Cx} : OpR X (binaryOp .Mult) (fun x y H Q => ∃ (c : Nat) (n : Int), x = .str ⟨#[c]⟩ ∧ y = .int n ∧ -1000 ≤ n ∧ n ≤ 1000 ∧ Q (.str (repS c n)) H) := by
  intro pins s σ H x y v u Q I rx ry h
  obtain ⟨c, n, rfl, rfl, h0, h1, q⟩ := h
  obtain ⟨t, rfl⟩ := rx
  obtain ⟨t', rfl⟩ := ry
  have el : (⟨#[c]⟩ : Str).length = 1 := rfl
  refine P.mul_str (by
      have a1 : ¬ n < -(2 ^ 63 : Int) := by omega
      have a2 : ¬ n ≥ 2 ^ 63 := by omega
      rw [decide_eq_false a1, decide_eq_false a2]; rfl) (fun g1 _ g3 => ?_) (fun g1 _ => ?_) ?_
  · rw [el] at g3
    have : (1 : Int) ≤ (2 ^ 63 - 1) / n := by
      rw [Int.le_ediv_iff_mul_le (by omega)]; omega
    have g4 : ((1 : Nat) : Int) > (2 ^ 63 - 1) / n := g3
    omega
  · rw [el]
    refine decide_eq_false ?_
    have : n.toNat ≤ 1000 := by omega
    intro q2
    have q3 : 1 * n.toNat > 1000 := Nat.lt_of_lt_of_le (by decide +kernel) (Nat.le_of_lt q2)
    omega
  · by_cases g1 : n < 1
    · rw [if_pos g1]
      have e : repS c n = Str.empty := by
        unfold repS
        rw [show n.toNat = 0 by omega]; rfl
      rw [e] at q
      exact ⟨by decide, ⟨.str Str.empty, H, I.tok _, ⟨_, rfl⟩, q⟩⟩
    · rw [if_neg g1]
      by_cases g2 : n = 1
      · subst g2
        rw [if_pos (by rfl)]
        exact ⟨.str ⟨#[c]⟩, H, I, ⟨_, rfl⟩, q⟩
      · rw [if_neg (by
          rw [el]
          have : (n == 1) = false := by rw [beq_eq_false_iff_ne]; exact g2
          rw [this]; decide)]
        have e : (⟨(List.replicate n.toNat (⟨#[c]⟩ : Str).cps).foldl (· ++ ·) #[]⟩ : Str) = repS c n := by
          unfold repS
          rw [show (⟨#[c]⟩ : Str).cps = #[c] from rfl, rep_fold]
          simp
        rw [e]
        refine ⟨?_, ⟨.str _, H, I.tok _, ⟨_, rfl⟩, q⟩⟩
        show (repS c n).length ≤ sizeLine
        show (Array.replicate n.toNat c).size ≤ sizeLine
        rw [Array.size_replicate]
        exact Nat.le_trans (show n.toNat ≤ 1000 by omega) (by decide +kernel)
end LX

namespace LX
open PySem PySem.Spec PyProof.Rows L2
/-! ### t[::-1] of a tuple -/
theorem applied_rev {prog : Program} {w : World} {A : Around} {E : Value → Shared → Prop} {s : Shared} {sl : Addr} {vl vu vs : Value} {n : Nat} {Q : Int × Int × Nat → Shared → Prop} (hs : s.heap.IsSliceOf sl vl vu vs) (pl : IsPart vl none) (pu : IsPart vu none) (ps : IsPart vs (some (-1)))
    (h : Q ((n : Int) - 1, -1, n) s) : wpAny (model prog w) A (Builtin.Slice.sliceApplied (.ref sl) (pure (n : Int))) Q E s := by
  obtain ⟨os, hos, hcs, hds⟩ := id hs
  unfold Builtin.Slice.sliceApplied Builtin.Slice.sliceFields
  refine wpAny_bind (wpAny_bind (wpAny_field hos hds (x := vl) rfl (wpAny_bind (wpAny_field hos hds (x := vu) rfl (wpAny_bind (wpAny_field hos hds (x := vs) rfl (wpAny_pure ?_)))))))
  refine wpAny_bind (HT.slicePart_ ps ?_)
  show wpAny _ _ (if ((-1 : Int) == 0) = true then _ else _) _ _ s
  rw [if_neg (by decide)]
  refine wpAny_bind (HT.slicePart_ pl (wpAny_bind (HT.slicePart_ pu (wpAny_bind (wpAny_pure ?_)))))
  show wpAny _ _ (match Builtin.Slice.sliceAdjust none none (-1) (n : Int) with | (lo, hi) => pure (lo, (-1 : Int), Builtin.Slice.slicePlaces lo hi (-1))) _ _ s
  have e : Builtin.Slice.sliceAdjust none none (-1) (n : Int) = ((n : Int) - 1, -1) := by
    unfold Builtin.Slice.sliceAdjust
    simp
  rw [e]
  have e2 : Builtin.Slice.slicePlaces ((n : Int) - 1) (-1) (-1) = n := by
    unfold Builtin.Slice.slicePlaces
    by_cases z : n = 0
    · subst z; rfl
    · rw [if_neg (by decide), if_pos (by omega), show (n : Int) - 1 - -1 - 1 = (n : Int) - 1 by omega, show (- -1 : Int) = 1 by decide, Int.ediv_one]
      omega
  show wpAny _ _ (pure ((n : Int) - 1, (-1 : Int), Builtin.Slice.slicePlaces ((n : Int) - 1) (-1) (-1))) _ _ s
  rw [e2]
  exact wpAny_pure h
theorem fmc {α β : Type} {f g : α → Option β} : ∀ {l : List α}, (∀ a ∈ l, f a = g a) → l.filterMap f = l.filterMap g
  | [], _ => rfl
  | a :: r, h => by rw [List.filterMap_cons, List.filterMap_cons, h a List.mem_cons_self, fmc fun b hb => h b (List.mem_cons_of_mem _ hb)]
theorem pick_rev (xs : Array Value) : ((List.range xs.size).filterMap fun (m : Nat) => xs[((xs.size : Int) - 1 + (m : Int) * (-1)).toNat]?).toArray = xs.toList.reverse.toArray := by
  have e := PySem.W.krv_pick xs
  unfold slicePick at e
  rw [PySem.W.krv_bounds] at e
  rw [← e]
  show _ = ((sliceRange ((xs.size : Int) - 1) (-1) (-1)).filterMap (xs[·]?)).toArray
  rw [PySem.W.krv_sliceRange, List.filterMap_map]
  congr 1
  refine fmc fun m hm => ?_
  have := List.mem_range.mp hm
  show _ = xs[xs.size - 1 - m]?
  congr 1
  omega
theorem getItem_tuple_rev {prog : Program} {w : World} {A : Around} {E : Value → Shared → Prop} {s : Shared} {t sl : Addr} {items : Array Value} {vl vu vs : Value} {Q : Value → Shared → Prop} (ht : IsTup s.heap t items) (hs : s.heap.IsSliceOf sl vl vu vs) (pl : IsPart vl none) (pu : IsPart vu none) (ps : IsPart vs (some (-1)))
    (h : Q (.ref s.heap.objs.size) { s with heap := s.heap.push { cls := .type "tuple", data := .seq items.toList.reverse.toArray } })
    (hsz : items.size ≤ sizeLine) : wpAny (model prog w) A (getItem (.ref t) (.ref sl)) Q E s := by
  have htake : sizeOk (.seq items.toList.reverse.toArray) := by
    show items.toList.reverse.toArray.size ≤ sizeLine
    rw [List.size_toArray, List.length_reverse, Array.length_toList]
    exact hsz
  obtain ⟨os, hos, hcs, hds⟩ := id hs
  have hTs : s.TypeIs (.ref sl) "slice" := ⟨os, hos, hcs⟩
  unfold getItem
  try with_reducible refine wpAny_holding ?_
  first | refine wpAny_bind (wpAny_pure ?_) | skip
  refine wpAny_bind (wpAny_sequenceKey ht.typeIs (by decide) ?_)
  refine wpAny_bind (wpAny_callSpecial?_slot (name := Str.ofString "__getitem__") ht.typeIs PyProof.Rows.slot_tuple_getitem
    (wpAny_call_entry PyProof.Rows.slot_tuple_getitem ht.typeIs PyProof.Rows.entry_tuple_getitem ?_ (PyProof.Rows.args_tuple_getitem _ _)))
  show wpAny _ _ (Builtin.Tuple.tupleItemsOf (.ref t) >>= _) _ _ s
  refine wpAny_bind (tupleItemsOf_ ht ?_)
  refine wpAny_bind (wpAny_typeOf hTs ?_)
  rw [if_pos (by decide)]
  refine wpAny_bind (applied_rev hs pl pu ps ?_)
  have hno : ¬ ((((items.size : Int) - 1) == 0 && (-1 : Int) == 1 && items.size == items.size) = true) := by
    intro q
    rw [Bool.and_eq_true, Bool.and_eq_true] at q
    exact absurd q.1.2 (by decide)
  show wpAny _ _ (if (((items.size : Int) - 1) == 0 && (-1 : Int) == 1 && items.size == items.size) = true then _ else _) _ _ s
  rw [if_neg hno, pick_rev]
  first
    | exact wpAny_bind (m := Builtin.Tuple.tupleExact _) (wpAny_newObj_type (wpAny_pure ⟨_, rfl, wpAny_pure h⟩) htake)
    | exact wpAny_bind (m := Builtin.Tuple.tupleExact _) (wpAny_newObj_type (wpAny_bind (wpAny_pure (wpAny_pure ⟨_, rfl, wpAny_pure h⟩))) htake)
    | exact wpAny_bind (wpAny_bind (m := Builtin.Tuple.tupleExact _) (wpAny_newObj_type (wpAny_pure (wpAny_pure ⟨_, rfl, wpAny_pure h⟩)) htake))
    | exact wpAny_bind (wpAny_bind (m := Builtin.Tuple.tupleExact _) (wpAny_newObj_type (wpAny_pure ⟨_, rfl, wpAny_pure h⟩) htake))
def tRevT (K : PySem.W.Frag) (te : TE) : TE := fun σ H Q => te σ H fun x H1 => ∃ a xs, x = .ref a ∧ SqT K H1 a xs ∧ ∀ p, H1 p = none → Q (.ref p) (upd H1 p (.tup xs.reverse))
theorem pe_revT {X : Cx} {e : Expr} {te : TE} {k : Nat} {p1 p2 p3 pos : Pos} (he : PE X e te) : PE X (.Subscript e (.Slice none none (some (.UnaryOp .USub (.Constant (.int 1) k p1) p2)) p3) pos) (tRevT X.K te) := by
  refine ⟨fun pins s σ H Q I h => ?_⟩
  refine Subscript_ (thn (he.run pins s σ H _ I h) fun v s1 ⟨x, H1, I1, r1, q1⟩ => ?_)
  obtain ⟨a, xs, ex, hx, q⟩ := q1
  subst ex
  cases r1
  have hst : PO X (some (.UnaryOp .USub (.Constant (.int 1) k p1) p2)) (tPart (tUn (rU fun i => .int (-i)) (tC (.int 1)))) := po_some (pe_un un_neg pe_int)
  refine wpAny_Slice (thn (po_none.run pins s1 σ H1 (fun o H2 => o = none ∧ H2 = H1) I1 ⟨rfl, rfl⟩) fun vl s2 ⟨l, H2, I2, pl, el, e2⟩ => ?_)
  subst el e2
  refine thn (po_none.run pins s2 σ H2 (fun o H3 => o = none ∧ H3 = H2) I2 ⟨rfl, rfl⟩) fun vu s3 ⟨u, H3, I3, pu, eu, e3⟩ => ?_
  subst eu e3
  refine thn (hst.run pins s3 σ H3 (fun o H4 => o = some (-1) ∧ H4 = H3) I3 ⟨1, rfl, -1, rfl, rfl, rfl⟩) fun vs s4 ⟨o, H4, I4, ps, eo, e4⟩ => ?_
  subst eo e4
  have I5 : Inv X pins σ H4 { s4 with heap := s4.heap.push { cls := .type "slice", data := .fields #[vl, vu, vs] } } := I4.kept (t' := s4.toks) fun b ob q => Heap.get?_push_of_some _ q
  obtain ⟨its, r, ht, hz⟩ := I5.tuple hx
  have hlen := r.length
  show wpAny (model X.prog X.w) X.A (subscriptTail e (.Slice none none (some (.UnaryOp .USub (.Constant (.int 1) k p1) p2)) p3) (.ref a) (.ref s4.heap.objs.size)) (EP X pins σ Q) X.xe { s4 with heap := s4.heap.push { cls := .type "slice", data := .fields #[vl, vu, vs] } }
  refine tail_any (ops := [.ref a, .ref s4.heap.objs.size]) ht.typeIs (PyProof.Rows.slot_tuple_getitem.lookup) ?_ (by with_unfolding_all rfl)
  refine getItem_tuple_rev ht (Heap.IsSliceOf.new _ vl vu vs) pl pu ps ?_ (by rw [List.size_toArray]; omega)
  refine ⟨.ref _, _, I5.laid (t' := s4.toks) (o := .tup xs.reverse) (fun b ob q => Heap.get?_push_of_some _ q) (Nat.le_refl _) ?_, rfl, q _ (I5.hok.fresh (Nat.le_refl _))⟩
  exact ⟨by rw [List.length_reverse]; exact hz, _, r.reverse, IsTup.new _ _⟩
/-! ### max(xs, default=d) of a list of ints -/
def rMaxDef (K : PySem.W.Frag) : List V → List V → Hp → VK → Prop := fun vs zs H Q => ∃ (a : Addr) (ns : List Int) (d : V), vs = [.ref a] ∧ zs = [d] ∧ SqL K H a (ns.map V.int) ∧ (ns = [] → Q d H) ∧ (ns ≠ [] → ∀ m, m ∈ ns → (∀ y ∈ ns, y ≤ m) → Q (.int m) H)
theorem cr_maxDef {X : Cx} (hc : X.calm = true) : CallRK X (.builtin "max") [Str.ofString "default"] (rMaxDef X.K) := by
  intro pins s σ H vs zs us ws Q I r rz h
  obtain ⟨a, ns, d, rfl, rfl, hs, q0, q1⟩ := h
  obtain rfl := Vals.ref1 r
  obtain ⟨w1, rfl, e1⟩ := vals1 rz
  obtain ⟨its, rv, hl, _⟩ := I.list hs
  have hi := rv.ints
  have hh : X.A.handled = none := I.ok.hd hc
  obtain ⟨xs, e⟩ := hi.allInts.items
  have hn : numsOf (intItems xs).toList = ns := by rw [← e]; exact hi.numsOf
  rw [nums_intItems] at hn
  have hl2 := hl.isList
  rw [e] at hl2
  refine PySem.call_max_walkD (PySem.W.iter_listW (A := X.A.in1) hh hl2 fun s₂ e2 W st hfp hw hk => ?_)
  refine ⟨_, _, _, _, _, _, _, s.heap, (fun i j => decide (numAt xs i > numAt xs j)), rfl, W, st, hfp, hw, hk, fun hz s' m => ?_, fun hp => ⟨fun i j vi vj s3 Q3 E3 _ hi hj h3 => CmpOf.ints_gt (numAt xs) (fun _ _ => intItems_at) i j vi vj s3 Q3 E3 hi hj h3, fun v s' hP m => ?_⟩⟩
  · obtain ⟨h', tk, rfl, hk'⟩ := PySem.W.moved_old e2 rfl m
    refine ⟨d, H, I.kept hk', e1, q0 ?_⟩
    rw [← hn]
    have : xs.size = 0 := by simpa [intItems] using hz
    rw [Array.eq_empty_of_size_eq_zero this]; rfl
  · obtain ⟨h', tk, rfl, hk'⟩ := PySem.W.moved_old e2 rfl m
    have hp2 : 0 < xs.size := by simpa [intItems] using hp
    have hsz : (intItems xs).size = xs.size := by simp [intItems]
    rw [hsz] at hP
    obtain ⟨t, rfl⟩ := intItems_at hP
    obtain ⟨h1, h2⟩ := argBest_gt (numAt xs) (xs.size - 1)
    refine ⟨.int _, H, I.kept hk', ⟨_, rfl⟩, q1 ?_ _ ?_ fun y hy => ?_⟩
    · intro z
      rw [← hn] at z
      have := congrArg List.length z
      rw [List.length_map, Array.length_toList, List.length_nil] at this
      omega
    · rw [← hn, numAt_eq]; exact PySem.getD_mem (by rw [List.length_map, Array.length_toList]; omega)
    · rw [← hn] at hy
      obtain ⟨j, hj, rfl⟩ := mem_getD hy
      rw [List.length_map, Array.length_toList] at hj
      rw [← numAt_eq]; exact h2 j (by omega)
end LX

namespace LX
open PySem PySem.Spec PyProof.Rows L2
/-! ### list(zip(xs, ys)) of two lists -/
theorem nolen_zip : typeLookup (.type "zip") "__len__" = pure none := by rw [typeLookup_type, builtinLookup_eq_fast]; kernel_rfl
theorem nohint_zip : typeLookup (.type "zip") "__length_hint__" = pure none := by rw [typeLookup_type, builtinLookup_eq_fast]; kernel_rfl
def ZSt (z TI TO i1 i2 l1 l2 S : Addr) (h : Heap) (j : Nat) : Prop := IsPair h TI (.ref i1) (.ref i2) ∧ h.IsListIter i1 l1 j ∧ h.IsListIter i2 l2 j ∧
  ((IsZip h z TI TO .none ∧ ∃ a b, IsPair h TO a b) ∨ ∃ T f oT, IsZipHeld h z TI TO T f ∧ h.get? T = some oT ∧ T ≠ z ∧ T ≠ i1 ∧ T ≠ i2 ∧ T ≠ S)
theorem ZSt.at {z TI TO i1 i2 l1 l2 S : Addr} {h h' : Heap} {j : Nat} (x : ZSt z TI TO i1 i2 l1 l2 S h j) (hS : S ≠ z ∧ S ≠ TI ∧ S ≠ TO ∧ S ≠ i1 ∧ S ≠ i2) (k : ∀ b o, b ≠ S → h.get? b = some o → h'.get? b = some o) : ZSt z TI TO i1 i2 l1 l2 S h' j := by
  obtain ⟨a, b, c, d⟩ := x
  refine ⟨k _ _ hS.2.1.symm a, b.at fun o e => k _ o hS.2.2.2.1.symm e, c.at fun o e => k _ o hS.2.2.2.2.symm e, ?_⟩
  rcases d with ⟨d, u, v, e⟩ | ⟨T, f, oT, d, e, n1, n2, n3, n4⟩
  · exact .inl ⟨k _ _ hS.1.symm d, u, v, k _ _ hS.2.2.1.symm e⟩
  · exact .inr ⟨T, f, oT, k _ _ hS.1.symm d, k _ _ n4 e, n1, n2, n3, n4⟩
/-- the tuples made so far -/
def Zd (H1 H : Hp) (xs ys : List V) (Ts : List Addr) : Prop := ∀ (i : Nat) T x y, Ts[i]? = some T → xs[i]? = some x → ys[i]? = some y → H1 T = none ∧ H T = some (.tup [x, y])
section
variable {X : Cx} {pins : List (Addr × Obj)} {σ : L2.St} {z TI TO i1 i2 l1 l2 S : Addr} {H1 : Hp} {xs ys : List V} {A : Around} {R : Result → Shared → Prop} {res : Value}
theorem zip_loop (hh : A.handled = none) (D : ZipApart z TI TO i1 i2 l1 l2) (hS : S ≠ z ∧ S ≠ TI ∧ S ≠ TO ∧ S ≠ i1 ∧ S ≠ i2) (hl : xs.length = ys.length) (hz : xs.length ≤ 1000) (q1 : SqL X.K H1 l1 xs) (q2 : SqL X.K H1 l2 ys) (hS0 : H1 S = none) :
    ∀ (k j : Nat) (s : Shared) (H : Hp) (Ts : List Addr), xs.length - j = k → j ≤ xs.length → Inv X pins σ H s → (∀ b ∈ [z, TI, TO, i1, i2], FpOk X pins H b) → ZSt z TI TO i1 i2 l1 l2 S s.heap j → (∀ b ∈ [z, TI, TO, i1, i2], b < s.heap.objs.size) →
    Same H1 H → H S = some (.lst (Ts.map V.ref)) → Ts.length = j → Zd H1 H xs ys Ts →
    (∀ (s' : Shared) (H' : Hp) (Us : List Addr), Inv X pins σ H' s' → Same H1 H' → H' S = some (.lst (Us.map V.ref)) → Us.length = xs.length → Zd H1 H' xs ys Us → R (.ok (.ret res)) s') →
    codeAny (model X.prog X.w) A (.builtin "list.extend.loop" ⟨[.ref S, .ref z, res], []⟩) R s := by
  intro k
  induction k with
  | zero =>
    intro j s H Ts hk hj I hf st lt sm hHS hT zd fin
    have hj2 : j = xs.length := by omega
    obtain ⟨its, rv, p1, _⟩ := I.list (sm.seq q1)
    obtain ⟨its2, rv2, p2, _⟩ := I.list (sm.seq q2)
    have e1 := rv.length
    have hend : its.toArray[j]? = none ∨ its2.toArray[j]? = none := .inl (Array.getElem?_eq_none (by rw [List.size_toArray]; omega))
    refine codeAny_builtin F.entry_extend_loop ?_
    rw [Around.under_plainId F.plain_extend_loop _]
    show wpAny _ A.in1 (pyNext (.ref z) >>= _) _ _ s
    obtain ⟨s1, s2, s3, s4⟩ := st
    rcases s4 with ⟨g1, a, b, g2⟩ | ⟨T, f, oT, g1, g2, n1, n2, n3, n4⟩
    · refine wpAny_bind (wpAny_pyNext_zip_end (A := A.in1) hh D g1 s1 g2 s2 s3 p1.isList p2.isList hend fun h' hk' => ?_)
      refine wpAny_pure (fin _ H Ts (I.turnedL (ch := [z, TI, TO, i1, i2]) (t' := s.toks) (fun c o nb q => hk' c o (fun e => nb (by simp [e])) (fun e => nb (by simp [e])) (fun e => nb (by simp [e])) (fun e => nb (by simp [e])) q) hf) sm hHS (by omega) zd)
    · refine wpAny_bind (wpAny_pyNext_zip_end_held (A := A.in1) hh D g1 g2 s1 s2 s3 p1.isList p2.isList hend fun h' hk' => ?_)
      refine wpAny_pure (fin _ H Ts (I.turnedL (ch := [z, TI, TO, i1, i2]) (t' := s.toks) (fun c o nb q => hk' c o (fun e => nb (by simp [e])) (fun e => nb (by simp [e])) (fun e => nb (by simp [e])) q) hf) sm hHS (by omega) zd)
  | succ k ih =>
    intro j s H Ts hk hj I hf st lt sm hHS hT zd fin
    have hlt : j < xs.length := by omega
    obtain ⟨its, rv, p1, _⟩ := I.list (sm.seq q1)
    obtain ⟨its2, rv2, p2, _⟩ := I.list (sm.seq q2)
    have ex := List.getElem?_eq_getElem hlt
    have ey := List.getElem?_eq_getElem (l := ys) (i := j) (by omega)
    generalize xs[j] = x at ex
    generalize ys[j]'(by omega) = y at ey
    obtain ⟨u, hu, ru⟩ := rv.get ex
    obtain ⟨u2, hu2, ru2⟩ := rv2.get ey
    have hu' : its.toArray[j]? = some u := by simpa using hu
    have hu2' : its2.toArray[j]? = some u2 := by simpa using hu2
    refine codeAny_builtin F.entry_extend_loop ?_
    rw [Around.under_plainId F.plain_extend_loop _]
    show wpAny _ A.in1 (pyNext (.ref z) >>= _) _ _ s
    have hTn : H s.heap.objs.size = none := I.hok.fresh (Nat.le_refl _)
    have tail : ∀ (h' : Heap), IsPair h' s.heap.objs.size u u2 → h'.objs.size = s.heap.objs.size + 1 → ZSt z TI TO i1 i2 l1 l2 S h' (j + 1) → (∀ c o, c ∉ [z, TI, TO, i1, i2] → s.heap.get? c = some o → h'.get? c = some o) →
        wpAny (model X.prog X.w) A.in1 (do let x ← pure (some (Value.ref s.heap.objs.size)); match x with
          | none => ret res
          | some x => do Builtin.List.listUpdate (.ref S) (·.push x); again (.builtin "list.extend.loop" ⟨[.ref S, .ref z, res], []⟩)) (fun fin s' => match fin with | .done f => R (.ok f) s' | .again c' => c'.quiet = true ∧ codeAny (model X.prog X.w) A c' R s') (fun e s' => R (.error e) s') { s with heap := h' } := by
      intro h' pr sz st' kp
      have ob : ObjOk X.prog X.w (upd H s.heap.objs.size (.tup [x, y])) h' s.heap.objs.size (.tup [x, y]) :=
        ⟨by show 2 ≤ sizeLine; decide, [u, u2], .cons ru (.cons ru2 .nil), ⟨_, pr, rfl, _, rfl⟩⟩
      have J : Inv X pins σ (upd H s.heap.objs.size (.tup [x, y])) { s with heap := h', toks := s.toks } := I.turnedNew (ch := [z, TI, TO, i1, i2]) kp hf (Nat.le_refl _) ob
      have hST : S ≠ s.heap.objs.size := ne_of_none hHS hTn
      have hH2 : (upd H s.heap.objs.size (.tup [x, y])) S = some (.lst (Ts.map V.ref)) := by rw [upd_ne hST]; exact hHS
      obtain ⟨z0, itS, n, rS, lS, eS⟩ := J.lstM hH2
      rw [List.length_map] at lS
      have J2 := J.lset (its' := itS ++ [.ref s.heap.objs.size]) (ys := Ts.map V.ref ++ [V.ref s.heap.objs.size]) (f := fun a => a.push (.ref s.heap.objs.size)) (t' := s.toks) hH2 eS (by simp) (rS.append (.cons (show L2.RelV (V.ref s.heap.objs.size) (.ref s.heap.objs.size) from rfl) .nil)) (by
        rw [List.length_append, List.length_map]
        exact Nat.le_of_lt (small1000 (by show Ts.length + 1 ≤ 1000; omega)))
      refine wpAny_bind (wpAny_pure ?_)
      show wpAny _ A.in1 (updateSeq S (·.push (.ref s.heap.objs.size)) >>= _) _ _ _
      refine wpAny_bind (wpAny_updateSeq eS rfl (wpAny_pure ⟨plainId_quiet F.plain_extend_loop _, ?_⟩) (by rw [List.size_toArray]; exact Nat.le_of_lt (small1000 (by omega))) (by
        rw [Array.size_push, List.size_toArray]
        exact Nat.le_succ_of_le (Nat.le_of_lt (small1000 (by omega)))))
      refine ih (j + 1) _ _ (Ts ++ [s.heap.objs.size]) (by omega) hlt J2 (fun b hb => ?_) (st'.at hS fun b o hb e => (Heap.get?_update_other _ _ (Ne.symm hb)).trans e) (fun b hb => ?_) ?_ (by rw [upd_same, List.map_append]; rfl) (by rw [List.length_append, hT]; rfl) ?_ fin
      · have q := hf b hb
        refine ⟨?_, q.2⟩
        have nb : b ≠ S := fun e => by
          have q0 := q.1
          rw [e, hHS] at q0; cases q0
        rw [upd_ne nb, upd_ne (Nat.ne_of_lt (lt b hb))]
        exact q.1
      · have l0 := lt b hb
        show b < (h'.update S _).objs.size
        rw [Heap.size_update, sz]
        exact Nat.lt_succ_of_lt l0
      · intro b o hb
        rw [upd_ne (ne_of_none hb hS0), upd_ne (ne_of_none (sm _ _ hb) hTn)]
        exact sm _ _ hb
      · intro i T a b e1 e2 e3
        by_cases c : i < Ts.length
        · rw [List.getElem?_append_left c] at e1
          obtain ⟨w1, w2⟩ := zd i T a b e1 e2 e3
          have nT : T ≠ S := fun e => by rw [e, hHS] at w2; cases w2
          exact ⟨w1, by rw [upd_ne nT, upd_ne (ne_of_none w2 hTn)]; exact w2⟩
        · rw [List.getElem?_append_right (by omega)] at e1
          cases w : i - Ts.length with
          | zero =>
            rw [w] at e1
            cases e1
            have ij : i = j := by
              have c2 : Ts.length ≤ i := Nat.le_of_not_lt c
              have w2 : i - Ts.length = 0 := w
              omega
            subst ij
            rw [ex] at e2
            rw [ey] at e3
            cases e2; cases e3
            exact ⟨sm.free hTn, by rw [upd_ne hST.symm, upd_same]⟩
          | succ m => rw [w] at e1; simp at e1
    obtain ⟨s1, s2, s3, s4⟩ := st
    rcases s4 with ⟨g1, a, b, g2⟩ | ⟨T, f, oT, g1, g2, n1, n2, n3, n4⟩
    · refine wpAny_bind (wpAny_pyNext_zip_item (A := A.in1) D g1 s1 g2 s2 s3 p1.isList p2.isList hu' hu2' fun h' a1 a2 a3 a4 a5 a6 hk' => ?_)
      have n0 : s.heap.objs.size ≠ S := (ne_of_none hHS hTn).symm
      refine tail h' a5 a6 ⟨hk' _ _ D.TIz D.TITO D.TIi1 D.TIi2 s1, a3, a4, .inr ⟨_, false, _, a1, a5, Nat.ne_of_gt (lt z (by simp)), Nat.ne_of_gt (lt i1 (by simp)), Nat.ne_of_gt (lt i2 (by simp)), n0⟩⟩ fun c o nb q => hk' c o (fun e => nb (by simp [e])) (fun e => nb (by simp [e])) (fun e => nb (by simp [e])) (fun e => nb (by simp [e])) q
    · refine wpAny_bind (wpAny_pyNext_zip_item_held (A := A.in1) D g1 g2 s1 s2 s3 p1.isList p2.isList hu' hu2' fun h' a1 a3 a4 a5 a6 hk' => ?_)
      refine tail h' a5 a6 ⟨hk' _ _ D.TIz D.TIi1 D.TIi2 s1, a3, a4, .inr ⟨T, true, oT, a1, hk' _ _ n1 n2 n3 g2, n1, n2, n3, n4⟩⟩ fun c o nb q => hk' c o (fun e => nb (by simp [e])) (fun e => nb (by simp [e])) (fun e => nb (by simp [e])) q
theorem list_zip_call (hh : A.handled = none) {s : Shared} {H : Hp} {Q : Value → Shared → Prop} {E : Value → Shared → Prop} (I : Inv X pins σ H s) (D : ZipApart z TI TO i1 i2 l1 l2) (hl : xs.length = ys.length) (hz : xs.length ≤ 1000) (q1 : SqL X.K H l1 xs) (q2 : SqL X.K H l2 ys)
    (hf : ∀ b ∈ [z, TI, TO, i1, i2], FpOk X pins H b) (hZ : IsZip s.heap z TI TO .none) (hTI : IsPair s.heap TI (.ref i1) (.ref i2)) (hTO : ∃ a b, IsPair s.heap TO a b) (h1 : s.heap.IsListIter i1 l1 0) (h2 : s.heap.IsListIter i2 l2 0)
    (fin : ∀ (s' : Shared) (H' : Hp) (S : Addr) (Us : List Addr), Inv X pins σ H' s' → Same H H' → H S = none → H' S = some (.lst (Us.map V.ref)) → Us.length = xs.length → Zd H H' xs ys Us → Q (.ref S) s') :
    wpAny (model X.prog X.w) A (call (.type "list") [.ref z]) Q E s := by
  refine callType_codes (Q₁ := fun obj s₁ => obj = .ref s.heap.objs.size ∧ s₁ = { s with heap := s.heap.push { cls := .type "list", data := .seq #[] } }) PySem.F.called_list (PySem.F.typeCall_list_1 _) PySem.F.entry_list_init
    (code_list_new _ ⟨rfl, rfl⟩) fun obj s₁ h₁ => ?_
  obtain ⟨rfl, rfl⟩ := h₁
  have hS : (s.heap.push { cls := .type "list", data := .seq #[] }).get? s.heap.objs.size = some { cls := .type "list", data := .seq #[] } := Heap.get?_push_size _ rfl
  refine ⟨⟨_, hS, rfl⟩, PySem.F.args_list_init_2 _ _, ?_⟩
  have sz0 : (s.heap.push { cls := .type "list", data := .seq #[] }).objs.size = s.heap.objs.size + 1 := Heap.size_push ..
  have hSn : H s.heap.objs.size = none := I.hok.fresh (Nat.le_refl _)
  have ltz : z < s.heap.objs.size := Heap.lt_size hZ
  have lTI : TI < s.heap.objs.size := Heap.lt_size hTI
  have lTO : TO < s.heap.objs.size := let ⟨_, _, q⟩ := hTO; Heap.lt_size q
  have li1 : i1 < s.heap.objs.size := let ⟨_, q, _⟩ := h1; Heap.lt_size q
  have li2 : i2 < s.heap.objs.size := let ⟨_, q, _⟩ := h2; Heap.lt_size q
  have I1 : Inv X pins σ (upd H s.heap.objs.size (.lst [])) { s with heap := s.heap.push { cls := .type "list", data := .seq #[] }, toks := s.toks } := I.lnew (its := []) .nil (by decide)
  have hHS : (upd H s.heap.objs.size (.lst [])) s.heap.objs.size = some (.lst []) := upd_same
  show wpAny _ _ (do let old ← Builtin.List.listItems (.ref s.heap.objs.size); Builtin.List.listUpdate (.ref s.heap.objs.size) (fun _ => #[]); letGo old.toList.reverse; Builtin.List.listExtendWith (.ref s.heap.objs.size) (.ref z) .none) _ _ _
  refine wpAny_bind ?_
  unfold Builtin.List.listItems
  refine wpAny_bind (wpAny_seqItems hS rfl (wpAny_pure ?_))
  show wpAny _ _ (updateSeq s.heap.objs.size (fun _ => #[]) >>= fun _ => letGo (#[] : Array Value).toList.reverse >>= fun _ => Builtin.List.listExtendWith (.ref s.heap.objs.size) (.ref z) .none) _ _ _
  refine wpAny_bind (wpAny_updateSeq hS rfl ?_)
  have hS₂ := Heap.get?_update_self (Obj.mapSeq (fun _ => (#[] : Array Value))) hS rfl
  have I2 := I1.lset (its' := []) (ys := []) (f := fun _ => #[]) (t' := s.toks) hHS hS rfl .nil (by decide)
  rw [upd_upd] at I2
  have k2 : ∀ b o, b ≠ s.heap.objs.size → s.heap.get? b = some o → ((s.heap.push { cls := .type "list", data := .seq #[] }).update s.heap.objs.size (Obj.mapSeq (fun _ => (#[] : Array Value)))).get? b = some o := fun b o hb e => (Heap.get?_update_other _ _ (Ne.symm hb)).trans (Heap.get?_push_of_some _ e)
  have sz2 : ((s.heap.push { cls := .type "list", data := .seq #[] }).update s.heap.objs.size (Obj.mapSeq (fun _ => (#[] : Array Value)))).objs.size = s.heap.objs.size + 1 := by rw [Heap.size_update, sz0]
  generalize ((s.heap.push { cls := .type "list", data := .seq #[] }).update s.heap.objs.size (Obj.mapSeq (fun _ => (#[] : Array Value)))) = h2' at hS₂ I2 k2 sz2
  refine wpAny_bind (wpAny_letGo ?_)
  unfold Builtin.List.listExtendWith
  have hT2 : Shared.TypeIs { s with heap := h2' } (.ref z) "zip" := ⟨_, k2 _ _ (Nat.ne_of_lt ltz) hZ, rfl⟩
  refine wpAny_bind (wpAny_typeOf hT2 ?_)
  have e1 : Builtin.List.listSameRef (.ref s.heap.objs.size) (.ref z) = false := by simp [Builtin.List.listSameRef, Nat.ne_of_gt ltz]
  simp only [e1, show (Value.type "zip" == Value.type "list") = false by decide, show (Value.type "zip" == Value.type "tuple") = false by decide, Bool.or_false, Bool.false_eq_true, if_false]
  refine wpAny_bind (wpAny_pyIter_zip (k2 _ _ (Nat.ne_of_lt ltz) hZ) ?_)
  refine wpAny_bind (wpAny_holding ?_)
  unfold Builtin.List.listLengthHint
  refine wpAny_bind (wpAny_specialOf hT2 nolen_zip ?_)
  show wpAny _ _ (specialOf (Value.ref z) (Str.ofString "__length_hint__") >>= _) _ _ _
  refine wpAny_bind (wpAny_specialOf hT2 nohint_zip ?_)
  refine wpAny_pure ?_
  show wpAny _ _ (rule "list.extend.makes-room" >>= fun _ => Builtin.List.listTouch (.ref s.heap.objs.size) >>= fun _ =>
    again (.builtin "list.extend.loop" ⟨[.ref s.heap.objs.size, .ref z, .none], []⟩)) _ _ _
  refine wpAny_bind (wpAny_rule ?_)
  refine wpAny_bind ?_
  show wpAny _ _ (updateSeq s.heap.objs.size (·.push .none) >>= fun _ => updateSeq s.heap.objs.size (·.pop)) _ _ _
  refine wpAny_bind (wpAny_updateSeq hS₂ rfl ?_)
  have hS₃ := Heap.get?_update_self (Obj.mapSeq (·.push Value.none)) hS₂ rfl
  refine wpAny_updateSeq hS₃ rfl ?_
  have I4 := I2.lset (its' := []) (ys := []) (f := fun a => (a.push Value.none).pop) (t' := s.toks) upd_same hS₂ rfl .nil (by decide)
  have eqU : (h2'.update s.heap.objs.size (Obj.mapSeq (·.push Value.none))).update s.heap.objs.size (Obj.mapSeq (·.pop)) = (h2'.update s.heap.objs.size (Obj.mapSeq (·.push Value.none))).update s.heap.objs.size (Obj.mapSeq (·.pop)) := rfl
  have J4 : Inv X pins σ (upd H s.heap.objs.size (.lst [])) { s with heap := (h2'.update s.heap.objs.size (Obj.mapSeq (·.push Value.none))).update s.heap.objs.size (Obj.mapSeq (·.pop)), toks := s.toks } := by
    have z := I2.write (x := s.heap.objs.size) (e := s.heap.objs.size) (o := .lst []) (h' := (h2'.update s.heap.objs.size (Obj.mapSeq (·.push Value.none))).update s.heap.objs.size (Obj.mapSeq (·.pop))) (t' := s.toks) (by rw [upd_same]; exact trivial) (.inl rfl)
      (fun b u hb hu => (Heap.get?_update_other _ _ (Ne.symm hb)).trans ((Heap.get?_update_other _ _ (Ne.symm hb)).trans hu)) ⟨_, Heap.get?_update_self _ hS₃ rfl⟩ ⟨by decide, [], _, .nil, Heap.get?_update_self _ hS₃ rfl⟩
    rw [upd_upd] at z
    exact z
  have sm : Same H (upd H s.heap.objs.size (.lst [])) := fun b x e => by rw [upd_ne (ne_of_none e hSn)]; exact e
  have k4 : ∀ b o, b ≠ s.heap.objs.size → s.heap.get? b = some o → ((h2'.update s.heap.objs.size (Obj.mapSeq (·.push Value.none))).update s.heap.objs.size (Obj.mapSeq (·.pop))).get? b = some o := fun b o hb e => (Heap.get?_update_other _ _ (Ne.symm hb)).trans ((Heap.get?_update_other _ _ (Ne.symm hb)).trans (k2 b o hb e))
  refine wpAny_pure ⟨plainId_quiet F.plain_extend_loop _, zip_loop (A := A.in1) (S := s.heap.objs.size) hh D ⟨Nat.ne_of_gt ltz, Nat.ne_of_gt lTI, Nat.ne_of_gt lTO, Nat.ne_of_gt li1, Nat.ne_of_gt li2⟩ hl hz q1 q2 hSn _ 0 _ _ [] rfl (Nat.zero_le _) J4 (fun b hb => ?_) ?_ (fun b hb => ?_) sm upd_same rfl (fun i T x y e => by simp at e) fun s' H' Us J sm2 hU lU zd => ?_⟩
  · have q := hf b hb
    refine ⟨?_, q.2⟩
    have nb : b ≠ s.heap.objs.size := by
      simp only [List.mem_cons, List.not_mem_nil, or_false] at hb
      rcases hb with rfl | rfl | rfl | rfl | rfl
      · exact Nat.ne_of_lt ltz
      · exact Nat.ne_of_lt lTI
      · exact Nat.ne_of_lt lTO
      · exact Nat.ne_of_lt li1
      · exact Nat.ne_of_lt li2
    rw [upd_ne nb]
    exact q.1
  · obtain ⟨a, b, hTO⟩ := hTO
    exact ⟨k4 _ _ (Nat.ne_of_lt lTI) hTI, h1.at fun o e => k4 _ o (Nat.ne_of_lt li1) e, h2.at fun o e => k4 _ o (Nat.ne_of_lt li2) e, .inl ⟨k4 _ _ (Nat.ne_of_lt ltz) hZ, a, b, k4 _ _ (Nat.ne_of_lt lTO) hTO⟩⟩
  · have lt2 : b < s.heap.objs.size := by
      simp only [List.mem_cons, List.not_mem_nil, or_false] at hb
      rcases hb with rfl | rfl | rfl | rfl | rfl <;> assumption
    show b < ((h2'.update s.heap.objs.size (Obj.mapSeq (·.push Value.none))).update s.heap.objs.size (Obj.mapSeq (·.pop))).objs.size
    rw [Heap.size_update, Heap.size_update, sz2]
    exact Nat.lt_succ_of_lt lt2
  · exact ⟨rfl, fin s' H' _ Us J sm2 hSn hU lU zd⟩
end
/-- what list(zip(e, f)) asks: two lists of one length; behind it a new list of new pairs -/
def tListZip (K : PySem.W.Frag) (ta : TA) : TE := fun σ H Q => ta σ H fun vs H1 => ∃ (a b : Addr) (xs ys : List V), vs = [.ref a, .ref b] ∧ SqL K H1 a xs ∧ SqL K H1 b ys ∧ xs.length = ys.length ∧ xs.length ≤ 1000 ∧
  ∀ (H2 : Hp) (p : Addr) (Us : List Addr), Same H1 H2 → H1 p = none → H2 p = some (.lst (Us.map V.ref)) → Us.length = xs.length → Zd H1 H2 xs ys Us → Q (.ref p) H2
theorem pe_listZip {X : Cx} {e e2 : Expr} {ta : TA} {p p2 pos pos2 : Pos} (hc : X.calm = true) (hg : Gl X "list") (hm : X.mg "list" = none) (hg2 : Gl X "zip") (hm2 : X.mg "zip" = none) (ha : PA X [e, e2] ta)
    (hs : starEach [e, e2] X.env = (false, eval e X.env) :: starEach [e2] X.env := by rfl) (hpl : (backTo pos2 (starEach [e2] X.env)).any (·.1) = false := by rfl)
    (na : starEach [.Call (.Name "zip" p2) [e, e2] [] pos2] X.env = (false, eval (.Call (.Name "zip" p2) [e, e2] [] pos2) X.env) :: starEach [] X.env := by rfl) :
    PE X (.Call (.Name "list" p) [.Call (.Name "zip" p2) [e, e2] [] pos2] [] pos) (tListZip X.K ta) := by
  refine ⟨fun pins s σ H Q I want => ?_⟩
  refine Call_ (ld_blt I hg hm boot_list (PyProof.Rows.callWith_type1 (args_cons (Q := fun us s1 => wpAny (model X.prog X.w) X.A (call (.type "list") us) (EP X pins σ Q) X.xe s1) ?_ na) na))
  refine Call_ (ld_blt I hg2 hm2 PyProof.Rows.boot_zip (PyProof.Rows.callWith_type1 (thn (ha.run pos2 pins s σ H _ I want) ?_) hs hpl))
  rintro us s1 ⟨vs, H1, J, rel, a, b, xs, ys, rfl, qx, qy, hl, hz, q⟩
  obtain ⟨u1, u2, rfl, r1, r2⟩ := vals2 rel
  cases r1
  cases r2
  obtain ⟨its, rv, p1, _⟩ := J.list qx
  obtain ⟨its2, rv2, p3, _⟩ := J.list qy
  have la : a < s1.heap.objs.size := p1.lt
  refine zip_begins2 (begins_list a its.toArray) (begins_list b its2.toArray) p1.isList p3.isList fun h' hz2 hTI hTO g1 g2 sz keep => args_nil ?_
  have J2 : Inv X pins σ H1 { s1 with heap := h' } := J.kept (t' := s1.toks) keep
  refine list_zip_call (J.ok.hd hc) J2 (PySem.W.ktu_apart s1.heap.objs.size a b la p3.lt) hl hz qx qy (fun c hc2 => ?_) hz2 hTI ⟨_, _, hTO⟩ ⟨_, g1, rfl, rfl⟩ ⟨_, g2, rfl, rfl⟩ fun s' H' S Us I' sm n0 hU lU zd => ⟨.ref S, H', I', rfl, q H' S Us sm n0 hU lU zd⟩
  have le : s1.heap.objs.size ≤ c := by
    simp only [List.mem_cons, List.not_mem_nil, or_false] at hc2
    rcases hc2 with rfl | rfl | rfl | rfl | rfl <;> omega
  exact J.fpOk le (J.hok.fresh le)
end LX

namespace LX
open PySem PySem.Spec PyProof.Rows L2
variable {X : Cx}
/-- name = {k: v for ..} on one line, the name a local -/
theorem ps_setDc {i : Nat} {y : Str} {py : Pos} {kx vx tg iter : Expr} {ifs : List Expr} {scope : Scope} {own : List (Str × Nat)} {pos spos : Pos} {wi : TI} {g : TG} {tt : TT} {tk tv : TE} (hc : X.calm = true) (hN : X.N.Nodup) (hy : X.N[i]? = some y) (hyl : X.env.scope.names.lookup y = some .local)
    (hsw : swapsWith (.DictComp kx vx [⟨tg, iter, ifs, 0⟩] scope pos) (some (.Name y py)) spos.line X.env = pure true) (hi : PI X tg iter wi) (ok : BlkOk X.N X.env.scope scope own)
    (hg : ∀ (s : Shared) (H : Hp) (C : Addr) (cl : List (Str × Addr)) (fp : List Addr), PG (X.blk s H scope (compEnvC scope cl C X.env) fp) tg g) (ht : ∀ (s : Shared) (H : Hp) (C : Addr) (cl : List (Str × Addr)) (fp : List Addr), PTs (X.blk s H scope (compEnvC scope cl C X.env) fp) ifs tt)
    (hk : ∀ (s : Shared) (H : Hp) (C : Addr) (cl : List (Str × Addr)) (fp : List Addr), PE (X.blk s H scope (compEnvC scope cl C X.env) fp) kx tk)
    (he : ∀ (s : Shared) (H : Hp) (C : Addr) (cl : List (Str × Addr)) (fp : List Addr), PE (X.blk s H scope (compEnvC scope cl C X.env) fp) vx tv) (hs : ∀ x, foldedSetIterable iter X.env x = pure x := by intro _; rfl) :
    PS X (.Assign [.Name y py] (.DictComp kx vx [⟨tg, iter, ifs, 0⟩] scope pos) spos) (tAsg (tDc wi g tt tk tv (own.map (·.2))) (gName i)) := by
  refine ⟨fun pins s σ H D I h => ?_⟩
  rw [exec_Assign_Name_used _ _ _ _ hsw]
  refine wpAny_bind (wpAny_standAt (wpAny_bind ?_))
  show wpAny _ X.A (do let _ ← comprehension (.DictComp kx vx [⟨tg, iter, ifs, 0⟩] scope pos) scope X.env (firstIterPos [⟨tg, iter, ifs, 0⟩] pos) newDict false (eval iter X.env) (some (assign (.Name y py) X.env))) _ _ s
  have h : tDc wi g tt tk tv (own.map (·.2)) σ H (fun x H1 => gName i x σ H1 D.nx) := h
  refine wpAny_bind (thn (dc_core (Qf := fun _ s' => SP X pins D .next s') hc hN I hi ok hg ht hk he hs h fun L C s' m H' I' q hn f => ?_) fun _ s' hq => wpAny_pure (wpAny_pure hq))
  show wpAny _ _ (assign (.Name y py) X.env (.ref L)) _ _ _
  refine wpAny_assign_Name (store_ok2 (v := V.ref L) I' hN hy (.inl hyl) rfl (fun s2 I2 ⟨a, sb, ha⟩ => ?_) (.inr hyl))
  obtain ⟨f0, f1, f2, f3, f4, f5⟩ := f
  have haC : C ≠ a := by
    rcases ha with z | z
    · rw [z]; exact f1
    · exact fun e => f4 y a z e.symm
  refine ⟨m, hn.sameBut sb haC, fun h3 sb3 => ?_⟩
  exact ⟨_, H', I2.turned (t' := s2.toks) (fun b o hb e => (sb3.2 b hb).trans e) f0 f1 f3 f4 f5, q⟩
theorem sw_trueD {kx vx : Expr} {gs : List Comprehension} {scope : Scope} {pos py : Pos} {y : Str} {l : Nat} {env : Env} (hk : env.scope.kind = .function) (hy : env.scope.names.lookup y = some .local) (hl : (py.line == pos.line) = true)
    (ha : (scope.names.any fun (n, k) => n == y && (k == .local || k == .cell)) = false) : swapsWith (.DictComp kx vx gs scope pos) (some (.Name y py)) l env = pure true := by
  have ky : env.kindOf y = some .local := hy
  have hb : env.blockKind = .function := by unfold Env.blockKind; rw [hk]; rfl
  unfold swapsWith
  simp only [hb, ky, ha, Expr.pos, hl]
  rfl
end LX

/-! max of a list or a tuple of ints -/
namespace LX
open PySem PySem.Spec PyProof.Rows L2 LP
def rMaxE (K : PySem.W.Frag) : List V → Hp → VK → Prop := fun vs H Q => ∃ (a : Addr) (ns : List Int), vs = [.ref a] ∧ SqE K H a (ns.map V.int) ∧ ns ≠ [] ∧ ∀ m, m ∈ ns → (∀ y ∈ ns, y ≤ m) → Q (.int m) H
theorem cr_maxE {X : Cx} (hc : X.calm = true) : CallR X (.builtin "max") (rMaxE X.K) := by
  intro pins s σ H vs us Q I r h
  obtain ⟨a, ns, rfl, hs, hne, q1⟩ := h
  rcases hs with hs | hs
  · exact cr_max hc pins s σ H [.ref a] us Q I r ⟨a, ns, rfl, hs, List.length_pos_iff.mpr hne, fun m hm hy => q1 m hm hy⟩
  obtain rfl := Vals.ref1 r
  obtain ⟨its, rv, hl, _⟩ := I.tuple hs
  have hi := rv.ints
  have hh : X.A.handled = none := I.ok.hd hc
  obtain ⟨xs, e⟩ := hi.allInts.items
  have hn : numsOf (intItems xs).toList = ns := by rw [← e]; exact hi.numsOf
  rw [nums_intItems] at hn
  have hl2 : s.heap.IsTuple a its.toArray := by
    obtain ⟨o, h1, h2, n, h3⟩ := hl
    first | exact ⟨o, h1, h2, n, h3⟩ | exact ⟨o, h1, h2, ⟨n, h3⟩⟩ | exact ⟨o, n, h1, h2, h3⟩
  rw [e] at hl2
  have hp2 : 0 < xs.size := by
    rcases Nat.eq_zero_or_pos xs.size with z | z
    · exfalso; apply hne; rw [← hn, Array.eq_empty_of_size_eq_zero z]; rfl
    · exact z
  refine PySem.call_max_walkH (PySem.W.iter_tupleW (A := X.A.in1) hh hl2 fun s₂ e2 W st hfp hw hk => ?_)
  refine ⟨_, _, _, _, _, _, _, s.heap, (fun i j => decide (numAt xs i > numAt xs j)), rfl, W, st, hfp, by simpa [intItems] using hp2, hw, hk, fun i j vi vj s3 Q3 E3 _ hi hj h3 => CmpOf.ints_gt (numAt xs) (fun _ _ => intItems_at) i j vi vj s3 Q3 E3 hi hj h3, fun v s' hP m => ?_⟩
  obtain ⟨h', tk, rfl, hk'⟩ := PySem.W.moved_old e2 rfl m
  have hsz : (intItems xs).size = xs.size := by simp [intItems]
  rw [hsz] at hP
  obtain ⟨t, rfl⟩ := intItems_at hP
  obtain ⟨h1, h2⟩ := argBest_gt (numAt xs) (xs.size - 1)
  refine ⟨.int _, H, I.kept hk', ⟨_, rfl⟩, q1 _ ?_ fun y hy => ?_⟩
  · rw [← hn, numAt_eq]; exact PySem.getD_mem (by rw [List.length_map, Array.length_toList]; omega)
  · rw [← hn] at hy
    obtain ⟨j, hj, rfl⟩ := mem_getD hy
    rw [List.length_map, Array.length_toList] at hj
    rw [← numAt_eq]; exact h2 j (by omega)
end LX

/-! steps: one lemma a reading, by its head; heaps are told apart by names, not by what they are made of -/
namespace LS
open PySem L2 LT LG LP LX
/-! ## frames -/
theorem Same.fr_new {H0 H H' : Hp} {p : Addr} (s : Same H0 H) (f : Fr H H' p) (n : H0 p = none) : Same H0 H' := fun a o h => f a o (s a o h) (ne_of_none h n)
theorem Fr.same {H0 H H' : Hp} {b : Addr} (f : Fr H0 H b) (s : Same H H') : Fr H0 H' b := fun a o h n => s a o (f a o h n)
theorem Fr.fr_new {H0 H H' : Hp} {b p : Addr} (s : Fr H0 H b) (f : Fr H H' p) (n : H0 p = none) : Fr H0 H' b := fun a o h nb => f a o (s a o h nb) (ne_of_none h n)
theorem Fr.upd {H : Hp} {p : Addr} {o : HO} : Fr H (upd H p o) p := fun a u h n => by rw [upd_ne n]; exact h
theorem fr_seq {K : PySem.W.Frag} {H H' : Hp} {a p : Addr} {xs : List V} (f : Fr H H' p) (h : SqL K H a xs) (n : a ≠ p) : SqL K H' a xs := by
  rcases h with (h | ⟨o, h⟩) | h
  · exact .inl (.inl (f _ _ h n))
  · exact .inl (.inr ⟨o, f _ _ h n⟩)
  · exact .inr h
theorem fr_tup {K : PySem.W.Frag} {H H' : Hp} {a p : Addr} {xs : List V} (f : Fr H H' p) (h : SqT K H a xs) (n : a ≠ p) : SqT K H' a xs := by
  rcases h with (h | ⟨o, h⟩) | h
  · exact .inl (.inl (f _ _ h n))
  · exact .inl (.inr ⟨o, f _ _ h n⟩)
  · exact .inr h
theorem free_same {H H' : Hp} {p : Addr} (s : Same H H') (h : H' p = none) : H p = none := s.free h
theorem free_fr {H H' : Hp} {b p : Addr} {o : HO} (f : Fr H H' b) (hb : H' b = some o) (h : H' p = none) : H p = none := by
  cases q : H p with
  | none => rfl
  | some u =>
    by_cases e : p = b
    · subst e; rw [hb] at h; cases h
    · rw [f p u q e] at h; cases h
theorem ne_il {H : Hp} {a b C dx : Addr} {fs : List (Str × V)} {ys : List V} (h : H a = some (.ins C dx fs)) (h' : H b = some (.lst ys)) : a ≠ b := ne_of h h' (by intro z; cases z)
theorem ne_li {H : Hp} {a b C dx : Addr} {fs : List (Str × V)} {ys : List V} (h' : H b = some (.ins C dx fs)) (h : H a = some (.lst ys)) : a ≠ b := ne_of h h' (by intro z; cases z)
theorem ne_lt {H : Hp} {a b : Addr} {xs ys : List V} (h : H a = some (.lst xs)) (h' : H b = some (.tup ys)) : a ≠ b := ne_of h h' (by intro z; cases z)
theorem ne_tl {H : Hp} {a b : Addr} {xs ys : List V} (h : H a = some (.tup xs)) (h' : H b = some (.lst ys)) : a ≠ b := ne_of h h' (by intro z; cases z)
/-! ## what the search for facts about heaps goes by -/
theorem hp_s {H H' : Hp} {p : Addr} {o : HO} (s : Same H H') (h : H p = some o) : H' p = some o := s p o h
theorem hp_f {H H' : Hp} {b p : Addr} {o : HO} (f : Fr H H' b) (h : H p = some o) (n : p ≠ b) : H' p = some o := f p o h n
theorem sq_o {K : PySem.W.Frag} {H : Hp} {p : Addr} {xs : List V} (h : H p = some (.lst xs)) : SqL K H p xs := SqL.of h
theorem sq_s {K : PySem.W.Frag} {H H' : Hp} {p : Addr} {xs : List V} (s : Same H H') (h : SqL K H p xs) : SqL K H' p xs := s.seq h
theorem sq_f {K : PySem.W.Frag} {H H' : Hp} {b p : Addr} {xs : List V} (f : Fr H H' b) (h : SqL K H p xs) (n : p ≠ b) : SqL K H' p xs := fr_seq f h n
theorem tu_o {K : PySem.W.Frag} {H : Hp} {p : Addr} {xs : List V} (h : H p = some (.tup xs)) : SqT K H p xs := SqT.of h
theorem tu_s {K : PySem.W.Frag} {H H' : Hp} {p : Addr} {xs : List V} (s : Same H H') (h : SqT K H p xs) : SqT K H' p xs := same_tup s h
theorem tu_f {K : PySem.W.Frag} {H H' : Hp} {b p : Addr} {xs : List V} (f : Fr H H' b) (h : SqT K H p xs) (n : p ≠ b) : SqT K H' p xs := fr_tup f h n
theorem se_l {K : PySem.W.Frag} {H : Hp} {p : Addr} {xs : List V} (h : H p = some (.lst xs)) : SqE K H p xs := .inl (SqL.of h)
theorem se_t {K : PySem.W.Frag} {H : Hp} {p : Addr} {xs : List V} (h : H p = some (.tup xs)) : SqE K H p xs := .inr (SqT.of h)
theorem se_q {K : PySem.W.Frag} {H : Hp} {p : Addr} {xs : List V} (h : SqL K H p xs) : SqE K H p xs := .inl h
theorem se_u {K : PySem.W.Frag} {H : Hp} {p : Addr} {xs : List V} (h : SqT K H p xs) : SqE K H p xs := .inr h
theorem se_s {K : PySem.W.Frag} {H H' : Hp} {p : Addr} {xs : List V} (s : Same H H') (h : SqE K H p xs) : SqE K H' p xs := h.same s
theorem se_f {K : PySem.W.Frag} {H H' : Hp} {b p : Addr} {xs : List V} (f : Fr H H' b) (h : SqE K H p xs) (n : p ≠ b) : SqE K H' p xs := h.imp (fun h => fr_seq f h n) fun h => fr_tup f h n
theorem sm_s {H0 H H' : Hp} (s : Same H H') (h : Same H0 H) : Same H0 H' := h.trans s
theorem sm_f {H0 H H' : Hp} {p : Addr} (f : Fr H H' p) (h : Same H0 H) (n : H0 p = none) : Same H0 H' := Same.fr_new h f n
theorem fr_s {H0 H H' : Hp} {b : Addr} (s : Same H H') (h : Fr H0 H b) : Fr H0 H' b := Fr.same h s
theorem fr_b {H0 H H' : Hp} {b : Addr} (f : Fr H H' b) (h : Fr H0 H b) : Fr H0 H' b := h.trans f
theorem fr_n {H0 H H' : Hp} {b p : Addr} (f : Fr H H' p) (h : Fr H0 H b) (n : H0 p = none) : Fr H0 H' b := Fr.fr_new h f n
theorem ne_a {H : Hp} {a b : Addr} {o : HO} (h' : H b = none) (h : H a = some o) : a ≠ b := ne_of_none h h'
theorem ne_b {H : Hp} {a b : Addr} {o : HO} (h' : H a = none) (h : H b = some o) : a ≠ b := (ne_of_none h h').symm
theorem no_s {H H' : Hp} {p : Addr} (h : H' p = none) (s : Same H H') : H p = none := s.free h
theorem no_f {H H' : Hp} {b p : Addr} {o : HO} (h : H' p = none) (f : Fr H H' b) (hb : H' b = some o) : H p = none := free_fr f hb h
theorem sz {n : Nat} (h : n ≤ 100000) : n ≤ sizeLine := Nat.le_trans h (by decide)
theorem szl {n : Nat} (h : n < 100000) : n < sizeLine := Nat.lt_of_lt_of_le h (by decide)
theorem at_g {α : Type} {xs : List α} {j : Nat} {v : α} {z : Int} (hz : z = (j : Int)) (e : xs[j]? = some v) : atI xs z = some v := by
  subst hz
  unfold atI
  rw [ixN_at (List.getElem?_eq_some_iff.mp e).1]
  exact e
theorem cut_to (xs : List V) (i : Nat) : cutV xs none (some (i : Int)) = xs.take i := by
  unfold cutV
  rw [HT.sIx_none, HT.sIx_nat, List.drop_zero, Nat.sub_zero]
  rcases Nat.lt_or_ge i xs.length with h | h
  · rw [Nat.min_eq_left (by omega)]
  · rw [Nat.min_eq_right (by omega), List.take_of_length_le (Nat.le_refl _), List.take_of_length_le h]
theorem cut_from (xs : List V) (i : Nat) : cutV xs (some (i : Int)) none = xs.drop i := by
  unfold cutV
  rw [HT.sIx_none, HT.sIx_nat]
  rcases Nat.lt_or_ge i xs.length with h | h
  · rw [Nat.min_eq_left (by omega), List.take_of_length_le (by rw [List.length_drop]; omega)]
  · rw [Nat.min_eq_right (by omega), List.drop_of_length_le (Nat.le_refl _), List.drop_of_length_le h, List.take_nil]
theorem flat_rep {α : Type} (n : Nat) (x : α) : (List.replicate n [x]).flatten = List.replicate n x := by
  induction n with
  | zero => rfl
  | succ m ih => rw [List.replicate_succ, List.flatten_cons, List.replicate_succ, ih]; rfl
/-! ## rules by name -/
def rListOf (K : PySem.W.Frag) : List V → Hp → VK → Prop := fun xs H Q => ∃ p ys, xs = [.ref p] ∧ (SqL K H p ys ∨ SqT K H p ys) ∧ ∀ l, H l = none → Q (.ref l) (upd H l (.lst ys))
def rIsN : R2 := fun x y H Q => y = .non ∧ Q (.bl (decide (x = .non))) H
def rNotN : R2 := fun x y H Q => y = .non ∧ Q (.bl (!decide (x = .non))) H
def rInt1 : List V → Hp → VK → Prop := fun xs H Q => (∃ i, xs = [.int i] ∧ Q (.int i) H) ∨ ∃ k, xs = [.bl k] ∧ Q (.int (if k then 1 else 0)) H
def rStrI : List V → Hp → VK → Prop := fun xs H Q => ∃ i, xs = [.int i] ∧ i.natAbs.log2 < 1920 ∧ Q (.str (toString i)) H
def rIntS : List V → Hp → VK → Prop := fun xs H Q => ∃ a n, xs = [.str a] ∧ PySem.intText? a = some n ∧ a.length ≤ 640 ∧ Q (.int n) H
def rAddS : R2 := fun x y H Q => ∃ i j, x = .str i ∧ y = .str j ∧ i.length + j.length ≤ sizeLine ∧ Q (.str (i ++ j)) H
def rSplit : V → List V → Hp → VK → Prop := fun x xs H Q => ∃ a b, x = .str a ∧ xs = [.str b] ∧ (b.length == 0) = false ∧ a.length + 2 ≤ sizeLine ∧ rNewStrs (Txt.split a b) H Q
def rJoin (K : PySem.W.Frag) : V → List V → Hp → VK → Prop := fun x xs H Q => ∃ a p, ∃ ys : List Str, x = .str a ∧ xs = [.ref p] ∧ (SqL K H p (ys.map V.str) ∨ SqT K H p (ys.map V.str)) ∧
    (ys.map (·.length)).sum + ys.length * a.length ≤ 16777216 ∧ Q (.str (Txt.join a ys)) H
def rLenT : List V → Hp → VK → Prop := fun xs H Q => ∃ z, xs = [.str z] ∧ z.length ≤ sizeLine ∧ Q (.int z.length) H
def rAbs : List V → Hp → VK → Prop := fun xs H Q => ∃ i, xs = [.int i] ∧ Q (.int (if i < 0 then -i else i)) H
def rMin2 : List V → Hp → VK → Prop := fun xs H Q => ∃ i j, xs = [.int i, .int j] ∧ Q (.int (if j < i then j else i)) H
def rMax2 : List V → Hp → VK → Prop := fun xs H Q => ∃ i j, xs = [.int i, .int j] ∧ Q (.int (if j > i then j else i)) H
section
variable {X : Cx}
theorem call_abs : CallR X (.builtin "abs") rAbs := L2.call_abs
theorem call_min2 (hc : X.calm = true) : CallR X (.builtin "min") rMin2 := L2.call_min2 hc
theorem call_max2 (hc : X.calm = true) : CallR X (.builtin "max") rMax2 := L2.call_max2 hc
theorem call_len : CallR X (.builtin "len") (rLenS X.K) := call_len_seq
theorem call_lenT : CallR X (.builtin "len") rLenT := call_len_str
theorem call_list : CallR X (.type "list") (rListOf X.K) := call_list_of
theorem op_isN : OpR X (compareOp .Is) rIsN := L2.op_isN
theorem op_notN : OpR X (compareOp .IsNot) rNotN := L2.op_notN
theorem call_int1 : CallR X (.type "int") rInt1 := L2.call_int1
theorem call_strI : CallR X (.type "str") rStrI := L2.call_str_int
theorem call_intS : CallR X (.type "int") rIntS := L2.call_int_str
theorem op_addS : OpR X (binaryOp .Add) rAddS := L2.op_add_str
theorem mt_split : MtR X "str.split" rSplit := L2.mt_split
theorem mt_join : MtR X "str.join" (rJoin X.K) := L2.mt_join
end
/-! ## the reel -/
/-- from H to H' by draws, new objects and stores to what was new -/
structure RT (H H' : Hp) (b : Addr) (d : Nat) : Prop where
  r : Reel H' b d
  f : Fr H H' b
  a : ∀ a, Apart H b a → H a ≠ none → Apart H' b a
theorem Reel.up {H : Hp} {b : Addr} {d d' : Nat} (r : Reel H b d) (h : d ≤ d') : Reel H b d' := r.mono h
theorem reel_fr {H H' : Hp} {b p : Addr} {d : Nat} (r : Reel H b d) (f : Fr H H' p) (ap : Apart H b p) : Reel H' b d := by
  obtain ⟨g, c, gs, cs, k, t, a1, a2, a3, a4⟩ := r.ex
  have n := ap.2 _ a1
  exact ⟨⟨g, c, gs, cs, k, t, f _ _ a1 (Ne.symm ap.1), f _ _ a2 fun e => n (by rw [e]; simp), f _ _ a3 fun e => n (by rw [e]; simp), a4⟩⟩
theorem ap_same {H H' : Hp} {b a : Addr} {d : Nat} (s : Same H H') (r : Reel H b d) (h : Apart H b a) : Apart H' b a := by
  obtain ⟨g, c, gs, cs, k, t, a1, _⟩ := r.ex
  exact ⟨h.1, fun xs hx => by rw [s _ _ a1] at hx; cases hx; exact h.2 _ a1⟩
theorem ap_fr {H H' : Hp} {b a p : Addr} {d : Nat} (f : Fr H H' p) (ap : Apart H b p) (r : Reel H b d) (h : Apart H b a) : Apart H' b a := by
  obtain ⟨g, c, gs, cs, k, t, a1, _⟩ := r.ex
  exact ⟨h.1, fun xs hx => by rw [f _ _ a1 (Ne.symm ap.1)] at hx; cases hx; exact h.2 _ a1⟩
theorem rt_refl {H : Hp} {b : Addr} {d : Nat} (r : Reel H b d) : RT H H b d := ⟨r, Fr.refl _ _, fun _ h _ => h⟩
theorem rt_s {H H1 H' : Hp} {b : Addr} {d : Nat} (s : Same H1 H') (t : RT H H1 b d) : RT H H' b d := ⟨t.r.same s, Fr.same t.f s, fun a h n => ap_same s t.r (t.a a h n)⟩
theorem rt_t {H H1 H' : Hp} {b : Addr} {d d' : Nat} (u : RT H1 H' b d') (t : RT H H1 b d) : RT H H' b d' := ⟨u.r, t.f.trans u.f, fun a h n => u.a a (t.a a h n) (by
  obtain ⟨o, ho⟩ := Option.ne_none_iff_exists'.mp n
  rw [t.f _ _ ho h.1]; simp)⟩
theorem rt_f {H H1 H' : Hp} {b p : Addr} {d : Nat} (f : Fr H1 H' p) (t : RT H H1 b d) (n : H p = none) (ap : Apart H1 b p) : RT H H' b d := ⟨reel_fr t.r f ap, Fr.fr_new t.f f n, fun a h n => ap_fr f ap t.r (t.a a h n)⟩
theorem rt_mono {H H' : Hp} {b : Addr} {d d' : Nat} (t : RT H H' b d) (h : d ≤ d') : RT H H' b d' := ⟨t.r.mono h, t.f, t.a⟩
theorem rl_t {H H' : Hp} {b : Addr} {d : Nat} (t : RT H H' b d) : Reel H' b d := t.r
theorem rl_s {H H' : Hp} {b : Addr} {d : Nat} (s : Same H H') (r : Reel H b d) : Reel H' b d := r.same s
theorem rl_f {H H' : Hp} {b p : Addr} {d : Nat} (f : Fr H H' p) (r : Reel H b d) (ap : Apart H b p) : Reel H' b d := reel_fr r f ap
theorem ap_new {H H' : Hp} {b p : Addr} {d : Nat} (n : H p = none) (s : Same H H') (r : Reel H b d) : Apart H' b p := ap_same s r (r.new n)
theorem ap_s {H H' : Hp} {b a : Addr} {d : Nat} (s : Same H H') (h : Apart H b a) (r : Reel H b d) : Apart H' b a := ap_same s r h
theorem ap_t {H H' : Hp} {b a : Addr} {d : Nat} {o : HO} (t : RT H H' b d) (h : Apart H b a) (e : H a = some o) : Apart H' b a := t.a a h (by rw [e]; simp)
theorem ap_f {H H' : Hp} {b a p : Addr} {d : Nat} (f : Fr H H' p) (h : Apart H b a) (ap : Apart H b p) (r : Reel H b d) : Apart H' b a := ap_fr f ap r h
theorem ne_ap {H : Hp} {b a : Addr} (h : Apart H b a) : a ≠ b := h.1
theorem ne_rl {H : Hp} {b p : Addr} {d : Nat} (n : H p = none) (r : Reel H b d) : p ≠ b := r.ne_new n
theorem hp_t {H H' : Hp} {b p : Addr} {d : Nat} {o : HO} (t : RT H H' b d) (h : H p = some o) (n : p ≠ b) : H' p = some o := t.f p o h n
theorem sq_t {K : PySem.W.Frag} {H H' : Hp} {b p : Addr} {d : Nat} {xs : List V} (t : RT H H' b d) (h : SqL K H p xs) (n : p ≠ b) : SqL K H' p xs := fr_seq t.f h n
theorem tu_t {K : PySem.W.Frag} {H H' : Hp} {b p : Addr} {d : Nat} {xs : List V} (t : RT H H' b d) (h : SqT K H p xs) (n : p ≠ b) : SqT K H' p xs := fr_tup t.f h n
theorem se_tt {K : PySem.W.Frag} {H H' : Hp} {b p : Addr} {d : Nat} {xs : List V} (t : RT H H' b d) (h : SqE K H p xs) (n : p ≠ b) : SqE K H' p xs := se_f t.f h n
theorem no_t {H H' : Hp} {b p : Addr} {d : Nat} (h : H' p = none) (t : RT H H' b d) : H p = none := by
  obtain ⟨o, ho⟩ := t.r.nb
  exact free_fr t.f ho h
theorem fr_t {H0 H H' : Hp} {b : Addr} {d : Nat} (t : RT H H' b d) (h : Fr H0 H b) : Fr H0 H' b := h.trans t.f
/-! ## frames about some objects -/
structure FrL (H H' : Hp) (L : List Addr) : Prop where
  k : ∀ a o, H a = some o → a ∉ L → H' a = some o
  l : ∀ a ∈ L, H' a ≠ none
def Trk (H : Hp) (L : List Addr) : Prop := ∀ a ∈ L, H a ≠ none
theorem trk_nil {H : Hp} : Trk H [] := fun a h => by cases h
theorem trk_cons {H : Hp} {a : Addr} {o : HO} {L : List Addr} (h : H a = some o) (t : Trk H L) : Trk H (a :: L) := fun b hb => by
  rcases List.mem_cons.mp hb with rfl | hb
  · rw [h]; simp
  · exact t b hb
theorem ni_nil {a : Addr} : a ∉ ([] : List Addr) := by simp
theorem ni_cons {a b : Addr} {L : List Addr} (h : a ≠ b) (t : a ∉ L) : a ∉ b :: L := fun q => by
  rcases List.mem_cons.mp q with e | e
  · exact h e
  · exact t e
theorem mem_hd {a : Addr} {L : List Addr} : a ∈ a :: L := List.mem_cons_self ..
theorem mem_tl {a b : Addr} {L : List Addr} (h : a ∈ L) : a ∈ b :: L := List.mem_cons_of_mem _ h
theorem fl_refl {H : Hp} {L : List Addr} (t : Trk H L) : FrL H H L := ⟨fun _ _ h _ => h, t⟩
theorem fl_s {H H1 H' : Hp} {L : List Addr} (s : Same H1 H') (f : FrL H H1 L) : FrL H H' L := ⟨fun a o h n => s a o (f.k a o h n), fun a ha => by
  obtain ⟨o, ho⟩ := Option.ne_none_iff_exists'.mp (f.l a ha)
  rw [s _ _ ho]; simp⟩
theorem fl_m {H H1 H' : Hp} {L : List Addr} {p : Addr} {o : HO} (g : Fr H1 H' p) (f : FrL H H1 L) (hp : p ∈ L) (e : H' p = some o) : FrL H H' L := ⟨fun a u h n => g a u (f.k a u h n) fun z => n (z ▸ hp), fun a ha => by
  by_cases z : a = p
  · rw [z, e]; simp
  · obtain ⟨u, hu⟩ := Option.ne_none_iff_exists'.mp (f.l a ha)
    rw [g _ _ hu z]; simp⟩
theorem fl_n {H H1 H' : Hp} {L : List Addr} {p : Addr} {o : HO} (g : Fr H1 H' p) (f : FrL H H1 L) (n : H p = none) (e : H' p = some o) : FrL H H' L := ⟨fun a u h m => g a u (f.k a u h m) (ne_of_none h n), fun a ha => by
  by_cases z : a = p
  · rw [z, e]; simp
  · obtain ⟨u, hu⟩ := Option.ne_none_iff_exists'.mp (f.l a ha)
    rw [g _ _ hu z]; simp⟩
theorem fl_l {H H1 H' : Hp} {L : List Addr} (g : FrL H1 H' L) (f : FrL H H1 L) : FrL H H' L := ⟨fun a u h n => g.k a u (f.k a u h n) n, g.l⟩
theorem fl_lm {H H1 H' : Hp} {L M : List Addr} (g : FrL H1 H' M) (f : FrL H H1 L) (hs : ∀ a ∈ M, a ∈ L) : FrL H H' L := ⟨fun a u h n => g.k a u (f.k a u h n) fun q => n (hs a q), fun a ha => by
  by_cases q : a ∈ M
  · exact g.l a q
  · obtain ⟨u, hu⟩ := Option.ne_none_iff_exists'.mp (f.l a ha)
    rw [g.k _ _ hu q]; simp⟩
theorem sub_nil {L : List Addr} : ∀ a ∈ ([] : List Addr), a ∈ L := fun a h => by cases h
theorem sub_cons {a : Addr} {L M : List Addr} (h : a ∈ L) (t : ∀ b ∈ M, b ∈ L) : ∀ b ∈ a :: M, b ∈ L := fun b hb => by
  rcases List.mem_cons.mp hb with rfl | hb
  · exact h
  · exact t b hb
theorem sm_l {H0 H H' : Hp} {L : List Addr} (f : FrL H H' L) (s : Same H0 H) (n : ∀ a ∈ L, H0 a = none) : Same H0 H' := fun a o h => f.k a o (s a o h) fun q => by rw [n a q] at h; cases h
theorem hp_l {H H' : Hp} {L : List Addr} {p : Addr} {o : HO} (f : FrL H H' L) (h : H p = some o) (n : p ∉ L) : H' p = some o := f.k p o h n
theorem sq_l {K : PySem.W.Frag} {H H' : Hp} {L : List Addr} {p : Addr} {xs : List V} (f : FrL H H' L) (h : SqL K H p xs) (n : p ∉ L) : SqL K H' p xs := by
  rcases h with (h | ⟨o, h⟩) | h
  · exact .inl (.inl (f.k _ _ h n))
  · exact .inl (.inr ⟨o, f.k _ _ h n⟩)
  · exact .inr h
theorem tu_l {K : PySem.W.Frag} {H H' : Hp} {L : List Addr} {p : Addr} {xs : List V} (f : FrL H H' L) (h : SqT K H p xs) (n : p ∉ L) : SqT K H' p xs := by
  rcases h with (h | ⟨o, h⟩) | h
  · exact .inl (.inl (f.k _ _ h n))
  · exact .inl (.inr ⟨o, f.k _ _ h n⟩)
  · exact .inr h
theorem no_l {H H' : Hp} {L : List Addr} {p : Addr} (h : H' p = none) (f : FrL H H' L) : H p = none := by
  cases q : H p with
  | none => rfl
  | some u =>
    by_cases e : p ∈ L
    · exact absurd h (f.l p e)
    · rw [f.k p u q e] at h; cases h
def ApL (H : Hp) (b : Addr) (L : List Addr) : Prop := ∀ a ∈ L, Apart H b a
theorem al_nil {H : Hp} {b : Addr} : ApL H b [] := fun a h => by cases h
theorem al_cons {H : Hp} {b a : Addr} {L : List Addr} (h : Apart H b a) (t : ApL H b L) : ApL H b (a :: L) := fun c hc => by
  rcases List.mem_cons.mp hc with rfl | hc
  · exact h
  · exact t c hc
theorem rl_l {H H' : Hp} {b : Addr} {d : Nat} {L : List Addr} (f : FrL H H' L) (r : Reel H b d) (al : ApL H b L) : Reel H' b d := by
  obtain ⟨g, c, gs, cs, k, t, a1, a2, a3, a4⟩ := r.ex
  have n : ∀ x, V.ref x ∈ [V.ref g, .ref c, .int k, .int t] → x ∉ L := fun x hx hl => (al x hl).2 _ a1 hx
  exact ⟨⟨g, c, gs, cs, k, t, f.k _ _ a1 fun q => (al b q).1 rfl, f.k _ _ a2 (n g (by simp)), f.k _ _ a3 (n c (by simp)), a4⟩⟩
theorem ap_l {H H' : Hp} {b a : Addr} {d : Nat} {L : List Addr} (f : FrL H H' L) (h : Apart H b a) (al : ApL H b L) (r : Reel H b d) : Apart H' b a := by
  obtain ⟨g, c, gs, cs, k, t, a1, _⟩ := r.ex
  exact ⟨h.1, fun xs hx => by rw [f.k _ _ a1 fun q => (al b q).1 rfl] at hx; cases hx; exact h.2 _ a1⟩
section
variable {K : PySem.W.Frag} {σ : L2.St} {H : Hp} {Q : VK} {D : Ends} {QA : List V → Hp → Prop} {QB : Bool → Hp → Prop}
/-! ## expressions -/
theorem var {i : Nat} {v : V} (h : σ[i]? = some (some v)) (q : Q v H) : tVar i σ H Q := ⟨v, h, q⟩
theorem con {v : V} (q : Q v H) : tC v σ H Q := q
theorem op {r : R2} {ta tb : TE} (h : ta σ H fun x H1 => tb σ H1 fun y H2 => r x y H2 Q) : tOp r ta tb σ H Q := h
theorem un {r : V → Hp → VK → Prop} {ta : TE} (h : ta σ H fun x H1 => r x H1 Q) : tUn r ta σ H Q := h
theorem tcons {ta : TE} {tr : TA} (h : ta σ H fun x H1 => tr σ H1 fun xs H2 => QA (x :: xs) H2) : tCons ta tr σ H QA := h
theorem tnil (h : QA [] H) : tNil σ H QA := h
theorem tcb {r : List V → Hp → VK → Prop} {t : TA} (h : t σ H fun vs H1 => r vs H1 Q) : tCB r t σ H Q := h
theorem tcall {sp : Sp} {dvs : List V} {E : XK} {t : TA} (h : t σ H fun vs H1 => sp (vs ++ dvs) H1 Q E) : tCall sp dvs E t σ H Q := h
theorem tsl {r : V → Option Int → Option Int → Hp → VK → Prop} {te : TE} {tl th : TO} (h : te σ H fun x H1 => tl σ H1 fun l H2 => th σ H2 fun u H3 => r x l u H3 Q) : tSl r te tl th σ H Q := h
theorem tnop {QO : Option Int → Hp → Prop} (h : QO none H) : tNoPart σ H QO := h
def kPart (QO : Option Int → Hp → Prop) : VK := fun x H1 => ∃ i, x = .int i ∧ QO (some i) H1
theorem tpart {te : TE} {QO : Option Int → Hp → Prop} (h : te σ H (kPart QO)) : tPart te σ H QO := h
theorem k_part {i : Int} {QO : Option Int → Hp → Prop} (q : QO (some i) H) : kPart QO (.int i) H := ⟨i, rfl, q⟩
def kB (QB : Bool → Hp → Prop) : VK := fun x H1 => ∃ k, x = .bl k ∧ QB k H1
theorem k_b {b : Bool} (q : QB b H) : kB QB (.bl b) H := ⟨b, rfl, q⟩
theorem ttest {te : TE} (h : te σ H (kB QB)) : tTest te σ H QB := h
theorem tb {te : TE} (h : te σ H (kB QB)) : tB te σ H QB := h
theorem tyes (h : QB true H) : tYes σ H QB := h
theorem tand {t u : TT} (h : t σ H fun c H1 => if c = true then u σ H1 QB else QB false H1) : tAnd t u σ H QB := h
theorem tor {t u : TT} (h : t σ H fun c H1 => if c = true then QB true H1 else u σ H1 QB) : tOr t u σ H QB := h
theorem tnot {t : TT} (h : t σ H fun c H1 => QB (!c) H1) : tNot t σ H QB := h
theorem tif {t : TT} {ta tb : TE} (h : t σ H fun c H1 => if c = true then ta σ H1 Q else tb σ H1 Q) : tIf t ta tb σ H Q := h
def kAV (tb : TE) (σ : L2.St) (Q : VK) : VK := fun x H1 => ∃ c, x = .bl c ∧ if c = true then tb σ H1 Q else Q (.bl false) H1
theorem tandv {ta tb : TE} (h : ta σ H (kAV tb σ Q)) : tAndV ta tb σ H Q := h
theorem k_av {tb : TE} {c : Bool} (h : if c = true then tb σ H Q else Q (.bl false) H) : kAV tb σ Q (.bl c) H := ⟨c, rfl, h⟩
def kOV (tb : TE) (σ : L2.St) (Q : VK) : VK := fun x H1 => ∃ c, x = .bl c ∧ if c = true then Q (.bl true) H1 else tb σ H1 Q
theorem torv {ta tb : TE} (h : ta σ H (kOV tb σ Q)) : tOrV ta tb σ H Q := h
theorem k_ov {tb : TE} {c : Bool} (h : if c = true then Q (.bl true) H else tb σ H Q) : kOV tb σ Q (.bl c) H := ⟨c, rfl, h⟩
def kNV (Q : VK) : VK := fun x H1 => ∃ c, x = .bl c ∧ Q (.bl (!c)) H1
theorem tnotv {ta : TE} (h : ta σ H (kNV Q)) : tNotV ta σ H Q := h
theorem k_nv {c : Bool} (h : Q (.bl (!c)) H) : kNV Q (.bl c) H := ⟨c, rfl, h⟩
def kCh (r r' : R2) (tc : TE) (σ : L2.St) (y : V) (Q : VK) : VK := fun z H3 => ∃ k, z = .bl k ∧ if k = true then tc σ H3 fun x H4 => r' y x H4 Q else Q (.bl false) H3
theorem tchain {r r' : R2} {ta tb tc : TE} (h : ta σ H fun x H1 => tb σ H1 fun y H2 => r x y H2 (kCh r r' tc σ y Q)) : tChain r r' ta tb tc σ H Q := h
theorem k_ch {r r' : R2} {tc : TE} {y : V} {k : Bool} (h : if k = true then tc σ H fun x H4 => r' y x H4 Q else Q (.bl false) H) : kCh r r' tc σ y Q (.bl k) H := ⟨k, rfl, h⟩
theorem ift {A B : Prop} (h : A) : if true = true then A else B := by rw [if_pos rfl]; exact h
theorem iff_ {A B : Prop} (h : B) : if false = true then A else B := by rw [if_neg Bool.false_ne_true]; exact h
theorem ifnt {A B : Prop} (h : B) : if (!true) = true then A else B := by rw [if_neg (by decide)]; exact h
theorem ifnf {A B : Prop} (h : A) : if (!false) = true then A else B := by rw [if_pos (by decide)]; exact h
theorem if2 {c A B : Prop} [Decidable c] (h1 : c → A) (h2 : ¬ c → B) : if decide c = true then A else B := ite2d h1 h2
theorem ifn2 {c A B : Prop} [Decidable c] (h1 : ¬ c → A) (h2 : c → B) : if (!decide c) = true then A else B := by
  by_cases h : c
  · rw [decide_eq_true h]; exact ifnt (h2 h)
  · rw [decide_eq_false h]; exact ifnf (h1 h)
theorem of_iff {A B : Prop} (h : if false = true then A else B) : B := by rw [if_neg Bool.false_ne_true] at h; exact h
/-- two ways that go on alike -/
theorem tail_t {c A X : Prop} [Decidable c] (h : c → X → A) (x : X) : if decide c = true then A else X := ite2d (fun hc => h hc x) fun _ => x
theorem tail_e {c A X : Prop} [Decidable c] (h : ¬ c → X → A) (x : X) : if decide c = true then X else A := ite2d (fun _ => x) fun hc => h hc x
/-! ## values -/
theorem ri0 {g : Int → Int → V} {i j : Int} (q : Q (g i j) H) : rI0 g (.int i) (.int j) H Q := ⟨i, j, rfl, rfl, q⟩
theorem ri {C : Int → Int → Prop} {g : Int → Int → V} {i j : Int} (c : C i j) (q : Q (g i j) H) : rI C g (.int i) (.int j) H Q := ⟨i, j, rfl, rfl, c, q⟩
theorem ru {g : Int → V} {i : Int} (q : Q (g i) H) : rU g (.int i) H Q := ⟨i, rfl, q⟩
theorem req_i {x y : Int} (q : Q (.bl (decide (x = y))) H) : rEq (.int x) (.int y) H Q := ⟨rfl, by rw [show decide (V.int x = V.int y) = decide (x = y) from decide_eq_decide.mpr ⟨V.int.inj, congrArg _⟩]; exact q⟩
theorem rne_i {x y : Int} (q : Q (.bl (!decide (x = y))) H) : rNe (.int x) (.int y) H Q := ⟨rfl, by rw [show decide (V.int x = V.int y) = decide (x = y) from decide_eq_decide.mpr ⟨V.int.inj, congrArg _⟩]; exact q⟩
theorem req_s {x y : Str} (q : Q (.bl (decide (x = y))) H) : rEq (.str x) (.str y) H Q := ⟨rfl, by rw [show decide (V.str x = V.str y) = decide (x = y) from decide_eq_decide.mpr ⟨V.str.inj, congrArg _⟩]; exact q⟩
theorem rne_s {x y : Str} (q : Q (.bl (!decide (x = y))) H) : rNe (.str x) (.str y) H Q := ⟨rfl, by rw [show decide (V.str x = V.str y) = decide (x = y) from decide_eq_decide.mpr ⟨V.str.inj, congrArg _⟩]; exact q⟩
theorem req_b {x y : Bool} (q : Q (.bl (decide (x = y))) H) : rEq (.bl x) (.bl y) H Q := ⟨rfl, by rw [show decide (V.bl x = V.bl y) = decide (x = y) from decide_eq_decide.mpr ⟨V.bl.inj, congrArg _⟩]; exact q⟩
theorem rne_b {x y : Bool} (q : Q (.bl (!decide (x = y))) H) : rNe (.bl x) (.bl y) H Q := ⟨rfl, by rw [show decide (V.bl x = V.bl y) = decide (x = y) from decide_eq_decide.mpr ⟨V.bl.inj, congrArg _⟩]; exact q⟩
theorem rne_same {x : V} (h : scal x x = true) (q : Q (.bl false) H) : rNe x x H Q := ⟨h, by rw [decide_eq_true rfl]; exact q⟩
theorem req_same {x : V} (h : scal x x = true) (q : Q (.bl true) H) : rEq x x H Q := ⟨h, by rw [decide_eq_true rfl]; exact q⟩
theorem req {x y : V} (h : scal x y = true) (q : Q (.bl (decide (x = y))) H) : rEq x y H Q := ⟨h, q⟩
theorem rne {x y : V} (h : scal x y = true) (q : Q (.bl (!decide (x = y))) H) : rNe x y H Q := ⟨h, q⟩
theorem rixl {p : Addr} {xs : List V} {i : Int} {v : V} (h : SqL K H p xs) (e : atI xs i = some v) (q : Q v H) : rIxL K (.ref p) (.int i) H Q := ⟨p, xs, i, v, rfl, rfl, h, e, q⟩
theorem rixt {p : Addr} {xs : List V} {i : Int} {v : V} (h : SqT K H p xs) (e : atI xs i = some v) (q : Q v H) : rIxT K (.ref p) (.int i) H Q := ⟨p, xs, i, v, rfl, rfl, h, e, q⟩
theorem rixl_n {p : Addr} {xs : List V} {j : Nat} {i : Int} {v : V} (h : SqL K H p xs) (e : xs[j]? = some v) (hz : i = (j : Int)) (q : Q v H) : rIxL K (.ref p) (.int i) H Q := ⟨p, xs, i, v, rfl, rfl, h, at_of hz e, q⟩
theorem rixt_n {p : Addr} {xs : List V} {j : Nat} {i : Int} {v : V} (h : SqT K H p xs) (e : xs[j]? = some v) (hz : i = (j : Int)) (q : Q v H) : rIxT K (.ref p) (.int i) H Q := ⟨p, xs, i, v, rfl, rfl, h, at_of hz e, q⟩
theorem rixs {z : Str} {i : Int} {j c : Nat} (hz : z.length ≤ 100000) (e : z.cps.toList[j]? = some c) (hi : i = (j : Int)) (q : Q (.str ⟨#[c]⟩) H) : rIxS (.str z) (.int i) H Q := ⟨z, i, c, rfl, rfl, sz hz, at_g hi e, q⟩
theorem rin_l {neg : Bool} {x : V} {p : Addr} {xs : List V} (h : SqL K H p xs) (hx : flatV x = true) (ha : xs.all flatV = true) (q : Q (.bl (if neg then !inV x xs else inV x xs)) H) : rIn K neg x (.ref p) H Q := ⟨p, xs, rfl, .inl h, hx, ha, q⟩
theorem rin_i {n : Int} {p : Addr} {xs : List Int} (h : SqL K H p (xs.map V.int)) (q : Q (.bl (decide (n ∈ xs))) H) : rIn K false (.int n) (.ref p) H Q := rin_l h rfl (flat_ints _) (by rw [in_ints]; exact q)
theorem rni_i {n : Int} {p : Addr} {xs : List Int} (h : SqL K H p (xs.map V.int)) (q : Q (.bl (!decide (n ∈ xs))) H) : rIn K true (.int n) (.ref p) H Q := rin_l h rfl (flat_ints _) (by rw [in_ints]; exact q)
theorem rlen_l {p : Addr} {xs : List V} (h : SqL K H p xs) (q : Q (.int (xs.length : Nat)) H) : rLenS K [.ref p] H Q := ⟨p, xs, rfl, .inl h, q⟩
theorem rlen_t {p : Addr} {xs : List V} (h : SqT K H p xs) (q : Q (.int (xs.length : Nat)) H) : rLenS K [.ref p] H Q := ⟨p, xs, rfl, .inr h, q⟩
theorem rlen_li {p : Addr} {xs : List Int} (h : SqL K H p (xs.map V.int)) (q : Q (.int (xs.length : Nat)) H) : rLenS K [.ref p] H Q := ⟨p, _, rfl, .inl h, by rw [List.length_map]; exact q⟩
theorem rlen_ls {p : Addr} {xs : List Str} (h : SqL K H p (xs.map V.str)) (q : Q (.int (xs.length : Nat)) H) : rLenS K [.ref p] H Q := ⟨p, _, rfl, .inl h, by rw [List.length_map]; exact q⟩
theorem rlen_E {p : Addr} {xs : List V} (h : SqE K H p xs) (q : Q (.int (xs.length : Nat)) H) : rLenS K [.ref p] H Q := ⟨p, xs, rfl, h, q⟩
theorem rlen_Ei {p : Addr} {xs : List Int} (h : SqE K H p (xs.map V.int)) (q : Q (.int (xs.length : Nat)) H) : rLenS K [.ref p] H Q := ⟨p, _, rfl, h, by rw [List.length_map]; exact q⟩
/-! ## new objects -/
def kTup (Q : VK) : List V → Hp → Prop := fun xs H1 => xs.length ≤ sizeLine ∧ ∀ p, H1 p = none → Q (.ref p) (upd H1 p (.tup xs))
theorem ttup {t : TA} (h : t σ H (kTup Q)) : tTup t σ H Q := h
theorem k_tup {xs : List V} (hz : xs.length ≤ sizeLine) (k : ∀ (p : Addr) (H' : Hp), H p = none → Same H H' → H' p = some (.tup xs) → Q (.ref p) H') : kTup Q xs H := ⟨hz, fun p np => k p _ np (same_upd np) upd_same⟩
def kLst (Q : VK) : List V → Hp → Prop := fun xs H1 => xs.length ≤ sizeLine ∧ ∀ p, H1 p = none → Q (.ref p) (upd H1 p (.lst xs))
theorem tlst {t : TA} (h : t σ H (kLst Q)) : tLst t σ H Q := h
theorem k_lst {xs : List V} (hz : xs.length ≤ sizeLine) (k : ∀ (p : Addr) (H' : Hp), H p = none → Same H H' → H' p = some (.lst xs) → Q (.ref p) H') : kLst Q xs H := ⟨hz, fun p np => k p _ np (same_upd np) upd_same⟩
theorem rsll {a : Addr} {xs : List V} {lo hi : Option Int} (h : SqL K H a xs) (k : ∀ (p : Addr) (H' : Hp), H p = none → Same H H' → H' p = some (.lst (cutV xs lo hi)) → Q (.ref p) H') : rSlL K (.ref a) lo hi H Q := ⟨a, xs, rfl, h, fun p np => k p _ np (same_upd np) upd_same⟩
theorem rcat {l b : Addr} {xs zs : List V} (h1 : H l = some (.lst xs)) (h2 : H b = some (.lst zs)) (hz : xs.length + zs.length ≤ sizeLine) (k : ∀ (p : Addr) (H' : Hp), H p = none → Same H H' → H' p = some (.lst (xs ++ zs)) → Q (.ref p) H') : rCat (.ref l) (.ref b) H Q := ⟨l, b, xs, zs, rfl, rfl, h1, h2, hz, fun p np => k p _ np (same_upd np) upd_same⟩
theorem list_l {r : List V → Hp → VK → Prop} (hr : r = fun xs H Q => ∃ p ys, xs = [.ref p] ∧ (SqL K H p ys ∨ SqT K H p ys) ∧ ∀ l, H l = none → Q (.ref l) (upd H l (.lst ys))) {a : Addr} {xs : List V} (h : SqL K H a xs)
    (k : ∀ (p : Addr) (H' : Hp), H p = none → Same H H' → H' p = some (.lst xs) → Q (.ref p) H') : r [.ref a] H Q := by
  subst hr; exact ⟨a, xs, rfl, .inl h, fun p np => k p _ np (same_upd np) upd_same⟩
theorem new_strs {ys : List Str} (k : ∀ (p : Addr) (H' : Hp), H p = none → Same H H' → H' p = some (.lst (ys.map V.str)) → Q (.ref p) H') : rNewStrs ys H Q := fun p np => k p _ np (same_upd np) upd_same
theorem rlist_l {a : Addr} {xs : List V} (h : SqL K H a xs) (k : ∀ (p : Addr) (H' : Hp), H p = none → Same H H' → H' p = some (.lst xs) → Q (.ref p) H') : rListOf K [.ref a] H Q := ⟨a, xs, rfl, .inl h, fun p np => k p _ np (same_upd np) upd_same⟩
theorem risn_i {i : Int} (q : Q (.bl false) H) : rIsN (.int i) .non H Q := ⟨rfl, q⟩
theorem risn_b {i : Bool} (q : Q (.bl false) H) : rIsN (.bl i) .non H Q := ⟨rfl, q⟩
theorem risn_s {i : Str} (q : Q (.bl false) H) : rIsN (.str i) .non H Q := ⟨rfl, q⟩
theorem risn_n (q : Q (.bl true) H) : rIsN .non .non H Q := ⟨rfl, q⟩
theorem rnotn_i {i : Int} (q : Q (.bl true) H) : rNotN (.int i) .non H Q := ⟨rfl, q⟩
theorem rnotn_n (q : Q (.bl false) H) : rNotN .non .non H Q := ⟨rfl, q⟩
theorem rint_b {b : Bool} (q : Q (.int (if b then 1 else 0)) H) : rInt1 [.bl b] H Q := .inr ⟨b, rfl, q⟩
theorem rint_i {i : Int} (q : Q (.int i) H) : rInt1 [.int i] H Q := .inl ⟨i, rfl, q⟩
theorem rstr_i {i : Int} (h : i.natAbs.log2 < 1920) (q : Q (.str (toString i)) H) : rStrI [.int i] H Q := ⟨i, rfl, h, q⟩
theorem rint_s {a : Str} {n : Int} (h : PySem.intText? a = some n) (hl : a.length ≤ 640) (q : Q (.int n) H) : rIntS [.str a] H Q := ⟨a, n, rfl, h, hl, q⟩
theorem radds {a b : Str} (h : a.length + b.length ≤ 100000) (q : Q (.str (a ++ b)) H) : rAddS (.str a) (.str b) H Q := ⟨a, b, rfl, rfl, sz h, q⟩
theorem rsplit {a b : Str} (hb : (b.length == 0) = false) (hl : a.length ≤ 99998) (k : ∀ (p : Addr) (H' : Hp), H p = none → Same H H' → H' p = some (.lst ((Txt.split a b).map V.str)) → Q (.ref p) H') : rSplit (.str a) [.str b] H Q := ⟨a, b, rfl, rfl, hb, sz (by omega), new_strs k⟩
theorem rjoin {a : Str} {p : Addr} {ys : List Str} (h : SqL K H p (ys.map V.str)) (hz : (ys.map (·.length)).sum + ys.length * a.length ≤ 16777216) (q : Q (.str (Txt.join a ys)) H) : rJoin K (.str a) [.ref p] H Q := ⟨a, p, ys, rfl, rfl, .inl h, hz, q⟩
theorem tstep {te tk : TE} (h : te σ H fun x H1 => tPart tk σ H1 (kStep K x Q)) : tStepL K te tk σ H Q := h
theorem k_step {a : Addr} {xs : List V} {z : Int} (hz : z = 1 ∨ z = -1) (h : SqL K H a xs) (k : ∀ (p : Addr) (H' : Hp), H p = none → Same H H' → H' p = some (.lst (if z = 1 then xs else xs.reverse)) → Q (.ref p) H') : kStep K (.ref a) Q (some z) H :=
  ⟨a, xs, rfl, hz.imp (congrArg _) (congrArg _), h, fun p np => by
    have e : (if (some z : Option Int) = some 1 then xs else xs.reverse) = (if z = 1 then xs else xs.reverse) := by
      by_cases q : z = 1
      · rw [if_pos q, if_pos (by rw [q])]
      · rw [if_neg q, if_neg (fun w => q (Option.some.inj w))]
    rw [e]
    exact k p _ np (same_upd np) upd_same⟩
/-! ## isinstance -/
theorem isi {x : V} {c : String} {a : String} {b : Bool} (ty : TyX K H x (.type a)) (h : kitB a c = some b) (q : Q (.bl b) H) : rIsi K [x, .ty c] H Q := ⟨x, .ty c, .type a, .type c, b, rfl, .ty c, ty, kit_ty h, q⟩
theorem isi_i {n : Int} {c : String} {b : Bool} (h : kitB "int" c = some b) (q : Q (.bl b) H) : rIsi K [.int n, .ty c] H Q := isi (.base (.int n)) h q
theorem isi_s {n : Str} {c : String} {b : Bool} (h : kitB "str" c = some b) (q : Q (.bl b) H) : rIsi K [.str n, .ty c] H Q := isi (.base (.str n)) h q
theorem isi_l {a : Addr} {xs : List V} {c : String} {b : Bool} (s : SqL K H a xs) (h : kitB "list" c = some b) (q : Q (.bl b) H) : rIsi K [.ref a, .ty c] H Q := by
  refine isi (a := "list") ?_ h q
  rcases s with (s | ⟨o, s⟩) | ⟨dd, its, n, h1, h2⟩
  · exact .base (.lst s)
  · exact .base (.frz s)
  · exact .kList h1 h2.1
theorem isi_t {a : Addr} {xs : List V} {c : String} {b : Bool} (s : SqT K H a xs) (h : kitB "tuple" c = some b) (q : Q (.bl b) H) : rIsi K [.ref a, .ty c] H Q := by
  refine isi (a := "tuple") ?_ h q
  rcases s with (s | ⟨o, s⟩) | ⟨dd, its, n, h1, h2⟩
  · exact .base (.tup s)
  · exact .fTuple s
  · exact .kTuple h1 h2.1
theorem kit_no (a : String) (h1 : kitB a "list" = some false) (h2 : kitB a "tuple" = some false) : PySem.W.kitAny K (.type a) [.type "list", .type "tuple"] = some false :=
  kitAny_cons (b := false) (kit_ty h1) (fun _ => kitAny_cons (b := false) (kit_ty h2) (fun _ => kitAny_nil) fun z => nomatch z) fun z => nomatch z
theorem isi_int_int {n : Int} (q : Q (.bl true) H) : rIsi K [.int n, .ty "int"] H Q := isi (a := "int") (b := true) (.base (.int n)) (by decide +kernel) q
theorem isi_int_bool {n : Int} (q : Q (.bl false) H) : rIsi K [.int n, .ty "bool"] H Q := isi (a := "int") (b := false) (.base (.int n)) (by decide +kernel) q
theorem isi_int_str {n : Int} (q : Q (.bl false) H) : rIsi K [.int n, .ty "str"] H Q := isi (a := "int") (b := false) (.base (.int n)) (by decide +kernel) q
theorem isi_str_int {n : Str} (q : Q (.bl false) H) : rIsi K [.str n, .ty "int"] H Q := isi (a := "str") (b := false) (.base (.str n)) (by decide +kernel) q
theorem isi_str_bool {n : Str} (q : Q (.bl false) H) : rIsi K [.str n, .ty "bool"] H Q := isi (a := "str") (b := false) (.base (.str n)) (by decide +kernel) q
theorem isi_str_str {n : Str} (q : Q (.bl true) H) : rIsi K [.str n, .ty "str"] H Q := isi (a := "str") (b := true) (.base (.str n)) (by decide +kernel) q
theorem isi_bool_int {n : Bool} (q : Q (.bl true) H) : rIsi K [.bl n, .ty "int"] H Q := isi (a := "bool") (b := true) (.base (.bl n)) (by decide +kernel) q
theorem isi_bool_bool {n : Bool} (q : Q (.bl true) H) : rIsi K [.bl n, .ty "bool"] H Q := isi (a := "bool") (b := true) (.base (.bl n)) (by decide +kernel) q
theorem isi_bool_str {n : Bool} (q : Q (.bl false) H) : rIsi K [.bl n, .ty "str"] H Q := isi (a := "bool") (b := false) (.base (.bl n)) (by decide +kernel) q
theorem isi_non_int (q : Q (.bl false) H) : rIsi K [.non, .ty "int"] H Q := isi (a := "NoneType") (b := false) (.base .non) (by decide +kernel) q
theorem isi_non_bool (q : Q (.bl false) H) : rIsi K [.non, .ty "bool"] H Q := isi (a := "NoneType") (b := false) (.base .non) (by decide +kernel) q
theorem isi_non_str (q : Q (.bl false) H) : rIsi K [.non, .ty "str"] H Q := isi (a := "NoneType") (b := false) (.base .non) (by decide +kernel) q
theorem isi_list_int {a : Addr} {xs : List V} (s : SqL K H a xs) (q : Q (.bl false) H) : rIsi K [.ref a, .ty "int"] H Q := isi_l (b := false) s (by decide +kernel) q
theorem isi_list_bool {a : Addr} {xs : List V} (s : SqL K H a xs) (q : Q (.bl false) H) : rIsi K [.ref a, .ty "bool"] H Q := isi_l (b := false) s (by decide +kernel) q
theorem isi_list_str {a : Addr} {xs : List V} (s : SqL K H a xs) (q : Q (.bl false) H) : rIsi K [.ref a, .ty "str"] H Q := isi_l (b := false) s (by decide +kernel) q
theorem isi_list_list {a : Addr} {xs : List V} (s : SqL K H a xs) (q : Q (.bl true) H) : rIsi K [.ref a, .ty "list"] H Q := isi_l (b := true) s (by decide +kernel) q
theorem isi_list_tuple {a : Addr} {xs : List V} (s : SqL K H a xs) (q : Q (.bl false) H) : rIsi K [.ref a, .ty "tuple"] H Q := isi_l (b := false) s (by decide +kernel) q
theorem isi_tuple_int {a : Addr} {xs : List V} (s : SqT K H a xs) (q : Q (.bl false) H) : rIsi K [.ref a, .ty "int"] H Q := isi_t (b := false) s (by decide +kernel) q
theorem isi_tuple_bool {a : Addr} {xs : List V} (s : SqT K H a xs) (q : Q (.bl false) H) : rIsi K [.ref a, .ty "bool"] H Q := isi_t (b := false) s (by decide +kernel) q
theorem isi_tuple_str {a : Addr} {xs : List V} (s : SqT K H a xs) (q : Q (.bl false) H) : rIsi K [.ref a, .ty "str"] H Q := isi_t (b := false) s (by decide +kernel) q
theorem isi_tuple_list {a : Addr} {xs : List V} (s : SqT K H a xs) (q : Q (.bl false) H) : rIsi K [.ref a, .ty "list"] H Q := isi_t (b := false) s (by decide +kernel) q
theorem isi_tuple_tuple {a : Addr} {xs : List V} (s : SqT K H a xs) (q : Q (.bl true) H) : rIsi K [.ref a, .ty "tuple"] H Q := isi_t (b := true) s (by decide +kernel) q
/-- (list, tuple) made on the way -/
theorem isiT_i {n : Int} {p : Addr} (h : H p = some (.tup [.ty "list", .ty "tuple"])) (q : Q (.bl false) H) : rIsiT K [.int n, .ref p] H Q :=
  ⟨_, p, _, .type "int", [.type "list", .type "tuple"], false, rfl, h, .cons (.ty _) (.cons (.ty _) .nil), .base (.int n), kit_no "int" (by decide +kernel) (by decide +kernel), q⟩
theorem isiT_s {n : Str} {p : Addr} (h : H p = some (.tup [.ty "list", .ty "tuple"])) (q : Q (.bl false) H) : rIsiT K [.str n, .ref p] H Q :=
  ⟨_, p, _, .type "str", [.type "list", .type "tuple"], false, rfl, h, .cons (.ty _) (.cons (.ty _) .nil), .base (.str n), kit_no "str" (by decide +kernel) (by decide +kernel), q⟩
theorem isiT_b {n : Bool} {p : Addr} (h : H p = some (.tup [.ty "list", .ty "tuple"])) (q : Q (.bl false) H) : rIsiT K [.bl n, .ref p] H Q :=
  ⟨_, p, _, .type "bool", [.type "list", .type "tuple"], false, rfl, h, .cons (.ty _) (.cons (.ty _) .nil), .base (.bl n), kit_no "bool" (by decide +kernel) (by decide +kernel), q⟩
theorem isiT_n {p : Addr} (h : H p = some (.tup [.ty "list", .ty "tuple"])) (q : Q (.bl false) H) : rIsiT K [.non, .ref p] H Q :=
  ⟨_, p, _, .type "NoneType", [.type "list", .type "tuple"], false, rfl, h, .cons (.ty _) (.cons (.ty _) .nil), .base .non, kit_no "NoneType" (by decide +kernel) (by decide +kernel), q⟩
theorem isiT_E {a : Addr} {xs : List V} {p : Addr} (s : SqE K H a xs) (h : H p = some (.tup [.ty "list", .ty "tuple"])) (q : Q (.bl true) H) : rIsiT K [.ref a, .ref p] H Q := by
  rcases ty_E s with hx | hx
  · exact ⟨_, p, _, .type "list", [.type "list", .type "tuple"], true, rfl, h, .cons (.ty _) (.cons (.ty _) .nil), hx, kit_lt, q⟩
  · exact ⟨_, p, _, .type "tuple", [.type "list", .type "tuple"], true, rfl, h, .cons (.ty _) (.cons (.ty _) .nil), hx, kit_tt, q⟩
theorem tthen {te : TE} {k : V → Hp → VK → Prop} (h : te σ H fun x H1 => k x H1 Q) : tThen te k σ H Q := h
theorem tup_l {p : Addr} {xs : List V} (h : SqL K H p xs) (k : ∀ (q : Addr) (H' : Hp), H q = none → Same H H' → H' q = some (.tup xs) → Q (.ref q) H') : L2.kTup K (.ref p) H Q := .inl ⟨p, xs, rfl, h, fun q nq => k q _ nq (same_upd nq) upd_same⟩
theorem tup_t {p : Addr} {xs : List V} (h : SqT K H p xs) (q : Q (.ref p) H) : L2.kTup K (.ref p) H Q := .inr ⟨p, xs, rfl, h, q⟩
theorem rabs {i : Int} (q : Q (.int (i.natAbs : Nat)) H) : rAbs [.int i] H Q := ⟨i, rfl, by
  rw [show (if i < 0 then -i else i) = ((i.natAbs : Nat) : Int) by split <;> omega]; exact q⟩
theorem ixe {i j : Nat} {p : Addr} {z : Int} {m : Nat} {xs : List V} {v : V} (h1 : σ[i]? = some (some (.ref p))) (h2 : σ[j]? = some (some (.int z))) (h : SqE K H p xs) (e : xs[m]? = some v) (hz : z = (m : Int)) (q : Q v H) : tOp (rIxL K) (tVar i) (tVar j) σ H Q ∨ tOp (rIxT K) (tVar i) (tVar j) σ H Q := by
  rcases h with h | h
  · exact .inl ⟨_, h1, _, h2, p, xs, z, v, rfl, rfl, h, at_of hz e, q⟩
  · exact .inr ⟨_, h1, _, h2, p, xs, z, v, rfl, rfl, h, at_of hz e, q⟩
theorem rrep1 {p : Addr} {x : V} {n : Nat} (h : H p = some (.lst [x])) (hn : n ≤ 100000) (k : ∀ (q : Addr) (H' : Hp), H q = none → Same H H' → H' q = some (.lst (List.replicate n x)) → Q (.ref q) H') : rRep (.ref p) (.int n) H Q := ⟨p, n, [x], rfl, rfl, h, by omega, by omega, sz (by simp; exact hn), fun q nq => by
  have e : (List.replicate ((n : Nat) : Int).toNat [x]).flatten = List.replicate n x := by
    rw [show ((n : Nat) : Int).toNat = n by omega]
    exact flat_rep n x
  show Q (.ref q) (upd H q (.lst (List.replicate ((n : Nat) : Int).toNat [x]).flatten))
  rw [e]
  exact k q _ nq (same_upd nq) upd_same⟩
/-- while -/
def kWc (W : Nat → L2.St → Hp → Prop) (m : Nat) (tb : TS) (D : Ends) (σ : L2.St) : Bool → Hp → Prop := fun b H1 => if b = true then ∃ N : L2.St → Hp → Prop, (∀ σ' H', N σ' H' → ∃ m', m' < m ∧ W m' σ' H') ∧ tb { D with nx := N, ct := N, bk := D.nx } σ H1 else D.nx σ H1
theorem while_ {c : TT} {tb : TS} (W : Nat → L2.St → Hp → Prop) (m : Nat) (h0 : W m σ H) (hs : ∀ m σ H, W m σ H → c σ H (kWc W m tb D σ)) : tWhile c tb D σ H := ⟨W, ⟨m, h0⟩, hs⟩
theorem k_wt {W : Nat → L2.St → Hp → Prop} {m : Nat} {tb : TS} (h : tb { D with nx := fun σ' H' => ∃ m', m' < m ∧ W m' σ' H', ct := fun σ' H' => ∃ m', m' < m ∧ W m' σ' H', bk := D.nx } σ H) : kWc W m tb D σ true H := ⟨_, fun _ _ z => z, h⟩
theorem k_wf {W : Nat → L2.St → Hp → Prop} {m : Nat} {tb : TS} (h : D.nx σ H) : kWc W m tb D σ false H := h
theorem rmin2 {i j : Int} (q : Q (.int (min i j)) H) : rMin2 [.int i, .int j] H Q := ⟨i, j, rfl, by
  rw [show (if j < i then j else i) = min i j by rw [Int.min_def]; split <;> split <;> omega]; exact q⟩
theorem rmax2 {i j : Int} (q : Q (.int (max i j)) H) : rMax2 [.int i, .int j] H Q := ⟨i, j, rfl, by
  rw [show (if j > i then j else i) = max i j by rw [Int.max_def]; split <;> split <;> omega]; exact q⟩
/-! ## instances -/
def kFl (K : PySem.W.Frag) (f : Str) (Q : VK) : VK := fun x H1 => ∃ a C dx fs v, x = .ref a ∧ H1 a = some (.ins C dx fs) ∧ Cls K C ∧ NoAttr K C f ∧ fs.lookup f = some v ∧ Q v H1
theorem tfld {ta : TE} {f : Str} (h : ta σ H (kFl K f Q)) : tFld K ta f σ H Q := h
theorem k_fl {a C dx : Addr} {fs : List (Str × V)} {f : Str} {v : V} (h : H a = some (.ins C dx fs)) (c : Cls K C) (n : NoAttr K C f) (e : fs.lookup f = some v) (q : Q v H) : kFl K f Q (.ref a) H := ⟨a, C, dx, fs, v, rfl, h, c, n, e, q⟩
def kMe (C : Addr) (m : Str) (t : TA) (σ : L2.St) (R : List V → Hp → Prop) : VK := fun x H1 => ∃ a dx fs, x = .ref a ∧ H1 a = some (.ins C dx fs) ∧ fs.lookup m = none ∧ t σ H1 fun vs H2 => R (x :: vs) H2
theorem tmeth {C : Addr} {m : Str} {sp : Sp} {dvs : List V} {E : XK} {ta : TE} {t : TA} (h : ta σ H (kMe C m t σ fun vs H2 => sp (vs ++ dvs) H2 Q E)) : tMeth C m sp dvs E ta t σ H Q := h
theorem k_me {a C dx : Addr} {m : Str} {fs : List (Str × V)} {t : TA} {R : List V → Hp → Prop} (h : H a = some (.ins C dx fs)) (e : fs.lookup m = none) (q : t σ H fun vs H2 => R (.ref a :: vs) H2) : kMe C m t σ R (.ref a) H := ⟨a, dx, fs, rfl, h, e, q⟩
def kMk (C : Addr) (sp : Sp) (dvs : List V) (E : XK) (Q : VK) : List V → Hp → Prop := fun vs H1 => ∀ x dx, H1 x = none → H1 dx = none → dx ≠ x → sp (.ref x :: (vs ++ dvs)) (upd (upd H1 dx (.own x)) x (.ins C dx [])) (fun v H2 => v = .non ∧ Q (.ref x) H2) E
theorem tmake {C : Addr} {sp : Sp} {dvs : List V} {E : XK} {t : TA} (h : t σ H (kMk C sp dvs E Q)) : tMake C sp dvs E t σ H Q := h
theorem k_mk {C : Addr} {sp : Sp} {dvs : List V} {E : XK} {vs : List V} (k : ∀ (x dx : Addr) (H' : Hp), H x = none → H dx = none → Same H H' → H' x = some (.ins C dx []) → sp (.ref x :: (vs ++ dvs)) H' (fun v H2 => v = .non ∧ Q (.ref x) H2) E) : kMk C sp dvs E Q vs H :=
  fun x dx nx nd ne => k x dx _ nx nd (fun a o h => by rw [upd_ne (ne_of_none h nx), upd_ne (ne_of_none h nd)]; exact h) upd_same
def kSf (K : PySem.W.Frag) (f : Str) (y : V) (D : Ends) (σ : L2.St) : VK := fun x H2 => ∃ a C dx fs, x = .ref a ∧ H2 a = some (.ins C dx fs) ∧ Cls K C ∧ NoAttr K C f ∧ fs.length < 1000 ∧ D.nx σ (upd H2 a (.ins C dx (putF f y fs)))
theorem tsfld {ta tv : TE} {f : Str} (h : tv σ H fun y H1 => ta σ H1 (kSf K f y D σ)) : sFld K ta tv f D σ H := h
theorem k_sf {a C dx : Addr} {f : Str} {y : V} {fs gs : List (Str × V)} (h : H a = some (.ins C dx fs)) (c : Cls K C) (n : NoAttr K C f) (hl : fs.length < 1000) (e : putF f y fs = gs) (q : ∀ H' : Hp, Fr H H' a → H' a = some (.ins C dx gs) → D.nx σ H') : kSf K f y D σ (.ref a) H := ⟨a, C, dx, fs, rfl, h, c, n, hl, by
  subst e
  exact q _ Fr.upd upd_same⟩
def kPr (C : Addr) (sp : Sp) (dvs : List V) (E : XK) (Q : VK) : VK := fun x H1 => ∃ a dx fs, x = .ref a ∧ H1 a = some (.ins C dx fs) ∧ sp (.ref a :: dvs) H1 Q E
theorem tprop {C : Addr} {sp : Sp} {dvs : List V} {E : XK} {ta : TE} (h : ta σ H (kPr C sp dvs E Q)) : tProp C sp dvs E ta σ H Q := h
theorem k_pr {a C dx : Addr} {sp : Sp} {dvs : List V} {E : XK} {fs : List (Str × V)} (h : H a = some (.ins C dx fs)) (q : sp (.ref a :: dvs) H Q E) : kPr C sp dvs E Q (.ref a) H := ⟨a, dx, fs, rfl, h, q⟩
theorem rlen_own {a C dx : Addr} {fs : List (Str × V)} {sp : Sp} {E : XK} (h : H a = some (.ins C dx fs)) (q : sp [.ref a] H (fun z H' => ∃ i, z = .int i ∧ 0 ≤ i ∧ i < 2 ^ 63 ∧ Q z H') E) : LX.rLenOwn C sp E [.ref a] H Q := ⟨a, dx, fs, rfl, h, q⟩
theorem rmaxe {a : Addr} {ns : List Int} (h : SqE K H a (ns.map V.int)) (hne : ns ≠ []) (k : ∀ m, m ∈ ns → (∀ y ∈ ns, y ≤ m) → Q (.int m) H) : LX.rMaxE K [.ref a] H Q := ⟨a, ns, rfl, h, hne, k⟩
theorem rall {a : Addr} {bs : List Bool} (h : SqL K H a (bs.map V.bl)) (q : Q (.bl (bs.all id)) H) : rAll K [.ref a] H Q := ⟨a, bs, rfl, h, q⟩
def kRv (K : PySem.W.Frag) (Q : VK) : VK := fun x H1 => ∃ a xs, x = .ref a ∧ SqL K H1 a xs ∧ ∀ p, H1 p = none → Q (.ref p) (upd H1 p (.lst xs.reverse))
theorem trevl {te : TE} (h : te σ H (kRv K Q)) : tRevL K te σ H Q := h
theorem k_rv {a : Addr} {xs : List V} (h : SqL K H a xs) (k : ∀ (p : Addr) (H' : Hp), H p = none → Same H H' → H' p = some (.lst xs.reverse) → Q (.ref p) H') : kRv K Q (.ref a) H := ⟨a, xs, rfl, h, fun p np => k p _ np (same_upd np) upd_same⟩
def kR3 (R : It → Hp → Prop) : List V → Hp → Prop := fun vs H1 => ∃ (i j c : Int) (n : Nat), vs = [.int i, .int j, .int c] ∧ RgC i j c n ∧ R (Itc i c n) H1
theorem irng3 {ta : TA} {R : It → Hp → Prop} (h : ta σ H (kR3 R)) : iRng3 ta σ H R := h
theorem k_r3 {i j c : Int} {n : Nat} {R : It → Hp → Prop} (h : RgC i j c n) (q : R (Itc i c n) H) : kR3 R [.int i, .int j, .int c] H := ⟨i, j, c, n, rfl, h, q⟩
/-! ## stores -/
theorem rset {p : Addr} {xs : List V} {k : Int} {j : Nat} {v : V} {QH : Hp → Prop} (h : H p = some (.lst xs)) (e : ixN xs.length k = some j) (q : ∀ H' : Hp, Fr H H' p → H' p = some (.lst (xs.set j v)) → QH H') : rSetL (.ref p) (.int k) v H QH := ⟨p, xs, k, j, rfl, rfl, h, e, q _ Fr.upd upd_same⟩
theorem rapp {p : Addr} {xs : List V} {y : V} (h : H p = some (.lst xs)) (hz : xs.length < sizeLine) (q : ∀ H' : Hp, Fr H H' p → H' p = some (.lst (xs ++ [y])) → Q .non H') : rAppend (.ref p) [y] H Q := ⟨p, xs, y, rfl, rfl, h, hz, q _ Fr.upd upd_same⟩
theorem rpopi {p : Addr} {xs : List V} {i : Int} {k : Nat} {y : V} (h : H p = some (.lst xs)) (h1 : -(2 ^ 63) ≤ i) (h2 : i < 2 ^ 63) (e : seqIndex? i xs.length = some k) (hx : xs[k]? = some y) (q : ∀ H' : Hp, Fr H H' p → H' p = some (.lst (xs.eraseIdx k)) → Q y H') : rPopAt (.ref p) [.int i] H Q := ⟨p, xs, i, k, y, rfl, rfl, h, h1, h2, e, hx, q _ Fr.upd upd_same⟩
theorem rrem {p : Addr} {ns : List Int} {n : Int} {k : Nat} (h : H p = some (.lst (ns.map V.int))) (e : ns[k]? = some n) (hm : ∀ m : Nat, m < k → ns[m]? ≠ some n) (q : ∀ H' : Hp, Fr H H' p → H' p = some (.lst ((ns.eraseIdx k).map V.int)) → Q .non H') : rRemI (.ref p) [.int n] H Q := ⟨p, ns, n, k, rfl, rfl, h, e, hm, q _ Fr.upd upd_same⟩
theorem rindex {p : Addr} {ys : List V} {y z : V} {j : Nat} (h : SqL K H p ys) (fy : flatV y = true) (fl : ys.all flatV = true) (e : ys[j]? = some z) (ez : eqV z y = true) (hm : ∀ (m : Nat) (z' : V), m < j → ys[m]? = some z' → eqV z' y = false) (q : Q (.int (j : Nat)) H) : rIndex K (.ref p) [y] H Q := ⟨p, ys, y, j, z, rfl, rfl, h, fy, fl, e, ez, hm, q⟩
theorem rpop {p : Addr} {xs : List V} {y : V} (h : H p = some (.lst (xs ++ [y]))) (q : ∀ H' : Hp, Fr H H' p → H' p = some (.lst xs) → Q y H') : rPop (.ref p) [] H Q := ⟨p, xs ++ [y], y, rfl, rfl, h, by simp, by rw [List.dropLast_concat]; exact q _ Fr.upd upd_same⟩
theorem rrev {p : Addr} {xs : List V} (h : H p = some (.lst xs)) (q : ∀ H' : Hp, Fr H H' p → H' p = some (.lst xs.reverse) → Q .non H') : rReverse (.ref p) [] H Q := ⟨p, xs, rfl, rfl, h, q _ Fr.upd upd_same⟩
theorem tbm {T : String} {r : V → List V → Hp → VK → Prop} {to : TE} {t : TA} (h : to σ H fun x H1 => tyV K T x H1 ∧ t σ H1 fun xs H2 => r x xs H2 Q) : tBM K T r to t σ H Q := h
theorem tbm0 {T : String} {r : V → List V → Hp → VK → Prop} {to : TE} (h : to σ H fun x H1 => tyV K T x H1 ∧ r x [] H1 Q) : tBM0 K T r to σ H Q := h
theorem ty_l {p : Addr} {xs : List V} {P : Prop} (h : SqL K H p xs) (q : P) : tyV K "list" (.ref p) H ∧ P := ⟨.inl ⟨rfl, xs, h⟩, q⟩
theorem tm0 {r : V → List V → Hp → VK → Prop} {to : TE} (h : to σ H fun x H1 => (∃ a, x = .str a) ∧ r x [] H1 Q) : tM0 r to σ H Q := h
theorem tm1 {r : V → List V → Hp → VK → Prop} {to te : TE} (h : to σ H fun x H1 => (∃ a, x = .str a) ∧ te σ H1 fun y H2 => r x [y] H2 Q) : tM1 r to te σ H Q := h
theorem is_str {a : Str} {P : Prop} (h : P) : (∃ z, V.str a = V.str z) ∧ P := ⟨⟨a, rfl⟩, h⟩
theorem ex_s0 {P : Str → Prop} {a : Str} (h : P a) : ∃ z, V.str a = V.str z ∧ ([] : List V) = [] ∧ True ∧ P z := ⟨a, rfl, rfl, trivial, h⟩
/-! ## ways that meet -/
theorem if_join {c : Prop} [Decidable c] {t u : TS} (A : L2.St → Hp → Prop)
    (h1 : c → ∀ D' : Ends, D'.rt = D.rt → (∀ σ' H', A σ' H' → D'.nx σ' H') → t D' σ H) (h2 : ¬ c → ∀ D' : Ends, D'.rt = D.rt → (∀ σ' H', A σ' H' → D'.nx σ' H') → u D' σ H)
    (k : ∀ σ' H', A σ' H' → D.nx σ' H') : if decide c = true then t D σ H else u D σ H := ite2d (fun hc => h1 hc D rfl k) fun hc => h2 hc D rfl k
theorem ifn_join {c : Prop} [Decidable c] {t u : TS} (A : L2.St → Hp → Prop)
    (h1 : ¬ c → ∀ D' : Ends, D'.rt = D.rt → (∀ σ' H', A σ' H' → D'.nx σ' H') → t D' σ H) (h2 : c → ∀ D' : Ends, D'.rt = D.rt → (∀ σ' H', A σ' H' → D'.nx σ' H') → u D' σ H)
    (k : ∀ σ' H', A σ' H' → D.nx σ' H') : if (!decide c) = true then t D σ H else u D σ H := ifn2 (fun hc => h1 hc D rfl k) fun hc => h2 hc D rfl k
theorem ifb_join {b : Bool} {t u : TS} (A : L2.St → Hp → Prop)
    (h1 : b = true → ∀ D' : Ends, D'.rt = D.rt → (∀ σ' H', A σ' H' → D'.nx σ' H') → t D' σ H) (h2 : b = false → ∀ D' : Ends, D'.rt = D.rt → (∀ σ' H', A σ' H' → D'.nx σ' H') → u D' σ H)
    (k : ∀ σ' H', A σ' H' → D.nx σ' H') : if b = true then t D σ H else u D σ H := by
  cases b with
  | true => exact ift (h1 rfl D rfl k)
  | false => exact iff_ (h2 rfl D rfl k)
theorem exp_join {c : Prop} [Decidable c] {ta tb : TE} (A : V → Hp → Prop) (h1 : c → ∀ Q' : VK, (∀ v H', A v H' → Q' v H') → ta σ H Q') (h2 : ¬ c → ∀ Q' : VK, (∀ v H', A v H' → Q' v H') → tb σ H Q')
    (k : ∀ v H', A v H' → Q v H') : if decide c = true then ta σ H Q else tb σ H Q := ite2d (fun hc => h1 hc Q k) fun hc => h2 hc Q k
theorem seq_cut {t u : TS} (A : L2.St → Hp → Prop) (h1 : ∀ D' : Ends, D'.rt = D.rt → (∀ σ' H', A σ' H' → D'.nx σ' H') → t D' σ H) (h2 : ∀ σ' H', A σ' H' → u D σ' H') : tSeq t u D σ H := h1 { D with nx := u D } rfl h2
/-! ## statements -/
theorem tseq {t u : TS} (h : t { D with nx := u D } σ H) : tSeq t u D σ H := h
theorem tnext (h : D.nx σ H) : tNext D σ H := h
theorem tdrop {te : TE} (h : te σ H fun _ H1 => D.nx σ H1) : tDrop te D σ H := h
theorem tret {te : TE} (h : te σ H D.rt) : tRet te D σ H := h
theorem tretn (h : D.rt .non H) : tRetN D σ H := h
theorem tifs {c : TT} {t u : TS} (h : c σ H fun b H1 => if b = true then t D σ H1 else u D σ H1) : tIfS c t u D σ H := h
theorem tasg {te : TE} {g : TG} (h : te σ H fun x H1 => g x σ H1 D.nx) : tAsg te g D σ H := h
theorem gname {i : Nat} {v : V} {QG : L2.St → Hp → Prop} (h : QG (σ.set i (some v)) H) : gName i v σ H QG := h
theorem gtup {n : Nat} {t : TGs} {a : Addr} {xs : List V} {QG : L2.St → Hp → Prop} (h : SqT K H a xs) (hn : xs.length = n) (q : t xs σ H QG) : gTup K n t (.ref a) σ H QG := ⟨a, xs, rfl, h, hn, q⟩
theorem gunl {n : Nat} {t : TGs} {a : Addr} {xs : List V} {QG : L2.St → Hp → Prop} (h : SqL K H a xs) (hn : xs.length = n) (q : t xs σ H QG) : gUnl K n t (.ref a) σ H QG := ⟨a, xs, rfl, h, hn, q⟩
theorem gnil {QG : L2.St → Hp → Prop} (h : QG σ H) : gNil [] σ H QG := ⟨rfl, h⟩
theorem gcons {t : TG} {u : TGs} {v : V} {r : List V} {QG : L2.St → Hp → Prop} (h : t v σ H fun σ' H' => u r σ' H' QG) : gCons t u (v :: r) σ H QG := ⟨v, r, rfl, h⟩
theorem gsub {to ti : TE} {t : TSet} {v : V} {QG : L2.St → Hp → Prop} (h : to σ H fun o H1 => ti σ H1 fun i H2 => t o i v H2 fun H3 => QG σ H3) : gSub to ti t v σ H QG := h
def kPar (i j : Nat) (D : Ends) (σ : L2.St) : List V → Hp → Prop := fun vs H1 => ∃ v w, vs = [v, w] ∧ D.nx ((σ.set i (some v)).set j (some w)) H1
theorem tpar {i j : Nat} {ta : TA} (h : ta σ H (kPar i j D σ)) : tPar i j ta D σ H := h
theorem k_par {i j : Nat} {v w : V} (h : D.nx ((σ.set i (some v)).set j (some w)) H) : kPar i j D σ [v, w] H := ⟨v, w, rfl, h⟩
def kPar3 (i j l : Nat) (D : Ends) (σ : L2.St) : List V → Hp → Prop := fun vs H1 => ∃ u v w, vs = [u, v, w] ∧ D.nx (((σ.set i (some u)).set j (some v)).set l (some w)) H1
theorem tpar3 {i j l : Nat} {ta : TA} (h : ta σ H (kPar3 i j l D σ)) : tPar3 i j l ta D σ H := h
theorem k_par3 {i j l : Nat} {u v w : V} (h : D.nx (((σ.set i (some u)).set j (some v)).set l (some w)) H) : kPar3 i j l D σ [u, v, w] H := ⟨u, v, w, rfl, h⟩
theorem taug {i : Nat} {x : V} {te : TE} {ti : TIp} (e : σ[i]? = some (some x)) (h : te σ H fun y H1 => ti x y H1 fun z H2 => D.nx (σ.set i (some z)) H2) : tAug i te ti D σ H := ⟨x, e, h⟩
theorem ipi {f : Int → Int → Int} {i j : Int} (q : Q (.int (f i j)) H) : ipI f (.int i) (.int j) H Q := ⟨i, j, rfl, rfl, q⟩
/-! ## shapes of rules without a name -/
theorem ex_ss {P : Str → Str → Prop} {a b : Str} (h : P a b) : ∃ i j, V.str a = V.str i ∧ V.str b = V.str j ∧ P i j := ⟨a, b, rfl, rfl, h⟩
theorem ex_s1 {P : Str → Prop} {a : Str} (h : P a) : ∃ z, [V.str a] = [V.str z] ∧ P z := ⟨a, rfl, h⟩
theorem ex_i1 {P : Int → Prop} {a : Int} (h : P a) : ∃ z, [V.int a] = [V.int z] ∧ P z := ⟨a, rfl, h⟩
theorem ex_int_b {P R : Int → Prop} {b : Bool} (h : R (if b then 1 else 0)) : (∃ i, [V.bl b] = [V.int i] ∧ P i) ∨ ∃ k, [V.bl b] = [V.bl k] ∧ R (if k then 1 else 0) := .inr ⟨b, rfl, h⟩
theorem and_rfl {α : Type} {a : α} {P : Prop} (h : P) : a = a ∧ P := ⟨rfl, h⟩
theorem and_tr {P : Prop} (h : P) : True ∧ P := ⟨trivial, h⟩
theorem is_non {Q : Bool → Prop} (h : Q true) : Q (decide (V.non = V.non)) := by rw [decide_eq_true rfl]; exact h
end
/-! ## loops -/
section
variable {J : It} {n : Nat} {G : Hp → Prop} {Y : Nat → Hp → V → Hp → Prop} {K : PySem.W.Frag}
/-- what a comprehension has made so far stands at D -/
def lcP (D : Addr) (Pv : Nat → List V → Hp → Prop) (i : Nat) (H : Hp) : Prop := ∃ acc, H D = some (.lst acc) ∧ acc.length ≤ i ∧ Pv i acc H
def kLc (D : Addr) (Nx : Hp → Prop) : VK := fun y H4 => ∃ acc, H4 D = some (.lst acc) ∧ acc.length < sizeLine ∧ Nx (upd H4 D (.lst (acc ++ [y])))
theorem k_lc {D : Addr} {Pv : Nat → List V → Hp → Prop} {i : Nat} {y : V} {H : Hp} {acc : List V} (h : H D = some (.lst acc)) (hl : acc.length ≤ i) (hz : i ≤ 99999) (q : ∀ H5 : Hp, Fr H H5 D → H5 D = some (.lst (acc ++ [y])) → Pv (i + 1) (acc ++ [y]) H5) : kLc D (lcP D Pv (i + 1)) y H :=
  ⟨acc, h, Nat.lt_of_lt_of_le (Nat.lt_of_le_of_lt (Nat.le_trans hl hz) (by decide : 99999 < 100000)) (by decide), acc ++ [y], upd_same, by rw [List.length_append]; exact Nat.succ_le_succ hl, q _ Fr.upd upd_same⟩
theorem k_lc0 {D : Addr} {Pv : Nat → List V → Hp → Prop} {i : Nat} {H : Hp} {acc : List V} (h : H D = some (.lst acc)) (hl : acc.length ≤ i) (q : Pv (i + 1) acc H) : lcP D Pv (i + 1) H := ⟨acc, h, Nat.le_succ_of_le hl, q⟩
/-- a comprehension: Pv by the turn, what is made so far and the heap; the new list D is told apart -/
theorem lc_gen (w : Walk J n G Y) {g : TG} {tt : TT} {te : TE} {vs : List Nat} {σ : L2.St} {H1 : Hp} {D : Addr} {Qd : Hp → Prop} (hD : H1 D = none) (Pv : Nat → List V → Hp → Prop)
    (h0 : ∀ H', Same H1 H' → H' D = some (.lst []) → Pv 0 [] H') (hG : ∀ i acc H, i ≤ n → H D = some (.lst acc) → Pv i acc H → G H)
    (hs : ∀ i acc x H H', i < n → acc.length ≤ i → H D = some (.lst acc) → Pv i acc H → Y i H x H' → g x (wipe σ vs) H' fun σ2 H2 => wipe σ2 vs = wipe σ vs ∧ tt σ2 H2 fun b H3 =>
      if b = true then te σ2 H3 (kLc D (lcP D Pv (i + 1))) else lcP D Pv (i + 1) H3)
    (hd : ∀ acc H, H D = some (.lst acc) → acc.length ≤ n → Pv n acc H → Qd H) :
    ∃ W : Nat → Nat → Hp → Prop, (∃ m, W 0 m (upd H1 D (.lst []))) ∧ ∀ i m H, W i m H →
      (J.stop i H ∧ Qd H) ∨ (J.go i H ∧ ∃ Nx : Hp → Prop, (∀ H', Nx H' → ∃ m', m' < m ∧ W (i + 1) m' H') ∧ ∀ x H', J.yld i H x H' → g x (wipe σ vs) H' fun σ2 H2 => wipe σ2 vs = wipe σ vs ∧ tt σ2 H2 fun b H3 =>
        if b = true then te σ2 H3 fun y H4 => ∃ acc, H4 D = some (.lst acc) ∧ acc.length < sizeLine ∧ Nx (upd H4 D (.lst (acc ++ [y]))) else Nx H3) :=
  lc_it w (lcP D Pv) ⟨[], upd_same, Nat.le_refl _, h0 _ (same_upd hD) upd_same⟩ (fun i H hi ⟨acc, h1, _, h2⟩ => hG i acc H hi h1 h2) (fun i x H H' hi ⟨acc, h1, hl, h2⟩ y => hs i acc x H H' hi hl h1 h2 y) fun H ⟨acc, h1, hl, h2⟩ => hd acc H h1 hl h2
/-- a comprehension that makes one value of each item and changes nothing -/
theorem lc_map {xs : List V} (w : Walk J xs.length G (YAt xs)) (hz : xs.length ≤ 99999) {g : TG} {tt : TT} {te : TE} {vs : List Nat} {σ : L2.St} {H1 : Hp} {D : Addr} {Qd : Hp → Prop} (hD : H1 D = none) (F : V → V)
    (hG : ∀ H', Same H1 H' → G H')
    (hs : ∀ x Hq, x ∈ xs → Same H1 Hq → ∀ (KK : VK) (KN : Hp → Prop), (∀ H5, Same Hq H5 → KK (F x) H5) → g x (wipe σ vs) Hq fun σ2 H2 => wipe σ2 vs = wipe σ vs ∧ tt σ2 H2 fun b H3 => if b = true then te σ2 H3 KK else KN H3)
    (hd : ∀ H, Same H1 H → H D = some (.lst (xs.map F)) → Qd H) :
    ∃ W : Nat → Nat → Hp → Prop, (∃ m, W 0 m (upd H1 D (.lst []))) ∧ ∀ i m H, W i m H →
      (J.stop i H ∧ Qd H) ∨ (J.go i H ∧ ∃ Nx : Hp → Prop, (∀ H', Nx H' → ∃ m', m' < m ∧ W (i + 1) m' H') ∧ ∀ x H', J.yld i H x H' → g x (wipe σ vs) H' fun σ2 H2 => wipe σ2 vs = wipe σ vs ∧ tt σ2 H2 fun b H3 =>
        if b = true then te σ2 H3 fun y H4 => ∃ acc, H4 D = some (.lst acc) ∧ acc.length < sizeLine ∧ Nx (upd H4 D (.lst (acc ++ [y]))) else Nx H3) :=
  lc_gen w hD (fun i acc H => Same H1 H ∧ acc = (xs.take i).map F) (fun H' s _ => ⟨s, by rw [List.take_zero]; rfl⟩) (fun i acc H _ _ h => hG H h.1)
    (fun i acc x H H' hi hl hH ⟨s, ha⟩ ⟨e, hx⟩ => by
      subst e
      refine hs x H' (List.mem_of_getElem? hx) s _ _ fun H5 s5 => k_lc (s5 _ _ hH) hl (by omega) fun H6 f h6 => ⟨Same.fr_new (s.trans s5) f hD, ?_⟩
      rw [ha, List.take_add_one, hx, List.map_append]; rfl)
    fun acc H hH _ ⟨s, ha⟩ => hd H s (by rw [hH, ha, List.take_length])
end
theorem ypair {xs ys : Nat → Option V} {i : Nat} {H H' : Hp} {v : V} (h : YPair xs ys i H v H') : ∃ T x y, v = .ref T ∧ H T = none ∧ Same H H' ∧ H' T = some (.tup [x, y]) ∧ xs i = some x ∧ ys i = some y := by
  obtain ⟨T, x, y, e, nT, rfl, h1, h2⟩ := h
  exact ⟨T, x, y, e, nT, same_upd nT, upd_same, h1, h2⟩
/-! ## loops by name -/
section
variable {K : PySem.W.Frag} {σ : L2.St} {H : Hp} {Q : VK} {D : Ends} {R : It → Hp → Prop}
def kFor (g : TG) (tb : TS) (D : Ends) (σ : L2.St) : It → Hp → Prop := fun J H1 => ∃ W : Nat → Nat → L2.St → Hp → Prop, (∃ m, W 0 m σ H1) ∧ ∀ i m σ H, W i m σ H →
  (J.stop i H ∧ D.nx σ H) ∨ (J.go i H ∧ ∃ N : L2.St → Hp → Prop, (∀ σ' H', N σ' H' → ∃ m', m' < m ∧ W (i + 1) m' σ' H') ∧ ∀ x H', J.yld i H x H' → g x σ H' fun σ2 H2 => tb { D with nx := N, ct := N, bk := D.nx } σ2 H2)
theorem tfor {wi : TI} {g : TG} {tb : TS} (h : wi σ H (kFor g tb D σ)) : tFor wi g tb D σ H := h
def kLcS (g : TG) (tt : TT) (te : TE) (vs : List Nat) (σ : L2.St) (Q : VK) : It → Hp → Prop := fun J H1 => ∀ D, H1 D = none → ∃ W : Nat → Nat → Hp → Prop, (∃ m, W 0 m (upd H1 D (.lst []))) ∧ ∀ i m H, W i m H →
  (J.stop i H ∧ Q (.ref D) H) ∨ (J.go i H ∧ ∃ Nx : Hp → Prop, (∀ H', Nx H' → ∃ m', m' < m ∧ W (i + 1) m' H') ∧ ∀ x H', J.yld i H x H' → g x (wipe σ vs) H' fun σ2 H2 => wipe σ2 vs = wipe σ vs ∧ tt σ2 H2 fun b H3 =>
    if b = true then te σ2 H3 fun y H4 => ∃ acc, H4 D = some (.lst acc) ∧ acc.length < sizeLine ∧ Nx (upd H4 D (.lst (acc ++ [y]))) else Nx H3)
theorem tlc {wi : TI} {g : TG} {tt : TT} {te : TE} {vs : List Nat} (h : wi σ H (kLcS g tt te vs σ Q)) : tLc wi g tt te vs σ H Q := h
def kIL (K : PySem.W.Frag) (R : It → Hp → Prop) : VK := fun x H1 => ∃ a, x = .ref a ∧ (∃ xs, SqL K H1 a xs) ∧ R (Itl K a) H1
theorem ilist {tl : TE} (h : tl σ H (kIL K R)) : iList K tl σ H R := h
theorem k_il {a : Addr} {xs : List V} (h : SqL K H a xs) (q : R (Itl K a) H) : kIL K R (.ref a) H := ⟨a, rfl, ⟨xs, h⟩, q⟩
def kIT (K : PySem.W.Frag) (R : It → Hp → Prop) : VK := fun x H1 => ∃ a, x = .ref a ∧ (∃ xs, SqT K H1 a xs) ∧ R (Itt K a) H1
theorem itup {tl : TE} (h : tl σ H (kIT K R)) : iTup K tl σ H R := h
theorem k_it {a : Addr} {xs : List V} (h : SqT K H a xs) (q : R (Itt K a) H) : kIT K R (.ref a) H := ⟨a, rfl, ⟨xs, h⟩, q⟩
def kIS (R : It → Hp → Prop) : VK := fun v H1 => ∃ x, v = .str x ∧ R (Its x) H1
theorem istr {te : TE} (h : te σ H (kIS R)) : iStr te σ H R := h
theorem k_is {x : Str} (q : R (Its x) H) : kIS R (.str x) H := ⟨x, rfl, q⟩
def kR1 (R : It → Hp → Prop) : List V → Hp → Prop := fun vs H1 => ∃ j : Int, vs = [.int j] ∧ -(2 ^ 62) ≤ j ∧ j < 2 ^ 62 ∧ R (Itr 0 j.toNat) H1
theorem irng1 {ta : TA} (h : ta σ H (kR1 R)) : iRng1 ta σ H R := h
theorem k_r1 {j : Int} (h1 : -(2 ^ 62) ≤ j) (h2 : j < 2 ^ 62) (q : R (Itr 0 j.toNat) H) : kR1 R [.int j] H := ⟨j, rfl, h1, h2, q⟩
theorem k_r1n {n : Nat} (h2 : n < 2 ^ 62) (q : R (Itr 0 n) H) : kR1 R [.int n] H := ⟨n, rfl, by omega, by omega, q⟩
def kR2 (R : It → Hp → Prop) : List V → Hp → Prop := fun vs H1 => ∃ i j : Int, vs = [.int i, .int j] ∧ (-(2 ^ 62) ≤ i ∧ i < 2 ^ 62 ∧ -(2 ^ 62) ≤ j ∧ j < 2 ^ 62) ∧ R (Itr i (j - i).toNat) H1
theorem irng2 {ta : TA} (h : ta σ H (kR2 R)) : iRng2 ta σ H R := h
theorem k_r2 {i j : Int} (h1 : -(2 ^ 62) ≤ i) (h2 : i < 2 ^ 62) (h3 : -(2 ^ 62) ≤ j) (h4 : j < 2 ^ 62) (q : R (Itr i (j - i).toNat) H) : kR2 R [.int i, .int j] H := ⟨i, j, rfl, ⟨h1, h2, h3, h4⟩, q⟩
def kEn (K : PySem.W.Frag) (R : It → Hp → Prop) : List V → Hp → Prop := fun vs H1 => ∃ a xs, vs = [.ref a] ∧ SqL K H1 a xs ∧ R (Ite K a) H1
theorem ienum {ta : TA} (h : ta σ H (kEn K R)) : iEnum K ta σ H R := h
theorem k_en {a : Addr} {xs : List V} (h : SqL K H a xs) (q : R (Ite K a) H) : kEn K R [.ref a] H := ⟨a, xs, rfl, h, q⟩
def kZip (K : PySem.W.Frag) (R : It → Hp → Prop) : List V → Hp → Prop := fun vs H1 => ∃ a b xs ys, vs = [.ref a, .ref b] ∧ SqL K H1 a xs ∧ SqL K H1 b ys ∧ R (Itz K a b) H1
theorem izip {ta : TA} (h : ta σ H (kZip K R)) : iZip K ta σ H R := h
theorem k_zip {a b : Addr} {xs ys : List V} (h : SqL K H a xs) (h' : SqL K H b ys) (q : R (Itz K a b) H) : kZip K R [.ref a, .ref b] H := ⟨a, b, xs, ys, rfl, h, h', q⟩
/-- list(range(..)) -/
def kLR (Q : VK) : Int → Int → Hp → Prop := fun a b H1 => RgOk a b ∧ ∀ q, H1 q = none → Q (.ref q) (upd H1 q (.lst (rgV a b)))
theorem tlstrg {te : L2.St → Hp → (Int → Int → Hp → Prop) → Prop} (h : te σ H (kLR Q)) : tLstRg te σ H Q := h
theorem k_lr {n : Nat} (hn : n ≤ 100000) (k : ∀ (p : Addr) (H' : Hp), H p = none → Same H H' → H' p = some (.lst (rgV 0 n)) → Q (.ref p) H') : kLR Q 0 n H :=
  ⟨RgOk.of_le (by decide) (by omega) (by decide) (by omega), fun p np => k p _ np (same_upd np) upd_same⟩
def kG1 (QR : Int → Int → Hp → Prop) : VK := fun x H1 => ∃ n, x = .int n ∧ QR 0 n H1
theorem trg1 {ta : TE} {QR : Int → Int → Hp → Prop} (h : ta σ H (kG1 QR)) : tRg1 ta σ H QR := h
theorem k_g1 {n : Int} {QR : Int → Int → Hp → Prop} (q : QR 0 n H) : kG1 QR (.int n) H := ⟨n, rfl, q⟩
end
section
variable {J : It} {n : Nat} {G : Hp → Prop} {Y : Nat → Hp → V → Hp → Prop} {K : PySem.W.Frag}
theorem for_ (w : Walk J n G Y) {g : TG} {tb : TS} {D : Ends} {σ : L2.St} {H : Hp} (Pv : Nat → L2.St → Hp → Prop) (h0 : Pv 0 σ H) (hG : ∀ i σ H, i ≤ n → Pv i σ H → G H)
    (hs : ∀ i x σ H H', i < n → Pv i σ H → Y i H x H' → g x σ H' fun σ2 H2 => tb { D with nx := Pv (i + 1), ct := Pv (i + 1), bk := D.nx } σ2 H2) (hd : ∀ σ H, Pv n σ H → D.nx σ H) : kFor g tb D σ J H := for_it w Pv h0 hG hs hd
theorem comp (w : Walk J n G Y) {g : TG} {tt : TT} {te : TE} {vs : List Nat} {σ : L2.St} {H1 : Hp} {Q : VK} (Pv : Addr → Nat → List V → Hp → Prop)
    (h0 : ∀ D H', H1 D = none → Same H1 H' → H' D = some (.lst []) → Pv D 0 [] H') (hG : ∀ D i acc H, i ≤ n → H1 D = none → H D = some (.lst acc) → Pv D i acc H → G H)
    (hs : ∀ D i acc x H H', H1 D = none → i < n → acc.length ≤ i → H D = some (.lst acc) → Pv D i acc H → Y i H x H' → g x (wipe σ vs) H' fun σ2 H2 => wipe σ2 vs = wipe σ vs ∧ tt σ2 H2 fun b H3 =>
      if b = true then te σ2 H3 (kLc D (lcP D (Pv D) (i + 1))) else lcP D (Pv D) (i + 1) H3)
    (hd : ∀ D acc H, H1 D = none → H D = some (.lst acc) → acc.length ≤ n → Pv D n acc H → Q (.ref D) H) : kLcS g tt te vs σ Q J H1 :=
  fun D hD => lc_gen w hD (Pv D) (fun H' => h0 D H' hD) (fun i acc H hi => hG D i acc H hi hD) (fun i acc x H H' => hs D i acc x H H' hD) fun acc H => hd D acc H hD
theorem map_ {xs : List V} (w : Walk J xs.length G (YAt xs)) (hz : xs.length ≤ 99999) {g : TG} {tt : TT} {te : TE} {vs : List Nat} {σ : L2.St} {H1 : Hp} {Q : VK} (F : V → V)
    (hG : ∀ H', Same H1 H' → G H')
    (hs : ∀ x Hq, x ∈ xs → Same H1 Hq → ∀ (KK : VK) (KN : Hp → Prop), (∀ H5, Same Hq H5 → KK (F x) H5) → g x (wipe σ vs) Hq fun σ2 H2 => wipe σ2 vs = wipe σ vs ∧ tt σ2 H2 fun b H3 => if b = true then te σ2 H3 KK else KN H3)
    (hd : ∀ D H, H1 D = none → Same H1 H → H D = some (.lst (xs.map F)) → Q (.ref D) H) : kLcS g tt te vs σ Q J H1 :=
  fun D hD => lc_map w hz hD F hG hs fun H => hd D H hD
end
section
variable {P : Program} {w : World} {K : PySem.W.Frag} {mg : Str → Option Value} {base : Heap} {CX : CXT} {k : Nat} {f : Addr} {fd : FuncData} {ps : List Str} {sp sp' : Sp}
theorem fn_imp (F : FnOk P w K mg base CX k f fd ps sp) (h : ∀ vs H Q E, sp' vs H Q E → sp vs H Q E) : FnOk P w K mg base CX k f fd ps sp' :=
  ⟨fun vs H Q E x => F.len _ _ _ _ (h _ _ _ _ x), fun A out s H ar us vs Q E hr e b r x => F.run A out s H ar us vs Q E hr e b r (h _ _ _ _ x)⟩
theorem fn_no : FnOk P w K mg base CX 0 f fd ps (fun _ _ _ _ => False) := ⟨fun _ _ _ _ x => x.elim, fun _ _ _ _ _ _ _ _ _ _ _ _ _ x => x.elim⟩
end
end LS
namespace LP
open PySem L2 LT LG LX
def sp__law_draw_t : Sp := fun vs H Q _ => ∃ (b : Addr) (d : Nat) (n : Int), vs = [.ref b, .int n] ∧ Reel H b d ∧ 0 < n ∧ n.natAbs.log2 < 9000 ∧ d < 1000000 ∧
  ∀ (H' : Hp) (r : Int), 0 ≤ r → r < n → LS.RT H H' b (d + 1) → Q (.int r) H'
def sp__law_shuffled_t : Sp := fun vs H Q _ => ∃ (b : Addr) (d : Nat) (p : Addr) (xs : List Int), vs = [.ref b, .ref p] ∧ Reel H b d ∧ d < 900000 ∧ H p = some (.lst (xs.map V.int)) ∧ xs.length ≤ 400 ∧ p ≠ b ∧
  ∀ (H' : Hp) (q : Addr) (ys : List Int), LS.RT H H' b (d + xs.length) → H q = none → ys.Perm xs → H' q = some (.lst (ys.map V.int)) → Apart H' b q → Q (.ref q) H'
theorem draw_t {vs : List V} {H : Hp} {Q : VK} {E : XK} (h : sp__law_draw_t vs H Q E) : sp__law_draw_r vs H Q E := by
  obtain ⟨b, d, n, rfl, R, h1, h2, h3, k⟩ := h
  exact ⟨b, d, n, rfl, R, h1, h2, h3, fun H' r r0 r1 R' F A => k H' r r0 r1 ⟨R', F, A⟩⟩
end LP

/-! small data: what repr and == ask of it -/
namespace LG
open PySem L2
structure Sm (d : PyData) (k w : Nat) : Prop where
  sh : d.showable = true
  ls : d.leavesShort 40 = true
  cl : d.canLay0 = true
  dp : d.depth ≤ k
  wt : d.weight ≤ w
theorem Sm.mono {d : PyData} {k w k' w' : Nat} (h : Sm d k w) (hk : k ≤ k') (hw : w ≤ w') : Sm d k' w' := ⟨h.sh, h.ls, h.cl, Nat.le_trans h.dp hk, Nat.le_trans h.wt hw⟩
theorem Sm.int {i : Int} (hb : i.natAbs < 10 ^ 31) : Sm (.int i) 0 121 := by
  have hlog : i.natAbs.log2 < 1920 := by
    by_cases z : i.natAbs = 0
    · rw [z]; decide
    · exact Nat.lt_trans ((Nat.log2_lt z).mpr (show i.natAbs < 2 ^ 120 from Nat.lt_trans hb (by decide))) (by decide)
  have hlen : (PyData.shown (.int i)).length ≤ 40 := by
    have e := int_text_length_le10 (k := 31) (by decide) hb
    show (Str.ofString (toString i)).length ≤ 40
    rw [ofString_length]; omega
  refine ⟨?_, ?_, rfl, Nat.le_refl _, ?_⟩
  · simp only [PyData.showable, decide_eq_true_eq]; exact hlog
  · simp only [PyData.leavesShort, decide_eq_true_eq]; exact hlen
  · simp only [PyData.weight]
    split
    · omega
    · rename_i z
      have z2 : i.natAbs ≠ 0 := fun q => z (by simp [Int.natAbs_eq_zero.mp q])
      have := (Nat.log2_lt z2).mpr (show i.natAbs < 2 ^ 120 from Nat.lt_trans hb (by decide))
      omega
theorem Sm.non : Sm .none 0 0 := ⟨rfl, rfl, rfl, Nat.le_refl _, Nat.le_refl _⟩
theorem Sm.bl (b : Bool) : Sm (.bool b) 0 0 := ⟨rfl, rfl, rfl, Nat.le_refl _, Nat.le_refl _⟩
theorem Sm.all {k w : Nat} : ∀ {l : List PyData}, (∀ d ∈ l, Sm d k w) → PyData.showableAll l = true ∧ PyData.leavesShortAll 40 l = true ∧ PyData.canLayAll0 l = true ∧ PyData.depthAll l ≤ k ∧ PyData.weightAll l ≤ (w + 1) * l.length
  | [], _ => ⟨rfl, rfl, rfl, Nat.zero_le _, Nat.zero_le _⟩
  | d :: r, h => by
    obtain ⟨a, b, c, e, f⟩ := Sm.all (l := r) fun x hx => h x (List.mem_cons_of_mem _ hx)
    have g := h d List.mem_cons_self
    refine ⟨?_, ?_, ?_, ?_, ?_⟩
    · simp only [PyData.showableAll, Bool.and_eq_true]; exact ⟨g.sh, a⟩
    · simp only [PyData.leavesShortAll, Bool.and_eq_true]; exact ⟨g.ls, b⟩
    · simp only [PyData.canLayAll0, Bool.and_eq_true]; exact ⟨g.cl, c⟩
    · simp only [PyData.depthAll]
      have := g.dp
      omega
    · simp only [PyData.weightAll, List.length_cons]
      have := g.wt
      rw [Nat.mul_succ]
      omega
theorem Sm.list {k w : Nat} {l : List PyData} (h : ∀ d ∈ l, Sm d k w) : Sm (.list l) (k + 1) ((w + 1) * l.length) := by
  obtain ⟨a, b, c, e, f⟩ := Sm.all h
  exact ⟨by simp only [PyData.showable]; exact a, by simp only [PyData.leavesShort]; exact b, by simp only [PyData.canLay0]; exact c, by simp only [PyData.depth]; omega, by simp only [PyData.weight]; exact f⟩
theorem Sm.tup {k w : Nat} {l : List PyData} (h : ∀ d ∈ l, Sm d k w) : Sm (.tuple l) (k + 1) ((w + 1) * l.length) := by
  obtain ⟨a, b, c, e, f⟩ := Sm.all h
  exact ⟨by simp only [PyData.showable]; exact a, by simp only [PyData.leavesShort]; exact b, by simp only [PyData.canLay0]; exact c, by simp only [PyData.depth]; omega, by simp only [PyData.weight]; exact f⟩
theorem Sm.ok {d : PyData} {k w : Nat} (h : Sm d k w) (hk : k ≤ 64) (hw : w ≤ 200000) : d.showable = true ∧ SeqAt.shaped d = true ∧ d.shown.length ≤ sizeLine := by
  refine ⟨h.sh, ?_, ?_⟩
  · unfold SeqAt.shaped
    rw [Bool.and_eq_true, decide_eq_true_iff]
    exact ⟨h.cl, Nat.le_trans h.dp hk⟩
  · have := PyData.shown_le 40 (by decide) _ h.ls
    have e : (40 + 2) * d.weight ≤ 42 * 200000 := Nat.mul_le_mul_left _ (Nat.le_trans h.wt hw)
    exact Nat.le_trans this (Nat.le_trans (show _ ≤ 9000000 by omega) (by decide))
theorem dpAll_of {K : PySem.W.Frag} {H : Hp} : ∀ {vs : List V} {ds : List PyData}, vs.length = ds.length → (∀ (i : Nat) v d, vs[i]? = some v → ds[i]? = some d → Dp K H v d) → DpAll K H vs ds
  | [], [], _, _ => .nil
  | v :: vs, d :: ds, h, g => .cons (g 0 v d rfl rfl) (dpAll_of (by simpa using h) fun i x y h1 h2 => g (i + 1) x y h1 h2)
  | [], _ :: _, h, _ => by simp at h
  | _ :: _, [], h, _ => by simp at h
end LG

/-! data of lists and tuples: repr and == -/
namespace LS
open PySem L2 LT LG LP LX
section
variable {K : PySem.W.Frag} {H : Hp} {Q : VK}
def dI (ns : List Int) : PyData := .list (ns.map PyData.int)
def dS (ns : List Str) : PyData := .list (ns.map PyData.str)
theorem dpA_i : ∀ l : List Int, DpAll K H (l.map V.int) (l.map PyData.int)
  | [] => .nil
  | i :: r => .cons (.int i) (dpA_i r)
theorem dpA_s : ∀ l : List Str, DpAll K H (l.map V.str) (l.map PyData.str)
  | [] => .nil
  | i :: r => .cons (.str i) (dpA_s r)
theorem dp_i {p : Addr} {ns : List Int} (h : SqL K H p (ns.map V.int)) : Dp K H (.ref p) (dI ns) := .lst h (dpA_i _)
theorem dp_s {p : Addr} {ns : List Str} (h : SqL K H p (ns.map V.str)) : Dp K H (.ref p) (dS ns) := .lst h (dpA_s _)
theorem dp_it {p : Addr} {ns : List Int} (h : SqT K H p (ns.map V.int)) : Dp K H (.ref p) (.tuple (ns.map PyData.int)) := .tup h (dpA_i _)
theorem dp_E {p : Addr} {ns : List Int} (h : SqE K H p (ns.map V.int)) : ∃ d, (d = dI ns ∨ d = .tuple (ns.map PyData.int)) ∧ ∀ H', SqE K H' p (ns.map V.int) → True := ⟨_, .inl rfl, fun _ _ => trivial⟩
mutual
theorem dp_same {H' : Hp} (s : Same H H') : ∀ {v : V} {d : PyData}, Dp K H v d → Dp K H' v d
  | _, _, .non => .non
  | _, _, .bl b => .bl b
  | _, _, .int i => .int i
  | _, _, .str x => .str x
  | _, _, .lst h a => .lst (s.seq h) (dpA_same s a)
  | _, _, .tup h a => .tup (same_tup s h) (dpA_same s a)
theorem dpA_same {H' : Hp} (s : Same H H') : ∀ {vs : List V} {ds : List PyData}, DpAll K H vs ds → DpAll K H' vs ds
  | _, _, .nil => .nil
  | _, _, .cons h t => .cons (dp_same s h) (dpA_same s t)
end
theorem dpA_len : ∀ {vs : List V} {ds : List PyData}, DpAll K H vs ds → vs.length = ds.length
  | _, _, .nil => rfl
  | _, _, .cons _ t => by rw [List.length_cons, List.length_cons, dpA_len t]
theorem dpA_get : ∀ {vs : List V} {ds : List PyData} {i : Nat} {d : PyData}, DpAll K H vs ds → ds[i]? = some d → ∃ v, vs[i]? = some v ∧ Dp K H v d
  | _, _, _, _, .nil, e => by simp at e
  | _, _, 0, d, .cons h _, e => by simp at e; subst e; exact ⟨_, rfl, h⟩
  | _, _, i + 1, d, .cons _ t, e => by
    obtain ⟨v, h1, h2⟩ := dpA_get (i := i) (d := d) t (by simpa using e)
    exact ⟨v, by simpa using h1, h2⟩
theorem clA_i (l : List Int) : PyData.canLayAll0 (l.map PyData.int) = true := by
  induction l with
  | nil => rfl
  | cons i r ih => simp [PyData.canLayAll0, PyData.canLay0, ih]
theorem dpthA_i (l : List Int) : PyData.depthAll (l.map PyData.int) = 0 := by
  induction l with
  | nil => rfl
  | cons i r ih => simp [PyData.depthAll, PyData.depth, ih]
theorem clA_s (l : List Str) (h : ∀ x ∈ l, PyData.strOk x = true) : PyData.canLayAll0 (l.map PyData.str) = true := by
  induction l with
  | nil => rfl
  | cons i r ih => simp [PyData.canLayAll0, PyData.canLay0, ih fun x hx => h x (List.mem_cons_of_mem _ hx), h i (List.mem_cons_self ..)]
theorem dpthA_s (l : List Str) : PyData.depthAll (l.map PyData.str) = 0 := by
  induction l with
  | nil => rfl
  | cons i r ih => simp [PyData.depthAll, PyData.depth, ih]
theorem sh_i (l : List Int) : SeqAt.shaped (dI l) = true := by simp [SeqAt.shaped, dI, PyData.canLay0, PyData.depth, clA_i, dpthA_i]
theorem sh_s (l : List Str) (h : ∀ x ∈ l, PyData.strOk x = true) : SeqAt.shaped (dS l) = true := by simp [SeqAt.shaped, dS, PyData.canLay0, PyData.depth, clA_s l h, dpthA_s]
theorem eqvA_i : ∀ a b : List Int, PyData.eqvAll (a.map PyData.int) (b.map PyData.int) = decide (a = b)
  | [], [] => by simp [PyData.eqvAll]
  | [], _ :: _ => by simp [PyData.eqvAll]
  | _ :: _, [] => by simp [PyData.eqvAll]
  | x :: r, y :: t => by
    simp only [List.map_cons, PyData.eqvAll, eqvA_i r t]
    by_cases e : x = y
    · subst e; simp [PyData.eqv]
    · have : (x == y) = false := beq_eq_false_iff_ne.mpr e
      simp [PyData.eqv, e, this]
theorem eqvA_s : ∀ a b : List Str, PyData.eqvAll (a.map PyData.str) (b.map PyData.str) = decide (a = b)
  | [], [] => by simp [PyData.eqvAll]
  | [], _ :: _ => by simp [PyData.eqvAll]
  | _ :: _, [] => by simp [PyData.eqvAll]
  | x :: r, y :: t => by
    simp only [List.map_cons, PyData.eqvAll, eqvA_s r t]
    by_cases e : x = y
    · subst e; simp [PyData.eqv]
    · have : (x == y) = false := beq_eq_false_iff_ne.mpr e
      simp [PyData.eqv, e, this]
theorem eqv_i (a b : List Int) : PyData.eqv (dI a) (dI b) = decide (a = b) := by simp only [dI, PyData.eqv]; exact eqvA_i a b
theorem eqv_s (a b : List Str) : PyData.eqv (dS a) (dS b) = decide (a = b) := by simp only [dS, PyData.eqv]; exact eqvA_s a b
theorem reqd {x y : V} {d e : PyData} (h1 : Dp K H x d) (h2 : Dp K H y e) (s1 : SeqAt.shaped d = true) (s2 : SeqAt.shaped e = true) (q : Q (.bl (PyData.eqv d e)) H) : rEqD K x y H Q := ⟨d, e, h1, h2, s1, s2, q⟩
theorem rned {x y : V} {d e : PyData} (h1 : Dp K H x d) (h2 : Dp K H y e) (s1 : SeqAt.shaped d = true) (s2 : SeqAt.shaped e = true) (q : Q (.bl (!PyData.eqv d e)) H) : rNeD K x y H Q := ⟨d, e, h1, h2, s1, s2, q⟩
theorem req_il {a b : Addr} {x y : List Int} (h1 : SqL K H a (x.map V.int)) (h2 : SqL K H b (y.map V.int)) (q : Q (.bl (decide (x = y))) H) : rEqD K (.ref a) (.ref b) H Q := reqd (dp_i h1) (dp_i h2) (sh_i _) (sh_i _) (by rw [eqv_i]; exact q)
theorem rne_il {a b : Addr} {x y : List Int} (h1 : SqL K H a (x.map V.int)) (h2 : SqL K H b (y.map V.int)) (q : Q (.bl (!decide (x = y))) H) : rNeD K (.ref a) (.ref b) H Q := rned (dp_i h1) (dp_i h2) (sh_i _) (sh_i _) (by rw [eqv_i]; exact q)
theorem req_sl {a b : Addr} {x y : List Str} (o1 : ∀ z ∈ x, PyData.strOk z = true) (o2 : ∀ z ∈ y, PyData.strOk z = true) (h1 : SqL K H a (x.map V.str)) (h2 : SqL K H b (y.map V.str)) (q : Q (.bl (decide (x = y))) H) : rEqD K (.ref a) (.ref b) H Q := reqd (dp_s h1) (dp_s h2) (sh_s _ o1) (sh_s _ o2) (by rw [eqv_s]; exact q)
theorem rne_sl {a b : Addr} {x y : List Str} (o1 : ∀ z ∈ x, PyData.strOk z = true) (o2 : ∀ z ∈ y, PyData.strOk z = true) (h1 : SqL K H a (x.map V.str)) (h2 : SqL K H b (y.map V.str)) (q : Q (.bl (!decide (x = y))) H) : rNeD K (.ref a) (.ref b) H Q := rned (dp_s h1) (dp_s h2) (sh_s _ o1) (sh_s _ o2) (by rw [eqv_s]; exact q)
theorem rrepr {a : Addr} {d : PyData} {k w : Nat} (h : Dp K H (.ref a) d) (s : Sm d k w) (hk : k ≤ 64) (hw : w ≤ 200000) (q : Q (.str d.shown) H) : rReprN K [.ref a] H Q := by
  obtain ⟨a1, a2, a3⟩ := s.ok hk hw
  exact .inr (.inr (.inr ⟨a, d, rfl, h, a1, a2, a3, q⟩))
theorem rrepr_i {i : Int} (h : i.natAbs.log2 < 1920) (q : Q (.str (toString i)) H) : rReprN K [.int i] H Q := .inr (.inr (.inl ⟨i, rfl, h, q⟩))
theorem rrepr_n (q : Q (.str "None") H) : rReprN K [.non] H Q := .inl ⟨rfl, q⟩
theorem rrepr_b {b : Bool} (q : Q (.str (if b then "True" else "False")) H) : rReprN K [.bl b] H Q := .inr (.inl ⟨b, rfl, q⟩)
theorem sm_small {i : Int} (h : i.natAbs < 1024) : Sm (.int i) 0 10 := by
  have g := Sm.int (i := i) (Nat.lt_trans h (by decide))
  refine ⟨g.sh, g.ls, g.cl, g.dp, ?_⟩
  simp only [PyData.weight]
  split
  · omega
  · rename_i z
    have z2 : i.natAbs ≠ 0 := fun q => z (by simp [Int.natAbs_eq_zero.mp q])
    have := (Nat.log2_lt z2).mpr (show i.natAbs < 2 ^ 10 from h)
    omega
theorem sm_smalls {ns : List Int} (h : ∀ x ∈ ns, x.natAbs < 1024) : Sm (dI ns) 1 (11 * ns.length) := by
  have := Sm.list (k := 0) (w := 10) (l := ns.map PyData.int) (fun d hd => by obtain ⟨i, hi, rfl⟩ := List.mem_map.mp hd; exact sm_small (h i hi))
  rw [List.length_map] at this
  exact this
theorem sm_smallsT {ns : List Int} (h : ∀ x ∈ ns, x.natAbs < 1024) : Sm (.tuple (ns.map PyData.int)) 1 (11 * ns.length) := by
  have := Sm.tup (k := 0) (w := 10) (l := ns.map PyData.int) (fun d hd => by obtain ⟨i, hi, rfl⟩ := List.mem_map.mp hd; exact sm_small (h i hi))
  rw [List.length_map] at this
  exact this
theorem sm_ints {ns : List Int} (h : ∀ x ∈ ns, x.natAbs < 10 ^ 31) : Sm (dI ns) 1 (122 * ns.length) := by
  have := Sm.list (k := 0) (w := 121) (l := ns.map PyData.int) (fun d hd => by obtain ⟨i, hi, rfl⟩ := List.mem_map.mp hd; exact Sm.int (h i hi))
  rw [List.length_map] at this
  exact this
theorem sm_intsT {ns : List Int} (h : ∀ x ∈ ns, x.natAbs < 10 ^ 31) : Sm (.tuple (ns.map PyData.int)) 1 (122 * ns.length) := by
  have := Sm.tup (k := 0) (w := 121) (l := ns.map PyData.int) (fun d hd => by obtain ⟨i, hi, rfl⟩ := List.mem_map.mp hd; exact Sm.int (h i hi))
  rw [List.length_map] at this
  exact this
end
end LS

/-! == and != of an instance with its own ==, beside any value -/
namespace LX
open PySem PySem.Spec PySem.W PyProof.Rows L2
section
variable {prog : Program} {w : World} {A A₀ : Around} {E : Value → Shared → Prop} {s : Shared} {K : Frag} {x C L f : Addr} {h₀ : Heap} {m : Str → Option Value} {ox : Obj} {od : Option Obj} {b tb : Value}
theorem ne_entry {Q : Fin → Shared → Prop} (X : K.In s.heap) (I : InstAt s.heap x ox C od) (hs : findIn K (.ref C) "__eq__" = some (some (.ref f))) (hf : isFn K (.ref f) = true) (hu : A.units < cLine)
    (h : wpAny (model prog w) A (call (.ref f) [.ref x, b]) (fun v s' => ∃ r, v = .bool r ∧ Q (.done (.ret (.bool (!r)))) s') E s) : wpAny (model prog w) A (Builtin.«object.__ne__» ⟨[.ref x, b], []⟩) Q E s := by
  unfold Builtin.«object.__ne__»
  repeat (first
    | with_reducible refine wpAny_cRoomFor hu ?_
    | (refine wpAny_bind (m := callSpecialIfBound? (.ref x) (Str.ofString "__eq__") [b])
        (ifBound_K X I hs hf (wpAny_mono h (fun r s' hr => by
          obtain ⟨b, rfl, hq⟩ := hr
          repeat (first | exact hq | exact wpAny_pure hq | exact wpAny_truthy_bool hq | (refine wpAny_bind (m := truthy (.bool _)) (wpAny_truthy_bool ?_)) | wp_step)) fun _ _ e => e)))
    | wp_step)
theorem call_ne {Q : Value → Shared → Prop} (X : K.In s.heap) (I : InstAt s.heap x ox C od) (ho : mroIn K C (.type "object") = some true) (hs : findIn K (.ref C) "__eq__" = some (some (.ref f))) (hf : isFn K (.ref f) = true) (hu : A.units + 1 < cLine)
    (h : wpAny (model prog w) A.in1 (call (.ref f) [.ref x, b]) (fun v s' => ∃ r, v = .bool r ∧ Q (.bool (!r)) s') E s) : wpAny (model prog w) A (call (.builtin "object.__ne__") [.ref x, b]) Q E s := by
  refine wpAny_call (codeAny_call_builtin F.cmp_object.ne.plain F.cmpEntry_ne (check_slot F.cmpKind_ne F.cmpSplit_ne (I.type.andThen (looks_mroIn X ho)) (F.cmpArgs_ne _ _) (ne_entry (A := A.in1) X I hs hf hu (wpAny_mono h (fun v s' hv => ?_) fun _ _ e => e))))
  obtain ⟨b, rfl, hq⟩ := hv
  exact ⟨b, rfl, hq⟩
theorem cmp_ne {Q : Value → Shared → Prop} (hu : A.units + 1 < cLine) (FR : Fr h₀ L s.heap m) (X₀ : K.In h₀) (I : InstAt s.heap x ox C od) (hb : Looks (model prog w) s.heap (typeOf b) tb) (hn : notFirst K C tb = true)
    (ho : mroIn K C (.type "object") = some true) (hs : findIn K (.ref C) "__eq__" = some (some (.ref f))) (hf : isFn K (.ref f) = true) (hne : findIn K (.ref C) "__ne__" = some (some (.builtin "object.__ne__")))
    (h : wpAny (model prog w) A.in1 (call (.ref f) [.ref x, b]) (fun v s' => ∃ r, v = .bool r ∧ Q (.bool (!r)) s') E s) : wpAny (model prog w) A (richCompare .NotEq (.ref x) b) Q E s := by
  have X := X₀.keeps FR.keep
  have one : wpAny (model prog w) A (tryCompare (.ref x) "__ne__" b) (fun r s' => ∃ v, r = some v ∧ Q v s') E s := by
    unfold tryCompare
    have sp : wpAny (model prog w) A (callSpecialIfBound? (.ref x) "__ne__" [b]) (fun r s' => ∃ v, r = some (.bool v) ∧ Q (.bool v) s') E s := by
      simp only [callSpecialIfBound?, bindSpecialIfBound?]
      refine wpAny_holding (wpAny_bind (wpAny_bind (wpAny_bind (I.type.here ((looks_findIn X hne).here ?_)))))
      refine wpAny_bind (wpAny_askSetting (wpAny_ite ?_))
      have fin : wpAny (model prog w) A (call (.builtin "object.__ne__") ([.ref x] ++ [b]) >>= fun v => pure (some v)) (fun r s' => ∃ v, r = some (.bool v) ∧ Q (.bool v) s') E s :=
        wpAny_bind (call_ne X I ho hs hf hu (wpAny_mono h (fun v s' ⟨r, e, q⟩ => ⟨r, e, wpAny_pure ⟨_, rfl, q⟩⟩) fun _ _ e => e))
      rw [F.cmp_object.ne.bind]
      split
      · exact wpAny_bind (wpAny_pure (wpAny_pure (by exact fin)))
      · exact wpAny_tryCatch (wpAny_bind (wpAny_pure (wpAny_pure (by exact fin))))
    refine wpAny_bind (wpAny_mono sp (fun r s' z => ?_) fun _ _ e => e)
    obtain ⟨v, rfl, hq⟩ := z
    exact wpAny_pure ⟨_, rfl, hq⟩
  unfold richCompare
  simp only [oneThing_ref]
  refine wpAny_holding (wpAny_bind (wpAny_cRoomFor (Nat.lt_of_succ_lt hu) ?_))
  rw [cmpInfo_NotEq]
  dsimp only
  refine wpAny_bind (I.type.here (wpAny_bind (hb.here ?_)))
  split
  · rename_i q
    have e : subIn K tb (.ref C) = some false := by
      rcases Bool.or_eq_true_iff.mp hn with e | e
      · rw [beq_iff_eq.mp e] at q; simp at q
      · exact beq_iff_eq.mp e
    refine wpAny_bind ((looks_subIn X e).here ?_)
    simp only [Bool.false_eq_true, if_false]
    refine wpAny_bind (wpAny_mono one (fun r s' z => ?_) fun _ _ e => e)
    obtain ⟨v, rfl, hq⟩ := z
    exact wpAny_pure hq
  · refine wpAny_bind (wpAny_pure ?_)
    simp only [Bool.false_eq_true, if_false]
    refine wpAny_bind (wpAny_mono one (fun r s' z => ?_) fun _ _ e => e)
    obtain ⟨v, rfl, hq⟩ := z
    exact wpAny_pure hq
end
section
variable {X : Cx} {CX : CXT} {k : Nat} {C g : Addr} {fd : FuncData} {ps : List Str} {sp : Sp} {E : XK}
/-- x == y, x an instance of the class at C with its own ==; y any value that is no instance of a class below C -/
def rEqO (K : Frag) (C : Addr) (sp : Sp) (E : XK) : R2 := fun x y H Q => ∃ a dx fs t, x = .ref a ∧ H a = some (.ins C dx fs) ∧ TyX K H y t ∧ notFirst K C t = true ∧ sp [x, y] H Q E
def rNeO (K : Frag) (C : Addr) (sp : Sp) (E : XK) : R2 := fun x y H Q => ∃ a dx fs t, x = .ref a ∧ H a = some (.ins C dx fs) ∧ TyX K H y t ∧ notFirst K C t = true ∧ sp [x, y] H (fun z H' => ∃ b, z = .bl b ∧ Q (.bl (!b)) H') E
theorem op_eqO (M : Meth X.K C "__eq__" g) (F : FnOk X.prog X.w X.K X.mg X.base CX k g fd ps sp) (hr : Room k X.A) (hb : Binds X.K fd ps []) (hx : Passes CX X E) : OpR X (compareOp .Eq) (rEqO X.K C sp E) := by
  intro pins s σ H x y v u Q I rx ry h
  obtain ⟨a, dx, fs, t, rfl, ha, ty, hn, q⟩ := h
  cases (show v = Value.ref a from rx)
  obtain ⟨mA, J, _⟩ := ins_get I.hok ha
  obtain ⟨od, J, _⟩ := J.look
  obtain ⟨P, Z, p, _⟩ := kit_of I ry ty
  obtain ⟨m, hF⟩ := I.fr
  have G := F.raw hb (.nil)
  show wpAny (model X.prog X.w) X.A (richCompare .Eq (.ref a) u) (EP X pins σ Q) X.xe s
  refine PySem.W.cmp_K (op := .Eq) (tb := t) hr.units0 hF I.ok.mod.kin J (Z.ty _ _ I.kIn p) hn M.at_ M.fn ?_
  have run := wpAny_call (run_fnR (Q := Q) (us := [.ref a, u]) (vs := [.ref a, y]) G hr hx I (.cons rfl (.cons ry .nil)) q)
  refine wpAny_mono run (fun w s' z => ?_) fun _ _ x => x
  obtain ⟨z', H', I', rz, qz⟩ := z
  exact SlX.cmpback rz ⟨z', H', I', rz, qz⟩
theorem op_neO (M : Meth X.K C "__eq__" g) (ho : mroIn X.K C (.type "object") = some true) (hne : findIn X.K (.ref C) "__ne__" = some (some (.builtin "object.__ne__"))) (F : FnOk X.prog X.w X.K X.mg X.base CX k g fd ps sp) (hr : Room (k + 1) X.A) (hb : Binds X.K fd ps []) (hx : Passes CX X E) : OpR X (compareOp .NotEq) (rNeO X.K C sp E) := by
  intro pins s σ H x y v u Q I rx ry h
  obtain ⟨a, dx, fs, t, rfl, ha, ty, hn, q⟩ := h
  cases (show v = Value.ref a from rx)
  obtain ⟨mA, J, _⟩ := ins_get I.hok ha
  obtain ⟨od, J, _⟩ := J.look
  obtain ⟨P, Z, p, _⟩ := kit_of I ry ty
  obtain ⟨m, hF⟩ := I.fr
  have G := F.raw hb (.nil)
  show wpAny (model X.prog X.w) X.A (richCompare .NotEq (.ref a) u) (EP X pins σ Q) X.xe s
  refine cmp_ne (tb := t) (by have := hr.in1.units0; exact this) hF I.ok.mod.kin J (Z.ty _ _ I.kIn p) hn ho M.at_ M.fn hne ?_
  have run := wpAny_call (SlX.run_at (Q := fun z H' => ∃ b, z = .bl b ∧ Q (.bl (!b)) H') (us := [.ref a, u]) (ws := [.ref a, y]) G hr.in1 I.env0.in1 hx I (.cons rfl (.cons ry .nil)) q)
  refine wpAny_mono run (fun w s' z => ?_) fun _ _ x => x
  obtain ⟨z', H', I', rz, b, eb, qz⟩ := z
  subst eb
  cases (show w = Value.bool b from rz)
  exact ⟨b, rfl, .bl (!b), H', I', rfl, qz⟩
/-- the i-th slot holds the class at C -/
def tMakeL (i : Nat) (C : Addr) (sp : Sp) (dvs : List V) (E : XK) (t : TA) : TE := fun σ H Q => σ[i]? = some (some (.ref C)) ∧ tMake C sp dvs E t σ H Q
theorem pe_makeL {i : Nat} {x : Str} {p pos : Pos} {e : Expr} {es : List Expr} {t : TA} {ds : List Value} {dvs : List V} (M : Mk X.K C g) (F : FnOk X.prog X.w X.K X.mg X.base CX k g fd ps sp) (hr : Room (k + 1) X.A) (hN : X.N[i]? = some x) (hv : Vis X.env.scope x) (hb : Binds X.K fd ps ds) (hd : Vals dvs ds) (hx : Passes CX X E)
    (ha : PA X (e :: es) t) (hdb : (x == ("__debug__" : Str)) = false := by decide) (hcd : (x == ("__classdict__" : Str)) = false := by decide) (he : starEach (e :: es) X.env = (false, eval e X.env) :: starEach es X.env := by rfl) (hpl : (backTo pos (starEach es X.env)).any (·.1) = false := by rfl) :
    PE X (.Call (.Name x p) (e :: es) [] pos) (tMakeL i C sp dvs E t) := by
  refine ⟨fun pins s σ H Q I h => ?_⟩
  obtain ⟨hs, ht⟩ := h
  refine wpAny_Call_Name_kw (thn ((pe_var (pos := p) hN hv hdb hcd).run pins s σ H (fun v H1 => v = .ref C ∧ H1 = H) I ⟨.ref C, hs, rfl, rfl⟩) fun u s1 ⟨v, H1, I1, r1, q1⟩ => ?_)
  obtain ⟨rfl, rfl⟩ := q1
  cases r1
  refine PySem.W.callWith_K (h₀ := X.base) I.ok.mod.kin M.kp (thn (ha.run pos pins s1 σ _ _ I1 ht) fun us s2 ⟨vs, H2, I2, r, q⟩ => ⟨I2.kIn, ?_⟩) he hpl
  exact run_make M F hr hb hd hx I2 r q
theorem pe_cmethF {o e : Expr} {es : List Expr} {m : Str} {pos apos : Pos} {ta : TE} {t : TA} {pl : Sem Bool} {mc : Value} {p : Addr} {ds : List Value} {dvs : List V} (he : PE X o ta) (r : ClX.CRead X.K C mc) (c : ClX.CMet X.K C mc m p g) (F : FnOk X.prog X.w X.K X.mg X.base CX k g fd ps sp) (hr : Room k X.A) (hb : Binds X.K fd ps ds) (hd : Vals dvs ds) (hx : Passes CX X E) (ha : PA X (e :: es) t)
    (hst : starEach (e :: es) X.env = (false, eval e X.env) :: starEach es X.env := by rfl) (hpl : (backTo pos (starEach es X.env)).any (·.1) = false := by rfl)
    (ht : eval (.Call (.Attribute o m apos) (e :: es) [] pos) X.env = (do
      let ov ← eval o X.env
      standAt apos.atName
      let (f, first) ← holding [ov] (getMethod ov m pl)
      callWith pos f first (backTo pos (starEach (e :: es) X.env)) (backToKw pos (keywordEach [] X.env))) := by rfl) :
    PE X (.Call (.Attribute o m apos) (e :: es) [] pos) (ClX.tCMeth C (fun vs H Q E => sp (vs ++ dvs) H Q E) E ta t) := ClX.pe_cmeth he r c (F.raw hb hd) hr hx ha hst hpl ht
end
end LX

/-! more steps -/
namespace LX
open PySem L2
theorem pgor {X : Cx} {e : Expr} {t u : V → L2.St → Hp → (L2.St → Hp → Prop) → Prop} (h1 : PG X e t) (h2 : PG X e u) : PG X e (fun v σ H Q => t v σ H Q ∨ u v σ H Q) :=
  ⟨fun a1 a2 a3 a4 a5 a6 a7 a8 a9 w => w.elim (h1.run a1 a2 a3 a4 a5 a6 a7 a8 a9) (h2.run a1 a2 a3 a4 a5 a6 a7 a8 a9)⟩
end LX
namespace LS
open PySem L2 LT LG LP LX
section
variable {σ : L2.St} {H : Hp} {Q : VK}
def kG2 (QR : Int → Int → Hp → Prop) (x : V) : VK := fun y H2 => ∃ i j, x = .int i ∧ y = .int j ∧ QR i j H2
theorem trg2 {ta tb : TE} {QR : Int → Int → Hp → Prop} (h : ta σ H fun x H1 => tb σ H1 (kG2 QR x)) : tRg2 ta tb σ H QR := h
theorem k_g2 {i j : Int} {QR : Int → Int → Hp → Prop} (q : QR i j H) : kG2 QR (.int i) (.int j) H := ⟨i, j, rfl, rfl, q⟩
theorem k_lr2 {a b : Int} (ok : RgOk a b) (k : ∀ (p : Addr) (H' : Hp), H p = none → Same H H' → H' p = some (.lst (rgV a b)) → Q (.ref p) H') : kLR Q a b H :=
  ⟨ok, fun p np => k p _ np (same_upd np) upd_same⟩
theorem expn_join {c : Prop} [Decidable c] {ta tb : TE} (A : V → Hp → Prop) (h1 : ¬ c → ∀ Q' : VK, (∀ v H', A v H' → Q' v H') → ta σ H Q') (h2 : c → ∀ Q' : VK, (∀ v H', A v H' → Q' v H') → tb σ H Q')
    (k : ∀ v H', A v H' → Q v H') : if (!decide c) = true then ta σ H Q else tb σ H Q := by
  by_cases hc : c
  · rw [decide_eq_true hc]
    exact LS.ifnt (h2 hc Q k)
  · rw [decide_eq_false hc]
    exact LS.ifnf (h1 hc Q k)
theorem ifs_cut {c : TT} {t u : TS} {D : Ends} (A : Bool → Hp → Prop) (h1 : ∀ Qb : Bool → Hp → Prop, (∀ b H', A b H' → Qb b H') → c σ H Qb) (ht : ∀ H', A true H' → t D σ H') (hf : ∀ H', A false H' → u D σ H') : tIfS c t u D σ H :=
  h1 _ fun b H' h => by
    cases b with
    | true => exact LS.ift (ht H' h)
    | false => exact LS.iff_ (hf H' h)
theorem rlist_t {K : PySem.W.Frag} {a : Addr} {xs : List V} (h : SqT K H a xs) (k : ∀ (p : Addr) (H' : Hp), H p = none → Same H H' → H' p = some (.lst xs) → Q (.ref p) H') : rListOf K [.ref a] H Q := ⟨a, xs, rfl, .inr h, fun l nl => k l _ nl (same_upd nl) upd_same⟩
/-- a pair from a list or a tuple -/
theorem gorE {K : PySem.W.Frag} {n : Nat} {t : TGs} {a : Addr} {xs : List V} {QG : L2.St → Hp → Prop} (h : SqE K H a xs) (hn : xs.length = n) (q : t xs σ H QG) : gTup K n t (.ref a) σ H QG ∨ gUnl K n t (.ref a) σ H QG :=
  h.elim (fun h => .inr (gunl h hn q)) fun h => .inl (gtup h hn q)
end
end LS
namespace LP
open PySem L2 LT LG LX
theorem or_enumE0 {K : PySem.W.Frag} {H0 H : Hp} {a : Addr} {xs : List V} {σ : St} {R : It → Hp → Prop} {ta : TA} (hE : SqE K H0 a xs) (s0 : Same H0 H) (hv : ∀ Q : List V → Hp → Prop, Q [.ref a] H → ta σ H Q)
    (k : ∀ (J : It) (G : Hp → Prop), Walk J xs.length G (YPair (fun i => some (.int (i : Nat))) (fun i => xs[i]?)) → (∀ H', Same H0 H' → G H') → R J H) :
    iEnum K ta σ H R ∨ iEnumT K ta σ H R := by
  rcases hE with h | h
  · exact .inl (hv _ ⟨a, xs, rfl, s0.seq h, k _ _ walk_enum fun H' s => s.seq h⟩)
  · exact .inr (hv _ ⟨a, xs, rfl, same_tup s0 h, k _ _ walk_enumT fun H' s => same_tup s h⟩)
end LP

/-! a dict of the module with text keys; a local that holds one of several defs -/
namespace LX
open PySem PySem.Spec PyProof.Rows L2
def keyS : Value → Str
  | .str x _ => x
  | _ => ⟨#[]⟩
/-- the written dict at d: its keys and values -/
structure WDict (K : PySem.W.Frag) (w : World) (d : Addr) (kvs : List (Str × Value)) : Prop where
  ex : ∃ es n, KDict K w d es n ∧ es.toList.map (fun e => (keyS e.key, e.val)) = kvs
theorem wd_find {w : World} (z : Str) : ∀ l : List DictEntry, PySem.W.KeysLit w.params l → (l.find? fun e => e.key.isStr z).map (·.val) = (l.map fun e => (keyS e.key, e.val)).lookup z
  | [], _ => rfl
  | e :: r, ⟨⟨x, t, hk, _⟩, hr⟩ => by
    have ih := wd_find z r hr
    rw [List.find?_cons, List.map_cons, List.lookup_cons]
    have e1 : e.key.isStr z = (z == x) := by
      rw [hk, PySem.W.isStr_of]
      show (x == z) = (z == x)
      exact BEq.comm
    rw [e1, hk]
    show Option.map _ (match z == x with | true => some e | false => _) = match z == x with | true => some e.val | false => _
    cases z == x with
    | true => rfl
    | false => exact ih
theorem wd_any {w : World} : ∀ l : List DictEntry, PySem.W.KeysLit w.params l → l.any (·.refKey) = false
  | [], _ => rfl
  | e :: r, ⟨⟨x, t, hk, _⟩, hr⟩ => by
    rw [List.any_cons, wd_any r hr]
    have : e.refKey = false := by
      unfold DictEntry.refKey
      rw [hk]
    rw [this]; rfl
theorem WDict.ns {K : PySem.W.Frag} {w : World} {d : Addr} {kvs : List (Str × Value)} (D : WDict K w d kvs) (z : Str) : PySem.W.nsIn K d z = some (kvs.lookup z) := by
  obtain ⟨es, n, k, e⟩ := D.ex
  unfold PySem.W.nsIn
  rw [k.at_]
  dsimp only
  have h := wd_find z es.toList k.lit
  rw [e] at h
  rw [← h, wd_any es.toList k.lit]
  cases es.toList.find? (fun e => e.key.isStr z) <;> rfl
theorem WDict.kdct {K : PySem.W.Frag} {w : World} {d : Addr} {kvs : List (Str × Value)} (D : WDict K w d kvs) {z : Str} {u : Value} {v : V} (h : kvs.lookup z = some u) (r : RelV v u) : KDct K w d z v := by
  obtain ⟨es, n, k, e⟩ := D.ex
  exact ⟨es, n, u, k.at_, k.lit, by rw [D.ns, h], r⟩
def rInW (d : Addr) (kvs : List (Str × Value)) (neg : Bool) : R2 := fun x y H Q => ∃ z, x = .str z ∧ y = .ref d ∧ Q (.bl ((kvs.lookup z).isSome != neg)) H
section
variable {X : Cx} {d : Addr} {kvs : List (Str × Value)}
theorem op_inW (D : WDict X.K X.w d kvs) : OpR X (compareOp .In) (rInW d kvs false) := by
  obtain ⟨es, n, k, e⟩ := D.ex
  intro pins s σ H x y v u Q I rx ry h
  obtain ⟨z, rfl, rfl, q⟩ := h
  refine op_in_kd k pins s σ H _ _ v u Q I rx ry ⟨z, _, rfl, rfl, D.ns z, ?_⟩
  rw [Bool.bne_false] at q
  exact q
theorem op_notInW (D : WDict X.K X.w d kvs) : OpR X (compareOp .NotIn) (rInW d kvs true) := by
  obtain ⟨es, n, k, e⟩ := D.ex
  intro pins s σ H x y v u Q I rx ry h
  obtain ⟨z, rfl, rfl, q⟩ := h
  refine op_notIn_kd k pins s σ H _ _ v u Q I rx ry ⟨z, _, rfl, rfl, D.ns z, ?_⟩
  rw [Bool.bne_true] at q
  exact q
end
/-- the defs that a local may hold, each with its promise -/
inductive HeldL (P : Program) (w : World) (K : PySem.W.Frag) (mg : Str → Option Value) (base : Heap) (k : Nat) : List (Addr × Sp) → Prop
  | nil : HeldL P w K mg base k []
  | cons {f : Addr} {fd : FuncData} {ps : List Str} {sp : Sp} {r : List (Addr × Sp)} (F : FnOk P w K mg base (fun _ _ _ _ _ _ => False) k f fd ps sp) (hk : PySem.W.keepIn K (.ref f) = true) (hb : Binds K fd ps []) (t : HeldL P w K mg base k r) : HeldL P w K mg base k ((f, sp) :: r)
theorem HeldL.at {P : Program} {w : World} {K : PySem.W.Frag} {mg : Str → Option Value} {base : Heap} {k : Nat} {L : List (Addr × Sp)} (h : HeldL P w K mg base k L) : ∀ {j : Nat} {f : Addr} {sp : Sp}, L[j]? = some (f, sp) → Held P w K mg base k f sp := by
  induction h with
  | nil => intro j f sp e; simp at e
  | cons F hk hb t ih =>
    intro j f sp e
    cases j with
    | zero => cases e; exact ⟨⟨_, _, F, hk, hb⟩⟩
    | succ j => exact ih e
def tCallR (i : Nat) (L : List (Addr × Sp)) (t : TA) : TE := fun σ H Q => ∃ (j : Nat) (f : Addr) (sp : Sp), L[j]? = some (f, sp) ∧ σ[i]? = some (some (.ref f)) ∧ t σ H fun vs H1 => sp vs H1 Q (fun _ _ _ => False)
theorem pe_callR {X : Cx} {k i : Nat} {L : List (Addr × Sp)} {x : Str} {p pos : Pos} {e : Expr} {es : List Expr} {t : TA} (A : HeldL X.prog X.w X.K X.mg X.base k L) (hr : Room k X.A) (hN : X.N[i]? = some x) (hv : Vis X.env.scope x) (ha : PA X (e :: es) t)
    (hdb : (x == ("__debug__" : Str)) = false := by decide) (hcd : (x == ("__classdict__" : Str)) = false := by decide)
    (he : starEach (e :: es) X.env = (false, eval e X.env) :: starEach es X.env := by rfl) (hpl : (backTo pos (starEach es X.env)).any (·.1) = false := by rfl) : PE X (.Call (.Name x p) (e :: es) [] pos) (tCallR i L t) := by
  refine ⟨fun pins s σ H Q I h => ?_⟩
  obtain ⟨j, f, sp, hj, hs, ht⟩ := h
  obtain ⟨fd, ps, F, hk, hb⟩ := (A.at hj).ex
  refine (pe_callL (i := i) (f := f) (sp := sp) (dvs := []) (E := fun _ _ _ => False) F hr hN hv hk hb .nil (fun _ _ _ _ _ _ _ z => z.elim) ha hdb hcd he hpl).run pins s σ H Q I ⟨hs, ?_⟩
  have e0 : (fun (vs : List V) (H1 : Hp) => sp (vs ++ []) H1 Q (fun _ _ _ => False)) = fun vs H1 => sp vs H1 Q (fun _ _ _ => False) := by
    funext vs H1
    rw [List.append_nil]
  show t σ H (fun vs H1 => sp (vs ++ []) H1 Q (fun _ _ _ => False))
  rw [e0]
  exact ht
/-- x.partition(y) -/
def rPart : V → List V → Hp → VK → Prop := fun x xs H Q => ∃ a b, x = .str a ∧ xs = [.str b] ∧ (b.length == 0) = false ∧ a.length ≤ sizeLine ∧
    ∀ p, H p = none → Q (.ref p) (upd H p (.tup [.str (Txt.partition a b).1, .str (Txt.partition a b).2.1, .str (Txt.partition a b).2.2]))
theorem mt_partN {X : Cx} : MtR X "str.partition" rPart := L2.mt_partition
end LX

/-! defs that raise: a call of one of several by a subscript; what is raised where nothing is held -/
namespace LX
open PySem PySem.Spec PyProof.Rows L2
/-- defs in a list, each with its promise -/
inductive HeldX (P : Program) (w : World) (K : PySem.W.Frag) (mg : Str → Option Value) (base : Heap) (CX : CXT) (k : Nat) : List (Addr × Sp) → Prop
  | nil : HeldX P w K mg base CX k []
  | cons {f : Addr} {fd : FuncData} {ps : List Str} {sp : Sp} {r : List (Addr × Sp)} (F : FnOk P w K mg base CX k f fd ps sp) (hk : PySem.W.keepIn K (.ref f) = true) (hb : Binds K fd ps []) (t : HeldX P w K mg base CX k r) : HeldX P w K mg base CX k ((f, sp) :: r)
theorem HeldX.at {P : Program} {w : World} {K : PySem.W.Frag} {mg : Str → Option Value} {base : Heap} {CX : CXT} {k : Nat} {L : List (Addr × Sp)} (h : HeldX P w K mg base CX k L) : ∀ {j : Nat} {f : Addr} {sp : Sp}, L[j]? = some (f, sp) → ∃ (fd : FuncData) (ps : List Str), FnOk P w K mg base CX k f fd ps sp ∧ PySem.W.keepIn K (.ref f) = true ∧ Binds K fd ps [] := by
  induction h with
  | nil => intro j f sp e; simp at e
  | cons F hk hb t ih =>
    intro j f sp e
    cases j with
    | zero => cases e; exact ⟨_, _, F, hk, hb⟩
    | succ j => exact ih e
def kCE (L : List (Addr × Sp)) (E : L2.St → XK) (t : TA) (σ : L2.St) (Q : VK) : VK := fun v H1 => ∃ (j : Nat) (f : Addr) (sp : Sp), L[j]? = some (f, sp) ∧ v = .ref f ∧ t σ H1 fun vs H2 => sp vs H2 Q (E σ)
def tCallE (tf : TE) (L : List (Addr × Sp)) (E : L2.St → XK) (t : TA) : TE := fun σ H Q => tf σ H (kCE L E t σ Q)
theorem pe_callE {X : Cx} {CX : CXT} {k : Nat} {L : List (Addr × Sp)} {E : L2.St → XK} {o i : Expr} {p pos : Pos} {e : Expr} {es : List Expr} {tf : TE} {t : TA} (A : HeldX X.prog X.w X.K X.mg X.base CX k L) (hf : PE X (.Subscript o i p) tf) (hr : Room k X.A) (hx : ∀ σ, PassesAt CX X σ (E σ)) (ha : PA X (e :: es) t)
    (he : starEach (e :: es) X.env = (false, eval e X.env) :: starEach es X.env := by rfl) (hpl : (backTo pos (starEach es X.env)).any (·.1) = false := by rfl) : PE X (.Call (.Subscript o i p) (e :: es) [] pos) (tCallE tf L E t) := by
  refine ⟨fun pins s σ H Q I h => ?_⟩
  show wpAny _ _ (eval (.Subscript o i p) X.env >>= fun f => callWith pos f [] (backTo pos (starEach (e :: es) X.env)) (backToKw pos (keywordEach [] X.env))) _ _ _
  refine wpAny_bind (thn (hf.run pins s σ H _ I h) fun u s1 hh => ?_)
  obtain ⟨v, H1, I1, r1, j, f, sp, hj, ev, ht⟩ := hh
  subst ev
  cases r1
  obtain ⟨fd, ps, F, hk, hb⟩ := A.at hj
  refine PySem.W.callWith_K (h₀ := X.base) I.ok.mod.kin hk (thn (ha.run pos pins s1 σ _ _ I1 ht) fun us s2 hh => ?_) he hpl
  obtain ⟨vs, H2, I2, r, q⟩ := hh
  exact ⟨I2.kIn, run_fnS F hr hb (hx σ) I2 r q⟩
/-- an error of the class at S is what 'except C' names -/
theorem exm_mk {K : PySem.W.Frag} {S C : Addr} (h1 : PySem.W.subIn K (.ref C) (.type "BaseException") = some true) (h2 : PySem.W.isClsIn K C = true) (h3 : PySem.W.typeIn K (.ref C) = some (.type "type")) {b : Bool} (h4 : PySem.W.subIn K (.ref S) (.ref C) = some b) :
    PySem.W.exmOne K (.ref S) (.ref C) = some b := by
  have e1 : (PySem.W.subIn K (.ref C) (.type "BaseException") == some true) = true := by rw [h1] <;> rfl
  have e2 : ((PySem.W.clsIn K C).isSome && PySem.W.typeIn K (.ref C) == some (.type "type")) = true := by
    have h2' : (PySem.W.clsIn K C).isSome = true := h2
    rw [h2', h3] <;> rfl
  show (if (PySem.W.subIn K (.ref C) (.type "BaseException") == some true) = true then (if ((PySem.W.clsIn K C).isSome && PySem.W.typeIn K (.ref C) == some (.type "type")) = true then PySem.W.subIn K (.ref S) (.ref C) else none) else none) = some b
  rw [if_pos e1, if_pos e2]
  exact h4
/-- what is true of an own error class that holds nothing: C, its name in the module, its maker -/
structure ErrC (K : PySem.W.Frag) (C : Addr) : Prop where
  x : PySem.W.excIn K C [.type "ValueError", .type "Exception", .type "BaseException", .type "object"] "ValueError.__new__" = true
  k : PySem.W.keepIn K (.ref C) = true
  b : PySem.W.subIn K (.ref C) (.type "BaseException") = some true
  t : PySem.W.typeIn K (.ref C) = some (.type "type")
theorem ErrC.r {X : Cx} {C : Addr} (e : ErrC X.K C) : Raises X (.ref C) := raises_own e.b e.t
end LX
namespace LS
open PySem PySem.Spec PyProof.Rows L2 LX
section
variable {σ : L2.St} {H : Hp} {Q : VK} {D : Ends} {K : PySem.W.Frag}
theorem tcalle {tf : TE} {L : List (Addr × Sp)} {E : L2.St → XK} {t : TA} (h : tf σ H (kCE L E t σ Q)) : tCallE tf L E t σ H Q := h
theorem k_ce {L : List (Addr × Sp)} {E : L2.St → XK} {t : TA} {j : Nat} {f : Addr} {sp : Sp} (e : L[j]? = some (f, sp)) (q : t σ H fun vs H2 => sp vs H2 Q (E σ)) : kCE L E t σ Q (.ref f) H := ⟨j, f, sp, e, rfl, q⟩
theorem tcalls {sp : Sp} {E : L2.St → XK} {t : TA} (h : t σ H fun vs H1 => sp vs H1 Q (E σ)) : tCallS sp E t σ H Q := h
theorem w_yes {c cls : Value} {ts : Addr → Value → Option Addr → TS} {W : WX} {d : Option Addr} (h : PySem.W.exmOne K cls c = some true) (q : ∀ a, H a = none → ts a cls d D σ H) : wOnly K c ts W D cls d σ H := ⟨true, h, fun _ a na => q a na, fun z => nomatch z⟩
end
end LS

/-! own errors over ValueError with def __init__(self, f): super().__init__('..'); self.f = f -/
namespace PySem
namespace SupX
open PySem.W PySem.Calls PyProof.Rows PySem.HandSPX
abbrev iA (f : Str) (p1 p2 : Pos) : Arguments := { posonlyargs := [], args := [{ arg := "self", annotation := none, pos := p1 }, { arg := f, annotation := none, pos := p2 }], vararg := none, kwonlyargs := [], kw_defaults := [], kwarg := none, defaults := [] }
abbrev iB (f m : Str) (q1 q2 q3 q4 q5 q6 q7 q8 q9 q0 : Pos) : List Stmt := [.Expr (.Call (.Attribute (.Call (.Name "super" q1) [] [] q2) "__init__" q3) [.Constant (.str m) 0 q4] [] q5) q6, .Assign [.Attribute (.Name "self" q7) f q8] (.Name f q9) q0]
abbrev iS (f : Str) : Scope := { kind := .function, names := [("self", .local), (f, .local), ("__class__", .free), ("super", .globalImplicit)], isGenerator := false, isCoroutine := false, more := [] }
/-- the field's name is none of the others -/
structure FOk (f : Str) : Prop where
  s : (f == ("self" : Str)) = false
  c : (("__class__" : Str) == f) = false
  p : (("super" : Str) == f) = false
  d : (f == ("__debug__" : Str)) = false
  sf : (("self" : Str) == f) = false
  bind : ∀ (qual : Str) (body : List Stmt) (doc pm cdv ct : Value) (an : Option Addr) (cc : Addr) (p1 p2 : Pos) (a b : Value), bindArgs (ksFn "__init__" qual (iA f p1 p2) body (iS f) .none .none doc pm an cdv ct cc) ⟨[a, b], []⟩ = pure [(("self" : Str), a), (f, b)]
/-- what the written part says of the class at C, its field f, its __init__ at fI -/
structure SupTxt (prog : Program) (K : Frag) (C fI : Addr) (f : Str) : Prop where
  cls : ∃ nm q N bs bm sn sub ab col dd k0 k1 k2 k3 k5, K.lookup C = some (excClassObj nm q C N bs bm true sn sub ab col dd k0 k1 k2 k3 k5 "ValueError.__new__") ∧ refsVE bm = true
  sa : findIn K (.ref C) "__setattr__" = some (some (.builtin "object.__setattr__"))
  noF : findIn K (.ref C) f = some none
  iC : findIn K (.ref C) "__init__" = some (some (.ref fI))
  tC : typeIn K (.ref fI) = some (.type "function")
  kC : keepIn K (.ref C) = true
  exC : subIn K (.ref C) (.type "BaseException") = some true
  exV : subIn K (.ref C) (.type "ValueError") = some true
  tyC : typeIn K (.ref C) = some (.type "type")
  mC : mroIn K C (.ref C) = some true
  op : nsIn K cStatics "thirdparty.any" = some none
  sup : ks_superIn K C C "__init__" = some (some (.builtin "ValueError.__init__"))
  fn : ∃ (qual m : Str) (oc : Value) (od : Option Addr) (doc pm : Value) (an : Option Addr) (cda cc : Addr) (ct : Value) (osl : Array (Option Value)) (p1 p2 q1 q2 q3 q4 q5 q6 q7 q8 q9 q0 : Pos) (oc2 : Value) (od2 : Option Addr) (os2 : Array (Option Value)) (oc3 : Value) (od3 : Option Addr) (os3 vs : Array Value) (os3' : Array (Option Value)) (file : Str) (tf : Tok),
    K.lookup fI = some ⟨oc, od, .func (ksFn "__init__" qual (iA f p1 p2) (iB f m q1 q2 q3 q4 q5 q6 q7 q8 q9 q0) (iS f) .none .none doc pm an (.ref cda) ct cc), osl⟩ ∧ codeIn K (.ref cda) qual = true ∧
    K.lookup cc = some ⟨oc2, od2, .cell (some (.ref C)), os2⟩ ∧ K.lookup cda = some ⟨oc3, od3, .fields vs, os3'⟩ ∧ vs[2]? = some (.str file tf) ∧ ((prog.main.file : Str) == file) = true ∧ (prog.main.scope.names.lookup ("super" : Str)).isSome = false ∧ (q3.endLine == q5.line) = true
/-- what __init__ leaves of a fresh exception at x -/
structure InitEnd (f : Str) (h h' : Heap) (x C dx t1 : Addr) (v : Value) : Prop where
  keep : ∀ b o, b ≠ x → h.get? b = some o → h'.get? b = some o
  obj : h'.get? x = some { cls := .ref C, dict := some dx, data := .fields #[.ref t1, .none, .none, .none, .bool false, .none] }
  dbig : h.objs.size ≤ dx
  dne : dx ≠ x
  ns : h'.Ns1 dx (fun y => if y = f then some v else none)
structure OwnMade (f : Str) (h h' : Heap) (e C d : Addr) (v : Value) : Prop where
  keep : ∀ b o, h.get? b = some o → h'.get? b = some o
  new : h.objs.size ≤ e
  obj : ∃ oe vs, h'.get? e = some oe ∧ oe.cls = .ref C ∧ oe.dict = some d ∧ oe.data = .fields vs ∧ vs[1]? = some .none
  dbig : h.objs.size ≤ d
  dne : d ≠ e
  ns : h'.Ns1 d (fun y => if y = f then some v else none)
theorem one_size (v : Value) : [v].length ≤ sizeLine := by
  rw [sizeLine_eq]
  exact (by decide : 1 ≤ 16777216)
section
variable {prog : Program} {w : World} {A : Around} {E : Value → Shared → Prop} {h : Heap} {g : Array GenState} {d : Drawn} {t : Nat} {os : OsState}
theorem super_call {q1 q2 q3 q4 q5 : Pos} {m : Str} {env : Env} (hline : (q3.endLine == q5.line) = true) : eval (.Call (.Attribute (.Call (.Name "super" q1) [] [] q2) "__init__" q3) [.Constant (.str m) 0 q4] [] q5) env = (do
      let ov ← attributeBase (.Call (.Name "super" q1) [] [] q2) "__init__" env (eval (.Call (.Name "super" q1) [] [] q2) env)
      standAt q3.atName
      let (f, first) ← holding [ov] (getMethod ov "__init__" (do return (← importBound (.Call (.Name "super" q1) [] [] q2) env).getD true))
      callWith q5 f first (backTo q5 (starEach [.Constant (.str m) 0 q4] env)) []) := by
  rw [PySem.arm_eval_Call]
  congr 1
  funext ov
  congr 1
  funext _
  unfold methodCall methodCallPos calleeOf
  have e : methodCallForm ([Expr.Constant (Const.str m) 0 q4].length + ([] : List Keyword).length) (backTo q5 (starEach [Expr.Constant (Const.str m) 0 q4] env)) (backToKw q5 (keywordEach [] env)) = true := rfl
  rw [e, hline]
  rfl
/-- the bound ValueError.__init__ called -/
theorem call_mw {u e C N : Addr} {nm q : Str} {bs bm : List Value} {hdct : Bool} {sn : List Str} {sub : List Value} {ab : Bool} {col : Option Bool} {dd : Option Addr} {k0 k1 k2 k3 k5 : Option Value} {t0 : Addr} {rest : List Value} {Q : Value → Shared → Prop}
    (hC : h.get? C = some (excClassObj nm q C N bs bm hdct sn sub ab col dd k0 k1 k2 k3 k5 "ValueError.__new__")) (he : h.get? e = some (excO C t0)) (hu : h.get? u = some (kxs_mw "ValueError.__init__" e)) (hrest : rest.length ≤ sizeLine)
    (hq : ∀ h' t1, (∀ b o, b ≠ e → h.get? b = some o → h'.get? b = some o) → h'.get? e = some (excO C t1) → Q .none ⟨h', g, d, t, os⟩) :
    wpAny (model prog w) A (call (.ref u) rest) Q E ⟨h, g, d, t, os⟩ := by
  refine wpAny_call (codeAny_of_tree ?_)
  show wpAny _ A.in1 (callAny (.ref u) ⟨rest, []⟩) _ _ _
  simp only [callAny]
  refine wpAny_bind (wpAny_load hu ?_)
  simp only [kxs_mw, show (Value.type "method-wrapper" == Value.type "method" || Value.type "method-wrapper" == Value.type "builtin_function_or_method" || Value.type "method-wrapper" == Value.type "method-wrapper") = true by decide, if_true]
  refine KFB.if_so (by decide) ?_
  refine wpAny_bind (check_bound_init PySem.F.excBase_ValueError.toExcCallFacts hC he rfl ?_)
  refine wpAny_bind (wpAny_pure (wpAny_pure ?_))
  refine ⟨plainId_quiet PySem.F.excBase_ValueError.init.plain _, codeAny_builtin PySem.F.excBase_ValueError.initEntry ?_⟩
  exact exc_init_tree (cls := .ref C) (t0 := t0) (dv := none) (c2 := .none) (c3 := .none) (b4 := .bool false) he hrest fun h' k e' _ => hq h' _ k e'
end
section
variable {prog : Program} {w : World} {A : Around} {E : Value → Shared → Prop} {R : Result → Shared → Prop} {s : Shared} {K : Frag} {mg mb : Str → Option Value} {C fI : Addr} {f : Str}
theorem sup_init (T : SupTxt prog K C fI f) (FO : FOk f) {x t0 : Addr} {v : Value} (X : K.In s.heap) (hG : s.heap.Ns mainGlobals mg) (hB : s.heap.Ns builtinsNs mb) (hsup : mg "super" = none) (hmb : mb "super" = some (.type "super"))
    (hlim : s.heap.NoLimit) (hx : s.heap.get? x = some (excO C t0)) (hnx : K.lookup x = none) (hxC : x ≠ C) (hroom : A.depth < recursionLimit)
    (hq : ∀ h' tk dx t1, InitEnd f s.heap h' x C dx t1 v → R (.ok (.ret .none)) { s with heap := h', toks := tk }) :
    codeAny (model prog w) A (.call (.ref fI) ⟨[.ref x, v], []⟩) R s := by
  obtain ⟨qual, m, oc, od, doc, pm, an, cda, cc, ct, osl, p1, p2, q1, q2, q3, q4, q5, q6, q7, q8, q9, q0, oc2, od2, os2, oc3, od3, os3, vs, os3', file, tf, ho, hcd, hcell, hcod, hvs, hfile, htop, hline⟩ := T.fn
  obtain ⟨nm, q, N, bs, bm, sn, sub, ab, col, dd, k0, k1, k2, k3, k5, hC, hbm⟩ := T.cls
  have hcl : clsIn K C = some { name := nm, bases := bs, mro := .ref C :: bm, ns := N, qualname := q, hasDict := true, slotNames := sn, subclasses := sub, abstract := ab, collection := col, hasDel := false } := by unfold clsIn; rw [hC] <;> rfl
  refine ks_codeAny_call_defAt (a := fI) (fd := ksFn "__init__" qual (iA f p1 p2) (iB f m q1 q2 q3 q4 q5 q6 q7 q8 q9 q0) (iS f) .none .none doc pm an (.ref cda) ct cc) (body := iB f m q1 q2 q3 q4 q5 q6 q7 q8 q9 q0) (binds := [("self", .ref x), (f, v)]) hroom (X _ _ ho) rfl hlim (codeRec_of X hcd) rfl ?bind ?cell ?loc (fun h₁ hns k => ?_) rfl rfl rfl
  case bind => exact .of_eq (FO.bind ..)
  case cell =>
    intro y hy
    simp only [List.mem_cons, List.not_mem_nil, or_false] at hy
    rcases hy with rfl | rfl | rfl | rfl <;> intro z <;> cases z
  case loc =>
    intro y hy
    simp only [List.mem_cons, List.not_mem_nil, or_false] at hy
    rcases hy with rfl | rfl
    · rfl
    · show List.lookup f [(("self" : Str), NameKind.local), (f, .local), ("__class__", .free), ("super", .globalImplicit)] = _
      simp [List.lookup, FO.s]
  have X₁ := X.keeps k
  have hx₁ := k _ _ hx
  have hC₁ : h₁.get? C = _ := X₁ _ _ hC
  have hG₁ := hG.keeps k
  have hB₁ := hB.keeps k
  have hself : ([("self", Value.ref x), (f, v)] : List (Str × Value)).reverse.lookup ("self" : Str) = some (.ref x) := by
    show List.lookup ("self" : Str) [(f, v), ("self", Value.ref x)] = _
    simp [List.lookup, FO.sf]
  have hfv : ([("self", Value.ref x), (f, v)] : List (Str × Value)).reverse.lookup f = some v := by
    show List.lookup f [(f, v), ("self", Value.ref x)] = _
    simp [List.lookup]
  have hxL : s.heap.objs.size ≠ x := Nat.ne_of_gt (Heap.lt_size hx)
  obtain ⟨hp, g, dr, tk, os⟩ := s
  dsimp only at *
  refine ks_wpAt_execs_cons (ks_wpAt_Expr_any (ks_wpAt_MethodCall ?_ (super_call hline)))
  refine ks_wpAt_super_base (f := fI) (cc := cda) (of := ⟨oc, od, .func (ksFn "__init__" qual (iA f p1 p2) (iB f m q1 q2 q3 q4 q5 q6 q7 q8 q9 q0) (iS f) .none .none doc pm an (.ref cda) ct cc), osl⟩) ?a1 ?a2 (by decide) rfl (X₁ _ _ ho) rfl rfl rfl (X₁ _ _ hcod) rfl hvs hfile htop ?_
  case a1 =>
    show List.lookup ("super" : Str) [(("self" : Str), NameKind.local), (f, .local), ("__class__", .free), ("super", .globalImplicit)] = _
    simp only [List.lookup, FO.p]
    rfl
  case a2 =>
    show List.lookup ("__class__" : Str) [(("self" : Str), NameKind.local), (f, .local), ("__class__", .free), ("super", .globalImplicit)] = _
    simp only [List.lookup, FO.c]
    rfl
  have ks : ∀ (L a : Addr) (z : Str), (callEnv (ksFn "__init__" qual (iA f p1 p2) (iB f m q1 q2 q3 q4 q5 q6 q7 q8 q9 q0) (iS f) .none .none doc pm an (.ref cda) ct cc) L a).kindOf z = List.lookup z [(("self" : Str), NameKind.local), (f, .local), ("__class__", .free), ("super", .globalImplicit)] := fun _ _ _ => rfl
  refine ks_loadName_global rfl (by rw [ks]; simp only [List.lookup, FO.p]; rfl) (loadGlobal_builtin hG₁ hsup hB₁ hmb ⟨rfl, ?_⟩)
  refine wpAny_loadName_free rfl (by rw [ks]; simp only [List.lookup, FO.c]; rfl) rfl ⟨_, X₁ _ _ hcell, rfl⟩ ?_
  refine wpAny_loadName_local (v := .ref x) rfl (by rw [ks]; rfl) hns hself ?_
  refine ks_wpAny_isType_cls hC₁ rfl ⟨rfl, ?_⟩
  refine ks_wpAny_call_super hC₁ rfl hx₁ rfl (fun c e => by cases e) (looks_mroIn X₁ T.mC) (fun h₂ e₂ k₂ => ?_)
  have X₂ := X₁.keeps k₂
  have hx₂ := k₂ _ _ hx₁
  have hC₂ := k₂ _ _ hC₁
  have hns₂ := hns.keeps k₂
  have L2' : PySem.W.Looks (model prog w) h₂ (typeOf (.ref x)) (.ref C) := fun A Q E s k q => wpAny_typeOf_ref (k _ _ hx₂) q
  refine kxs_getMethod kxs_ValueError (l₀ := .ref C :: bm) (l := bm) (K := K) e₂ (looks_opaque X₂ T.op) ?b1 ?b2 X₂ ?b3 (L2'.andThen (looks_subIn X₂ T.exV)) hxC (by decide) ?_
  case b1 => exact fun A Q E s k q => wpAny_bind ((looks_clsIn X₂ hcl) A _ E s k (wpAny_pure q))
  case b2 => simp [List.dropWhile]
  case b3 =>
    have e := T.sup
    unfold ks_superIn at e
    rw [hcl, Option.bind_some] at e
    have e2 : ((Value.ref C :: bm).dropWhile (· != .ref C)).drop 1 = bm := by simp [List.dropWhile]
    rw [e2] at e
    exact e
  have k₃ : ∀ b o, h₂.get? b = some o → (h₂.push (kxs_mw "ValueError.__init__" x)).get? b = some o := fun b o e => Heap.get?_push_of_some _ e
  have hu : (h₂.push (kxs_mw "ValueError.__init__" x)).get? h₂.objs.size = some (kxs_mw "ValueError.__init__" x) := Heap.get?_push_at rfl rfl
  have X₃ := X₂.keeps k₃
  have hx₃ := k₃ _ _ hx₂
  have hC₃ := k₃ _ _ hC₂
  have hns₃ := hns₂.keeps k₃
  have kk : ∀ b o, hp.get? b = some o → (h₂.push (kxs_mw "ValueError.__init__" x)).get? b = some o := fun b o e => k₃ _ _ (k₂ _ _ (k _ _ e))
  generalize h₂.push (kxs_mw "ValueError.__init__" x) = h₃ at *
  refine kxs_callWith (i := "ValueError.__init__") (x := x) rfl ?_
  show wpAny _ _ (evalArgs _ true [(false, eval (.Constant (.str m) 0 q4) _)] []) _ _ _
  refine evalArgs_plain (spliced_cons (Constant_str (x := m) (k := 0) (pos := q4) (spliced_nil ⟨hu, ?_⟩)))
  show wpAny _ _ (call (.ref h₂.objs.size) [Value.str m _]) _ _ _
  refine call_mw hC₃ hx₃ hu (one_size _) fun h₄ t1 k₄ hx₄ => ?_
  have X₄ : K.In h₄ := fun a o e => k₄ a o (fun z => by rw [z, hnx] at e; cases e) (X₃ a o e)
  have hns₄ := hns₃.at (k₄ _ · hxL)
  refine wpAt_of_wpAny ?_
  refine wpAny_execs_cons (plainObj_wpAny_Assign_Attribute ?_)
  refine wpAny_Name (wpAny_loadName_local (v := v) rfl (by rw [ks]; simp only [List.lookup, FO.s]; simp) hns₄ hfv ?_) FO.d
  refine wpAny_Name (wpAny_loadName_local (v := .ref x) rfl (by rw [ks]; rfl) hns₄ hself ?_) (by decide)
  refine set_plain X₄ (ox := excO C t1) (od := none) ⟨hx₄, rfl, rfl, trivial⟩ T.sa ?_
  refine exc_osa X₄ hx₄ hcl (show refsVE (.ref C :: bm) = true from hbm) rfl T.noF (fun h₅ tk₅ dx k₅ dn dne hx₅ hn₅ => ?_)
  show wpAny _ _ (execs _ _) _ _ _
  have z : hp.objs.size < h₁.objs.size := hns.lt
  have z4 : hp.objs.size < h₄.objs.size := hns₄.lt
  exact wpAny_execs_nil (hq h₅ tk₅ dx t1 ⟨fun b o hb e => k₅ b o hb (k₄ b o hb (kk b o e)), hx₅, Nat.le_of_lt (Nat.lt_of_lt_of_le z4 dn), dne, hn₅⟩)
theorem sup_made (T : SupTxt prog K C fI f) (FO : FOk f) {v : Value} (X : K.In s.heap) (hG : s.heap.Ns mainGlobals mg) (hB : s.heap.Ns builtinsNs mb) (hsup : mg "super" = none) (hmb : mb "super" = some (.type "super"))
    (hlim : s.heap.NoLimit) (hroom : A.depth + 1 < recursionLimit)
    (hq : ∀ h' tk e d, OwnMade f s.heap h' e C d v → R (.ok (.ret (.ref e))) { s with heap := h', toks := tk }) :
    codeAny (model prog w) A (.call (.ref C) ⟨[v], []⟩) R s := by
  obtain ⟨nm, q, N, bs, bm, sn, sub, ab, col, dd, k0, k1, k2, k3, k5, hC, hbm⟩ := T.cls
  obtain ⟨hp, g, dr, tk, os⟩ := s
  have k : ∀ b o, hp.get? b = some o → ((hp.push (kdv_tup [v])).push (excO C hp.objs.size)).get? b = some o := fun b o e => Heap.get?_push_of_some _ (Heap.get?_push_of_some _ e)
  have hget : ((hp.push (kdv_tup [v])).push (excO C hp.objs.size)).get? (hp.objs.size + 1) = some (excO C hp.objs.size) := by heap_get
  have hnx : K.lookup (hp.objs.size + 1) = none := by
    cases e : K.lookup (hp.objs.size + 1) with
    | none => rfl
    | some o =>
      have z : hp.get? (hp.objs.size + 1) = some o := X _ _ e
      exact absurd (Nat.lt_of_succ_lt (Heap.lt_size z)) (Nat.lt_irrefl _)
  have hxC : hp.objs.size + 1 ≠ C := fun z => by rw [z, hC] at hnx; cases hnx
  refine call_own F.excBase_ValueError (fun X => refsVE_contains X bm hbm) (X _ _ hC) (looks_findIn X T.iC) (fun self => bind_fn X self T.tC) (one_size v) ?_
  refine sup_init (s := ⟨(hp.push (kdv_tup [v])).push (excO C hp.objs.size), g, dr, tk, os⟩) T FO (X.keeps k) (hG.keeps k) (hB.keeps k) hsup hmb (hlim.keeps k) hget hnx hxC ?_ fun h' tk' dx t1 ⟨k', hx, dn, dne, hns⟩ => ?_
  · show A.depth + 1 < recursionLimit
    exact hroom
  · have old : ∀ b o, hp.get? b = some o → h'.get? b = some o := fun b o e => k' b o (Nat.ne_of_lt (Nat.lt_succ_of_lt (Heap.lt_size e))) (k b o e)
    have z : hp.objs.size + 1 + 1 ≤ dx := by
      first
        | (simpa only [Heap.size_push] using dn)
        | exact dn
        | (have q := dn; rw [Heap.size_push, Heap.size_push] at q; exact q)
    exact ⟨rfl, hq h' tk' (hp.objs.size + 1) dx ⟨old, Nat.le_succ _, ⟨_, _, hx, rfl, rfl, rfl, rfl⟩, Nat.le_trans (Nat.le_trans (Nat.le_succ _) (Nat.le_succ _)) z, dne, hns⟩⟩
end
end SupX
end PySem
namespace L2
open PySem PySem.Spec PyProof.Rows
theorem relO_one {v : V} {v' : Value} (r : RelV v v') (f g : Str) : RelO (List.lookup g [(f, v)]) (if g = f then some v' else none) := by
  by_cases hw : g = f
  · subst hw
    rw [if_pos rfl]
    have q : List.lookup g [(g, v)] = some v := by simp [List.lookup]
    rw [q]
    exact r
  · rw [if_neg hw]
    have qw : (g == f) = false := by simpa using hw
    have q2 : List.lookup g [(f, v)] = none := by simp [List.lookup, qw]
    rw [q2]
    trivial
section
variable {X : Cx} {C fI : Addr} {f : Str}
/-- C(e) -/
def kMkS (C : Addr) (f : Str) (Q : XK) : List V → Hp → Prop := fun vs H1 => ∃ v, vs = [v] ∧ ∀ d, H1 d = none → Q (.ref C) (some d) (upd H1 d (.xd [(f, v)]))
def tMkS (C : Addr) (f : Str) (ta : TA) : L2.St → Hp → XK → Prop := fun σ H Q => ta σ H (kMkS C f Q)
theorem pmk_sup {a : Expr} {ta : TA} {n : Str} {p pos : Pos} {k : Nat} (T : PySem.SupX.SupTxt X.prog X.K C fI f) (FO : PySem.SupX.FOk f) (gC : X.mg n = some (.ref C)) (hsup : X.mg "super" = none) (hr : Room k X.A) (ha : PA X [a] ta) (hg : Gl X n := by rfl) (hdb : (n == ("__debug__" : Str)) = false := by decide)
    (he : starEach (a :: []) X.env = (false, eval a X.env) :: starEach [] X.env := by rfl) (hpl : (backTo pos (starEach [] X.env)).any (·.1) = false := by rfl) :
    PMk X (.Call (.Name n p) [a] [] pos) (tMkS C f ta) := by
  intro pins s σ H Q I h
  refine wpAny_Call_Name_kw (ld_glob I hg gC ?_ hdb)
  refine PySem.W.callWith_K (h₀ := X.base) I.ok.mod.kin T.kC (thn (ha.run pos pins s σ H _ I h) fun us s1 hh => ?_) he hpl
  obtain ⟨vs, H1, I1, r1, v, ev, q1⟩ := hh
  subst ev
  refine ⟨I1.kIn, ?_⟩
  cases r1 with
  | cons rv rn =>
    rename_i v' us'
    cases rn
    show wpAny _ _ (call (.ref C) [v']) _ _ _
    have hlim := I1.nolimit
    have hG := I1.mod.glob.keeps I1.bk
    obtain ⟨mb, hB0, hBm⟩ := I1.mod.blt
    have hB := hB0.keeps I1.bk
    have hmb : mb "super" = some (.type "super") := (hBm "super" (by decide)).trans (by decide +kernel)
    obtain ⟨hp, g, dr, tk, os⟩ := s1
    refine wpAny_call (PySem.SupX.sup_made T FO I1.kIn hG hB hsup hmb hlim (by have := hr.dp; omega) fun h' tk' e d M => ?_)
    show MkP X pins σ Q (.ref e) ⟨h', g, dr, tk', os⟩
    obtain ⟨oe, fv, hoe, hc, hd, hdat, h1⟩ := M.obj
    have hns := M.ns
    obtain ⟨G', g1, g2⟩ := restrict h' fun b => decide (b ≠ e)
    have gk : ∀ b, b ≠ e → G'.get? b = h'.get? b := fun b hb => g1 b (decide_eq_true hb)
    have ge : G'.get? e = none := g2 e (by simp)
    have old : ∀ b o, hp.get? b = some o → G'.get? b = some o := fun b o q => (gk b (Nat.ne_of_lt (Nat.lt_of_lt_of_le (Heap.lt_size q) M.new))).trans (M.keep b o q)
    have ob : ObjOk X.prog X.w (upd H1 d (.xd [(f, v)])) G' d (.xd [(f, v)]) :=
      ⟨_, hns.at (fun o q => (gk d M.dne).trans q), fun g => relO_one rv f g⟩
    have J : Inv X pins σ (upd H1 d (.xd [(f, v)])) ⟨G', g, dr, tk', os⟩ := I1.laid (t' := tk') old M.dbig ob
    refine ⟨e, oe, fv, ⟨G', g, dr, tk', os⟩, _, .ref C, some d, rfl, J, fun b o q => ?_, ge, hoe, ⟨hc, hd⟩, hdat, h1, ?_, rfl, I1.bare, raises_own T.exC T.tyC, q1 d (I1.hok.fresh M.dbig)⟩
    · by_cases hb : b = e
      · have q' : G'.get? b = some o := q
        rw [hb, ge] at q'; cases q'
      · exact (gk b hb).symm.trans q
    · rw [upd_ne (Ne.symm M.dne)]
      exact I1.hok.fresh M.new
end
end L2
namespace LS
open PySem L2
/-- raise C(e), read -/
theorem mks {C : Addr} {f : Str} {ta : TA} {σ : L2.St} {H : Hp} {Q : XK} (h : ta σ H (kMkS C f Q)) : tMkS C f ta σ H Q := h
theorem k_mks {C : Addr} {f : Str} {v : V} {H : Hp} {Q : XK} (h : ∀ (d : Addr) (H' : Hp), H d = none → Same H H' → H' d = some (.xd [(f, v)]) → Q (.ref C) (some d) H') : kMkS C f Q [v] H := ⟨v, rfl, fun d nd => h d _ nd (LP.same_upd nd) upd_same⟩
def kXf (a : Addr) (cls : Value) (d : Option Addr) (C : Addr) (f : Str) (Q : VK) : VK := fun x H1 => x = .ref a ∧ cls = .ref C ∧ ∃ (dd : Addr) (fs : List (Str × V)) (v : V), d = some dd ∧ H1 dd = some (.xd fs) ∧ fs.lookup f = some v ∧ Q v H1
theorem txf {a C : Addr} {cls : Value} {d : Option Addr} {f : Str} {te : TE} {σ : L2.St} {H : Hp} {Q : VK} (h : te σ H (kXf a cls d C f Q)) : tXf a cls d C f te σ H Q := h
theorem k_xf {a C dd : Addr} {f : Str} {v : V} {fs : List (Str × V)} {H : Hp} {Q : VK} (h : H dd = some (.xd fs)) (e : fs.lookup f = some v) (q : Q v H) : kXf a (.ref C) (some dd) C f Q (.ref a) H := ⟨rfl, rfl, dd, fs, v, rfl, h, e, q⟩
theorem rnotn_rr {H : Hp} {Q : VK} {p : Addr} (q : Q (.bl true) H) : rNotN (.ref p) .non H Q := ⟨rfl, q⟩
theorem risn_rr {H : Hp} {Q : VK} {p : Addr} (q : Q (.bl false) H) : rIsN (.ref p) .non H Q := ⟨rfl, q⟩
end LS

/-! set(xs) of a list of ints, and sorted of it -/
namespace LX
open PySem PySem.Spec PyProof.Rows L2
section
variable {P : Program} {w : World} {A : Around} {E : Value → Shared → Prop} {s : Shared}
/-- an empty set, new -/
abbrev setN (w : World) : Obj :=
  { cls := .type "set", dict := none
    data := .set #[] 0 (.fresh 0 0 (!w.params.followText "set-order")) }
abbrev hpN (w : World) (h : Heap) : Heap := h.push (setN w)
/-- what set.__init__ leaves of a fresh set, given a list -/
def SetEnd (w : World) (s : Shared) (ns : List Int) (E : Value → Shared → Prop) : Result → Shared → Prop :=
  wants (fun r t => r = .none ∧ ∃ h' tk c, t = { s with heap := h', toks := tk } ∧
    SetR w h' s.heap.objs.size (fun j => decide (j ∈ ns)) c ∧
    ∀ b o, s.heap.get? b = some o → h'.get? b = some o) E
theorem init_list {l : Addr} {items : Array Value} {ns : List Int} (hh : A.handled = none) (hl : s.heap.IsList l items)
    (hit : IntsAre items.toList ns) (hb : ns.length + 1 < scanBound) :
    codeAny (model P w) A (.call (.builtin "set.__init__") ⟨[.ref s.heap.objs.size, .ref l], []⟩) (SetEnd w s ns E) { s with heap := hpN w s.heap } := by
  have isz : items.size = ns.length := by have q := hit.length; rwa [Array.length_toList] at q
  have g0 : (hpN w s.heap).get? s.heap.objs.size = some (setN w) := Heap.get?_push_size _ rfl
  have ty : Shared.TypeIs { s with heap := hpN w s.heap } (.ref s.heap.objs.size) "set" := ⟨_, g0, rfl⟩
  have nm := PySem.F.called_set.init
  refine codeAny_call_builtin nm.plain PySem.F.entry_set_init (check_set_init_1 ty ?_)
  obtain ⟨⟨_, od, _, os⟩, e0, rfl, k, rfl⟩ := hl
  have gl := Heap.get?_push_of_some (setN w) e0
  have a1 := PySem.F.sub_list_set; have a2 := PySem.F.sub_list_frozenset
  have a3 : (Value.type "list" == .type "dict") = false := by decide
  have L1 : (hpN w s.heap).IsList l items := ⟨_, gl, rfl, k, rfl⟩
  unfold Builtin.«set.__init__» noKeywords Builtin.Frozenset.updateFrom
  generalize ep : pyIter = pI
  wp_walk
  subst ep
  refine wpAny_pyIter_list L1 (wpAny_bind (wpAny_runValue ?_))
  have lt := Heap.lt_size e0
  have hd3 : A.in1.in1.handled = none := by simp [hh]
  have sz : (hpN w s.heap).objs.size = s.heap.objs.size + 1 := Heap.size_push ..
  have d1 : l ≠ (hpN w s.heap).objs.size := Nat.ne_of_lt (Nat.lt_of_lt_of_eq (Nat.lt_succ_of_lt lt) sz.symm)
  have d2 : s.heap.objs.size ∉ [(hpN w s.heap).objs.size, l] := fun q => by
    rcases List.mem_cons.mp q with q | q
    · exact absurd (q.trans sz) (Nat.ne_of_lt (Nat.lt_succ_self _))
    · exact Nat.ne_of_gt lt (List.mem_singleton.mp q)
  have vs : ∀ (i : Nat) (v : Value), items[i]? = some v → ∃ k t, ns[i]? = some k ∧ v = .int k t := fun i v hv => by
    have li : i < ns.length := by have := (Array.getElem?_eq_some_iff.mp hv).1; omega
    obtain ⟨t, q⟩ := hit.int_at i v (by rw [Array.getElem?_toList]; exact hv)
    exact ⟨ns[i], t, List.getElem?_eq_getElem li, by rw [q, List.getD_eq_getElem?_getD, List.getElem?_eq_getElem li]; rfl⟩
  refine set_update_ints (Walks.list hd3 _ l d1 items).toS s.heap.objs.size d2 ns isz hb vs (items.size - 0) 0 _ (by omega) (Nat.zero_le _) ?st ?s0 fun t c m cl R => ?_
  case st => exact ⟨⟨_, Heap.get?_push_size _ rfl, rfl, rfl⟩, L1.push _⟩
  case s0 => exact ⟨0, Nat.le_refl 0, setR_new_at (Heap.get?_push_of_some _ g0)⟩
  obtain ⟨h', g2, dr, tk, os2⟩ := t
  obtain rfl : g2 = s.gens := m.gens
  obtain rfl : dr = s.drawn := m.drawn
  obtain rfl : os2 = s.os := m.os
  show wpAny _ _ _ _ _ _
  refine wpAny_pure ?_
  show wpAny _ _ (ret Value.none) _ _ _
  refine wpAny_pure ⟨rfl, h', tk, c, rfl, R, fun b o e => ?_⟩
  have lb := Heap.lt_size e
  exact m.heap b o (fun q => by
    rcases List.mem_cons.mp q with q | q
    · exact Nat.ne_of_lt lb q
    · exact Nat.ne_of_lt (Nat.lt_succ_of_lt lb) ((List.mem_singleton.mp q).trans sz)) (Heap.get?_push_of_some _ (Heap.get?_push_of_some _ e))
theorem set_of_list {l : Addr} {items : Array Value} (ns : List Int) {Q : Value → Shared → Prop} (hh : A.handled = none) (hl : s.heap.IsList l items) (hit : IntsAre items.toList ns) (hb : ns.length + 1 < scanBound)
    (h : ∀ (h' : Heap) (tk c : Nat), SetR w h' s.heap.objs.size (fun j => decide (j ∈ ns)) c → (∀ b o, s.heap.get? b = some o → h'.get? b = some o) → Q (.ref s.heap.objs.size) { s with heap := h', toks := tk }) :
    wpAny (model P w) A (call (.type "set") [.ref l]) Q E s := by
  have N := PySem.F.called_set
  obtain ⟨c, tl, hmro⟩ := N.mro
  have hmade := N.made; have hsub := N.sub
  refine wpAny_call (codeAny_of_tree ?_)
  show wpAny _ _ (callAny (.type "set") _) _ _ _
  refine wpAny_pure ⟨Code.quiet_builtin _ (by decide +kernel), codeAny_builtin PySem.F.entry_type_call ?_⟩
  rw [Around.under_plain (weight_type_call_type "set" [.ref l] []) rfl]
  have h1 := N.notType; have h2 := N.canCreate; have hct := PySem.F.typeCall_set_1 (.ref l)
  repeat any_goals first | assumption | wp_step
  refine codeAny_mono (code_set_led1 (.ref l) (E := E) (Q₁ := fun v t => v = .ref s.heap.objs.size ∧ t = { s with heap := hpN w s.heap }) ⟨rfl, rfl⟩) fun r t hr => ?_
  rcases r with e | fl
  · exact hr
  cases fl with
  | ret v =>
    obtain ⟨rfl, rfl⟩ := hr
    have ty : Shared.TypeIs { s with heap := hpN w s.heap } (.ref s.heap.objs.size) "set" := ⟨_, Heap.get?_push_size _ rfl, rfl⟩
    have i1 := N.init.lookup; have i2 := N.init.bind (.ref s.heap.objs.size)
    repeat any_goals first | assumption | wp_step
    refine codeAny_mono (init_list (E := E) (by simp [hh]) hl hit hb) fun r t hr => ?_
    rcases r with e | fl
    · exact hr
    cases fl with
    | ret v =>
      obtain ⟨rfl, h', tk, c, rfl, R, kp⟩ := hr
      repeat any_goals first | assumption | wp_step
      exact h _ _ _ R kp
    | _ => exact hr.elim
  | _ => exact hr.elim
end
/-- set(xs), xs a list of ints -/
def tSetL (w : World) (K : PySem.W.Frag) (ta : TE) : TE := fun σ H Q => ta σ H fun x H1 => ∃ (l : Addr) (ns : List Int), x = .ref l ∧ SqL K H1 l (ns.map V.int) ∧ ns.length ≤ 4000 ∧
  ∀ (c : Addr) (n : Nat) (H' : Hp), H1 c = none → Same H1 H' → H' c = some (SetO w c (fun k => decide (k ∈ ns)) n) → (∀ m : Nat, (∀ x ∈ ns, 0 ≤ x ∧ x < m) → n ≤ m) → Q (.ref c) H'
theorem nodup_le : ∀ {m : Nat} {l : List Int}, l.Nodup → (∀ x ∈ l, 0 ≤ x ∧ x < m) → l.length ≤ m
  | 0, l, _, b => by
    cases l with
    | nil => exact Nat.le_refl _
    | cons x r => have := b x (List.mem_cons_self ..); omega
  | m + 1, l, h, b => by
    by_cases q : (m : Int) ∈ l
    · have := nodup_le (m := m) (h.erase (m : Int)) fun x hx => by
        have h1 := b x (List.mem_of_mem_erase hx)
        have h2 := (h.mem_erase_iff.mp hx).1
        omega
      rw [List.length_erase_of_mem q] at this
      omega
    · have := nodup_le (m := m) h fun x hx => by
        have h1 := b x hx
        have h2 : x ≠ m := fun e => q (e ▸ hx)
        omega
      omega
theorem pe_setL {X : Cx} {a : Expr} {ta : TE} {p pos : Pos} (hg : Gl X "set") (hm : X.mg "set" = none) (ha : PE X a ta) (hc : X.calm = true := by rfl)
    (na : starEach [a] X.env = (false, eval a X.env) :: starEach [] X.env := by rfl) : PE X (.Call (.Name "set" p) [a] [] pos) (tSetL X.w X.K ta) := by
  refine ⟨fun pins s σ H Q I h => ?_⟩
  refine Call_ (ld_blt I hg hm boot_set ?_)
  refine PyProof.Rows.callWith_type1 (PyProof.Rows.args_cons (thn (ha.run pins s σ H _ I h) fun v s1 ⟨x, H1, I1, r1, q1⟩ => PyProof.Rows.args_nil ?_) na) na rfl
  obtain ⟨l, ns, rfl, hq, hl, q1⟩ := q1
  cases r1
  obtain ⟨its, r, pl, hz⟩ := I1.list hq
  refine set_of_list ns (I1.ok.hd hc) pl.isList (by simpa using RZ.intsAre_vals r) (by unfold scanBound; omega) fun h' tk c R hk => ?_
  have I2 : Inv X pins σ (upd H1 s1.heap.objs.size (SetO X.w s1.heap.objs.size (fun k => decide (k ∈ ns)) c)) { s1 with heap := h', toks := tk } := I1.laid (t' := tk) hk (Nat.le_refl _) (setO_new R)
  have n1 : H1 s1.heap.objs.size = none := I1.hok.fresh (Nat.le_refl _)
  refine ⟨.ref s1.heap.objs.size, _, I2, rfl, q1 _ c _ n1 (LP.same_upd n1) upd_same fun m hm => ?_⟩
  obtain ⟨o, es, ep, t, _, _, _, _, nd, mem, _, _, hn, _⟩ := R
  have := nodup_le nd (m := m) fun x hx => hm x (of_decide_eq_true ((mem x).mpr hx))
  rw [List.length_map, Array.length_toList, hn] at this
  exact this
end LX

namespace LT
end LT
namespace LG
end LG
namespace LQ
end LQ
namespace LH
end LH
namespace LC
end LC
namespace LX
end LX
namespace LR
end LR
namespace LP
open PySem L2 LT LG LQ LH LC LX
def topS (i : Nat) : Stmt := PySem.Challenge.pw_leftreturn_k14_ranges_of_times.main.body.getD i (.Pass ⟨0, 0, 0, 0⟩)
abbrev s_is_whole : Stmt := topS 12
abbrev s_is_listed : Stmt := topS 13
abbrev s_is_number : Stmt := topS 14
abbrev s_is_place : Stmt := topS 16
abbrev s_is_place_list : Stmt := topS 17
abbrev s_check_places : Stmt := topS 18
abbrev s_check_same_places : Stmt := topS 19
abbrev s_check_pair : Stmt := topS 20
abbrev s_numbers_by_place : Stmt := topS 22
abbrev s_is_two : Stmt := topS 23
abbrev s_is_three : Stmt := topS 24
abbrev s_first_two : Stmt := topS 25
abbrev s_last_fill_between : Stmt := topS 26
abbrev s_first_three : Stmt := topS 27
abbrev s_obstruction : Stmt := topS 28
abbrev s_least_times : Stmt := topS 29
abbrev s_most_times : Stmt := topS 30
abbrev s_check_possible : Stmt := topS 31
abbrev s_time_bounds : Stmt := topS 32
abbrev s_is_fact : Stmt := topS 35
abbrev s_check_facts : Stmt := topS 36
abbrev s_limits_of_out : Stmt := topS 37
abbrev s_limits_of : Stmt := topS 38
abbrev s_read_facts : Stmt := topS 39
abbrev s_contradicts_pair : Stmt := topS 40
abbrev s_puts_behind : Stmt := topS 41
abbrev s_find_contradiction : Stmt := topS 42
abbrev s_check_number : Stmt := topS 15
abbrev s_narrow : Stmt := topS 43
abbrev s_can_be_met : Stmt := topS 44
abbrev s_narrow_if_consistent : Stmt := topS 45
abbrev s_time_range : Stmt := topS 46
abbrev s__law_bag : Stmt := topS 48
abbrev s__law_stir : Stmt := topS 49
abbrev s__law_draw : Stmt := topS 50
abbrev s__law_shuffled : Stmt := topS 51
abbrev s__law_either : Stmt := topS 52
abbrev s__law_dressed : Stmt := topS 53
abbrev s__law_places : Stmt := topS 54
abbrev s__law_filled : Stmt := topS 55
abbrev s__law_all_patterns : Stmt := topS 56
abbrev s__law_few : Stmt := topS 57
abbrev s__law_fact : Stmt := topS 58
abbrev s__law_holds : Stmt := topS 59
abbrev s__law_conflict : Stmt := topS 60
abbrev s__law_fitting : Stmt := topS 61
abbrev s__law_times : Stmt := topS 62
abbrev s__law_told : Stmt := topS 63
abbrev s__law_due : Stmt := topS 64
abbrev s__law_right : Stmt := topS 65
abbrev s_law : Stmt := topS 66
theorem sc_is_whole : FnScope ["value"] ["value"] (defScope s_is_whole) := ⟨rfl, rfl, rfl, by decide +kernel, rfl, by decide +kernel, by decide +kernel⟩
theorem sc_is_listed : FnScope ["value"] ["value"] (defScope s_is_listed) := ⟨rfl, rfl, rfl, by decide +kernel, rfl, by decide +kernel, by decide +kernel⟩
theorem sc_is_number : FnScope ["value", "count"] ["value", "count"] (defScope s_is_number) := ⟨rfl, rfl, rfl, by decide +kernel, rfl, by decide +kernel, by decide +kernel⟩
theorem sc_is_place : FnScope ["value"] ["value"] (defScope s_is_place) := ⟨rfl, rfl, rfl, by decide +kernel, rfl, by decide +kernel, by decide +kernel⟩
theorem sc_is_place_list : FnScope ["value", "item"] ["value"] (defScope s_is_place_list) := ⟨rfl, rfl, rfl, by decide +kernel, rfl, by decide +kernel, by decide +kernel⟩
theorem sc_check_places : FnScope ["value"] ["value"] (defScope s_check_places) := ⟨rfl, rfl, rfl, by decide +kernel, rfl, by decide +kernel, by decide +kernel⟩
theorem sc_check_same_places : FnScope ["first", "second"] ["first", "second"] (defScope s_check_same_places) := ⟨rfl, rfl, rfl, by decide +kernel, rfl, by decide +kernel, by decide +kernel⟩
theorem sc_check_pair : FnScope ["takes", "fills"] ["takes", "fills"] (defScope s_check_pair) := ⟨rfl, rfl, rfl, by decide +kernel, rfl, by decide +kernel, by decide +kernel⟩
theorem sc_numbers_by_place : FnScope ["places", "number", "place"] ["places"] (defScope s_numbers_by_place) := ⟨rfl, rfl, rfl, by decide +kernel, rfl, by decide +kernel, by decide +kernel⟩
theorem sc_is_two : FnScope ["taken", "filled", "a", "b"] ["taken", "filled", "a", "b"] (defScope s_is_two) := ⟨rfl, rfl, rfl, by decide +kernel, rfl, by decide +kernel, by decide +kernel⟩
theorem sc_is_three : FnScope ["taken", "filled", "a", "b", "c"] ["taken", "filled", "a", "b", "c"] (defScope s_is_three) := ⟨rfl, rfl, rfl, by decide +kernel, rfl, by decide +kernel, by decide +kernel⟩
theorem sc_first_two : FnScope ["taken", "filled", "a", "b"] ["taken", "filled"] (defScope s_first_two) := ⟨rfl, rfl, rfl, by decide +kernel, rfl, by decide +kernel, by decide +kernel⟩
theorem sc_last_fill_between : FnScope ["taken", "filled", "b", "fills", "c"] ["taken", "filled", "b"] (defScope s_last_fill_between) := ⟨rfl, rfl, rfl, by decide +kernel, rfl, by decide +kernel, by decide +kernel⟩
theorem sc_first_three : FnScope ["taken", "filled", "places", "last", "a", "b", "c"] ["taken", "filled"] (defScope s_first_three) := ⟨rfl, rfl, rfl, by decide +kernel, rfl, by decide +kernel, by decide +kernel⟩
theorem sc_obstruction : FnScope ["takes", "fills", "taken", "filled", "found"] ["takes", "fills"] (defScope s_obstruction) := ⟨rfl, rfl, rfl, by decide +kernel, rfl, by decide +kernel, by decide +kernel⟩
theorem sc_least_times : FnScope ["takes", "fills", "taken", "times", "least", "place"] ["takes", "fills"] (defScope s_least_times) := ⟨rfl, rfl, rfl, by decide +kernel, rfl, by decide +kernel, by decide +kernel⟩
theorem sc_most_times : FnScope ["takes", "fills", "taken", "times", "most", "later", "place", "other"] ["takes", "fills"] (defScope s_most_times) := ⟨rfl, rfl, rfl, by decide +kernel, rfl, by decide +kernel, by decide +kernel⟩
theorem sc_check_possible : FnScope ["takes", "fills", "reason"] ["takes", "fills"] (defScope s_check_possible) := ⟨rfl, rfl, rfl, by decide +kernel, rfl, by decide +kernel, by decide +kernel⟩
theorem sc_time_bounds : FnScope ["takes", "fills"] ["takes", "fills"] (defScope s_time_bounds) := ⟨rfl, rfl, rfl, by decide +kernel, rfl, by decide +kernel, by decide +kernel⟩
theorem sc_is_fact : FnScope ["value", "count", "word", "first", "second"] ["value", "count"] (defScope s_is_fact) := ⟨rfl, rfl, rfl, by decide +kernel, rfl, by decide +kernel, by decide +kernel⟩
theorem sc_check_facts : FnScope ["value", "count", "item"] ["value", "count"] (defScope s_check_facts) := ⟨rfl, rfl, rfl, by decide +kernel, rfl, by decide +kernel, by decide +kernel⟩
theorem sc_limits_of_out : FnScope ["done", "out", "count", "taken", "filled", "leasts", "mosts"] ["done", "out", "count"] (defScope s_limits_of_out) := ⟨rfl, rfl, rfl, by decide +kernel, rfl, by decide +kernel, by decide +kernel⟩
theorem sc_limits_of : FnScope ["fact", "count", "word", "first", "second"] ["fact", "count"] (defScope s_limits_of) := ⟨rfl, rfl, rfl, by decide +kernel, rfl, by decide +kernel, by decide +kernel⟩
theorem sc_read_facts : FnScope ["takes", "fills", "facts", "bounds", "fact"] ["takes", "fills", "facts"] (defScope s_read_facts) := ⟨rfl, rfl, rfl, by decide +kernel, rfl, by decide +kernel, by decide +kernel⟩
theorem sc_contradicts_pair : FnScope ["limits", "bounds", "leasts", "mosts", "too_late", "too_early", "fill", "time"] ["limits", "bounds"] (defScope s_contradicts_pair) := ⟨rfl, rfl, rfl, by decide +kernel, rfl, by decide +kernel, by decide +kernel⟩
theorem sc_puts_behind : FnScope ["limits", "others", "leasts", "_", "mosts", "fill", "time", "later", "most"] ["limits", "others"] (defScope s_puts_behind) := ⟨rfl, rfl, rfl, by decide +kernel, rfl, by decide +kernel, by decide +kernel⟩
theorem sc_find_contradiction : FnScope ["bounds", "all_limits", "x", "limits", "y"] ["bounds", "all_limits"] (defScope s_find_contradiction) := ⟨rfl, rfl, rfl, by decide +kernel, rfl, by decide +kernel, by decide +kernel⟩
theorem sc_check_number : FnScope ["value", "count"] ["value", "count"] (defScope s_check_number) := ⟨rfl, rfl, rfl, by decide +kernel, rfl, by decide +kernel, by decide +kernel⟩
theorem sc_narrow : FnScope ["bounds", "all_limits", "least_times", "most_times", "leasts", "mosts", "fill", "time", "least", "_", "most"] ["bounds", "all_limits"] (defScope s_narrow) := ⟨rfl, rfl, rfl, by decide +kernel, rfl, by decide +kernel, by decide +kernel⟩
theorem sc_can_be_met : FnScope ["bounds", "least", "most"] ["bounds"] (defScope s_can_be_met) := ⟨rfl, rfl, rfl, by decide +kernel, rfl, by decide +kernel, by decide +kernel⟩
theorem sc_narrow_if_consistent : FnScope ["bounds", "all_limits", "narrowed"] ["bounds", "all_limits"] (defScope s_narrow_if_consistent) := ⟨rfl, rfl, rfl, by decide +kernel, rfl, by decide +kernel, by decide +kernel⟩
theorem sc_time_range : FnScope ["takes", "fills", "facts", "fill", "bounds", "all_limits"] ["takes", "fills", "facts", "fill"] (defScope s_time_range) := ⟨rfl, rfl, rfl, by decide +kernel, rfl, by decide +kernel, by decide +kernel⟩
theorem sc__law_bag : FnScope ["script", "total", "cell"] ["script"] (defScope s__law_bag) := ⟨rfl, rfl, rfl, by decide +kernel, rfl, by decide +kernel, by decide +kernel⟩
theorem sc__law_stir : FnScope ["number", "place", "one", "two"] ["number", "place"] (defScope s__law_stir) := ⟨rfl, rfl, rfl, by decide +kernel, rfl, by decide +kernel, by decide +kernel⟩
theorem sc__law_draw : FnScope ["bag", "bound", "cell", "found"] ["bag", "bound"] (defScope s__law_draw) := ⟨rfl, rfl, rfl, by decide +kernel, rfl, by decide +kernel, by decide +kernel⟩
theorem sc__law_shuffled : FnScope ["bag", "items", "left", "step"] ["bag", "items"] (defScope s__law_shuffled) := ⟨rfl, rfl, rfl, by decide +kernel, rfl, by decide +kernel, by decide +kernel⟩
theorem sc__law_either : FnScope ["bag", "items"] ["bag", "items"] (defScope s__law_either) := ⟨rfl, rfl, rfl, by decide +kernel, rfl, by decide +kernel, by decide +kernel⟩
theorem sc__law_dressed : FnScope ["bag", "rows", "one"] ["bag", "rows"] (defScope s__law_dressed) := ⟨rfl, rfl, rfl, by decide +kernel, rfl, by decide +kernel, by decide +kernel⟩
theorem sc__law_places : FnScope ["bag", "count", "way", "order", "found", "k"] ["bag", "count"] (defScope s__law_places) := ⟨rfl, rfl, rfl, by decide +kernel, rfl, by decide +kernel, by decide +kernel⟩
theorem sc__law_filled : FnScope ["takes", "pattern", "gaps", "found", "at", "letter"] ["takes", "pattern"] (defScope s__law_filled) := ⟨rfl, rfl, rfl, by decide +kernel, rfl, by decide +kernel, by decide +kernel⟩
theorem sc__law_all_patterns : FnScope ["count", "found", "step", "longer", "word", "out"] ["count"] (defScope s__law_all_patterns) := ⟨rfl, rfl, rfl, by decide +kernel, rfl, by decide +kernel, by decide +kernel⟩
theorem sc__law_few : FnScope ["bag", "most", "count", "takes", "every", "fills", "pattern"] ["bag", "most"] (defScope s__law_few) := ⟨rfl, rfl, rfl, by decide +kernel, rfl, by decide +kernel, by decide +kernel⟩
theorem sc__law_fact : FnScope ["bag", "count", "way", "step", "many"] ["bag", "count"] (defScope s__law_fact) := ⟨rfl, rfl, rfl, by decide +kernel, rfl, by decide +kernel, by decide +kernel⟩
theorem sc__law_holds : FnScope ["pattern", "fact", "word", "first", "second", "takes_here", "fills_here", "at", "letter"] ["pattern", "fact"] (defScope s__law_holds) := ⟨rfl, rfl, rfl, by decide +kernel, rfl, by decide +kernel, by decide +kernel⟩
theorem sc__law_conflict : FnScope ["some", "facts", "held", "one", "other", "fact", "at", "pattern"] ["some", "facts"] (defScope s__law_conflict) := ⟨rfl, rfl, rfl, by decide +kernel, rfl, by decide +kernel, by decide +kernel⟩
theorem sc__law_fitting : FnScope ["some", "facts", "pattern", "fact"] ["some", "facts"] (defScope s__law_fitting) := ⟨rfl, rfl, rfl, by decide +kernel, rfl, by decide +kernel, by decide +kernel⟩
theorem sc__law_times : FnScope ["pattern", "found", "at", "letter"] ["pattern"] (defScope s__law_times) := ⟨rfl, rfl, rfl, by decide +kernel, rfl, by decide +kernel, by decide +kernel⟩
theorem sc__law_told : FnScope ["takes", "fills", "facts", "fill", "caught"] ["takes", "fills", "facts", "fill"] (defScope s__law_told) := ⟨rfl, rfl, rfl, by decide +kernel, rfl, by decide +kernel, by decide +kernel⟩
theorem sc__law_due : FnScope ["some", "facts", "fill", "good", "times_here", "pattern"] ["some", "facts", "fill"] (defScope s__law_due) := ⟨rfl, rfl, rfl, by decide +kernel, rfl, by decide +kernel, by decide +kernel⟩
theorem sc__law_right : FnScope ["bag", "takes", "fills", "some", "facts", "passed", "kept", "fill"] ["bag", "takes", "fills", "some", "facts"] (defScope s__law_right) := ⟨rfl, rfl, rfl, by decide +kernel, rfl, by decide +kernel, by decide +kernel⟩
theorem sc_law : FnScope ["script", "bag", "turn", "takes", "fills", "some", "step", "facts", "fill", "number"] ["script"] (defScope s_law) := ⟨rfl, rfl, rfl, by decide +kernel, rfl, by decide +kernel, by decide +kernel⟩
structure Env (P : Program) (K : PySem.W.Frag) (mg : Str → Option Value) where
  n_len : mg "len" = none
  n_range : mg "range" = none
  n_list : mg "list" = none
  n_tuple : mg "tuple" = none
  n_int : mg "int" = none
  n_bool : mg "bool" = none
  n_str : mg "str" = none
  n_isinstance : mg "isinstance" = none
  n_min : mg "min" = none
  n_max : mg "max" = none
  n_sorted : mg "sorted" = none
  n_set : mg "set" = none
  n_all : mg "all" = none
  n_any : mg "any" = none
  n_repr : mg "repr" = none
  n_enumerate : mg "enumerate" = none
  n_zip : mg "zip" = none
  n_reversed : mg "reversed" = none
  n_super : mg "super" = none
  t_MOST_PLACES : Tok
  g_MOST_PLACES : mg "MOST_PLACES" = some (.int 200 t_MOST_PLACES)
  t_GREATEST_PLACE : Tok
  g_GREATEST_PLACE : mg "GREATEST_PLACE" = some (.int 1000000000000000000000000000000 t_GREATEST_PLACE)
  t_MOST_FACTS : Tok
  g_MOST_FACTS : mg "MOST_FACTS" = some (.int 400 t_MOST_FACTS)
  g_combinations : mg "combinations" = some (.type "itertools.combinations")
  C_Contradiction : Addr
  g_Contradiction : mg "Contradiction" = some (.ref C_Contradiction)
  I_Contradiction : Addr
  su_Contradiction : PySem.SupX.SupTxt P K C_Contradiction I_Contradiction "indices"
  xf_Contradiction : L2.XfC K C_Contradiction
  te_Contradiction_Contradiction : PySem.W.exmOne K (.ref C_Contradiction) (.ref C_Contradiction) = some true
  a_is_whole : Addr
  d_is_whole : FuncData
  f_is_whole : Fun K "is_whole" "is_whole" s_is_whole a_is_whole d_is_whole
  b_is_whole : Binds K d_is_whole ["value"] []
  g_is_whole : mg "is_whole" = some (.ref a_is_whole)
  a_is_listed : Addr
  d_is_listed : FuncData
  f_is_listed : Fun K "is_listed" "is_listed" s_is_listed a_is_listed d_is_listed
  b_is_listed : Binds K d_is_listed ["value"] []
  g_is_listed : mg "is_listed" = some (.ref a_is_listed)
  a_is_number : Addr
  d_is_number : FuncData
  f_is_number : Fun K "is_number" "is_number" s_is_number a_is_number d_is_number
  b_is_number : Binds K d_is_number ["value", "count"] []
  g_is_number : mg "is_number" = some (.ref a_is_number)
  a_is_place : Addr
  d_is_place : FuncData
  f_is_place : Fun K "is_place" "is_place" s_is_place a_is_place d_is_place
  b_is_place : Binds K d_is_place ["value"] []
  g_is_place : mg "is_place" = some (.ref a_is_place)
  a_is_place_list : Addr
  d_is_place_list : FuncData
  f_is_place_list : Fun K "is_place_list" "is_place_list" s_is_place_list a_is_place_list d_is_place_list
  b_is_place_list : Binds K d_is_place_list ["value"] []
  g_is_place_list : mg "is_place_list" = some (.ref a_is_place_list)
  a_check_places : Addr
  d_check_places : FuncData
  f_check_places : Fun K "check_places" "check_places" s_check_places a_check_places d_check_places
  b_check_places : Binds K d_check_places ["value"] []
  g_check_places : mg "check_places" = some (.ref a_check_places)
  a_check_same_places : Addr
  d_check_same_places : FuncData
  f_check_same_places : Fun K "check_same_places" "check_same_places" s_check_same_places a_check_same_places d_check_same_places
  b_check_same_places : Binds K d_check_same_places ["first", "second"] []
  g_check_same_places : mg "check_same_places" = some (.ref a_check_same_places)
  a_check_pair : Addr
  d_check_pair : FuncData
  f_check_pair : Fun K "check_pair" "check_pair" s_check_pair a_check_pair d_check_pair
  b_check_pair : Binds K d_check_pair ["takes", "fills"] []
  g_check_pair : mg "check_pair" = some (.ref a_check_pair)
  a_numbers_by_place : Addr
  d_numbers_by_place : FuncData
  f_numbers_by_place : Fun K "numbers_by_place" "numbers_by_place" s_numbers_by_place a_numbers_by_place d_numbers_by_place
  b_numbers_by_place : Binds K d_numbers_by_place ["places"] []
  g_numbers_by_place : mg "numbers_by_place" = some (.ref a_numbers_by_place)
  a_is_two : Addr
  d_is_two : FuncData
  f_is_two : Fun K "is_two" "is_two" s_is_two a_is_two d_is_two
  b_is_two : Binds K d_is_two ["taken", "filled", "a", "b"] []
  g_is_two : mg "is_two" = some (.ref a_is_two)
  a_is_three : Addr
  d_is_three : FuncData
  f_is_three : Fun K "is_three" "is_three" s_is_three a_is_three d_is_three
  b_is_three : Binds K d_is_three ["taken", "filled", "a", "b", "c"] []
  g_is_three : mg "is_three" = some (.ref a_is_three)
  a_first_two : Addr
  d_first_two : FuncData
  f_first_two : Fun K "first_two" "first_two" s_first_two a_first_two d_first_two
  b_first_two : Binds K d_first_two ["taken", "filled"] []
  g_first_two : mg "first_two" = some (.ref a_first_two)
  a_last_fill_between : Addr
  d_last_fill_between : FuncData
  f_last_fill_between : Fun K "last_fill_between" "last_fill_between" s_last_fill_between a_last_fill_between d_last_fill_between
  b_last_fill_between : Binds K d_last_fill_between ["taken", "filled", "b"] []
  g_last_fill_between : mg "last_fill_between" = some (.ref a_last_fill_between)
  a_first_three : Addr
  d_first_three : FuncData
  f_first_three : Fun K "first_three" "first_three" s_first_three a_first_three d_first_three
  b_first_three : Binds K d_first_three ["taken", "filled"] []
  g_first_three : mg "first_three" = some (.ref a_first_three)
  a_obstruction : Addr
  d_obstruction : FuncData
  f_obstruction : Fun K "obstruction" "obstruction" s_obstruction a_obstruction d_obstruction
  b_obstruction : Binds K d_obstruction ["takes", "fills"] []
  g_obstruction : mg "obstruction" = some (.ref a_obstruction)
  a_least_times : Addr
  d_least_times : FuncData
  f_least_times : Fun K "least_times" "least_times" s_least_times a_least_times d_least_times
  b_least_times : Binds K d_least_times ["takes", "fills"] []
  g_least_times : mg "least_times" = some (.ref a_least_times)
  a_most_times : Addr
  d_most_times : FuncData
  f_most_times : Fun K "most_times" "most_times" s_most_times a_most_times d_most_times
  b_most_times : Binds K d_most_times ["takes", "fills"] []
  g_most_times : mg "most_times" = some (.ref a_most_times)
  a_check_possible : Addr
  d_check_possible : FuncData
  f_check_possible : Fun K "check_possible" "check_possible" s_check_possible a_check_possible d_check_possible
  b_check_possible : Binds K d_check_possible ["takes", "fills"] []
  g_check_possible : mg "check_possible" = some (.ref a_check_possible)
  a_time_bounds : Addr
  d_time_bounds : FuncData
  f_time_bounds : Fun K "time_bounds" "time_bounds" s_time_bounds a_time_bounds d_time_bounds
  b_time_bounds : Binds K d_time_bounds ["takes", "fills"] []
  g_time_bounds : mg "time_bounds" = some (.ref a_time_bounds)
  a_is_fact : Addr
  d_is_fact : FuncData
  f_is_fact : Fun K "is_fact" "is_fact" s_is_fact a_is_fact d_is_fact
  b_is_fact : Binds K d_is_fact ["value", "count"] []
  g_is_fact : mg "is_fact" = some (.ref a_is_fact)
  a_check_facts : Addr
  d_check_facts : FuncData
  f_check_facts : Fun K "check_facts" "check_facts" s_check_facts a_check_facts d_check_facts
  b_check_facts : Binds K d_check_facts ["value", "count"] []
  g_check_facts : mg "check_facts" = some (.ref a_check_facts)
  a_limits_of_out : Addr
  d_limits_of_out : FuncData
  f_limits_of_out : Fun K "limits_of_out" "limits_of_out" s_limits_of_out a_limits_of_out d_limits_of_out
  b_limits_of_out : Binds K d_limits_of_out ["done", "out", "count"] []
  g_limits_of_out : mg "limits_of_out" = some (.ref a_limits_of_out)
  a_limits_of : Addr
  d_limits_of : FuncData
  f_limits_of : Fun K "limits_of" "limits_of" s_limits_of a_limits_of d_limits_of
  b_limits_of : Binds K d_limits_of ["fact", "count"] []
  g_limits_of : mg "limits_of" = some (.ref a_limits_of)
  a_read_facts : Addr
  d_read_facts : FuncData
  f_read_facts : Fun K "read_facts" "read_facts" s_read_facts a_read_facts d_read_facts
  b_read_facts : Binds K d_read_facts ["takes", "fills", "facts"] []
  g_read_facts : mg "read_facts" = some (.ref a_read_facts)
  a_contradicts_pair : Addr
  d_contradicts_pair : FuncData
  f_contradicts_pair : Fun K "contradicts_pair" "contradicts_pair" s_contradicts_pair a_contradicts_pair d_contradicts_pair
  b_contradicts_pair : Binds K d_contradicts_pair ["limits", "bounds"] []
  g_contradicts_pair : mg "contradicts_pair" = some (.ref a_contradicts_pair)
  a_puts_behind : Addr
  d_puts_behind : FuncData
  f_puts_behind : Fun K "puts_behind" "puts_behind" s_puts_behind a_puts_behind d_puts_behind
  b_puts_behind : Binds K d_puts_behind ["limits", "others"] []
  g_puts_behind : mg "puts_behind" = some (.ref a_puts_behind)
  a_find_contradiction : Addr
  d_find_contradiction : FuncData
  f_find_contradiction : Fun K "find_contradiction" "find_contradiction" s_find_contradiction a_find_contradiction d_find_contradiction
  b_find_contradiction : Binds K d_find_contradiction ["bounds", "all_limits"] []
  g_find_contradiction : mg "find_contradiction" = some (.ref a_find_contradiction)
  a_check_number : Addr
  d_check_number : FuncData
  f_check_number : Fun K "check_number" "check_number" s_check_number a_check_number d_check_number
  b_check_number : Binds K d_check_number ["value", "count"] []
  g_check_number : mg "check_number" = some (.ref a_check_number)
  a_narrow : Addr
  d_narrow : FuncData
  f_narrow : Fun K "narrow" "narrow" s_narrow a_narrow d_narrow
  b_narrow : Binds K d_narrow ["bounds", "all_limits"] []
  g_narrow : mg "narrow" = some (.ref a_narrow)
  a_can_be_met : Addr
  d_can_be_met : FuncData
  f_can_be_met : Fun K "can_be_met" "can_be_met" s_can_be_met a_can_be_met d_can_be_met
  b_can_be_met : Binds K d_can_be_met ["bounds"] []
  g_can_be_met : mg "can_be_met" = some (.ref a_can_be_met)
  a_narrow_if_consistent : Addr
  d_narrow_if_consistent : FuncData
  f_narrow_if_consistent : Fun K "narrow_if_consistent" "narrow_if_consistent" s_narrow_if_consistent a_narrow_if_consistent d_narrow_if_consistent
  b_narrow_if_consistent : Binds K d_narrow_if_consistent ["bounds", "all_limits"] []
  g_narrow_if_consistent : mg "narrow_if_consistent" = some (.ref a_narrow_if_consistent)
  a_time_range : Addr
  d_time_range : FuncData
  f_time_range : Fun K "time_range" "time_range" s_time_range a_time_range d_time_range
  b_time_range : Binds K d_time_range ["takes", "fills", "facts", "fill"] []
  g_time_range : mg "time_range" = some (.ref a_time_range)
  a__law_bag : Addr
  d__law_bag : FuncData
  f__law_bag : Fun K "_law_bag" "_law_bag" s__law_bag a__law_bag d__law_bag
  b__law_bag : Binds K d__law_bag ["script"] []
  g__law_bag : mg "_law_bag" = some (.ref a__law_bag)
  a__law_stir : Addr
  d__law_stir : FuncData
  f__law_stir : Fun K "_law_stir" "_law_stir" s__law_stir a__law_stir d__law_stir
  b__law_stir : Binds K d__law_stir ["number", "place"] []
  g__law_stir : mg "_law_stir" = some (.ref a__law_stir)
  a__law_draw : Addr
  d__law_draw : FuncData
  f__law_draw : Fun K "_law_draw" "_law_draw" s__law_draw a__law_draw d__law_draw
  b__law_draw : Binds K d__law_draw ["bag", "bound"] []
  g__law_draw : mg "_law_draw" = some (.ref a__law_draw)
  a__law_shuffled : Addr
  d__law_shuffled : FuncData
  f__law_shuffled : Fun K "_law_shuffled" "_law_shuffled" s__law_shuffled a__law_shuffled d__law_shuffled
  b__law_shuffled : Binds K d__law_shuffled ["bag", "items"] []
  g__law_shuffled : mg "_law_shuffled" = some (.ref a__law_shuffled)
  a__law_either : Addr
  d__law_either : FuncData
  f__law_either : Fun K "_law_either" "_law_either" s__law_either a__law_either d__law_either
  b__law_either : Binds K d__law_either ["bag", "items"] []
  g__law_either : mg "_law_either" = some (.ref a__law_either)
  a__law_dressed : Addr
  d__law_dressed : FuncData
  f__law_dressed : Fun K "_law_dressed" "_law_dressed" s__law_dressed a__law_dressed d__law_dressed
  b__law_dressed : Binds K d__law_dressed ["bag", "rows"] []
  g__law_dressed : mg "_law_dressed" = some (.ref a__law_dressed)
  a__law_places : Addr
  d__law_places : FuncData
  f__law_places : Fun K "_law_places" "_law_places" s__law_places a__law_places d__law_places
  b__law_places : Binds K d__law_places ["bag", "count"] []
  g__law_places : mg "_law_places" = some (.ref a__law_places)
  a__law_filled : Addr
  d__law_filled : FuncData
  f__law_filled : Fun K "_law_filled" "_law_filled" s__law_filled a__law_filled d__law_filled
  b__law_filled : Binds K d__law_filled ["takes", "pattern"] []
  g__law_filled : mg "_law_filled" = some (.ref a__law_filled)
  a__law_all_patterns : Addr
  d__law_all_patterns : FuncData
  f__law_all_patterns : Fun K "_law_all_patterns" "_law_all_patterns" s__law_all_patterns a__law_all_patterns d__law_all_patterns
  b__law_all_patterns : Binds K d__law_all_patterns ["count"] []
  g__law_all_patterns : mg "_law_all_patterns" = some (.ref a__law_all_patterns)
  a__law_few : Addr
  d__law_few : FuncData
  f__law_few : Fun K "_law_few" "_law_few" s__law_few a__law_few d__law_few
  b__law_few : Binds K d__law_few ["bag", "most"] []
  g__law_few : mg "_law_few" = some (.ref a__law_few)
  a__law_fact : Addr
  d__law_fact : FuncData
  f__law_fact : Fun K "_law_fact" "_law_fact" s__law_fact a__law_fact d__law_fact
  b__law_fact : Binds K d__law_fact ["bag", "count"] []
  g__law_fact : mg "_law_fact" = some (.ref a__law_fact)
  a__law_holds : Addr
  d__law_holds : FuncData
  f__law_holds : Fun K "_law_holds" "_law_holds" s__law_holds a__law_holds d__law_holds
  b__law_holds : Binds K d__law_holds ["pattern", "fact"] []
  g__law_holds : mg "_law_holds" = some (.ref a__law_holds)
  a__law_conflict : Addr
  d__law_conflict : FuncData
  f__law_conflict : Fun K "_law_conflict" "_law_conflict" s__law_conflict a__law_conflict d__law_conflict
  b__law_conflict : Binds K d__law_conflict ["some", "facts"] []
  g__law_conflict : mg "_law_conflict" = some (.ref a__law_conflict)
  a__law_fitting : Addr
  d__law_fitting : FuncData
  f__law_fitting : Fun K "_law_fitting" "_law_fitting" s__law_fitting a__law_fitting d__law_fitting
  b__law_fitting : Binds K d__law_fitting ["some", "facts"] []
  g__law_fitting : mg "_law_fitting" = some (.ref a__law_fitting)
  a__law_times : Addr
  d__law_times : FuncData
  f__law_times : Fun K "_law_times" "_law_times" s__law_times a__law_times d__law_times
  b__law_times : Binds K d__law_times ["pattern"] []
  g__law_times : mg "_law_times" = some (.ref a__law_times)
  a__law_told : Addr
  d__law_told : FuncData
  f__law_told : Fun K "_law_told" "_law_told" s__law_told a__law_told d__law_told
  b__law_told : Binds K d__law_told ["takes", "fills", "facts", "fill"] []
  g__law_told : mg "_law_told" = some (.ref a__law_told)
  a__law_due : Addr
  d__law_due : FuncData
  f__law_due : Fun K "_law_due" "_law_due" s__law_due a__law_due d__law_due
  b__law_due : Binds K d__law_due ["some", "facts", "fill"] []
  g__law_due : mg "_law_due" = some (.ref a__law_due)
  a__law_right : Addr
  d__law_right : FuncData
  f__law_right : Fun K "_law_right" "_law_right" s__law_right a__law_right d__law_right
  b__law_right : Binds K d__law_right ["bag", "takes", "fills", "some", "facts"] []
  g__law_right : mg "_law_right" = some (.ref a__law_right)
  a_law : Addr
  d_law : FuncData
  f_law : Fun K "law" "law" s_law a_law d_law
  b_law : Binds K d_law ["script"] []
  g_law : mg "law" = some (.ref a_law)
theorem fo_Contradiction : PySem.SupX.FOk "indices" := ⟨rfl, rfl, rfl, rfl, rfl, fun _ _ _ _ _ _ _ _ _ _ _ _ => rfl⟩
end LP

/-! patterns, times, orders: the mathematics -/
namespace LQ
abbrev Pat := List Bool
def tks (l : Pat) : Nat := l.count true
def fls (l : Pat) : Nat := l.count false
theorem tks_nil : tks [] = 0 := rfl
theorem fls_nil : fls [] = 0 := rfl
theorem tks_app (l m : Pat) : tks (l ++ m) = tks l + tks m := List.count_append
theorem fls_app (l m : Pat) : fls (l ++ m) = fls l + fls m := List.count_append
theorem tks_t (l : Pat) : tks (l ++ [true]) = tks l + 1 := tks_app l [true]
theorem tks_f (l : Pat) : tks (l ++ [false]) = tks l := tks_app l [false]
theorem fls_t (l : Pat) : fls (l ++ [true]) = fls l := fls_app l [true]
theorem fls_f (l : Pat) : fls (l ++ [false]) = fls l + 1 := fls_app l [false]
theorem len_pat : ∀ l : Pat, l.length = tks l + fls l
  | [] => rfl
  | true :: r => by have := len_pat r; simp [tks, fls] at *; omega
  | false :: r => by have := len_pat r; simp [tks, fls] at *; omega
theorem take_snoc {α : Type} {l : List α} {i : Nat} {b : α} (h : l[i]? = some b) : l.take (i + 1) = l.take i ++ [b] := by
  rw [List.take_add_one, h]; rfl
def Pre (l : Pat) : Prop := ∀ i, fls (l.take i) ≤ tks (l.take i)
theorem Pre.nil : Pre [] := fun i => by simp [tks, fls]
theorem Pre.snoc {l : Pat} {b : Bool} (h : Pre l) (hb : fls (l ++ [b]) ≤ tks (l ++ [b])) : Pre (l ++ [b]) := fun i => by
  by_cases c : i ≤ l.length
  · rw [List.take_append_of_le_length c]; exact h i
  · rw [List.take_of_length_le (by simp; omega)]; exact hb
theorem Pre.all {l : Pat} (h : Pre l) : fls l ≤ tks l := by
  have := h l.length
  rwa [List.take_length] at this
theorem tks_take (l : Pat) (i : Nat) : tks (l.take i) ≤ tks l := (List.take_sublist i l).count_le _
theorem fls_take (l : Pat) (i : Nat) : fls (l.take i) ≤ fls l := (List.take_sublist i l).count_le _
def Good (l : Pat) : Prop := Pre l ∧ fls l = tks l
def tm : Nat → Pat → List Nat
  | _, [] => []
  | t, true :: r => tm (t + 1) r
  | t, false :: r => t :: tm t r
theorem tm_app : ∀ (l m : Pat) (t : Nat), tm t (l ++ m) = tm t l ++ tm (t + tks l) m
  | [], m, t => by simp [tm, tks]
  | true :: r, m, t => by
    have := tm_app r m (t + 1)
    simp only [List.cons_append, tm, this]
    congr 2
    simp [tks]; omega
  | false :: r, m, t => by
    have := tm_app r m t
    simp only [List.cons_append, tm, this]
    congr 2
theorem tm_len : ∀ (l : Pat) (t : Nat), (tm t l).length = fls l
  | [], _ => rfl
  | true :: r, t => by rw [tm, tm_len r]; simp [fls]
  | false :: r, t => by rw [tm, List.length_cons, tm_len r]; simp [fls]
abbrev times (l : Pat) : List Nat := tm 0 l
theorem times_t (l : Pat) : times (l ++ [true]) = times l := by rw [times, tm_app]; simp [tm]
theorem times_f (l : Pat) : times (l ++ [false]) = times l ++ [tks l] := by rw [times, tm_app]; simp [tm]
theorem times_len (l : Pat) : (times l).length = fls l := tm_len l 0
theorem times_pre (l : Pat) (i : Nat) : ∃ m, times l = times (l.take i) ++ m := by
  refine ⟨tm (tks (l.take i)) (l.drop i), ?_⟩
  have h := tm_app (l.take i) (l.drop i) 0
  rw [List.take_append_drop, Nat.zero_add] at h
  exact h
/-- the time of the fill that stands at i -/
theorem times_at {l : Pat} {i : Nat} (h : l[i]? = some false) : (times l)[fls (l.take i)]? = some (tks (l.take i)) := by
  obtain ⟨m, e⟩ := times_pre l (i + 1)
  rw [e, take_snoc h, times_f, List.append_assoc, List.getElem?_append_right (by rw [times_len]; exact Nat.le_refl _), times_len, Nat.sub_self]
  rfl
theorem times_all {l : Pat} (h : Pre l) : (∀ j t, (times l)[j]? = some t → j < t ∧ t ≤ tks l) ∧ (times l).Pairwise (· ≤ ·) := by
  have H : ∀ i, i ≤ l.length → (∀ j t, (times (l.take i))[j]? = some t → j < t ∧ t ≤ tks (l.take i)) ∧ (times (l.take i)).Pairwise (· ≤ ·) := by
    intro i
    induction i with
    | zero => intro _; exact ⟨fun j t e => by simp [tm] at e, by simp [tm]⟩
    | succ i ih =>
      intro hi
      obtain ⟨ih1, ih2⟩ := ih (by omega)
      have hb : l[i]? = some l[i] := List.getElem?_eq_getElem (by omega)
      have hp := h (i + 1)
      rw [take_snoc hb] at hp ⊢
      generalize l[i] = b at hp hb
      cases b with
      | true =>
        rw [times_t, tks_t]
        exact ⟨fun j t e => let ⟨a, b⟩ := ih1 j t e; ⟨a, by omega⟩, ih2⟩
      | false =>
        rw [times_f, tks_f]
        rw [fls_f, tks_f] at hp
        refine ⟨fun j t e => ?_, ?_⟩
        · rw [List.getElem?_append] at e
          split at e
          · exact ih1 j t e
          · rename_i c
            rw [times_len] at c e
            cases q : j - fls (l.take i) with
            | zero => rw [q] at e; cases e; omega
            | succ k => rw [q] at e; simp at e
        · rw [List.pairwise_append]
          refine ⟨ih2, by simp, fun a ha b hb => ?_⟩
          rw [List.mem_singleton] at hb; subst hb
          obtain ⟨j, e⟩ := List.mem_iff_getElem?.mp ha
          exact (ih1 j a e).2
  have := H l.length (Nat.le_refl _)
  rwa [List.take_length] at this
def ways : Nat → List Nat → Int
  | _, [] => 1
  | j, t :: r => ((t : Int) - (j : Nat)) * ways (j + 1) r
theorem ways_snoc : ∀ (ts : List Nat) (j t : Nat), ways j (ts ++ [t]) = ways j ts * ((t : Int) - ((j + ts.length : Nat) : Int))
  | [], j, t => by simp [ways]
  | u :: r, j, t => by
    simp only [List.cons_append, ways, ways_snoc r (j + 1) t, List.length_cons]
    rw [show j + 1 + r.length = j + (r.length + 1) by omega, Int.mul_assoc]
theorem ways_bound : ∀ (ts : List Nat) (j n : Nat), (∀ i t, ts[i]? = some t → j + i < t ∧ t ≤ n) → 0 ≤ ways j ts ∧ ways j ts ≤ (n : Int) ^ ts.length
  | [], j, n, _ => by simp [ways]
  | t :: r, j, n, h => by
    have h0 := h 0 t rfl
    obtain ⟨a, b⟩ := ways_bound r (j + 1) n fun i u e => by have := h (i + 1) u e; omega
    rw [ways, List.length_cons, Int.pow_succ]
    refine ⟨Int.mul_nonneg (by omega) a, ?_⟩
    rw [Int.mul_comm ((n : Int) ^ r.length)]
    exact Int.mul_le_mul (by omega) b a (by omega)
/-! ### orders, and those that can be -/
def dueP (tk : List Int) (ts : List Nat) (bs : List Int) : Bool := (bs.zip ts).all fun p => decide (p.1 ∈ tk.take p.2)
def orders (items : List Int) : Nat → List (List Int)
  | 0 => [[]]
  | k + 1 => (orders items k).flatMap fun row => (items.filter fun x => decide (x ∉ row)).map fun x => row ++ [x]
theorem orders_mem {items : List Int} : ∀ {k : Nat} {r : List Int}, r ∈ orders items k → r.length = k ∧ r.Nodup ∧ ∀ x ∈ r, x ∈ items
  | 0, r, h => by
    rw [orders, List.mem_singleton] at h; subst h
    exact ⟨rfl, List.nodup_nil, fun x hx => by cases hx⟩
  | k + 1, r, h => by
    rw [orders, List.mem_flatMap] at h
    obtain ⟨row, h1, h2⟩ := h
    rw [List.mem_map] at h2
    obtain ⟨x, h3, rfl⟩ := h2
    rw [List.mem_filter, decide_eq_true_iff] at h3
    obtain ⟨a, b, c⟩ := orders_mem h1
    refine ⟨by simp [a], ?_, fun y hy => ?_⟩
    · rw [List.nodup_append]
      refine ⟨b, by simp, fun y hy z hz => ?_⟩
      rw [List.mem_singleton] at hz; subst hz
      rintro rfl; exact h3.2 hy
    · rw [List.mem_append, List.mem_singleton] at hy
      rcases hy with hy | rfl
      · exact c y hy
      · exact h3.1
theorem perm_of_subset {l m : List Int} (h1 : l.Nodup) (h2 : m.Nodup) (hs : ∀ x ∈ l, x ∈ m) (hl : l.length = m.length) : l.Perm m := by
  refine (List.perm_ext_iff_of_nodup h1 h2).mpr fun a => ⟨hs a, fun ha => ?_⟩
  by_cases q : a ∈ l
  · exact q
  · exfalso
    have hn : (a :: l).Nodup := List.nodup_cons.mpr ⟨q, h1⟩
    have := List.Nodup.length_le_of_subset hn (l₂ := m) (fun x hx => by
      rcases List.mem_cons.mp hx with rfl | hx
      · exact ha
      · exact hs x hx)
    rw [List.length_cons] at this; omega
theorem orders_perm {items : List Int} (nd : items.Nodup) {r : List Int} (h : r ∈ orders items items.length) : r.Perm items := by
  obtain ⟨a, b, c⟩ := orders_mem h
  exact perm_of_subset b nd c a
theorem sum_flat {α β : Type} (f : α → List β) (d : α → Bool) (c : Nat) : ∀ L : List α, (∀ r ∈ L, (f r).length = if d r = true then c else 0) → (L.flatMap f).length = c * (L.filter d).length
  | [], _ => by simp
  | r :: L, h => by
    rw [List.flatMap_cons, List.length_append, h r List.mem_cons_self, sum_flat f d c L fun r hr => h r (List.mem_cons_of_mem _ hr), List.filter_cons]
    by_cases q : d r = true
    · rw [if_pos q, if_pos q, List.length_cons, Nat.mul_succ]; omega
    · rw [if_neg q, if_neg q]; omega
theorem len_split {α : Type} (p : α → Bool) : ∀ l : List α, l.length = (l.filter p).length + (l.filter fun x => !p x).length
  | [] => rfl
  | a :: r => by
    have := len_split p r
    cases q : p a <;> simp [List.filter_cons, q] <;> omega
theorem filter_split {items row : List Int} {t : Nat} (nd : items.Nodup) (nr : row.Nodup) (ht : t ≤ items.length) (hr : ∀ x ∈ row, x ∈ items.take t) :
    ((items.filter fun x => decide (x ∉ row)).filter fun x => decide (x ∈ items.take t)).length = t - row.length := by
  rw [List.filter_filter]
  have e : items.filter (fun a => decide (a ∈ items.take t) && decide (a ∉ row)) = (items.take t).filter fun a => decide (a ∉ row) := by
    conv => lhs; rw [← List.take_append_drop t items]
    rw [List.filter_append]
    have nd2 := nd
    rw [← List.take_append_drop t items, List.nodup_append] at nd2
    have z : (items.drop t).filter (fun a => decide (a ∈ (items.take t ++ items.drop t).take t) && decide (a ∉ row)) = [] := by
      rw [List.filter_eq_nil_iff]
      intro a ha q
      rw [Bool.and_eq_true, decide_eq_true_iff, List.take_append_drop] at q
      exact nd2.2.2 a q.1 a ha rfl
    rw [z, List.append_nil]
    refine List.filter_congr fun a ha => ?_
    rw [List.take_append_drop, decide_eq_true ha, Bool.true_and]
  rw [e]
  have nt : (items.take t).Nodup := nd.sublist (List.take_sublist _ _)
  have p : ((items.take t).filter fun a => decide (a ∈ row)).Perm row := by
    refine (List.perm_ext_iff_of_nodup (nt.filter _) nr).mpr fun a => ?_
    rw [List.mem_filter, decide_eq_true_iff]
    exact ⟨fun q => q.2, fun q => ⟨hr a q, q⟩⟩
  have s := len_split (fun a => decide (a ∈ row)) (items.take t)
  rw [p.length_eq, List.length_take, Nat.min_eq_left ht] at s
  have e2 : ((items.take t).filter fun x => !decide (x ∈ row)) = (items.take t).filter fun a => decide (a ∉ row) := by
    refine List.filter_congr fun a _ => ?_
    by_cases q : a ∈ row <;> simp [q]
  rw [e2] at s
  omega
theorem dueP_snoc {tk : List Int} {ts : List Nat} {row : List Int} {x : Int} {t : Nat} (h : ts[row.length]? = some t) : dueP tk ts (row ++ [x]) = (dueP tk ts row && decide (x ∈ tk.take t)) := by
  unfold dueP
  have e : (row ++ [x]).zip ts = row.zip ts ++ [(x, t)] := by
    have hl := (List.getElem?_eq_some_iff.mp h).1
    have e1 : ts = ts.take row.length ++ t :: ts.drop (row.length + 1) := by
      conv => lhs; rw [← List.take_append_drop row.length ts]
      congr 1
      rw [List.drop_eq_getElem_cons hl]
      congr 1
      exact (List.getElem?_eq_some_iff.mp h).2
    conv => lhs; rw [e1]
    rw [List.zip_append (by rw [List.length_take]; omega)]
    have e3 : row.zip ts = row.zip (ts.take row.length) := by
      have q : row.zip ts = (row ++ []).zip (ts.take row.length ++ t :: ts.drop (row.length + 1)) := by rw [List.append_nil, ← e1]
      rw [q, List.zip_append (by rw [List.length_take]; omega)]
      simp
    rw [e3]
    simp
  rw [e, List.all_append]
  simp
theorem due_sub {tk : List Int} {ts : List Nat} {row : List Int} {t : Nat} (hd : dueP tk ts row = true) (hl : row.length ≤ ts.length) (hm : ∀ j u, j < row.length → ts[j]? = some u → u ≤ t) : ∀ x ∈ row, x ∈ tk.take t := by
  intro x hx
  obtain ⟨j, hj, rfl⟩ := List.mem_iff_getElem.mp hx
  have hu : ts[j]? = some ts[j] := List.getElem?_eq_getElem (by omega)
  have hz : (row.zip ts)[j]? = some (row[j], ts[j]) := List.getElem?_zip_eq_some.mpr ⟨List.getElem?_eq_getElem hj, hu⟩
  have := List.all_eq_true.mp hd _ (List.mem_of_getElem? hz)
  rw [decide_eq_true_iff] at this
  exact (List.take_subset_take_left _ (hm j _ hj hu)) this
theorem count_due {items : List Int} {ts : List Nat} (nd : items.Nodup) (hts : ∀ j t, ts[j]? = some t → j < t ∧ t ≤ items.length) (mono : ts.Pairwise (· ≤ ·)) :
    ∀ k, k ≤ ts.length → (((orders items k).filter (dueP items ts)).length : Int) = ways 0 (ts.take k)
  | 0, _ => by rw [List.take_zero]; rfl
  | k + 1, hk => by
    have ih := count_due nd hts mono k (by omega)
    have ht : ts[k]? = some ts[k] := List.getElem?_eq_getElem (by omega)
    generalize ts[k] = t at ht
    obtain ⟨h1, h2⟩ := hts k t ht
    rw [take_snoc ht, ways_snoc, ← ih, List.length_take, Nat.min_eq_left (by omega), Nat.zero_add, orders, List.filter_flatMap,
      sum_flat _ (dueP items ts) (t - k) (orders items k) fun row hr => ?_]
    · rw [Int.natCast_mul, Int.mul_comm]
      congr 1
      omega
    · obtain ⟨a, b, c⟩ := orders_mem hr
      have e : ∀ L : List Int, ((L.map fun x => row ++ [x]).filter (dueP items ts)).length = if dueP items ts row = true then (L.filter fun x => decide (x ∈ items.take t)).length else 0 := by
        intro L
        rw [List.filter_map, List.length_map]
        by_cases q : dueP items ts row = true
        · rw [if_pos q]
          congr 2
          funext x
          show dueP items ts (row ++ [x]) = _
          rw [dueP_snoc (t := t) (by rw [a]; exact ht), q, Bool.true_and]
        · rw [if_neg q, List.length_eq_zero_iff, List.filter_eq_nil_iff]
          intro x _ z
          replace z : dueP items ts (row ++ [x]) = true := z
          rw [dueP_snoc (t := t) (by rw [a]; exact ht), Bool.and_eq_true] at z
          exact q z.1
      rw [e]
      by_cases q : dueP items ts row = true
      · rw [if_pos q, if_pos q, filter_split nd b h2 (due_sub q (by omega) fun j u hj hu => ?_), a]
        have hk2 := (List.getElem?_eq_some_iff.mp ht)
        have hj2 := (List.getElem?_eq_some_iff.mp hu)
        have := List.pairwise_iff_getElem.mp mono j k hj2.1 hk2.1 (by omega)
        rw [hj2.2, hk2.2] at this
        exact this
      · rw [if_neg q, if_neg q]
/-- the pattern's number of orders: the product -/
theorem orders_count {items : List Int} {l : Pat} (nd : items.Nodup) (g : Good l) (hn : tks l = items.length) : (((orders items items.length).filter (dueP items (times l))).length : Int) = ways 0 (times l) := by
  obtain ⟨h1, h2⟩ := times_all g.1
  have hl : (times l).length = items.length := by rw [times_len, g.2, hn]
  have := count_due nd (fun j t e => by have := h1 j t e; omega) h2 items.length (by omega)
  rw [← hl, List.take_length, hl] at this
  exact this
theorem idx_take {l : List Int} {x : Int} {t : Nat} (ht : t ≤ l.length) : decide (l.idxOf x < t) = decide (x ∈ l.take t) := by
  refine decide_eq_decide.mpr ⟨fun h => ?_, fun h => ?_⟩
  · rw [List.mem_take_iff_getElem]
    have h2 : l.idxOf x < l.length := by omega
    exact ⟨l.idxOf x, by omega, List.getElem_idxOf h2⟩
  · obtain ⟨j, hj, e⟩ := List.mem_take_iff_getElem.mp h
    have : l.idxOf x ≤ j := by
      apply Nat.le_of_not_lt
      intro q
      have := List.not_of_lt_findIdx (p := (· == x)) (xs := l) q
      rw [e] at this
      simp at this
    omega
theorem swap_perm {l : List Int} {i j : Nat} {a b : Int} (hi : l[i]? = some a) (hj : l[j]? = some b) : ((l.set i b).set j a).Perm l := by
  obtain ⟨h1, rfl⟩ := List.getElem?_eq_some_iff.mp hi
  obtain ⟨h2, rfl⟩ := List.getElem?_eq_some_iff.mp hj
  exact List.set_set_perm h1 h2
end LQ

namespace LQ
/-! the places that a pattern fills -/
def mn : List Int → Int
  | [] => 0
  | [a] => a
  | a :: b :: r => if a ≤ mn (b :: r) then a else mn (b :: r)
theorem mn_ok : ∀ {l : List Int}, l ≠ [] → mn l ∈ l ∧ ∀ x ∈ l, mn l ≤ x
  | [], h => absurd rfl h
  | [a], _ => ⟨List.mem_singleton.mpr rfl, fun x hx => by rw [List.mem_singleton] at hx; subst hx; exact Int.le_refl _⟩
  | a :: b :: r, _ => by
    obtain ⟨h1, h2⟩ := mn_ok (l := b :: r) (by simp)
    rw [mn]
    by_cases c : a ≤ mn (b :: r)
    · rw [if_pos c]
      exact ⟨List.mem_cons_self, fun x hx => by
        rcases List.mem_cons.mp hx with rfl | hx
        · exact Int.le_refl _
        · exact Int.le_trans c (h2 x hx)⟩
    · rw [if_neg c]
      exact ⟨List.mem_cons_of_mem _ h1, fun x hx => by
        rcases List.mem_cons.mp hx with rfl | hx
        · omega
        · exact h2 x hx⟩
theorem mn_eq {l : List Int} {m : Int} (h : m ∈ l) (h2 : ∀ x ∈ l, m ≤ x) : m = mn l := by
  obtain ⟨a, b⟩ := mn_ok (l := l) (fun e => by subst e; cases h)
  exact Int.le_antisymm (h2 _ a) (b _ h)
structure Sh where
  at_ : Nat
  gaps : List Int
  fills : List Int
def stp (tk : List Int) (s : Sh) (b : Bool) : Sh := if b = true then ⟨s.at_ + 1, s.gaps ++ (tk[s.at_]?).toList, s.fills⟩ else ⟨s.at_, s.gaps.erase (mn s.gaps), s.fills ++ [mn s.gaps]⟩
def run (tk : List Int) (l : Pat) : Sh := l.foldl (stp tk) ⟨0, [], []⟩
theorem run_snoc (tk : List Int) (l : Pat) (b : Bool) : run tk (l ++ [b]) = stp tk (run tk l) b := by unfold run; rw [List.foldl_append]; rfl
theorem run_nil (tk : List Int) : run tk [] = ⟨0, [], []⟩ := rfl
/-- what has been kept after a part of a pattern -/
theorem run_ok {tk : List Int} {l : Pat} (h : Pre l) (hl : tks l ≤ tk.length) : ∀ i, i ≤ l.length → (run tk (l.take i)).at_ = tks (l.take i) ∧ (run tk (l.take i)).fills.length = fls (l.take i) ∧ ((run tk (l.take i)).gaps ++ (run tk (l.take i)).fills).Perm (tk.take (tks (l.take i)))
  | 0, _ => by rw [List.take_zero]; exact ⟨rfl, rfl, List.Perm.refl _⟩
  | i + 1, hi => by
    obtain ⟨a, b, c⟩ := run_ok h hl i (by omega)
    have hb : l[i]? = some l[i] := List.getElem?_eq_getElem (by omega)
    have hp := h (i + 1)
    have ht := tks_take l (i + 1)
    rw [take_snoc hb] at hp ht ⊢
    generalize l[i] = x at hp ht hb
    rw [run_snoc]
    cases x with
    | true =>
      rw [tks_t] at ht
      have hx := List.getElem?_eq_getElem (l := tk) (i := tks (l.take i)) (by omega)
      rw [tks_t, fls_t]
      refine ⟨congrArg (· + 1) a, b, ?_⟩
      show (((run tk (l.take i)).gaps ++ (tk[(run tk (l.take i)).at_]?).toList) ++ (run tk (l.take i)).fills).Perm _
      rw [a, hx, take_snoc hx]
      show (((run tk (l.take i)).gaps ++ [_]) ++ (run tk (l.take i)).fills).Perm _
      rw [List.append_assoc]
      refine List.Perm.trans (List.perm_append_comm_assoc _ [_] _) ?_
      exact (List.perm_append_comm (l₁ := [_])).trans (c.append_right _)
    | false =>
      rw [fls_f, tks_f] at hp
      rw [tks_f, fls_f]
      have hlen := c.length_eq
      rw [List.length_append, List.length_take, b] at hlen
      have hne : (run tk (l.take i)).gaps ≠ [] := fun e => by
        rw [e] at hlen
        have := tks_take l i
        simp at hlen; omega
      refine ⟨a, by show ((run tk (l.take i)).fills ++ [_]).length = _; rw [List.length_append, b]; rfl, ?_⟩
      show ((run tk (l.take i)).gaps.erase (mn (run tk (l.take i)).gaps) ++ ((run tk (l.take i)).fills ++ [mn (run tk (l.take i)).gaps])).Perm _
      refine List.Perm.trans ?_ c
      rw [← List.append_assoc]
      refine (List.perm_append_singleton _ _).trans ?_
      exact (List.perm_cons_erase (mn_ok hne).1).symm.append_right _
/-- the places that the pattern fills from the list tk -/
def fillsOf (tk : List Int) (l : Pat) : List Int := (run tk l).fills
theorem fills_perm {tk : List Int} {l : Pat} (g : Good l) (hl : tks l = tk.length) : (fillsOf tk l).Perm tk := by
  obtain ⟨a, b, c⟩ := run_ok g.1 (Nat.le_of_eq hl) l.length (Nat.le_refl _)
  rw [List.take_length] at a b c
  rw [hl, List.take_length] at c
  have h := c.length_eq
  rw [List.length_append, b, g.2, hl] at h
  have e : (run tk l).gaps = [] := List.length_eq_zero_iff.mp (by omega)
  rw [e] at c
  exact c
end LQ

namespace LQ
/-! patterns between takes and fills: times within bounds -/
abbrev ix (tk : List Int) (p : Int) : Nat := tk.idxOf p
structure Lead (tk : List Int) (ts : List Nat) (fs : List Int) : Prop where
  len : fs.length = ts.length
  at_ : ∀ (j : Nat) (f : Int) (t : Nat), fs[j]? = some f → ts[j]? = some t → f ∈ tk.take t ∧ f ∉ fs.take j ∧ ∀ x ∈ tk.take t, x ∉ fs.take j → f ≤ x
theorem Lead.snoc {tk : List Int} {ts : List Nat} {fs : List Int} {f : Int} {t : Nat} (h : Lead tk ts fs) (h1 : f ∈ tk.take t) (h2 : f ∉ fs) (h3 : ∀ x ∈ tk.take t, x ∉ fs → f ≤ x) : Lead tk (ts ++ [t]) (fs ++ [f]) := by
  have hl := h.len
  refine ⟨by rw [List.length_append, List.length_append, hl]; rfl, fun j g u e1 e2 => ?_⟩
  by_cases c : j < fs.length
  · rw [List.getElem?_append_left c] at e1
    rw [List.getElem?_append_left (by omega)] at e2
    rw [List.take_append_of_le_length (by omega)]
    exact h.at_ j g u e1 e2
  · rw [List.getElem?_append_right (by omega)] at e1
    rw [List.getElem?_append_right (by omega), ← hl] at e2
    cases z : j - fs.length with
    | zero =>
      rw [z] at e1 e2
      cases e1; cases e2
      have : j = fs.length := by omega
      subst this
      rw [List.take_left]
      exact ⟨h1, h2, h3⟩
    | succ m => rw [z] at e1; simp at e1
theorem lead_run {tk : List Int} {l : Pat} (nd : tk.Nodup) (h : Pre l) (hl : tks l ≤ tk.length) : ∀ i, i ≤ l.length → Lead tk (times (l.take i)) (run tk (l.take i)).fills
  | 0, _ => by rw [List.take_zero]; exact ⟨rfl, fun j f t e => by simp [run_nil] at e⟩
  | i + 1, hi => by
    have ih := lead_run nd h hl i (by omega)
    obtain ⟨a, b, c⟩ := run_ok h hl i (by omega)
    have hb : l[i]? = some l[i] := List.getElem?_eq_getElem (by omega)
    have hp := h (i + 1)
    rw [take_snoc hb] at hp ⊢
    generalize l[i] = x at hp hb
    rw [run_snoc]
    cases x with
    | true => rw [times_t]; exact ih
    | false =>
      rw [times_f]
      rw [fls_f, tks_f] at hp
      have hlen := c.length_eq
      have ht := tks_take l i
      rw [List.length_append, List.length_take, b] at hlen
      have hne : (run tk (l.take i)).gaps ≠ [] := fun e => by
        rw [e] at hlen
        simp at hlen; omega
      obtain ⟨m1, m2⟩ := mn_ok hne
      have nd2 : ((run tk (l.take i)).gaps ++ (run tk (l.take i)).fills).Nodup := c.nodup_iff.mpr (nd.sublist (List.take_sublist _ _))
      rw [List.nodup_append] at nd2
      refine ih.snoc (c.subset (List.mem_append_left _ m1)) (fun q => nd2.2.2 _ m1 _ q rfl) fun x hx hn => ?_
      rcases List.mem_append.mp (c.symm.subset hx) with q | q
      · exact m2 x q
      · exact absurd q hn
theorem lead_of {tk : List Int} {l : Pat} (nd : tk.Nodup) (g : Good l) (hl : tks l = tk.length) : Lead tk (times l) (fillsOf tk l) := by
  have := lead_run nd g.1 (Nat.le_of_eq hl) l.length (Nat.le_refl _)
  rwa [List.take_length] at this
theorem lead_unique {tk : List Int} {ts : List Nat} {fs gs : List Int} (h1 : Lead tk ts fs) (h2 : Lead tk ts gs) : fs = gs := by
  have key : ∀ j, j ≤ ts.length → fs.take j = gs.take j := by
    intro j
    induction j with
    | zero => intro _; rfl
    | succ j ih =>
      intro hj
      have e := ih (by omega)
      have l1 := h1.len
      have l2 := h2.len
      have a := List.getElem?_eq_getElem (l := fs) (i := j) (by omega)
      have b := List.getElem?_eq_getElem (l := gs) (i := j) (by omega)
      have t := List.getElem?_eq_getElem (l := ts) (i := j) (by omega)
      obtain ⟨p1, p2, p3⟩ := h1.at_ j _ _ a t
      obtain ⟨q1, q2, q3⟩ := h2.at_ j _ _ b t
      have e2 : fs[j]'(by omega) = gs[j]'(by omega) := Int.le_antisymm (p3 _ q1 (by rw [e]; exact q2)) (q3 _ p1 (by rw [← e]; exact p2))
      rw [take_snoc a, take_snoc b, e, e2]
  have := key ts.length (Nat.le_refl _)
  rwa [← h1.len, List.take_length, h1.len, ← h2.len, List.take_length] at this
/-! ### the bounds of each time -/
structure InB (tk fs : List Int) (ts : List Nat) : Prop where
  len : fs.length = ts.length
  lo : ∀ (j : Nat) (f : Int) (t : Nat), fs[j]? = some f → ts[j]? = some t → ix tk f < t
  hi : ∀ (j : Nat) (f : Int) (t : Nat), fs[j]? = some f → ts[j]? = some t → ∀ (k : Nat) (g : Int), j < k → fs[k]? = some g → g < f → t ≤ ix tk g
theorem mem_take_ix {tk : List Int} {x : Int} {t : Nat} (h : x ∈ tk.take t) : ix tk x < t := by
  obtain ⟨j, hj, e⟩ := List.mem_take_iff_getElem.mp h
  have h1 : ix tk x ≤ j := by
    apply Nat.le_of_not_lt
    intro q
    have := List.not_of_lt_findIdx (p := (· == x)) (xs := tk) q
    rw [e] at this
    simp at this
  omega
theorem ix_take {tk : List Int} {x : Int} {t : Nat} (hx : x ∈ tk) (h : ix tk x < t) : x ∈ tk.take t := by
  rw [List.mem_take_iff_getElem]
  have h2 : ix tk x < tk.length := List.idxOf_lt_length_iff.mpr hx
  exact ⟨ix tk x, by omega, List.getElem_idxOf h2⟩
theorem ix_at {l : List Int} (nd : l.Nodup) {j : Nat} {x : Int} (h : l[j]? = some x) : ix l x = j := by
  obtain ⟨hj, e⟩ := List.getElem?_eq_some_iff.mp h
  have hm : x ∈ l := List.mem_of_getElem? h
  have h2 : ix l x < l.length := List.idxOf_lt_length_iff.mpr hm
  exact (List.getElem_inj nd).mp ((List.getElem_idxOf h2).trans e.symm)
theorem at_ix {l : List Int} {x : Int} (h : x ∈ l) : l[ix l x]? = some x := by
  have h1 := List.idxOf_lt_length_iff.mpr h
  rw [List.getElem?_eq_getElem h1]
  exact congrArg some (List.getElem_idxOf h1)
theorem not_take {l : List Int} (nd : l.Nodup) {j k : Nat} {x : Int} (h : l[k]? = some x) (hk : j ≤ k) : x ∉ l.take j := fun q => by
  have := mem_take_ix q
  rw [ix_at nd h] at this
  omega
theorem Lead.inB {tk fs : List Int} {ts : List Nat} (h : Lead tk ts fs) (nd : tk.Nodup) (p : fs.Perm tk) : InB tk fs ts := by
  have nf : fs.Nodup := p.nodup_iff.mpr nd
  refine ⟨h.len, fun j f t e1 e2 => mem_take_ix (h.at_ j f t e1 e2).1, fun j f t e1 e2 k g hk e3 hg => ?_⟩
  apply Nat.le_of_not_lt
  intro q
  have := (h.at_ j f t e1 e2).2.2 g (ix_take (p.subset (List.mem_of_getElem? e3)) q) (not_take nf e3 (by omega))
  omega
theorem InB.lead {tk fs : List Int} {ts : List Nat} (h : InB tk fs ts) (nd : tk.Nodup) (p : fs.Perm tk) : Lead tk ts fs := by
  have nf : fs.Nodup := p.nodup_iff.mpr nd
  refine ⟨h.len, fun j f t e1 e2 => ⟨ix_take (p.subset (List.mem_of_getElem? e1)) (h.lo j f t e1 e2), not_take nf e1 (Nat.le_refl _), fun x hx hn => ?_⟩⟩
  have hxf : x ∈ fs := p.symm.subset (List.mem_of_mem_take hx)
  have ek := at_ix hxf
  have hk : j ≤ ix fs x := by
    apply Nat.le_of_not_lt
    intro q
    exact hn (ix_take hxf q)
  rcases Nat.lt_or_eq_of_le hk with q | q
  · apply Int.le_of_not_gt
    intro z
    have := h.hi j f t e1 e2 _ x q ek z
    have := mem_take_ix hx
    omega
  · rw [← q, e1] at ek
    cases ek
    exact Int.le_refl _
/-! ### no obstruction -/
structure NoObs (tk fs : List Int) : Prop where
  two : ∀ a b, a ∈ tk → b ∈ tk → a < b → ix tk a < ix tk b → ¬ ix fs b < ix fs a
  three : ∀ a b c, a ∈ tk → b ∈ tk → c ∈ tk → a < b → b < c → ix tk c < ix tk b → ix tk b < ix tk a → ix fs a < ix fs c → ¬ ix fs c < ix fs b
theorem mono_at {ts : List Nat} (m : ts.Pairwise (· ≤ ·)) {i j a b : Nat} (h : i ≤ j) (h1 : ts[i]? = some a) (h2 : ts[j]? = some b) : a ≤ b := by
  obtain ⟨p1, e1⟩ := List.getElem?_eq_some_iff.mp h1
  obtain ⟨p2, e2⟩ := List.getElem?_eq_some_iff.mp h2
  rcases Nat.lt_or_eq_of_le h with q | q
  · have := List.pairwise_iff_getElem.mp m i j p1 p2 q
    rw [e1, e2] at this; exact this
  · subst q
    rw [h1] at h2; cases h2; exact Nat.le_refl _
theorem InB.noObs {tk fs : List Int} {ts : List Nat} (h : InB tk fs ts) (m : ts.Pairwise (· ≤ ·)) (p : fs.Perm tk) : NoObs tk fs := by
  have hl := h.len
  have get : ∀ {x : Int}, x ∈ tk → fs[ix fs x]? = some x ∧ ∃ t, ts[ix fs x]? = some t := fun {x} hx => by
    have hf := p.symm.subset hx
    have h1 := List.idxOf_lt_length_iff.mpr hf
    exact ⟨at_ix hf, _, List.getElem?_eq_getElem (by show ix fs x < ts.length; rw [← hl]; exact h1)⟩
  refine ⟨fun a b ha hb hab h1 h2 => ?_, fun a b c ha hb hc hab hbc h1 h2 h3 h4 => ?_⟩
  · obtain ⟨ea, _⟩ := get ha
    obtain ⟨eb, t, et⟩ := get hb
    have := h.lo _ _ _ eb et
    have := h.hi _ _ _ eb et _ _ h2 ea hab
    omega
  · obtain ⟨ea, ta, eta⟩ := get ha
    obtain ⟨eb, _⟩ := get hb
    obtain ⟨ec, tc, etc⟩ := get hc
    have l1 := h.lo _ _ _ ea eta
    have l2 := h.hi _ _ _ ec etc _ _ h4 eb hbc
    have l3 := mono_at m (Nat.le_of_lt h3) eta etc
    omega
/-! ### least and greatest times -/
def mnN (n : Nat) (l : List Nat) : Nat := l.foldr min n
theorem mnN_ok (n : Nat) : ∀ l : List Nat, (mnN n l = n ∨ mnN n l ∈ l) ∧ mnN n l ≤ n ∧ ∀ y ∈ l, mnN n l ≤ y
  | [] => ⟨.inl rfl, Nat.le_refl _, fun y hy => by cases hy⟩
  | a :: r => by
    obtain ⟨h1, h2, h3⟩ := mnN_ok n r
    have e : mnN n (a :: r) = min a (mnN n r) := rfl
    rw [e]
    refine ⟨?_, by omega, fun y hy => ?_⟩
    · rcases Nat.le_total a (mnN n r) with q | q
      · rw [Nat.min_eq_left q]; exact .inr List.mem_cons_self
      · rw [Nat.min_eq_right q]
        exact h1.imp id fun z => List.mem_cons_of_mem _ z
    · rcases List.mem_cons.mp hy with rfl | hy
      · exact Nat.min_le_left _ _
      · exact Nat.le_trans (Nat.min_le_right _ _) (h3 y hy)
theorem mnN_eq {n m : Nat} {l : List Nat} (h1 : m = n ∨ m ∈ l) (h2 : m ≤ n) (h3 : ∀ y ∈ l, m ≤ y) : m = mnN n l := by
  obtain ⟨g1, g2, g3⟩ := mnN_ok n l
  apply Nat.le_antisymm
  · rcases g1 with q | q
    · rw [q]; exact h2
    · exact h3 _ q
  · rcases h1 with q | q
    · rw [q]; exact g2
    · exact g3 _ q
/-- the bound of one fill by the smaller places behind it -/
def hi1 (tk : List Int) (p : Int) (r : List Int) : Nat := mnN tk.length ((r.filter fun q => decide (q < p)).map (ix tk))
def hiL (tk : List Int) : List Int → Nat
  | [] => tk.length
  | p :: r => min (hi1 tk p r) (hiL tk r)
def loL (tk : List Int) (l : List Int) : Nat := l.foldl (fun m p => max m (ix tk p + 1)) 0
theorem loL_snoc (tk l : List Int) (p : Int) : loL tk (l ++ [p]) = max (loL tk l) (ix tk p + 1) := by unfold loL; rw [List.foldl_append]; rfl
def lo (tk fs : List Int) (j : Nat) : Nat := loL tk (fs.take (j + 1))
def hi (tk fs : List Int) (j : Nat) : Nat := hiL tk (fs.drop j)
theorem loF_ok (tk : List Int) : ∀ (l : List Int) (m0 : Nat), (l.foldl (fun m p => max m (ix tk p + 1)) m0 = m0 ∨ ∃ p ∈ l, l.foldl (fun m p => max m (ix tk p + 1)) m0 = ix tk p + 1) ∧ m0 ≤ l.foldl (fun m p => max m (ix tk p + 1)) m0 ∧ ∀ p ∈ l, ix tk p + 1 ≤ l.foldl (fun m p => max m (ix tk p + 1)) m0
  | [], m0 => ⟨.inl rfl, Nat.le_refl _, fun y hy => by cases hy⟩
  | a :: r, m0 => by
    obtain ⟨h1, h2, h3⟩ := loF_ok tk r (max m0 (ix tk a + 1))
    rw [List.foldl_cons]
    refine ⟨?_, by omega, fun y hy => ?_⟩
    · rcases h1 with q | ⟨p, hp, q⟩
      · rw [q]
        rcases Nat.le_total m0 (ix tk a + 1) with z | z
        · rw [Nat.max_eq_right z]; exact .inr ⟨a, List.mem_cons_self, rfl⟩
        · rw [Nat.max_eq_left z]; exact .inl rfl
      · exact .inr ⟨p, List.mem_cons_of_mem _ hp, q⟩
    · rcases List.mem_cons.mp hy with rfl | hy
      · omega
      · exact h3 y hy
theorem loL_ok (tk l : List Int) : (loL tk l = 0 ∨ ∃ p ∈ l, loL tk l = ix tk p + 1) ∧ ∀ p ∈ l, ix tk p + 1 ≤ loL tk l :=
  let ⟨a, _, c⟩ := loF_ok tk l 0
  ⟨a, c⟩
theorem loL_eq {tk l : List Int} {m : Nat} (h1 : ∃ p ∈ l, m = ix tk p + 1) (h2 : ∀ p ∈ l, ix tk p + 1 ≤ m) : m = loL tk l := by
  obtain ⟨g1, g2⟩ := loL_ok tk l
  apply Nat.le_antisymm
  · obtain ⟨p, hp, rfl⟩ := h1
    exact g2 p hp
  · rcases g1 with q | ⟨p, hp, q⟩
    · rw [q]; exact Nat.zero_le _
    · rw [q]; exact h2 p hp
theorem hi1_ok (tk : List Int) (p : Int) (r : List Int) : (hi1 tk p r = tk.length ∨ ∃ q ∈ r, q < p ∧ hi1 tk p r = ix tk q) ∧ hi1 tk p r ≤ tk.length ∧ ∀ q ∈ r, q < p → hi1 tk p r ≤ ix tk q := by
  obtain ⟨a, b, c⟩ := mnN_ok tk.length ((r.filter fun q => decide (q < p)).map (ix tk))
  refine ⟨a.imp id fun z => ?_, b, fun q hq hp => c _ (List.mem_map.mpr ⟨q, List.mem_filter.mpr ⟨hq, decide_eq_true hp⟩, rfl⟩)⟩
  obtain ⟨q, h1, h2⟩ := List.mem_map.mp z
  obtain ⟨h3, h4⟩ := List.mem_filter.mp h1
  exact ⟨q, h3, of_decide_eq_true h4, h2.symm⟩
theorem hiL_ok (tk : List Int) : ∀ l : List Int, (hiL tk l = tk.length ∨ ∃ (k : Nat) (p : Int), l[k]? = some p ∧ hiL tk l = hi1 tk p (l.drop (k + 1))) ∧ hiL tk l ≤ tk.length ∧ ∀ (k : Nat) (p : Int), l[k]? = some p → hiL tk l ≤ hi1 tk p (l.drop (k + 1))
  | [] => ⟨.inl rfl, Nat.le_refl _, fun k p h => by simp at h⟩
  | a :: r => by
    obtain ⟨h1, h2, h3⟩ := hiL_ok tk r
    have e : hiL tk (a :: r) = min (hi1 tk a r) (hiL tk r) := rfl
    rw [e]
    refine ⟨?_, by omega, fun k p hk => ?_⟩
    · rcases Nat.le_total (hi1 tk a r) (hiL tk r) with q | q
      · rw [Nat.min_eq_left q]; exact .inr ⟨0, a, rfl, rfl⟩
      · rw [Nat.min_eq_right q]
        rcases h1 with z | ⟨k, p, z1, z2⟩
        · exact .inl z
        · exact .inr ⟨k + 1, p, z1, z2⟩
    · cases k with
      | zero => cases hk; exact Nat.min_le_left _ _
      | succ k => exact Nat.le_trans (Nat.min_le_right _ _) (h3 k p hk)
theorem hiL_drop (tk : List Int) (l : List Int) {j k : Nat} (h : j ≤ k) : hiL tk (l.drop j) ≤ hiL tk (l.drop k) := by
  rcases (hiL_ok tk (l.drop k)).1 with q | ⟨i, p, q1, q2⟩
  · rw [q]; exact (hiL_ok tk (l.drop j)).2.1
  · rw [q2]
    have e : (l.drop j)[k - j + i]? = some p := by
      rw [List.getElem?_drop] at q1 ⊢
      rw [← q1]; congr 1; omega
    have := (hiL_ok tk (l.drop j)).2.2 _ p e
    rw [List.drop_drop] at this ⊢
    rw [show k + (i + 1) = j + (k - j + i + 1) by omega]
    exact this
theorem hi_mono (tk fs : List Int) {j k : Nat} (h : j ≤ k) : hi tk fs j ≤ hi tk fs k := hiL_drop tk fs h
theorem lo_mono (tk fs : List Int) {j k : Nat} (h : j ≤ k) : lo tk fs j ≤ lo tk fs k := by
  unfold lo
  rcases (loL_ok tk (fs.take (j + 1))).1 with q | ⟨p, hp, q⟩
  · rw [q]; exact Nat.zero_le _
  · rw [q]
    exact (loL_ok tk (fs.take (k + 1))).2 p (List.take_subset_take_left _ (by omega) hp)
theorem hi_le (tk fs : List Int) (j : Nat) : hi tk fs j ≤ tk.length := (hiL_ok tk _).2.1
theorem lo_ge {tk fs : List Int} (nd : tk.Nodup) (p : fs.Perm tk) {j : Nat} (hj : j < fs.length) : j + 1 ≤ lo tk fs j := by
  have nf : fs.Nodup := p.nodup_iff.mpr nd
  have h1 : (fs.take (j + 1)).Nodup := nf.sublist (List.take_sublist _ _)
  have h2 := List.Nodup.length_le_of_subset h1 (l₂ := tk.take (lo tk fs j)) fun x hx => ix_take (p.subset (List.mem_of_mem_take hx)) (Nat.lt_of_succ_le ((loL_ok tk _).2 x hx))
  rw [List.length_take, List.length_take] at h2
  omega
/-- times that never fall are those of a pattern of the pair if and only if they keep the bounds -/
theorem InB_within {tk fs : List Int} {ts : List Nat} (h : InB tk fs ts) (m : ts.Pairwise (· ≤ ·)) (hn : ∀ t ∈ ts, t ≤ tk.length) {j t : Nat} (ht : ts[j]? = some t) : lo tk fs j ≤ t ∧ t ≤ hi tk fs j := by
  have hl := h.len
  have hj : j < ts.length := (List.getElem?_eq_some_iff.mp ht).1
  constructor
  · unfold lo
    rcases (loL_ok tk (fs.take (j + 1))).1 with q | ⟨p, hp, q⟩
    · rw [q]; exact Nat.zero_le _
    · rw [q]
      obtain ⟨i, hi, e⟩ := List.mem_take_iff_getElem.mp hp
      have e1 : fs[i]? = some p := by rw [List.getElem?_eq_getElem (by omega), e]
      have e2 := List.getElem?_eq_getElem (l := ts) (i := i) (by omega)
      have := h.lo _ _ _ e1 e2
      have := mono_at m (show i ≤ j by omega) e2 ht
      omega
  · show t ≤ hiL tk (fs.drop j)
    rcases (hiL_ok tk (fs.drop j)).1 with q | ⟨k, p, q1, q2⟩
    · rw [q]; exact hn t (List.mem_of_getElem? ht)
    · rw [q2]
      rw [List.getElem?_drop] at q1
      have hk : j + k < fs.length := (List.getElem?_eq_some_iff.mp q1).1
      have e2 := List.getElem?_eq_getElem (l := ts) (i := j + k) (by omega)
      have l1 := mono_at m (show j ≤ j + k by omega) ht e2
      rcases (hi1_ok tk p ((fs.drop j).drop (k + 1))).1 with z | ⟨g, hg, z1, z2⟩
      · rw [z]; exact hn t (List.mem_of_getElem? ht)
      · rw [z2]
        rw [List.drop_drop] at hg
        obtain ⟨i, hi, e⟩ := List.mem_iff_getElem.mp hg
        rw [List.length_drop] at hi
        have e3 : fs[j + (k + 1) + i]? = some g := by rw [List.getElem?_eq_getElem (by omega), ← e, List.getElem_drop]
        have := h.hi _ _ _ q1 e2 _ _ (by omega) e3 z1
        omega
theorem inB_of {tk fs : List Int} {ts : List Nat} (hl : fs.length = ts.length) (h : ∀ (j t : Nat), ts[j]? = some t → lo tk fs j ≤ t ∧ t ≤ hi tk fs j) : InB tk fs ts := by
  refine ⟨hl, fun j f t e1 e2 => ?_, fun j f t e1 e2 k g hk e3 hg => ?_⟩
  · have h1 := (h j t e2).1
    have : f ∈ fs.take (j + 1) := by
      have hj := List.getElem?_eq_some_iff.mp e1
      obtain ⟨hj, e⟩ := hj
      exact List.mem_take_iff_getElem.mpr ⟨j, by omega, e⟩
    have := (loL_ok tk (fs.take (j + 1))).2 f this
    unfold lo at h1
    omega
  · have h1 := (h j t e2).2
    unfold hi at h1
    have e4 : (fs.drop j)[0]? = some f := by rw [List.getElem?_drop]; exact e1
    have h2 := (hiL_ok tk (fs.drop j)).2.2 0 f e4
    have hg2 : g ∈ (fs.drop j).drop (0 + 1) := by
      rw [List.drop_drop]
      have hk2 := List.getElem?_eq_some_iff.mp e3
      refine List.mem_of_getElem? (i := k - (j + 1)) ?_
      rw [List.getElem?_drop, show j + (0 + 1) + (k - (j + 1)) = k by omega]
      exact e3
    have h3 := (hi1_ok tk f ((fs.drop j).drop (0 + 1))).2.2 g hg2 hg
    omega
/-! ### the pattern with given times -/
def wr (ts : List Nat) : Nat → Pat × Nat
  | 0 => ([], 0)
  | j + 1 => ((wr ts j).1 ++ List.replicate (ts.getD j 0 - (wr ts j).2) true ++ [false], ts.getD j 0)
theorem tks_rep (k : Nat) : tks (List.replicate k true) = k := by simp [tks]
theorem fls_rep (k : Nat) : fls (List.replicate k true) = 0 := by
  unfold fls
  rw [List.count_eq_zero]
  intro h
  exact absurd (List.eq_of_mem_replicate h) (by decide)
theorem Pre.reps {l : Pat} (h : Pre l) : ∀ k, Pre (l ++ List.replicate k true)
  | 0 => by simpa using h
  | k + 1 => by
    have ih := Pre.reps h k
    rw [List.replicate_succ', ← List.append_assoc]
    have := ih.all
    exact ih.snoc (by rw [fls_t, tks_t]; omega)
theorem times_reps (l : Pat) : ∀ k, times (l ++ List.replicate k true) = times l
  | 0 => by simp
  | k + 1 => by rw [List.replicate_succ', ← List.append_assoc, times_t, times_reps l k]
theorem wr_ok {ts : List Nat} (m : ts.Pairwise (· ≤ ·)) (hj : ∀ (j t : Nat), ts[j]? = some t → j < t) : ∀ j, j ≤ ts.length → Pre (wr ts j).1 ∧ tks (wr ts j).1 = (wr ts j).2 ∧ fls (wr ts j).1 = j ∧ times (wr ts j).1 = ts.take j ∧ (∀ i t, ts[i]? = some t → j ≤ i → (wr ts j).2 ≤ t) ∧ (0 < j → ts[j - 1]? = some (wr ts j).2)
  | 0, _ => ⟨Pre.nil, rfl, rfl, rfl, fun i t _ _ => Nat.zero_le _, fun h => absurd h (by omega)⟩
  | j + 1, h => by
    obtain ⟨a, b, c, d, e, _⟩ := wr_ok m hj j (by omega)
    have ht := List.getElem?_eq_getElem (l := ts) (i := j) (by omega)
    have eD : ts.getD j 0 = ts[j]'(by omega) := by rw [List.getD_eq_getElem?_getD, ht]; rfl
    have h1 := hj j _ ht
    have h2 := e j _ ht (Nat.le_refl _)
    have e1 : wr ts (j + 1) = ((wr ts j).1 ++ List.replicate (ts[j]'(by omega) - (wr ts j).2) true ++ [false], ts[j]'(by omega)) := by rw [wr, eD]
    rw [e1]
    generalize ts[j]'(by omega) = t at ht h1 h2 e1
    have t1 : tks ((wr ts j).1 ++ List.replicate (t - (wr ts j).2) true) = t := by rw [tks_app, tks_rep, b]; omega
    have t2 : fls ((wr ts j).1 ++ List.replicate (t - (wr ts j).2) true) = j := by rw [fls_app, fls_rep, c]; rfl
    refine ⟨(a.reps _).snoc (by rw [fls_f, tks_f, t1, t2]; omega), by rw [tks_f, t1], by rw [fls_f, t2], ?_, fun i u hu hi => mono_at m (by omega) ht hu, fun _ => ht⟩
    rw [times_f, times_reps, d, t1, take_snoc ht]
def wrote (ts : List Nat) : Pat := (wr ts ts.length).1
theorem wrote_ok {ts : List Nat} (m : ts.Pairwise (· ≤ ·)) (hj : ∀ (j t : Nat), ts[j]? = some t → j < t ∧ t ≤ ts.length) : Good (wrote ts) ∧ tks (wrote ts) = ts.length ∧ times (wrote ts) = ts ∧ (wr ts ts.length).2 = ts.length := by
  obtain ⟨a, b, c, d, e, f⟩ := wr_ok m (fun j t h => (hj j t h).1) ts.length (Nat.le_refl _)
  have z : (wr ts ts.length).2 = ts.length := by
    by_cases q : ts.length = 0
    · rw [q]; rfl
    · have g := f (by omega)
      have := hj _ _ g
      omega
  refine ⟨⟨a, ?_⟩, ?_, ?_, z⟩
  · show fls (wr ts ts.length).1 = tks (wr ts ts.length).1
    rw [b, c, z]
  · show tks (wr ts ts.length).1 = _
    rw [b, z]
  · show times (wr ts ts.length).1 = _
    rw [d, List.take_length]
/-- bounds and times: the pattern written leads to the fills -/
theorem wrote_leads {tk fs : List Int} {ts : List Nat} (nd : tk.Nodup) (p : fs.Perm tk) (m : ts.Pairwise (· ≤ ·)) (hl : fs.length = ts.length) (h : ∀ (j t : Nat), ts[j]? = some t → lo tk fs j ≤ t ∧ t ≤ hi tk fs j) :
    Good (wrote ts) ∧ tks (wrote ts) = tk.length ∧ fillsOf tk (wrote ts) = fs ∧ times (wrote ts) = ts ∧ (wr ts ts.length).2 = ts.length := by
  have hp := p.length_eq
  obtain ⟨a, b, c, d⟩ := wrote_ok m fun j t e => by
    have h1 := h j t e
    have hj := (List.getElem?_eq_some_iff.mp e).1
    have h2 := lo_ge nd p (show j < fs.length by omega)
    have h3 := hi_le tk fs j
    omega
  have e : tks (wrote ts) = tk.length := by omega
  refine ⟨a, e, ?_, c, d⟩
  have l1 := lead_of nd a e
  rw [c] at l1
  exact lead_unique l1 ((inB_of hl h).lead nd p)
/-- what is known of the pair that a pattern leads to -/
theorem pair_ok {tk : List Int} {l : Pat} (nd : tk.Nodup) (g : Good l) (hn : tks l = tk.length) : (fillsOf tk l).Perm tk ∧ NoObs tk (fillsOf tk l) ∧ ∀ j t, (times l)[j]? = some t → lo tk (fillsOf tk l) j ≤ t ∧ t ≤ hi tk (fillsOf tk l) j := by
  have p := fills_perm g hn
  obtain ⟨t1, t2⟩ := times_all g.1
  have b := (lead_of nd g hn).inB nd p
  exact ⟨p, b.noObs t2 p, fun j t e => InB_within b t2 (fun u hu => by obtain ⟨i, e⟩ := List.mem_iff_getElem?.mp hu; have := (t1 i u e).2; omega) e⟩
end LQ

namespace LQ
/-! facts about patterns -/
inductive Fact
  | bf (i j : Nat)
  | af (i j : Nat)
  | ou (m k : Nat)
def Fact.ok (n : Nat) : Fact → Prop
  | .bf i j => i < n ∧ j < n
  | .af i j => i < n ∧ j < n
  | .ou m k => m ≤ 2 * n ∧ k ≤ n
/-- the places of a sign in a pattern -/
def pos (b : Bool) (l : Pat) : List Nat := (List.range l.length).filter fun i => decide (l[i]? = some b)
theorem pos_snoc (b c : Bool) (l : Pat) : pos b (l ++ [c]) = pos b l ++ if c = b then [l.length] else [] := by
  unfold pos
  rw [List.length_append, List.length_singleton, List.range_succ, List.filter_append]
  congr 1
  · refine List.filter_congr fun i hi => ?_
    have := List.mem_range.mp hi
    rw [List.getElem?_append_left this]
  · rw [List.filter_cons, List.getElem?_append_right (Nat.le_refl _), Nat.sub_self]
    by_cases q : c = b
    · subst q; simp
    · simp [q]
/-- what stands at a sign's place -/
theorem pos_at (b : Bool) : ∀ (l : Pat) (i p : Nat), (pos b l)[i]? = some p → l[p]? = some b ∧ (l.take p).count b = i := by
  intro l
  induction h : l.length generalizing l with
  | zero =>
    intro i p e
    have : l = [] := List.length_eq_zero_iff.mp h
    subst this
    simp [pos] at e
  | succ m ih =>
    intro i p e
    obtain ⟨l', c, rfl⟩ : ∃ l' c, l = l' ++ [c] := ⟨l.dropLast, l.getLast (by intro q; rw [q] at h; simp at h), (List.dropLast_concat_getLast _).symm⟩
    have hm : l'.length = m := by simpa using h
    rw [pos_snoc] at e
    by_cases k : i < (pos b l').length
    · rw [List.getElem?_append_left k] at e
      obtain ⟨h1, h2⟩ := ih l' hm i p e
      have hp := (List.getElem?_eq_some_iff.mp h1).1
      exact ⟨by rw [List.getElem?_append_left hp]; exact h1, by rw [List.take_append_of_le_length (Nat.le_of_lt hp)]; exact h2⟩
    · rw [List.getElem?_append_right (by omega)] at e
      by_cases q : c = b
      · subst q
        rw [if_pos rfl] at e
        cases z : i - (pos c l').length with
        | zero =>
          rw [z] at e
          cases e
          refine ⟨by rw [List.getElem?_append_right (Nat.le_refl _), Nat.sub_self]; rfl, ?_⟩
          rw [List.take_left]
          have cnt : ∀ l : Pat, (pos c l).length = l.count c := by
            intro l
            induction h : l.length generalizing l with
            | zero =>
              have : l = [] := List.length_eq_zero_iff.mp h
              subst this; simp [pos]
            | succ m ih =>
              obtain ⟨l', d, rfl⟩ : ∃ l' d, l = l' ++ [d] := ⟨l.dropLast, l.getLast (by intro q; rw [q] at h; simp at h), (List.dropLast_concat_getLast _).symm⟩
              rw [pos_snoc, List.length_append, ih l' (by simpa using h), List.count_append]
              by_cases q : d = c
              · subst q; simp
              · simp [q]
          rw [← cnt]; omega
        | succ n => rw [z] at e; simp at e
      · rw [if_neg q] at e; simp at e
theorem pos_len (b : Bool) : ∀ l : Pat, (pos b l).length = l.count b := by
  intro l
  induction h : l.length generalizing l with
  | zero =>
    have : l = [] := List.length_eq_zero_iff.mp h
    subst this; simp [pos]
  | succ m ih =>
    obtain ⟨l', d, rfl⟩ : ∃ l' d, l = l' ++ [d] := ⟨l.dropLast, l.getLast (by intro q; rw [q] at h; simp at h), (List.dropLast_concat_getLast _).symm⟩
    rw [pos_snoc, List.length_append, ih l' (by simpa using h), List.count_append]
    by_cases q : d = b
    · subst q; simp
    · simp [q]
theorem tks_mono (l : Pat) {i j : Nat} (h : i ≤ j) : tks (l.take i) ≤ tks (l.take j) := by
  have : l.take i = (l.take j).take i := by rw [List.take_take, Nat.min_eq_left h]
  rw [this]; exact tks_take _ _
theorem fls_mono (l : Pat) {i j : Nat} (h : i ≤ j) : fls (l.take i) ≤ fls (l.take j) := by
  have : l.take i = (l.take j).take i := by rw [List.take_take, Nat.min_eq_left h]
  rw [this]; exact fls_take _ _
/-- a fill stands where so many fills are before it: its time -/
theorem time_pos {l : Pat} {j p : Nat} (h : (pos false l)[j]? = some p) : (times l)[j]? = some (tks (l.take p)) := by
  obtain ⟨h1, h2⟩ := pos_at false l j p h
  have := times_at h1
  rw [show fls (l.take p) = j from h2] at this
  exact this
def holds (l : Pat) : Fact → Bool
  | .bf i j => decide ((pos true l).getD i 0 < (pos false l).getD j 0)
  | .af i j => !decide ((pos true l).getD i 0 < (pos false l).getD j 0)
  | .ou m k => decide (((tks (l.take m) : Nat) : Int) - (fls (l.take m) : Nat) = k)
/-- limits of the times: least ones, greatest ones -/
abbrev Lim := List (Nat × Nat) × List (Nat × Nat)
def limOut (n m k : Nat) : Lim := if (m + k) % 2 = 1 ∨ m < k ∨ 2 * n < m + k then ([(0, n + 1)], []) else
  (if m - (m + k) / 2 < n then [(m - (m + k) / 2, (m + k) / 2)] else [], if 0 < m - (m + k) / 2 then [(m - (m + k) / 2 - 1, (m + k) / 2)] else [])
def lim (n : Nat) : Fact → Lim
  | .bf i j => ([(j, i + 1)], [])
  | .af i j => ([], [(j, i)])
  | .ou m k => limOut n m k
def Meets (ts : List Nat) (L : Lim) : Prop := (∀ x ∈ L.1, ∃ t, ts[x.1]? = some t ∧ x.2 ≤ t) ∧ ∀ x ∈ L.2, ∃ t, ts[x.1]? = some t ∧ t ≤ x.2
structure LimOk (n : Nat) (L : Lim) : Prop where
  a : ∀ x ∈ L.1, x.1 < n
  b : ∀ x ∈ L.2, x.1 < n
  c : ∀ x ∈ L.1, ∀ y ∈ L.2, x.1 ≤ y.1 → x.2 ≤ y.2
theorem lim_ok {n : Nat} {f : Fact} (h : f.ok n) : LimOk n (lim n f) := by
  cases f with
  | bf i j => exact ⟨fun x hx => (by rw [List.mem_singleton.mp hx]; exact h.2), fun x hx => (by cases hx), fun x _ y hy => (by cases hy)⟩
  | af i j => exact ⟨fun x hx => (by cases hx), fun x hx => (by rw [List.mem_singleton.mp hx]; exact h.2), fun x hx => (by cases hx)⟩
  | ou m k =>
    obtain ⟨h1, h2⟩ := h
    show LimOk n (limOut n m k)
    unfold limOut
    by_cases c : (m + k) % 2 = 1 ∨ m < k ∨ 2 * n < m + k
    · rw [if_pos c]
      refine ⟨fun x hx => ?_, fun x hx => (by cases hx), fun x _ y hy => (by cases hy)⟩
      rw [List.mem_singleton.mp hx]
      show 0 < n
      omega
    · rw [if_neg c]
      refine ⟨fun x hx => ?_, fun x hx => ?_, fun x hx y hy => ?_⟩
      · dsimp only at hx
        split at hx
        · rw [List.mem_singleton.mp hx]; assumption
        · cases hx
      · dsimp only at hx
        split at hx
        · rw [List.mem_singleton.mp hx]
          show m - (m + k) / 2 - 1 < n
          omega
        · cases hx
      · dsimp only at hx hy
        split at hx
        · split at hy
          · rw [List.mem_singleton.mp hx, List.mem_singleton.mp hy]
            intro _; exact Nat.le_refl _
          · cases hy
        · cases hx
/-- a pattern satisfies a fact if and only if its times meet the limits -/
theorem holds_lim {n : Nat} {l : Pat} {f : Fact} (g : Good l) (hn : tks l = n) (h : f.ok n) : holds l f = true ↔ Meets (times l) (lim n f) := by
  have pT : ∀ {i : Nat}, i < n → ∃ p, (pos true l)[i]? = some p := fun {i} hi => ⟨_, List.getElem?_eq_getElem (by rw [pos_len]; show i < tks l; omega)⟩
  have pF : ∀ {j : Nat}, j < n → ∃ p, (pos false l)[j]? = some p := fun {j} hj => ⟨_, List.getElem?_eq_getElem (by rw [pos_len]; show j < fls l; rw [g.2]; omega)⟩
  have key : ∀ {i j p q : Nat}, (pos true l)[i]? = some p → (pos false l)[j]? = some q → (p < q ↔ i < tks (l.take q)) := fun {i j p q} h1 h2 => by
    obtain ⟨a1, a2⟩ := pos_at _ _ _ _ h1
    obtain ⟨b1, b2⟩ := pos_at _ _ _ _ h2
    have a2' : tks (l.take p) = i := a2
    have s := take_snoc a1
    constructor
    · intro c
      have := tks_mono l (show p + 1 ≤ q by omega)
      rw [s, tks_t] at this
      omega
    · intro c
      apply Nat.lt_of_not_le
      intro d
      have := tks_mono l d
      omega
  cases f with
  | bf i j =>
    obtain ⟨p, hp⟩ := pT h.1
    obtain ⟨q, hq⟩ := pF h.2
    have e1 : (pos true l).getD i 0 = p := by rw [List.getD_eq_getElem?_getD, hp]; rfl
    have e2 : (pos false l).getD j 0 = q := by rw [List.getD_eq_getElem?_getD, hq]; rfl
    show decide ((pos true l).getD i 0 < (pos false l).getD j 0) = true ↔ _
    rw [e1, e2, decide_eq_true_iff, key hp hq]
    have tj := time_pos hq
    constructor
    · intro c
      exact ⟨fun x hx => (by rw [List.mem_singleton.mp hx]; exact ⟨_, tj, c⟩), fun x hx => (by cases hx)⟩
    · intro c
      obtain ⟨t, h1, h2⟩ := c.1 _ (List.mem_singleton.mpr rfl)
      rw [tj] at h1; cases h1; exact h2
  | af i j =>
    obtain ⟨p, hp⟩ := pT h.1
    obtain ⟨q, hq⟩ := pF h.2
    have e1 : (pos true l).getD i 0 = p := by rw [List.getD_eq_getElem?_getD, hp]; rfl
    have e2 : (pos false l).getD j 0 = q := by rw [List.getD_eq_getElem?_getD, hq]; rfl
    show (!decide ((pos true l).getD i 0 < (pos false l).getD j 0)) = true ↔ _
    rw [e1, e2, Bool.not_eq_true', decide_eq_false_iff_not, key hp hq]
    have tj := time_pos hq
    constructor
    · intro c
      exact ⟨fun x hx => (by cases hx), fun x hx => by rw [List.mem_singleton.mp hx]; exact ⟨_, tj, Nat.le_of_not_lt c⟩⟩
    · intro c
      obtain ⟨t, h1, h2⟩ := c.2 _ (List.mem_singleton.mpr rfl)
      rw [tj] at h1; cases h1
      exact Nat.not_lt.mpr h2
  | ou m k =>
    obtain ⟨h1, h2⟩ := h
    have lp := len_pat l
    have gl := g.2
    have lm : tks (l.take m) + fls (l.take m) = m := by rw [← len_pat, List.length_take]; omega
    have gp := g.1 m
    have tm := tks_take l m
    have fm := fls_take l m
    show decide (((tks (l.take m) : Nat) : Int) - (fls (l.take m) : Nat) = k) = true ↔ Meets (times l) (limOut n m k)
    rw [decide_eq_true_iff]
    unfold limOut
    by_cases c : (m + k) % 2 = 1 ∨ m < k ∨ 2 * n < m + k
    · rw [if_pos c]
      constructor
      · intro e; omega
      · intro z
        obtain ⟨t, ht, t2⟩ := z.1 _ (List.mem_singleton.mpr rfl)
        have := ((times_all g.1).1 _ _ ht).2
        have t3 : n + 1 ≤ t := t2
        omega
    · rw [if_neg c]
      have fill : ∀ {j t : Nat}, (times l)[j]? = some t → (j < fls (l.take m) → t ≤ tks (l.take m)) ∧ (fls (l.take m) ≤ j → tks (l.take m) ≤ t) := fun {j t} ht => by
        have hj := (List.getElem?_eq_some_iff.mp ht).1
        rw [times_len] at hj
        obtain ⟨q, hq⟩ := pF (show j < n by omega)
        have tj := time_pos hq
        rw [ht] at tj
        cases tj
        obtain ⟨b1, b2⟩ := pos_at _ _ _ _ hq
        have b2' : fls (l.take q) = j := b2
        constructor
        · intro d
          have : q ≤ m := Nat.le_of_not_lt fun z => by
            have := fls_mono l (Nat.le_of_lt z)
            omega
          exact tks_mono l this
        · intro d
          have : m ≤ q := Nat.le_of_not_lt fun z => by
            have := fls_mono l (show q + 1 ≤ m by omega)
            rw [take_snoc b1, fls_f] at this
            omega
          exact tks_mono l this
      generalize hta : (m + k) / 2 = ta
      have tl := times_len l
      constructor
      · intro e
        have e1 : tks (l.take m) = ta := by omega
        have e2 : fls (l.take m) = m - ta := by omega
        refine ⟨fun x hx => ?_, fun x hx => ?_⟩
        · dsimp only at hx
          split at hx
          · rename_i w
            rw [List.mem_singleton.mp hx]
            have ht := List.getElem?_eq_getElem (l := times l) (i := m - ta) (by omega)
            exact ⟨_, ht, by have := (fill ht).2 (by omega); omega⟩
          · cases hx
        · dsimp only at hx
          split at hx
          · rename_i w
            rw [List.mem_singleton.mp hx]
            have ht := List.getElem?_eq_getElem (l := times l) (i := m - ta - 1) (by omega)
            exact ⟨_, ht, by have := (fill ht).1 (by omega); omega⟩
          · cases hx
      · intro z
        have u1 : tks (l.take m) ≤ ta := Nat.le_of_not_lt fun w => by
          have w2 : 0 < m - ta := by omega
          obtain ⟨t, ht, t2⟩ := z.2 (m - ta - 1, ta) (by dsimp only; rw [if_pos w2]; exact List.mem_singleton.mpr rfl)
          have := (fill ht).2 (by dsimp only; omega)
          dsimp only at t2
          omega
        have u2 : ta ≤ tks (l.take m) := Nat.le_of_not_lt fun w => by
          have w2 : m - ta < n := by omega
          obtain ⟨t, ht, t2⟩ := z.1 (m - ta, ta) (by dsimp only; rw [if_pos w2]; exact List.mem_singleton.mpr rfl)
          have := (fill ht).1 (by dsimp only; omega)
          dsimp only at t2
          omega
        omega
/-! ### bounds and limits together -/
structure Bd (n : Nat) (lo hi : Nat → Nat) : Prop where
  lm : ∀ {i j}, i ≤ j → lo i ≤ lo j
  hm : ∀ {i j}, i ≤ j → hi i ≤ hi j
  le : ∀ {i}, i < n → lo i ≤ hi i
def Fits (n : Nat) (lo hi : Nat → Nat) (ts : List Nat) : Prop := ts.length = n ∧ ts.Pairwise (· ≤ ·) ∧ ∀ (j t : Nat), ts[j]? = some t → lo j ≤ t ∧ t ≤ hi j
def Bad (lo hi : Nat → Nat) (L : Lim) : Prop := (∃ x ∈ L.1, hi x.1 < x.2) ∨ ∃ x ∈ L.2, x.2 < lo x.1
def Beh (L M : Lim) : Prop := ∃ x ∈ L.1, ∃ y ∈ M.2, x.1 ≤ y.1 ∧ y.2 < x.2
def low (lo : Nat → Nat) (xs : List (Nat × Nat)) (j : Nat) : Nat := xs.foldl (fun m x => if x.1 ≤ j then max m x.2 else m) (lo j)
theorem low_ok (xs : List (Nat × Nat)) (j : Nat) : ∀ m0 : Nat, (xs.foldl (fun m x => if x.1 ≤ j then max m x.2 else m) m0 = m0 ∨ ∃ x ∈ xs, x.1 ≤ j ∧ xs.foldl (fun m x => if x.1 ≤ j then max m x.2 else m) m0 = x.2) ∧ m0 ≤ xs.foldl (fun m x => if x.1 ≤ j then max m x.2 else m) m0 ∧ ∀ x ∈ xs, x.1 ≤ j → x.2 ≤ xs.foldl (fun m x => if x.1 ≤ j then max m x.2 else m) m0 := by
  induction xs with
  | nil => intro m0; exact ⟨.inl rfl, Nat.le_refl _, fun x hx => (by cases hx)⟩
  | cons a r ih =>
    intro m0
    rw [List.foldl_cons]
    by_cases c : a.1 ≤ j
    · rw [if_pos c]
      obtain ⟨h1, h2, h3⟩ := ih (max m0 a.2)
      refine ⟨?_, by omega, fun x hx hj => ?_⟩
      · rcases h1 with q | ⟨x, hx, hj, q⟩
        · rw [q]
          rcases Nat.le_total m0 a.2 with z | z
          · rw [Nat.max_eq_right z]; exact .inr ⟨a, List.mem_cons_self, c, rfl⟩
          · rw [Nat.max_eq_left z]; exact .inl rfl
        · exact .inr ⟨x, List.mem_cons_of_mem _ hx, hj, q⟩
      · rcases List.mem_cons.mp hx with rfl | hx
        · omega
        · exact h3 x hx hj
    · rw [if_neg c]
      obtain ⟨h1, h2, h3⟩ := ih m0
      refine ⟨h1.imp id fun ⟨x, hx, q⟩ => ⟨x, List.mem_cons_of_mem _ hx, q⟩, h2, fun x hx hj => ?_⟩
      rcases List.mem_cons.mp hx with rfl | hx
      · exact absurd hj c
      · exact h3 x hx hj
theorem low_mono {lo : Nat → Nat} (lm : ∀ {i j}, i ≤ j → lo i ≤ lo j) (xs : List (Nat × Nat)) {i j : Nat} (h : i ≤ j) : low lo xs i ≤ low lo xs j := by
  obtain ⟨a1, a2, a3⟩ := low_ok xs i (lo i)
  obtain ⟨b1, b2, b3⟩ := low_ok xs j (lo j)
  unfold low
  rcases a1 with q | ⟨x, hx, hj, q⟩
  · rw [q]; exact Nat.le_trans (lm h) b2
  · rw [q]; exact b3 x hx (by omega)
def leasts (Ls : List Lim) : List (Nat × Nat) := Ls.flatMap fun L => L.1
/-- limits can be met together if and only if none is bad and no two are against each other -/
theorem sat_iff {n : Nat} {lo hi : Nat → Nat} (B : Bd n lo hi) {Ls : List Lim} (ok : ∀ L ∈ Ls, LimOk n L) :
    (∃ ts, Fits n lo hi ts ∧ ∀ L ∈ Ls, Meets ts L) ↔ (∀ L ∈ Ls, ¬ Bad lo hi L) ∧ ∀ L ∈ Ls, ∀ M ∈ Ls, ¬ Beh L M := by
  constructor
  · rintro ⟨ts, ⟨len, mono, bd⟩, m⟩
    refine ⟨fun L hL => ?_, fun L hL M hM => ?_⟩
    · rintro (⟨x, hx, c⟩ | ⟨x, hx, c⟩)
      · obtain ⟨t, ht, q⟩ := (m L hL).1 x hx
        have := (bd _ _ ht).2
        omega
      · obtain ⟨t, ht, q⟩ := (m L hL).2 x hx
        have := (bd _ _ ht).1
        omega
    · rintro ⟨x, hx, y, hy, c1, c2⟩
      obtain ⟨t, ht, q⟩ := (m L hL).1 x hx
      obtain ⟨u, hu, q2⟩ := (m M hM).2 y hy
      have := mono_at mono c1 ht hu
      omega
  · rintro ⟨nb, nh⟩
    have hmem : ∀ {x}, x ∈ leasts Ls ↔ ∃ L ∈ Ls, x ∈ L.1 := fun {x} => List.mem_flatMap
    have at_ : ∀ {j t : Nat}, ((List.range n).map (low lo (leasts Ls)))[j]? = some t → j < n ∧ t = low lo (leasts Ls) j := fun {j t} e => by
      rw [List.getElem?_map] at e
      cases q : (List.range n)[j]? with
      | none => rw [q] at e; cases e
      | some i =>
        rw [q] at e
        obtain ⟨h1, h2⟩ := List.getElem?_eq_some_iff.mp q
        rw [List.length_range] at h1
        rw [List.getElem_range] at h2
        subst h2
        cases e
        exact ⟨h1, rfl⟩
    have get : ∀ {j : Nat}, j < n → ((List.range n).map (low lo (leasts Ls)))[j]? = some (low lo (leasts Ls) j) := fun {j} h => by
      rw [List.getElem?_map, List.getElem?_range h]; rfl
    refine ⟨(List.range n).map (low lo (leasts Ls)), ⟨by rw [List.length_map, List.length_range], ?_, fun j t e => ?_⟩, fun L hL => ⟨fun x hx => ?_, fun y hy => ?_⟩⟩
    · rw [List.pairwise_map]
      exact List.Pairwise.imp (fun h => low_mono (fun {i j} => B.lm) _ (Nat.le_of_lt h)) List.pairwise_lt_range
    · obtain ⟨h1, rfl⟩ := at_ e
      obtain ⟨a1, a2, a3⟩ := low_ok (leasts Ls) j (lo j)
      refine ⟨a2, ?_⟩
      unfold low
      rcases a1 with q | ⟨x, hx, hj, q⟩
      · rw [q]; exact B.le h1
      · rw [q]
        obtain ⟨L, hL, hx⟩ := hmem.mp hx
        have : x.2 ≤ hi x.1 := Nat.le_of_not_lt fun c => nb L hL (.inl ⟨x, hx, c⟩)
        exact Nat.le_trans this (B.hm hj)
    · have h1 := (ok L hL).a x hx
      exact ⟨_, get h1, (low_ok (leasts Ls) x.1 (lo x.1)).2.2 x (hmem.mpr ⟨L, hL, hx⟩) (Nat.le_refl _)⟩
    · have h1 := (ok L hL).b y hy
      refine ⟨_, get h1, ?_⟩
      unfold low
      rcases (low_ok (leasts Ls) y.1 (lo y.1)).1 with q | ⟨x, hx, hj, q⟩
      · rw [q]; exact Nat.le_of_not_lt fun c => nb L hL (.inr ⟨y, hy, c⟩)
      · rw [q]
        obtain ⟨M, hM, hx⟩ := hmem.mp hx
        exact Nat.le_of_not_lt fun c => nh M hM L hL ⟨x, hx, y, hy, hj, c⟩
theorem sat_one {n : Nat} {lo hi : Nat → Nat} (B : Bd n lo hi) {L : Lim} (ok : LimOk n L) : (∃ ts, Fits n lo hi ts ∧ Meets ts L) ↔ ¬ Bad lo hi L := by
  have := sat_iff B (Ls := [L]) fun M hM => by rw [List.mem_singleton.mp hM]; exact ok
  constructor
  · rintro ⟨ts, f, m⟩
    exact (this.mp ⟨ts, f, fun M hM => by rw [List.mem_singleton.mp hM]; exact m⟩).1 L (List.mem_singleton.mpr rfl)
  · intro h
    obtain ⟨ts, f, m⟩ := this.mpr ⟨fun M hM => by rw [List.mem_singleton.mp hM]; exact h, fun M hM N hN => by
      rw [List.mem_singleton.mp hM, List.mem_singleton.mp hN]
      rintro ⟨x, hx, y, hy, c1, c2⟩
      have := ok.c x hx y hy c1
      omega⟩
    exact ⟨ts, f, m L (List.mem_singleton.mpr rfl)⟩
theorem sat_two {n : Nat} {lo hi : Nat → Nat} (B : Bd n lo hi) {L M : Lim} (ok : LimOk n L) (ok2 : LimOk n M) (h1 : ¬ Bad lo hi L) (h2 : ¬ Bad lo hi M) : (∃ ts, Fits n lo hi ts ∧ Meets ts L ∧ Meets ts M) ↔ ¬ (Beh L M ∨ Beh M L) := by
  have self : ∀ {L : Lim}, LimOk n L → ¬ Beh L L := fun {L} ok => by
    rintro ⟨x, hx, y, hy, c1, c2⟩
    have := ok.c x hx y hy c1
    omega
  have := sat_iff B (Ls := [L, M]) fun N hN => by
    rcases List.mem_cons.mp hN with rfl | hN
    · exact ok
    · rw [List.mem_singleton.mp hN]; exact ok2
  constructor
  · rintro ⟨ts, f, m1, m2⟩
    obtain ⟨_, h⟩ := this.mp ⟨ts, f, fun N hN => by
      rcases List.mem_cons.mp hN with rfl | hN
      · exact m1
      · rw [List.mem_singleton.mp hN]; exact m2⟩
    rintro (q | q)
    · exact h L (by simp) M (by simp) q
    · exact h M (by simp) L (by simp) q
  · intro h
    obtain ⟨ts, f, m⟩ := this.mpr ⟨fun N hN => by
      rcases List.mem_cons.mp hN with rfl | hN
      · exact h1
      · rw [List.mem_singleton.mp hN]; exact h2, fun N hN O hO => by
      rcases List.mem_cons.mp hN with eN | eN
      · rcases List.mem_cons.mp hO with eO | eO
        · rw [eN, eO]; exact self ok
        · rw [eN, List.mem_singleton.mp eO]; exact fun q => h (.inl q)
      · rcases List.mem_cons.mp hO with eO | eO
        · rw [List.mem_singleton.mp eN, eO]; exact fun q => h (.inr q)
        · rw [List.mem_singleton.mp eN, List.mem_singleton.mp eO]; exact self ok2⟩
    exact ⟨ts, f, m L (by simp), m M (by simp)⟩
/-! ### which facts contradict -/
structure Conf (m : Nat) (p1 : Nat → Prop) (p2 : Nat → Nat → Prop) (r : List Nat) : Prop where
  ex : (r = [] ∧ (∀ x, x < m → ¬ p1 x) ∧ ∀ x y, x < y → y < m → ¬ p2 x y) ∨ (∃ x, r = [x] ∧ x < m ∧ p1 x ∧ ∀ z, z < x → ¬ p1 z) ∨
    ∃ x y, r = [x, y] ∧ (∀ z, z < m → ¬ p1 z) ∧ x < y ∧ y < m ∧ p2 x y ∧ ∀ z w, z < w → w < m → (z < x ∨ z = x ∧ w < y) → ¬ p2 z w
theorem Conf.unique {m : Nat} {p1 : Nat → Prop} {p2 : Nat → Nat → Prop} {r s : List Nat} (h : Conf m p1 p2 r) (g : Conf m p1 p2 s) : r = s := by
  obtain ⟨h⟩ := h
  obtain ⟨g⟩ := g
  rcases h with ⟨rfl, a, b⟩ | ⟨x, rfl, a, b, c⟩ | ⟨x, y, rfl, a, b, c, d, e⟩
  · rcases g with ⟨rfl, _, _⟩ | ⟨z, rfl, a2, b2, c2⟩ | ⟨z, w, rfl, a2, b2, c2, d2, e2⟩
    · rfl
    · exact absurd b2 (a z a2)
    · exact absurd d2 (b z w b2 c2)
  · rcases g with ⟨rfl, a2, _⟩ | ⟨z, rfl, a2, b2, c2⟩ | ⟨z, w, rfl, a2, b2, c2, d2, e2⟩
    · exact absurd b (a2 x a)
    · rcases Nat.lt_trichotomy x z with q | q | q
      · exact absurd b (c2 x q)
      · rw [q]
      · exact absurd b2 (c z q)
    · exact absurd b (a2 x a)
  · rcases g with ⟨rfl, a2, b2⟩ | ⟨z, rfl, a2, b2, c2⟩ | ⟨z, w, rfl, a2, b2, c2, d2, e2⟩
    · exact absurd d (b2 x y b c)
    · exact absurd b2 (a z a2)
    · rcases Nat.lt_trichotomy x z with q | q | q
      · exact absurd d (e2 x y b c (.inl q))
      · subst q
        rcases Nat.lt_trichotomy y w with q | q | q
        · exact absurd d (e2 x y b c (.inr ⟨rfl, q⟩))
        · rw [q]
        · exact absurd d2 (e x w b2 c2 (.inr ⟨rfl, q⟩))
      · exact absurd d2 (e z w b2 c2 (.inl q))
theorem Conf.iff {m : Nat} {p1 q1 : Nat → Prop} {p2 q2 : Nat → Nat → Prop} {r : List Nat} (h : Conf m p1 p2 r) (h1 : ∀ x, x < m → (p1 x ↔ q1 x)) (h2 : (∀ x, x < m → ¬ p1 x) → ∀ x y, x < y → y < m → (p2 x y ↔ q2 x y)) : Conf m q1 q2 r := by
  obtain ⟨h⟩ := h
  rcases h with ⟨rfl, a, b⟩ | ⟨x, rfl, a, b, c⟩ | ⟨x, y, rfl, a, b, c, d, e⟩
  · exact ⟨.inl ⟨rfl, fun x hx q => a x hx ((h1 x hx).mpr q), fun x y hx hy q => b x y hx hy ((h2 a x y hx hy).mpr q)⟩⟩
  · exact ⟨.inr (.inl ⟨x, rfl, a, (h1 x a).mp b, fun z hz q => c z hz ((h1 z (by omega)).mpr q)⟩)⟩
  · exact ⟨.inr (.inr ⟨x, y, rfl, fun z hz q => a z hz ((h1 z hz).mpr q), b, c, (h2 a x y b c).mp d, fun z w hz hw k q => e z w hz hw k ((h2 a z w hz hw).mpr q)⟩)⟩
/-- all patterns of a pair -/
structure Every (tk fs : List Int) (ps : List Pat) : Prop where
  nd : tk.Nodup
  perm : fs.Perm tk
  mem : ∀ l, l ∈ ps ↔ Good l ∧ tks l = tk.length ∧ fillsOf tk l = fs
  ne : ps ≠ []
theorem Every.bd {tk fs : List Int} {ps : List Pat} (e : Every tk fs ps) : Bd tk.length (lo tk fs) (hi tk fs) := by
  refine ⟨fun {i j} h => lo_mono tk fs h, fun {i j} h => hi_mono tk fs h, fun {i} h => ?_⟩
  obtain ⟨l, hl⟩ := List.exists_mem_of_ne_nil _ e.ne
  obtain ⟨g, hn, hf⟩ := (e.mem l).mp hl
  obtain ⟨_, _, w⟩ := pair_ok e.nd g hn
  rw [hf] at w
  have ht := List.getElem?_eq_getElem (l := times l) (i := i) (by rw [times_len, g.2]; omega)
  have := w _ _ ht
  omega
theorem Every.noObs {tk fs : List Int} {ps : List Pat} (e : Every tk fs ps) : NoObs tk fs := by
  obtain ⟨l, hl⟩ := List.exists_mem_of_ne_nil _ e.ne
  obtain ⟨g, hn, hf⟩ := (e.mem l).mp hl
  obtain ⟨_, w, _⟩ := pair_ok e.nd g hn
  rwa [hf] at w
theorem Every.fits {tk fs : List Int} {ps : List Pat} (e : Every tk fs ps) {l : Pat} (hl : l ∈ ps) : Fits tk.length (lo tk fs) (hi tk fs) (times l) := by
  obtain ⟨g, hn, hf⟩ := (e.mem l).mp hl
  obtain ⟨_, _, w⟩ := pair_ok e.nd g hn
  rw [hf] at w
  exact ⟨by rw [times_len, g.2, hn], (times_all g.1).2, w⟩
theorem Every.sat {tk fs : List Int} {ps : List Pat} (e : Every tk fs ps) {F : List Fact} (ok : ∀ f ∈ F, f.ok tk.length) : (∃ l ∈ ps, ∀ f ∈ F, holds l f = true) ↔ ∃ ts, Fits tk.length (lo tk fs) (hi tk fs) ts ∧ ∀ f ∈ F, Meets ts (lim tk.length f) := by
  constructor
  · rintro ⟨l, hl, h⟩
    obtain ⟨g, hn, hf⟩ := (e.mem l).mp hl
    exact ⟨times l, e.fits hl, fun f hf => (holds_lim g hn (ok f hf)).mp (h f hf)⟩
  · rintro ⟨ts, ⟨len, mono, bd⟩, h⟩
    obtain ⟨w1, w2, w3, w4, _⟩ := wrote_leads e.nd e.perm mono (by rw [e.perm.length_eq, len]) bd
    refine ⟨wrote ts, (e.mem _).mpr ⟨w1, w2, w3⟩, fun f hf => (holds_lim w1 w2 (ok f hf)).mpr ?_⟩
    rw [w4]; exact h f hf
/-- one fact against the pair; two facts against each other -/
def One (tk fs : List Int) (F : List Fact) (x : Nat) : Prop := ∃ f, F[x]? = some f ∧ Bad (lo tk fs) (hi tk fs) (lim tk.length f)
def Two (tk : List Int) (F : List Fact) (x y : Nat) : Prop := ∃ f g, F[x]? = some f ∧ F[y]? = some g ∧ (Beh (lim tk.length f) (lim tk.length g) ∨ Beh (lim tk.length g) (lim tk.length f))
def OneP (ps : List Pat) (F : List Fact) (x : Nat) : Prop := ∃ f, F[x]? = some f ∧ ∀ l ∈ ps, holds l f = false
def TwoP (ps : List Pat) (F : List Fact) (x y : Nat) : Prop := ∃ f g, F[x]? = some f ∧ F[y]? = some g ∧ ∀ l ∈ ps, ¬ (holds l f = true ∧ holds l g = true)
theorem Every.one {tk fs : List Int} {ps : List Pat} (e : Every tk fs ps) {F : List Fact} (ok : ∀ f ∈ F, f.ok tk.length) {x : Nat} : One tk fs F x ↔ OneP ps F x := by
  have key : ∀ f ∈ F, (Bad (lo tk fs) (hi tk fs) (lim tk.length f) ↔ ∀ l ∈ ps, holds l f = false) := fun f hf => by
    have h1 := sat_one e.bd (lim_ok (ok f hf))
    have h2 := e.sat (F := [f]) fun g hg => by rw [List.mem_singleton.mp hg]; exact ok f hf
    constructor
    · intro b l hl
      cases q : holds l f with
      | false => rfl
      | true =>
        obtain ⟨ts, a, c⟩ := h2.mp ⟨l, hl, fun g hg => by rw [List.mem_singleton.mp hg]; exact q⟩
        exact absurd b (h1.mp ⟨ts, a, c f (List.mem_singleton.mpr rfl)⟩)
    · intro n
      refine Classical.byContradiction fun b => ?_
      obtain ⟨ts, a, c⟩ := h1.mpr b
      obtain ⟨l, hl, d⟩ := h2.mpr ⟨ts, a, fun g hg => by rw [List.mem_singleton.mp hg]; exact c⟩
      have := d f (List.mem_singleton.mpr rfl)
      rw [n l hl] at this; cases this
  constructor
  · rintro ⟨f, h, b⟩; exact ⟨f, h, (key f (List.mem_of_getElem? h)).mp b⟩
  · rintro ⟨f, h, b⟩; exact ⟨f, h, (key f (List.mem_of_getElem? h)).mpr b⟩
theorem Every.two {tk fs : List Int} {ps : List Pat} (e : Every tk fs ps) {F : List Fact} (ok : ∀ f ∈ F, f.ok tk.length) (no : ∀ x, x < F.length → ¬ One tk fs F x) {x y : Nat} (hx : x < y) (hy : y < F.length) : Two tk F x y ↔ TwoP ps F x y := by
  have ex := List.getElem?_eq_getElem (l := F) (i := x) (by omega)
  have ey := List.getElem?_eq_getElem (l := F) (i := y) hy
  generalize F[x]'(by omega) = f at ex
  generalize F[y]'hy = g at ey
  have of := ok f (List.mem_of_getElem? ex)
  have og := ok g (List.mem_of_getElem? ey)
  have bf : ¬ Bad (lo tk fs) (hi tk fs) (lim tk.length f) := fun b => no x (by omega) ⟨f, ex, b⟩
  have bg : ¬ Bad (lo tk fs) (hi tk fs) (lim tk.length g) := fun b => no y hy ⟨g, ey, b⟩
  have h1 := sat_two e.bd (lim_ok of) (lim_ok og) bf bg
  have h2 := e.sat (F := [f, g]) fun u hu => by
    rcases List.mem_cons.mp hu with rfl | hu
    · exact of
    · rw [List.mem_singleton.mp hu]; exact og
  constructor
  · rintro ⟨f', g', e1, e2, b⟩
    rw [ex] at e1; rw [ey] at e2
    cases e1; cases e2
    refine ⟨f, g, ex, ey, fun l hl q => ?_⟩
    obtain ⟨ts, a, c⟩ := h2.mp ⟨l, hl, fun u hu => by
      rcases List.mem_cons.mp hu with rfl | hu
      · exact q.1
      · rw [List.mem_singleton.mp hu]; exact q.2⟩
    exact absurd b (h1.mp ⟨ts, a, c f (by simp), c g (by simp)⟩)
  · rintro ⟨f', g', e1, e2, b⟩
    rw [ex] at e1; rw [ey] at e2
    cases e1; cases e2
    refine ⟨f, g, ex, ey, Classical.byContradiction fun z => ?_⟩
    obtain ⟨ts, a, c, d⟩ := h1.mpr z
    obtain ⟨l, hl, q⟩ := h2.mpr ⟨ts, a, fun u hu => by
      rcases List.mem_cons.mp hu with rfl | hu
      · exact c
      · rw [List.mem_singleton.mp hu]; exact d⟩
    exact b l hl ⟨q f (by simp), q g (by simp)⟩
theorem Every.conf {tk fs : List Int} {ps : List Pat} (e : Every tk fs ps) {F : List Fact} (ok : ∀ f ∈ F, f.ok tk.length) {r s : List Nat} (h : Conf F.length (One tk fs F) (Two tk F) r) (g : Conf F.length (OneP ps F) (TwoP ps F) s) : r = s :=
  (h.iff (fun x _ => e.one ok) (fun no x y hx hy => e.two ok no hx hy)).unique g
/-- no contradiction is found if and only if some pattern satisfies all facts -/
theorem Every.none {tk fs : List Int} {ps : List Pat} (e : Every tk fs ps) {F : List Fact} (ok : ∀ f ∈ F, f.ok tk.length) {r : List Nat} (h : Conf F.length (One tk fs F) (Two tk F) r) : r = [] ↔ ∃ l ∈ ps, ∀ f ∈ F, holds l f = true := by
  rw [e.sat ok]
  have hs := sat_iff e.bd (Ls := F.map (lim tk.length)) fun L hL => by
    obtain ⟨f, hf, rfl⟩ := List.mem_map.mp hL
    exact lim_ok (ok f hf)
  have e1 : (∃ ts, Fits tk.length (lo tk fs) (hi tk fs) ts ∧ ∀ f ∈ F, Meets ts (lim tk.length f)) ↔ ∃ ts, Fits tk.length (lo tk fs) (hi tk fs) ts ∧ ∀ L ∈ F.map (lim tk.length), Meets ts L := by
    constructor
    · rintro ⟨ts, a, b⟩
      exact ⟨ts, a, fun L hL => by obtain ⟨f, hf, rfl⟩ := List.mem_map.mp hL; exact b f hf⟩
    · rintro ⟨ts, a, b⟩
      exact ⟨ts, a, fun f hf => b _ (List.mem_map.mpr ⟨f, hf, rfl⟩)⟩
  rw [e1, hs]
  obtain ⟨h⟩ := h
  constructor
  · rintro rfl
    rcases h with ⟨_, a, b⟩ | ⟨x, q, _⟩ | ⟨x, y, q, _⟩
    · refine ⟨fun L hL => ?_, fun L hL M hM => ?_⟩
      · obtain ⟨f, hf, rfl⟩ := List.mem_map.mp hL
        obtain ⟨i, hi⟩ := List.mem_iff_getElem?.mp hf
        exact fun c => a i (List.getElem?_eq_some_iff.mp hi).1 ⟨f, hi, c⟩
      · obtain ⟨f, hf, rfl⟩ := List.mem_map.mp hL
        obtain ⟨g, hg, rfl⟩ := List.mem_map.mp hM
        obtain ⟨i, hi⟩ := List.mem_iff_getElem?.mp hf
        obtain ⟨j, hj⟩ := List.mem_iff_getElem?.mp hg
        intro c
        rcases Nat.lt_trichotomy i j with q | q | q
        · exact b i j q (List.getElem?_eq_some_iff.mp hj).1 ⟨f, g, hi, hj, .inl c⟩
        · subst q
          rw [hi] at hj; cases hj
          obtain ⟨x, hx, y, hy, c1, c2⟩ := c
          have := (lim_ok (ok f hf)).c x hx y hy c1
          omega
        · exact b j i q (List.getElem?_eq_some_iff.mp hi).1 ⟨g, f, hj, hi, .inr c⟩
    · cases q
    · cases q
  · rintro ⟨a, b⟩
    rcases h with ⟨q, _, _⟩ | ⟨x, q, h1, ⟨f, h2, h3⟩, _⟩ | ⟨x, y, q, _, h1, h2, ⟨f, g, h3, h4, h5⟩, _⟩
    · exact q
    · exact absurd h3 (a _ (List.mem_map.mpr ⟨f, List.mem_of_getElem? h2, rfl⟩))
    · have mf : lim tk.length f ∈ F.map (lim tk.length) := List.mem_map.mpr ⟨f, List.mem_of_getElem? h3, rfl⟩
      have mg : lim tk.length g ∈ F.map (lim tk.length) := List.mem_map.mpr ⟨g, List.mem_of_getElem? h4, rfl⟩
      rcases h5 with z | z
      · exact absurd z (b _ mf _ mg)
      · exact absurd z (b _ mg _ mf)
end LQ

namespace LQ
/-! ### narrowed bounds -/
def upp (hi : Nat → Nat) (xs : List (Nat × Nat)) (j : Nat) : Nat := xs.foldl (fun m x => if j ≤ x.1 then min m x.2 else m) (hi j)
theorem upp_ok (xs : List (Nat × Nat)) (j : Nat) : ∀ m0 : Nat, (xs.foldl (fun m x => if j ≤ x.1 then min m x.2 else m) m0 = m0 ∨ ∃ x ∈ xs, j ≤ x.1 ∧ xs.foldl (fun m x => if j ≤ x.1 then min m x.2 else m) m0 = x.2) ∧ xs.foldl (fun m x => if j ≤ x.1 then min m x.2 else m) m0 ≤ m0 ∧ ∀ x ∈ xs, j ≤ x.1 → xs.foldl (fun m x => if j ≤ x.1 then min m x.2 else m) m0 ≤ x.2 := by
  induction xs with
  | nil => intro m0; exact ⟨.inl rfl, Nat.le_refl _, fun x hx => (by cases hx)⟩
  | cons a r ih =>
    intro m0
    rw [List.foldl_cons]
    by_cases c : j ≤ a.1
    · rw [if_pos c]
      obtain ⟨h1, h2, h3⟩ := ih (min m0 a.2)
      refine ⟨?_, by omega, fun x hx hj => ?_⟩
      · rcases h1 with q | ⟨x, hx, hj, q⟩
        · rw [q]
          rcases Nat.le_total m0 a.2 with z | z
          · rw [Nat.min_eq_left z]; exact .inl rfl
          · rw [Nat.min_eq_right z]; exact .inr ⟨a, List.mem_cons_self, c, rfl⟩
        · exact .inr ⟨x, List.mem_cons_of_mem _ hx, hj, q⟩
      · rcases List.mem_cons.mp hx with rfl | hx
        · omega
        · exact h3 x hx hj
    · rw [if_neg c]
      obtain ⟨h1, h2, h3⟩ := ih m0
      refine ⟨h1.imp id fun ⟨x, hx, q⟩ => ⟨x, List.mem_cons_of_mem _ hx, q⟩, h2, fun x hx hj => ?_⟩
      rcases List.mem_cons.mp hx with rfl | hx
      · exact absurd hj c
      · exact h3 x hx hj
theorem upp_mono {hi : Nat → Nat} (hm : ∀ {i j}, i ≤ j → hi i ≤ hi j) (xs : List (Nat × Nat)) {i j : Nat} (h : i ≤ j) : upp hi xs i ≤ upp hi xs j := by
  obtain ⟨a1, a2, a3⟩ := upp_ok xs i (hi i)
  obtain ⟨b1, b2, b3⟩ := upp_ok xs j (hi j)
  unfold upp
  rcases b1 with q | ⟨x, hx, hj, q⟩
  · rw [q]; exact Nat.le_trans a2 (hm h)
  · rw [q]; exact a3 x hx (by omega)
def mosts (Ls : List Lim) : List (Nat × Nat) := Ls.flatMap fun L => L.2
abbrev nlo (lo : Nat → Nat) (Ls : List Lim) : Nat → Nat := low lo (leasts Ls)
abbrev nhi (hi : Nat → Nat) (Ls : List Lim) : Nat → Nat := upp hi (mosts Ls)
theorem narrow_iff {n : Nat} {lo hi : Nat → Nat} {Ls : List Lim} (ok : ∀ L ∈ Ls, LimOk n L) {ts : List Nat} :
    (Fits n lo hi ts ∧ ∀ L ∈ Ls, Meets ts L) ↔ Fits n (nlo lo Ls) (nhi hi Ls) ts := by
  have m1 : ∀ {x}, x ∈ leasts Ls ↔ ∃ L ∈ Ls, x ∈ L.1 := fun {x} => List.mem_flatMap
  have m2 : ∀ {x}, x ∈ mosts Ls ↔ ∃ L ∈ Ls, x ∈ L.2 := fun {x} => List.mem_flatMap
  constructor
  · rintro ⟨⟨len, mono, bd⟩, m⟩
    refine ⟨len, mono, fun j t e => ?_⟩
    obtain ⟨b1, b2⟩ := bd j t e
    refine ⟨?_, ?_⟩
    · rcases (low_ok (leasts Ls) j (lo j)).1 with q | ⟨x, hx, hj, q⟩
      · show low lo (leasts Ls) j ≤ t
        unfold low; rw [q]; exact b1
      · obtain ⟨L, hL, hx⟩ := m1.mp hx
        obtain ⟨u, hu, q2⟩ := (m L hL).1 x hx
        have := mono_at mono hj hu e
        show low lo (leasts Ls) j ≤ t
        unfold low; rw [q]; omega
    · rcases (upp_ok (mosts Ls) j (hi j)).1 with q | ⟨x, hx, hj, q⟩
      · show t ≤ upp hi (mosts Ls) j
        unfold upp; rw [q]; exact b2
      · obtain ⟨L, hL, hx⟩ := m2.mp hx
        obtain ⟨u, hu, q2⟩ := (m L hL).2 x hx
        have := mono_at mono hj e hu
        show t ≤ upp hi (mosts Ls) j
        unfold upp; rw [q]; omega
  · rintro ⟨len, mono, bd⟩
    refine ⟨⟨len, mono, fun j t e => ?_⟩, fun L hL => ⟨fun x hx => ?_, fun x hx => ?_⟩⟩
    · obtain ⟨b1, b2⟩ := bd j t e
      exact ⟨Nat.le_trans (low_ok (leasts Ls) j (lo j)).2.1 b1, Nat.le_trans b2 (upp_ok (mosts Ls) j (hi j)).2.1⟩
    · have h1 := (ok L hL).a x hx
      have e := List.getElem?_eq_getElem (l := ts) (i := x.1) (by omega)
      exact ⟨_, e, Nat.le_trans ((low_ok (leasts Ls) x.1 (lo x.1)).2.2 x (m1.mpr ⟨L, hL, hx⟩) (Nat.le_refl _)) (bd _ _ e).1⟩
    · have h1 := (ok L hL).b x hx
      have e := List.getElem?_eq_getElem (l := ts) (i := x.1) (by omega)
      exact ⟨_, e, Nat.le_trans (bd _ _ e).2 ((upp_ok (mosts Ls) x.1 (hi x.1)).2.2 x (m2.mpr ⟨L, hL, hx⟩) (Nat.le_refl _))⟩
/-- bounds that never fall -/
structure Mn (n : Nat) (lo hi : Nat → Nat) : Prop where
  lm : ∀ {i j}, i ≤ j → lo i ≤ lo j
  hm : ∀ {i j}, i ≤ j → hi i ≤ hi j
theorem Bd.mn {n : Nat} {lo hi : Nat → Nat} (B : Bd n lo hi) (Ls : List Lim) : Mn n (nlo lo Ls) (nhi hi Ls) := ⟨fun h => low_mono (fun {i j} => B.lm) _ h, fun h => upp_mono (fun {i j} => B.hm) _ h⟩
theorem at_range {α : Type} {f : Nat → α} {n j : Nat} {t : α} (e : ((List.range n).map f)[j]? = some t) : j < n ∧ t = f j := by
  rw [List.getElem?_map] at e
  cases q : (List.range n)[j]? with
  | none => rw [q] at e; cases e
  | some i =>
    rw [q] at e
    obtain ⟨h1, h2⟩ := List.getElem?_eq_some_iff.mp q
    rw [List.length_range] at h1
    rw [List.getElem_range] at h2
    subst h2
    cases e
    exact ⟨h1, rfl⟩
theorem range_at {f : Nat → Nat} {n j : Nat} (h : j < n) : ((List.range n).map f)[j]? = some (f j) := by
  rw [List.getElem?_map, List.getElem?_range h]; rfl
theorem fits_of {n : Nat} {lo hi f : Nat → Nat} (fm : ∀ {i j}, i ≤ j → f i ≤ f j) (h : ∀ j, j < n → lo j ≤ f j ∧ f j ≤ hi j) : Fits n lo hi ((List.range n).map f) := by
  refine ⟨by rw [List.length_map, List.length_range], ?_, fun j t e => ?_⟩
  · rw [List.pairwise_map]
    exact List.Pairwise.imp (fun h => fm (Nat.le_of_lt h)) List.pairwise_lt_range
  · obtain ⟨h1, rfl⟩ := at_range e
    exact h j h1
theorem met_iff {n : Nat} {lo hi : Nat → Nat} (M : Mn n lo hi) : (∃ ts, Fits n lo hi ts) ↔ ∀ j, j < n → lo j ≤ hi j := by
  constructor
  · rintro ⟨ts, len, _, bd⟩ j hj
    have e := List.getElem?_eq_getElem (l := ts) (i := j) (by omega)
    have := bd _ _ e
    omega
  · exact fun h => ⟨_, fits_of M.lm fun j hj => ⟨Nat.le_refl _, h j hj⟩⟩
/-- what is implied: by the least and the greatest times -/
theorem imp_iff {n : Nat} {lo hi : Nat → Nat} (M : Mn n lo hi) (sat : ∀ j, j < n → lo j ≤ hi j) {L : Lim} (ok : LimOk n L) :
    (∀ ts, Fits n lo hi ts → Meets ts L) ↔ (∀ x ∈ L.1, x.2 ≤ lo x.1) ∧ ∀ x ∈ L.2, hi x.1 ≤ x.2 := by
  constructor
  · intro h
    refine ⟨fun x hx => ?_, fun x hx => ?_⟩
    · obtain ⟨t, e, q⟩ := (h _ (fits_of (f := lo) M.lm fun j hj => ⟨Nat.le_refl _, sat j hj⟩)).1 x hx
      obtain ⟨_, rfl⟩ := at_range e
      exact q
    · obtain ⟨t, e, q⟩ := (h _ (fits_of (f := hi) M.hm fun j hj => ⟨sat j hj, Nat.le_refl _⟩)).2 x hx
      obtain ⟨_, rfl⟩ := at_range e
      exact q
  · rintro ⟨h1, h2⟩ ts ⟨len, mono, bd⟩
    refine ⟨fun x hx => ?_, fun x hx => ?_⟩
    · have := ok.a x hx
      have e := List.getElem?_eq_getElem (l := ts) (i := x.1) (by omega)
      exact ⟨_, e, Nat.le_trans (h1 x hx) (bd _ _ e).1⟩
    · have := ok.b x hx
      have e := List.getElem?_eq_getElem (l := ts) (i := x.1) (by omega)
      exact ⟨_, e, Nat.le_trans (bd _ _ e).2 (h2 x hx)⟩
/-- each time between occurs -/
theorem fits_at {n : Nat} {lo hi : Nat → Nat} (M : Mn n lo hi) (sat : ∀ j, j < n → lo j ≤ hi j) {j v : Nat} (hj : j < n) (h1 : lo j ≤ v) (h2 : v ≤ hi j) : ∃ ts, Fits n lo hi ts ∧ ts[j]? = some v := by
  refine ⟨_, fits_of (f := fun k => max (lo k) (min v (hi k))) (fun {a b} h => ?_) fun k hk => ?_, ?_⟩
  · have := M.lm h
    have := M.hm h
    show max (lo a) (min v (hi a)) ≤ max (lo b) (min v (hi b))
    omega
  · have := sat k hk
    omega
  · rw [range_at hj]
    congr 1
    show max (lo j) (min v (hi j)) = v
    omega
/-- a pattern satisfies all facts if and only if its times keep the narrowed bounds -/
theorem Every.fit {tk fs : List Int} {ps : List Pat} (e : Every tk fs ps) {F : List Fact} (ok : ∀ f ∈ F, f.ok tk.length) {l : Pat} (hl : l ∈ ps) :
    (∀ f ∈ F, holds l f = true) ↔ Fits tk.length (nlo (lo tk fs) (F.map (lim tk.length))) (nhi (hi tk fs) (F.map (lim tk.length))) (times l) := by
  obtain ⟨g, hn, hf⟩ := (e.mem l).mp hl
  have h := narrow_iff (n := tk.length) (lo := lo tk fs) (hi := hi tk fs) (Ls := F.map (lim tk.length)) (ts := times l) fun L hL => by
    obtain ⟨f, hf, rfl⟩ := List.mem_map.mp hL
    exact lim_ok (ok f hf)
  rw [← h]
  constructor
  · intro a
    refine ⟨e.fits hl, fun L hL => ?_⟩
    obtain ⟨f, hf, rfl⟩ := List.mem_map.mp hL
    exact (holds_lim g hn (ok f hf)).mp (a f hf)
  · rintro ⟨_, a⟩ f hf
    exact (holds_lim g hn (ok f hf)).mpr (a _ (List.mem_map.mpr ⟨f, hf, rfl⟩))
/-- each list of times within the narrowed bounds is that of a pattern -/
theorem Every.of_fit {tk fs : List Int} {ps : List Pat} (e : Every tk fs ps) {F : List Fact} (ok : ∀ f ∈ F, f.ok tk.length) {ts : List Nat}
    (h : Fits tk.length (nlo (lo tk fs) (F.map (lim tk.length))) (nhi (hi tk fs) (F.map (lim tk.length))) ts) : ∃ l ∈ ps, times l = ts ∧ ∀ f ∈ F, holds l f = true := by
  have h2 := (narrow_iff (n := tk.length) (lo := lo tk fs) (hi := hi tk fs) (Ls := F.map (lim tk.length)) (ts := ts) fun L hL => by
    obtain ⟨f, hf, rfl⟩ := List.mem_map.mp hL
    exact lim_ok (ok f hf)).mpr h
  obtain ⟨⟨len, mono, bd⟩, m⟩ := h2
  obtain ⟨w1, w2, w3, w4, _⟩ := wrote_leads e.nd e.perm mono (by rw [e.perm.length_eq, len]) bd
  have hl := (e.mem (wrote ts)).mpr ⟨w1, w2, w3⟩
  exact ⟨_, hl, w4, (e.fit ok hl).mpr (by rw [w4]; exact h)⟩
/-- a fact is implied -/
theorem Every.imp {tk fs : List Int} {ps : List Pat} (e : Every tk fs ps) {F : List Fact} (ok : ∀ f ∈ F, f.ok tk.length) {g : Fact} (okg : g.ok tk.length) (sat : ∀ j, j < tk.length → nlo (lo tk fs) (F.map (lim tk.length)) j ≤ nhi (hi tk fs) (F.map (lim tk.length)) j) :
    (∀ l ∈ ps, (∀ f ∈ F, holds l f = true) → holds l g = true) ↔ (∀ x ∈ (lim tk.length g).1, x.2 ≤ nlo (lo tk fs) (F.map (lim tk.length)) x.1) ∧ ∀ x ∈ (lim tk.length g).2, nhi (hi tk fs) (F.map (lim tk.length)) x.1 ≤ x.2 := by
  rw [← imp_iff (e.bd.mn _) sat (lim_ok okg)]
  constructor
  · intro h ts ht
    obtain ⟨l, hl, rfl, a⟩ := e.of_fit ok ht
    obtain ⟨gd, hn, _⟩ := (e.mem l).mp hl
    exact (holds_lim gd hn okg).mp (h l hl a)
  · intro h l hl a
    obtain ⟨gd, hn, _⟩ := (e.mem l).mp hl
    exact (holds_lim gd hn okg).mpr (h _ ((e.fit ok hl).mp a))
theorem Every.sat_iff {tk fs : List Int} {ps : List Pat} (e : Every tk fs ps) {F : List Fact} (ok : ∀ f ∈ F, f.ok tk.length) :
    (∃ l ∈ ps, ∀ f ∈ F, holds l f = true) ↔ ∀ j, j < tk.length → nlo (lo tk fs) (F.map (lim tk.length)) j ≤ nhi (hi tk fs) (F.map (lim tk.length)) j := by
  rw [← met_iff (e.bd.mn _)]
  constructor
  · rintro ⟨l, hl, a⟩; exact ⟨_, (e.fit ok hl).mp a⟩
  · rintro ⟨ts, h⟩
    obtain ⟨l, hl, _, a⟩ := e.of_fit ok h
    exact ⟨l, hl, a⟩
/-! ### the bounds as the program narrows them -/
def ptl (lo : Nat → Nat) (xs : List (Nat × Nat)) (j : Nat) : Nat := xs.foldl (fun m x => if x.1 = j then max m x.2 else m) (lo j)
def ptu (hi : Nat → Nat) (xs : List (Nat × Nat)) (j : Nat) : Nat := xs.foldl (fun m x => if x.1 = j then min m x.2 else m) (hi j)
theorem ptl_snoc (lo : Nat → Nat) (xs : List (Nat × Nat)) (x : Nat × Nat) (j : Nat) : ptl lo (xs ++ [x]) j = if x.1 = j then max (ptl lo xs j) x.2 else ptl lo xs j := by
  unfold ptl; rw [List.foldl_append]; rfl
theorem ptu_snoc (hi : Nat → Nat) (xs : List (Nat × Nat)) (x : Nat × Nat) (j : Nat) : ptu hi (xs ++ [x]) j = if x.1 = j then min (ptu hi xs j) x.2 else ptu hi xs j := by
  unfold ptu; rw [List.foldl_append]; rfl
theorem ptl_ok (xs : List (Nat × Nat)) (j : Nat) : ∀ m0 : Nat, (xs.foldl (fun m x => if x.1 = j then max m x.2 else m) m0 = m0 ∨ ∃ x ∈ xs, x.1 = j ∧ xs.foldl (fun m x => if x.1 = j then max m x.2 else m) m0 = x.2) ∧ m0 ≤ xs.foldl (fun m x => if x.1 = j then max m x.2 else m) m0 ∧ ∀ x ∈ xs, x.1 = j → x.2 ≤ xs.foldl (fun m x => if x.1 = j then max m x.2 else m) m0 := by
  induction xs with
  | nil => intro m0; exact ⟨.inl rfl, Nat.le_refl _, fun x hx => (by cases hx)⟩
  | cons a r ih =>
    intro m0
    rw [List.foldl_cons]
    by_cases c : a.1 = j
    · rw [if_pos c]
      obtain ⟨h1, h2, h3⟩ := ih (max m0 a.2)
      refine ⟨?_, by omega, fun x hx hj => ?_⟩
      · rcases h1 with q | ⟨x, hx, hj, q⟩
        · rw [q]
          rcases Nat.le_total m0 a.2 with z | z
          · rw [Nat.max_eq_right z]; exact .inr ⟨a, List.mem_cons_self, c, rfl⟩
          · rw [Nat.max_eq_left z]; exact .inl rfl
        · exact .inr ⟨x, List.mem_cons_of_mem _ hx, hj, q⟩
      · rcases List.mem_cons.mp hx with rfl | hx
        · omega
        · exact h3 x hx hj
    · rw [if_neg c]
      obtain ⟨h1, h2, h3⟩ := ih m0
      refine ⟨h1.imp id fun ⟨x, hx, q⟩ => ⟨x, List.mem_cons_of_mem _ hx, q⟩, h2, fun x hx hj => ?_⟩
      rcases List.mem_cons.mp hx with rfl | hx
      · exact absurd hj c
      · exact h3 x hx hj
theorem ptu_ok (xs : List (Nat × Nat)) (j : Nat) : ∀ m0 : Nat, (xs.foldl (fun m x => if x.1 = j then min m x.2 else m) m0 = m0 ∨ ∃ x ∈ xs, x.1 = j ∧ xs.foldl (fun m x => if x.1 = j then min m x.2 else m) m0 = x.2) ∧ xs.foldl (fun m x => if x.1 = j then min m x.2 else m) m0 ≤ m0 ∧ ∀ x ∈ xs, x.1 = j → xs.foldl (fun m x => if x.1 = j then min m x.2 else m) m0 ≤ x.2 := by
  induction xs with
  | nil => intro m0; exact ⟨.inl rfl, Nat.le_refl _, fun x hx => (by cases hx)⟩
  | cons a r ih =>
    intro m0
    rw [List.foldl_cons]
    by_cases c : a.1 = j
    · rw [if_pos c]
      obtain ⟨h1, h2, h3⟩ := ih (min m0 a.2)
      refine ⟨?_, by omega, fun x hx hj => ?_⟩
      · rcases h1 with q | ⟨x, hx, hj, q⟩
        · rw [q]
          rcases Nat.le_total m0 a.2 with z | z
          · rw [Nat.min_eq_left z]; exact .inl rfl
          · rw [Nat.min_eq_right z]; exact .inr ⟨a, List.mem_cons_self, c, rfl⟩
        · exact .inr ⟨x, List.mem_cons_of_mem _ hx, hj, q⟩
      · rcases List.mem_cons.mp hx with rfl | hx
        · omega
        · exact h3 x hx hj
    · rw [if_neg c]
      obtain ⟨h1, h2, h3⟩ := ih m0
      refine ⟨h1.imp id fun ⟨x, hx, q⟩ => ⟨x, List.mem_cons_of_mem _ hx, q⟩, h2, fun x hx hj => ?_⟩
      rcases List.mem_cons.mp hx with rfl | hx
      · exact absurd hj c
      · exact h3 x hx hj
theorem low_zero (lo : Nat → Nat) (xs : List (Nat × Nat)) : low lo xs 0 = ptl lo xs 0 := by
  unfold low ptl
  congr 1
  funext m x
  by_cases c : x.1 = 0
  · rw [if_pos c, if_pos (by omega)]
  · rw [if_neg c, if_neg (by omega)]
theorem low_succ {lo : Nat → Nat} (lm : ∀ {i j}, i ≤ j → lo i ≤ lo j) (xs : List (Nat × Nat)) (j : Nat) : low lo xs (j + 1) = max (ptl lo xs (j + 1)) (low lo xs j) := by
  have m : low lo xs j ≤ low lo xs (j + 1) := low_mono (fun {i j} => lm) xs (Nat.le_succ j)
  obtain ⟨a1, a2, a3⟩ := low_ok xs (j + 1) (lo (j + 1))
  obtain ⟨b1, b2, b3⟩ := ptl_ok xs (j + 1) (lo (j + 1))
  obtain ⟨c1, c2, c3⟩ := low_ok xs j (lo j)
  have h1 : ptl lo xs (j + 1) ≤ low lo xs (j + 1) := by
    unfold ptl low
    rcases b1 with q | ⟨x, hx, hj, q⟩
    · rw [q]; exact a2
    · rw [q]; exact a3 x hx (by omega)
  have h2 : low lo xs (j + 1) ≤ max (ptl lo xs (j + 1)) (low lo xs j) := by
    rcases a1 with q | ⟨x, hx, hj, q⟩
    · have : low lo xs (j + 1) ≤ ptl lo xs (j + 1) := by unfold low ptl; rw [q]; exact b2
      omega
    · by_cases c : x.1 = j + 1
      · have : low lo xs (j + 1) ≤ ptl lo xs (j + 1) := by unfold low ptl; rw [q]; exact b3 x hx c
        omega
      · have : low lo xs (j + 1) ≤ low lo xs j := by unfold low; rw [q]; exact c3 x hx (by omega)
        omega
  omega
theorem upp_last {n : Nat} (hi : Nat → Nat) {xs : List (Nat × Nat)} (h : ∀ x ∈ xs, x.1 < n) : upp hi xs (n - 1) = ptu hi xs (n - 1) := by
  unfold upp ptu
  induction xs generalizing hi with
  | nil => rfl
  | cons a r ih =>
    have ha := h a List.mem_cons_self
    rw [List.foldl_cons, List.foldl_cons]
    have e : (if n - 1 ≤ a.1 then min (hi (n - 1)) a.2 else hi (n - 1)) = if a.1 = n - 1 then min (hi (n - 1)) a.2 else hi (n - 1) := by
      by_cases c : a.1 = n - 1
      · rw [if_pos c, if_pos (by omega)]
      · rw [if_neg c, if_neg (by omega)]
    rw [e]
    exact ih (fun _ => if a.1 = n - 1 then min (hi (n - 1)) a.2 else hi (n - 1)) fun x hx => h x (List.mem_cons_of_mem _ hx)
theorem upp_pred {hi : Nat → Nat} (hm : ∀ {i j}, i ≤ j → hi i ≤ hi j) (xs : List (Nat × Nat)) (j : Nat) : upp hi xs j = min (ptu hi xs j) (upp hi xs (j + 1)) := by
  have m : upp hi xs j ≤ upp hi xs (j + 1) := upp_mono (fun {i j} => hm) xs (Nat.le_succ j)
  obtain ⟨a1, a2, a3⟩ := upp_ok xs j (hi j)
  obtain ⟨b1, b2, b3⟩ := ptu_ok xs j (hi j)
  obtain ⟨c1, c2, c3⟩ := upp_ok xs (j + 1) (hi (j + 1))
  have h1 : upp hi xs j ≤ ptu hi xs j := by
    unfold ptu upp
    rcases b1 with q | ⟨x, hx, hj, q⟩
    · rw [q]; exact a2
    · rw [q]; exact a3 x hx (by omega)
  have h2 : min (ptu hi xs j) (upp hi xs (j + 1)) ≤ upp hi xs j := by
    rcases a1 with q | ⟨x, hx, hj, q⟩
    · have : ptu hi xs j ≤ upp hi xs j := by unfold upp ptu; rw [q]; exact b2
      omega
    · by_cases c : x.1 = j
      · have : ptu hi xs j ≤ upp hi xs j := by unfold upp ptu; rw [q]; exact b3 x hx c
        omega
      · have : upp hi xs (j + 1) ≤ upp hi xs j := by unfold upp; rw [q]; exact c3 x hx (by omega)
        omega
  omega
theorem leasts_snoc (Ls : List Lim) (L : Lim) : leasts (Ls ++ [L]) = leasts Ls ++ L.1 := by unfold leasts; rw [List.flatMap_append, List.flatMap_singleton]
theorem mosts_snoc (Ls : List Lim) (L : Lim) : mosts (Ls ++ [L]) = mosts Ls ++ L.2 := by unfold mosts; rw [List.flatMap_append, List.flatMap_singleton]
end LQ

/-! binary heaps in lists: the mathematics -/
namespace LH
def IsH (ns : List Int) : Prop := ∀ (i : Nat) (x y : Int), 0 < i → ns[i]? = some x → ns[(i - 1) / 2]? = some y → y ≤ x
def Gr (ns : List Int) (p : Nat) : Prop := ∀ (i : Nat) (x y : Int), 0 < i → 0 < p → (i - 1) / 2 = p → ns[i]? = some x → ns[(p - 1) / 2]? = some y → y ≤ x
def Up (ns : List Int) (p : Nat) : Prop := (∀ (i : Nat) (x y : Int), 0 < i → i ≠ p → ns[i]? = some x → ns[(i - 1) / 2]? = some y → y ≤ x) ∧ Gr ns p
def Dn (ns : List Int) (p : Nat) : Prop := (∀ (i : Nat) (x y : Int), 0 < i → i ≠ p → (i - 1) / 2 ≠ p → ns[i]? = some x → ns[(i - 1) / 2]? = some y → y ≤ x) ∧ Gr ns p
def sw (ns : List Int) (i j : Nat) (x y : Int) : List Int := (ns.set i y).set j x
theorem sw_get {ns : List Int} {i j k : Nat} {x y : Int} (hi : ns[i]? = some x) (hj : ns[j]? = some y) : (sw ns i j x y)[k]? = if k = j then some x else if k = i then some y else ns[k]? := by
  have h1 := (List.getElem?_eq_some_iff.mp hi).1
  have h2 := (List.getElem?_eq_some_iff.mp hj).1
  unfold sw
  rw [List.getElem?_set, List.getElem?_set, List.length_set]
  by_cases a : k = j
  · subst a; rw [if_pos rfl, if_pos h2, if_pos rfl]
  · rw [if_neg (fun q => a q.symm), if_neg a]
    by_cases b : k = i
    · subst b; rw [if_pos rfl, if_pos h1, if_pos rfl]
    · rw [if_neg (fun q => b q.symm), if_neg b]
theorem sw_len (ns : List Int) (i j : Nat) (x y : Int) : (sw ns i j x y).length = ns.length := by unfold sw; rw [List.length_set, List.length_set]
theorem sw_perm {ns : List Int} {i j : Nat} {x y : Int} (hi : ns[i]? = some x) (hj : ns[j]? = some y) : (sw ns i j x y).Perm ns := by
  obtain ⟨h1, rfl⟩ := List.getElem?_eq_some_iff.mp hi
  obtain ⟨h2, rfl⟩ := List.getElem?_eq_some_iff.mp hj
  exact List.set_set_perm h1 h2
theorem up_zero {ns : List Int} (h : Up ns 0) : IsH ns := fun i x y h0 hx hy => h.1 i x y h0 (by omega) hx hy
theorem up_done {ns : List Int} {p : Nat} {x y : Int} (h : Up ns p) (hx : ns[p]? = some x) (hy : ns[(p - 1) / 2]? = some y) (hc : ¬ x < y) : IsH ns := fun i a b h0 ha hb => by
  by_cases e : i = p
  · subst e
    rw [hx] at ha; rw [hy] at hb
    cases ha; cases hb; omega
  · exact h.1 i a b h0 e ha hb
theorem up_step {ns : List Int} {p : Nat} {x y : Int} (h : Up ns p) (hp : 0 < p) (hx : ns[p]? = some x) (hy : ns[(p - 1) / 2]? = some y) (hc : x < y) : Up (sw ns ((p - 1) / 2) p y x) ((p - 1) / 2) := by
  refine ⟨fun i a b h0 hi ha hb => ?_, fun i a b h0 hq hi ha hb => ?_⟩
  · rw [sw_get hy hx] at ha hb
    by_cases e : i = p
    · subst e
      rw [if_pos rfl] at ha
      rw [if_neg (by omega), if_pos rfl] at hb
      cases ha; cases hb; omega
    · rw [if_neg e, if_neg hi] at ha
      by_cases e1 : (i - 1) / 2 = p
      · rw [if_pos e1] at hb; cases hb
        exact h.2 i a y h0 hp e1 ha hy
      · rw [if_neg e1] at hb
        by_cases e2 : (i - 1) / 2 = (p - 1) / 2
        · rw [if_pos e2] at hb; cases hb
          have := h.1 i a y h0 e ha (by rw [e2]; exact hy)
          omega
        · rw [if_neg e2] at hb
          exact h.1 i a b h0 e ha hb
  · rw [sw_get hy hx] at ha hb
    rw [if_neg (by omega), if_neg (by omega)] at hb
    have g := h.1 ((p - 1) / 2) y b hq (by omega) hy hb
    by_cases e : i = p
    · rw [if_pos e] at ha; cases ha; exact g
    · rw [if_neg e, if_neg (by omega)] at ha
      have := h.1 i a y h0 e ha (by rw [hi]; exact hy)
      omega
theorem dn_step {ns : List Int} {p c : Nat} {x z : Int} (h : Dn ns p) (hc0 : 0 < c) (hc : (c - 1) / 2 = p) (hx : ns[p]? = some x) (hz : ns[c]? = some z) (least : ∀ (i : Nat) (a : Int), 0 < i → (i - 1) / 2 = p → ns[i]? = some a → z ≤ a) : Dn (sw ns c p z x) c := by
  refine ⟨fun i a b h0 hi hpi ha hb => ?_, fun i a b h0 _ hi ha hb => ?_⟩
  · rw [sw_get hz hx] at ha hb
    by_cases e : i = p
    · rw [if_pos e] at ha; cases ha
      rw [if_neg (by omega), if_neg (by omega)] at hb
      subst e
      exact h.2 c z b hc0 h0 hc hz hb
    · rw [if_neg e, if_neg hi] at ha
      by_cases e1 : (i - 1) / 2 = p
      · rw [if_pos e1] at hb; cases hb
        exact least i a h0 e1 ha
      · rw [if_neg e1, if_neg hpi] at hb
        exact h.1 i a b h0 e e1 ha hb
  · rw [sw_get hz hx] at ha hb
    rw [if_neg (by omega), if_neg (by omega)] at ha
    rw [hc, if_pos rfl] at hb
    cases hb
    exact h.1 i a z h0 (by omega) (by omega) ha (by rw [hi]; exact hz)
theorem dn_leaf {ns : List Int} {p : Nat} (h : Dn ns p) (hp : ns.length ≤ 2 * p + 1) : Up ns p := by
  refine ⟨fun i x y h0 hi hx hy => ?_, h.2⟩
  by_cases e : (i - 1) / 2 = p
  · have := (List.getElem?_eq_some_iff.mp hx).1; omega
  · exact h.1 i x y h0 hi e hx hy
theorem up_push {ns : List Int} {x : Int} (h : IsH ns) : Up (ns ++ [x]) ns.length := by
  refine ⟨fun i a b h0 hi ha hb => ?_, fun i a b h0 hp hi ha hb => ?_⟩
  · have hl := (List.getElem?_eq_some_iff.mp ha).1
    rw [List.length_append] at hl
    have hl2 : i < ns.length := by simp at hl; omega
    rw [List.getElem?_append_left hl2] at ha
    rw [List.getElem?_append_left (by omega)] at hb
    exact h i a b h0 ha hb
  · have hl := (List.getElem?_eq_some_iff.mp ha).1
    simp at hl; omega
theorem dn_pop {f last : Int} {mid : List Int} (h : IsH (f :: (mid ++ [last]))) : Dn (last :: mid) 0 := by
  refine ⟨fun i x y h0 _ h1 hx hy => ?_, fun i x y _ h0 => by omega⟩
  obtain ⟨k, rfl⟩ : ∃ k, i = k + 1 := ⟨i - 1, by omega⟩
  obtain ⟨m, hm⟩ : ∃ m, (k + 1 - 1) / 2 = m + 1 := ⟨(k + 1 - 1) / 2 - 1, by omega⟩
  rw [hm] at hy
  have hx1 : mid[k]? = some x := hx
  have hy1 : mid[m]? = some y := hy
  have lx := (List.getElem?_eq_some_iff.mp hx1).1
  have ly := (List.getElem?_eq_some_iff.mp hy1).1
  refine h (k + 1) x y h0 ?_ ?_
  · show (mid ++ [last])[k]? = some x
    rw [List.getElem?_append_left lx]; exact hx1
  · rw [hm]
    show (mid ++ [last])[m]? = some y
    rw [List.getElem?_append_left ly]; exact hy1
theorem heap_min {ns : List Int} {m : Int} (h : IsH ns) (hm : ns[0]? = some m) : ∀ (i : Nat) (x : Int), ns[i]? = some x → m ≤ x := by
  intro i
  induction i using Nat.strongRecOn with
  | _ i ih =>
    intro x hx
    by_cases e : i = 0
    · subst e; rw [hm] at hx; cases hx; exact Int.le_refl _
    · have hl := (List.getElem?_eq_some_iff.mp hx).1
      have hq : ns[(i - 1) / 2]? = some (ns[(i - 1) / 2]'(by omega)) := List.getElem?_eq_getElem (by omega)
      exact Int.le_trans (ih _ (by omega) _ hq) (h i x _ (by omega) hx hq)
theorem heap_nil : IsH [] := fun i x y _ h => by simp at h
theorem heap_one (x : Int) : IsH [x] := fun i a b h0 ha => by
  have := (List.getElem?_eq_some_iff.mp ha).1
  simp at this; omega
end LH

namespace LH
open PySem PySem.Spec PyProof.Rows L2
open AutoSeq1 (wpAny_loadPart')
theorem plain_sift : plainId "_heapq.heapify.sift" = true := by decide +kernel
theorem entry_sift : entryFor table "_heapq.heapify.sift" = some Builtin.«_heapq.heapify.sift» := entryFor_of_fast (by kernel_rfl)
theorem plain_push : plainId "_heapq.heappush" = true := by decide +kernel
theorem entry_push : entryFor table "_heapq.heappush" = some Builtin.«_heapq.heappush» := entryFor_of_fast (by kernel_rfl)
theorem kind_push : builtinKind "_heapq.heappush" = none := by decide +kernel
theorem args_push (a b : Value) : argsOk "_heapq.heappush" ⟨[a, b], []⟩ := by unfold argsOk; kernel_rfl
theorem plain_pop : plainId "_heapq.heappop" = true := by decide +kernel
theorem entry_pop : entryFor table "_heapq.heappop" = some Builtin.«_heapq.heappop» := entryFor_of_fast (by kernel_rfl)
theorem kind_pop : builtinKind "_heapq.heappop" = none := by decide +kernel
theorem args_pop (a : Value) : argsOk "_heapq.heappop" ⟨[a], []⟩ := by unfold argsOk; kernel_rfl
/-- the list object at a holds these ints -/
def Li (h : Heap) (a : Addr) (vs : List Value) (ns : List Int) : Prop := (∃ n, h.get? a = some (seqObj "list" vs.toArray n)) ∧ IntsAre vs ns
/-- only the object at a is other than it was -/
def Ot (h h' : Heap) (a : Addr) : Prop := h'.objs.size = h.objs.size ∧ ∀ b, b ≠ a → h'.get? b = h.get? b
theorem Ot.refl (h : Heap) (a : Addr) : Ot h h a := ⟨rfl, fun _ _ => rfl⟩
theorem Ot.trans {h h1 h2 : Heap} {a : Addr} (x : Ot h h1 a) (y : Ot h1 h2 a) : Ot h h2 a := ⟨y.1.trans x.1, fun b hb => (y.2 b hb).trans (x.2 b hb)⟩
theorem Ot.up (h : Heap) (a : Addr) (f : Obj → Obj) : Ot h (h.update a f) a := ⟨Heap.size_update .., fun b hb => Heap.get?_update_ne _ _ _ _ hb⟩
theorem ints_get {vs : List Value} {ns : List Int} (h : IntsAre vs ns) {i : Nat} {x : Int} (hx : ns[i]? = some x) : ∃ t, vs[i]? = some (.int x t) := by
  induction h generalizing i with
  | nil => simp at hx
  | cons n t r ih =>
    cases i with
    | zero => cases hx; exact ⟨t, rfl⟩
    | succ k => exact ih hx
theorem ints_set {vs : List Value} {ns : List Int} (h : IntsAre vs ns) {i : Nat} {x : Int} {t : Tok} : IntsAre (vs.set i (.int x t)) (ns.set i x) := by
  induction h generalizing i with
  | nil => exact .nil
  | cons n u r ih =>
    cases i with
    | zero => exact .cons x t r
    | succ k => exact .cons n u ih
theorem ints_app {vs us : List Value} {ns ms : List Int} (h : IntsAre vs ns) (g : IntsAre us ms) : IntsAre (vs ++ us) (ns ++ ms) := by
  induction h with
  | nil => exact g
  | cons n u r ih => exact .cons n u ih
section
variable {prog : Program} {w : World} {A : Around} {E : Value → Shared → Prop} {s : Shared}
theorem lt_int {a b : Int} {t u : Tok} {Q : Value → Shared → Prop} (h : Q (.bool (decide (a < b))) s) : wpAny (model prog w) A (richCompare .Lt (.int a t) (.int b u)) Q E s :=
  richCompare_gives (op := .Lt) (typeIs_int s _ t) (typeIs_int s _ u) PySem.F.slot_int_lt PySem.F.entry_int_lt (PySem.F.args_int_lt_2 _ _) (gives_int_lt _ _ t u) (fun x => nomatch x) h
/-- two items exchanged -/
theorem swap_li {h : Heap} {a : Addr} {vs : List Value} {ns : List Int} {n i j : Nat} {x y : Int} {t u : Tok} (ho : h.get? a = some (seqObj "list" vs.toArray n)) (hI : IntsAre vs ns) :
    Li (h.update a (Obj.mapSeq fun xs => (xs.setIfInBounds i (.int y u)).setIfInBounds j (.int x t))) a ((vs.set i (.int y u)).set j (.int x t)) (sw ns i j x y) := by
  have e := get?_update_seq ho (fun xs => (xs.setIfInBounds i (.int y u)).setIfInBounds j (.int x t))
  rw [List.setIfInBounds_toArray, List.setIfInBounds_toArray] at e
  exact ⟨⟨_, e⟩, ints_set (ints_set hI)⟩
theorem sift_up {a : Addr} {R : Result → Shared → Prop} {res : Value} : ∀ (p : Nat) (s : Shared) (vs : List Value) (ns : List Int), Li s.heap a vs ns → ns.length ≤ 1000 → p < ns.length → Up ns p →
    (∀ (h' : Heap) (ws : List Value) (ms : List Int), IsH ms → ms.Perm ns → Li h' a ws ms → Ot s.heap h' a → R (.ok (.ret res)) { s with heap := h' }) →
    codeAny (model prog w) A (.builtin "_heapq.heapify.sift" ⟨[.ref a, .bool false, .bool false, rawInt (p : Nat), rawInt (0 : Nat), res, rawInt (-1)], []⟩) R s := by
  intro p
  induction p using Nat.strongRecOn with
  | _ p ih =>
  intro s vs ns hL hz hlt hup k
  obtain ⟨⟨n, ho⟩, hI⟩ := id hL
  refine codeAny_builtin entry_sift ?_
  rw [Around.under_plainId plain_sift _]
  wp_walk using wpAny_loadPart' ho
  simp only [Int.toNat_natCast]
  by_cases hp : p > 0
  · rw [if_pos (by simpa using hp)]
    have hx1 : ns[p]? = some ns[p] := List.getElem?_eq_getElem hlt
    have hy1 : ns[(p - 1) / 2]? = some (ns[(p - 1) / 2]'(by omega)) := List.getElem?_eq_getElem (by omega)
    generalize ns[p] = x at hx1
    generalize ns[(p - 1) / 2]'(by omega) = y at hy1
    obtain ⟨t, hx⟩ := ints_get hI hx1
    obtain ⟨u, hy⟩ := ints_get hI hy1
    have hxa : vs.toArray[p]? = some (.int x t) := by simpa using hx
    have hya : vs.toArray[(p - 1) / 2]? = some (.int y u) := by simpa using hy
    wp_step
    wp_step
    rw [hxa]
    wp_step
    wp_step
    wp_step
    rw [hya]
    wp_step
    wp_walk using wpAny_loadPart' ho, lt_int, wpAny_truthy_bool
    by_cases hc : x < y
    · rw [if_pos (decide_eq_true hc)]
      wp_walk using wpAny_loadPart' ho
      rw [hya]
      wp_step
      wp_step
      wp_step
      rw [hxa]
      wp_step
      have hvl := hI.length
      refine wpAny_updateSeq ho rfl ?_ (by rw [List.size_toArray, hvl]; exact Nat.le_of_lt (small1000 hz)) (by rw [Array.size_setIfInBounds, Array.size_setIfInBounds, List.size_toArray, hvl]; exact Nat.le_succ_of_le (Nat.le_of_lt (small1000 hz)))
      wp_walk
      refine ⟨plainId_quiet plain_sift _, ?_⟩
      have hL2 := swap_li (i := (p - 1) / 2) (j := p) (x := y) (y := x) (t := u) (u := t) ho hI
      refine ih ((p - 1) / 2) (by omega) _ _ _ hL2 (by rw [sw_len]; exact hz) (by rw [sw_len]; omega) (up_step hup hp hx1 hy1 hc) fun h' ws ms q1 q2 q3 q4 => ?_
      exact k h' ws ms q1 (q2.trans (sw_perm hy1 hx1)) q3 ((Ot.up _ _ _).trans q4)
    · rw [if_neg (by rw [decide_eq_false hc]; exact Bool.false_ne_true)]
      wp_walk
      exact k s.heap vs ns (up_done hup hx1 hy1 hc) (List.Perm.refl _) hL (Ot.refl _ _)
  · rw [if_neg (by simpa using hp)]
    have e : p = 0 := by omega
    subst e
    wp_walk
    exact k s.heap vs ns (up_zero hup) (List.Perm.refl _) hL (Ot.refl _ _)
end
end LH

namespace LH
open PySem PySem.Spec PyProof.Rows L2
open AutoSeq1 (wpAny_loadPart')
section
variable {prog : Program} {w : World} {A : Around} {E : Value → Shared → Prop} {s : Shared}
theorem sift_down {a : Addr} {R : Result → Shared → Prop} {res : Value} : ∀ (d p : Nat) (s : Shared) (vs : List Value) (ns : List Int), ns.length - p ≤ d → Li s.heap a vs ns → ns.length ≤ 1000 → p < ns.length → Dn ns p →
    (∀ (h' : Heap) (ws : List Value) (ms : List Int), IsH ms → ms.Perm ns → Li h' a ws ms → Ot s.heap h' a → R (.ok (.ret res)) { s with heap := h' }) →
    codeAny (model prog w) A (.builtin "_heapq.heapify.sift" ⟨[.ref a, .bool false, .bool true, rawInt (p : Nat), rawInt (0 : Nat), res, rawInt (-1)], []⟩) R s := by
  intro d
  induction d with
  | zero => intro p s vs ns hd _ _ hlt; omega
  | succ d ih =>
  intro p s vs ns hd hL hz hlt hdn k
  obtain ⟨⟨n, ho⟩, hI⟩ := id hL
  have hvl := hI.length
  have hsz : vs.toArray.size = ns.length := by rw [List.size_toArray, hvl]
  refine codeAny_builtin entry_sift ?_
  rw [Around.under_plainId plain_sift _]
  wp_walk using wpAny_loadPart' ho
  simp only [Int.toNat_natCast]
  by_cases hp : p < vs.toArray.size / 2
  · rw [if_pos hp]
    rw [hsz] at hp
    have hx1 : ns[p]? = some ns[p] := List.getElem?_eq_getElem hlt
    have hl1 : ns[2 * p + 1]? = some (ns[2 * p + 1]'(by omega)) := List.getElem?_eq_getElem (by omega)
    generalize ns[p] = x at hx1
    generalize ns[2 * p + 1]'(by omega) = y at hl1
    obtain ⟨t, hx⟩ := ints_get hI hx1
    obtain ⟨u, hy⟩ := ints_get hI hl1
    have hxa : vs.toArray[p]? = some (.int x t) := by simpa using hx
    have hya : vs.toArray[2 * p + 1]? = some (.int y u) := by simpa using hy
    by_cases hr : 2 * p + 1 + 1 < vs.toArray.size
    · rw [if_pos hr]
      rw [hsz] at hr
      have hr1 : ns[2 * p + 1 + 1]? = some (ns[2 * p + 1 + 1]'(by omega)) := List.getElem?_eq_getElem (by omega)
      generalize ns[2 * p + 1 + 1]'(by omega) = z at hr1
      obtain ⟨v, hz1⟩ := ints_get hI hr1
      have hz2a : vs.toArray[2 * p + 1 + 1]? = some (.int z v) := by simpa using hz1
      wp_step
      wp_step
      rw [hya]
      wp_step
      wp_step
      wp_step
      rw [hz2a]
      wp_step
      wp_walk using wpAny_loadPart' ho, lt_int, wpAny_truthy_bool
      by_cases hc : y < z
      · rw [decide_eq_true hc]
        wp_walk using wpAny_loadPart' ho
        rw [hya]
        wp_step
        wp_step
        wp_step
        rw [hxa]
        wp_step
        refine wpAny_updateSeq ho rfl ?_ (by rw [hsz]; exact Nat.le_of_lt (small1000 hz)) (by rw [Array.size_setIfInBounds, Array.size_setIfInBounds, hsz]; exact Nat.le_succ_of_le (Nat.le_of_lt (small1000 hz)))
        wp_walk
        refine ⟨plainId_quiet plain_sift _, ?_⟩
        have hL2 := swap_li (i := 2 * p + 1) (j := p) (x := y) (y := x) (t := u) (u := t) ho hI
        refine ih (2 * p + 1) _ _ _ (by rw [sw_len]; omega) hL2 (by rw [sw_len]; exact hz) (by rw [sw_len]; omega) (dn_step hdn (by omega) (by omega) hx1 hl1 (fun i b h0 hi hb => ?_)) fun h' ws ms q1 q2 q3 q4 => k h' ws ms q1 (q2.trans (sw_perm hl1 hx1)) q3 ((Ot.up _ _ _).trans q4)
        rcases (show i = 2 * p + 1 ∨ i = 2 * p + 1 + 1 by omega) with e | e
        · subst e; rw [hl1] at hb; cases hb; exact Int.le_refl _
        · subst e; rw [hr1] at hb; cases hb; omega
      · rw [decide_eq_false hc]
        wp_walk using wpAny_loadPart' ho
        rw [hz2a]
        wp_step
        wp_step
        wp_step
        rw [hxa]
        wp_step
        refine wpAny_updateSeq ho rfl ?_ (by rw [hsz]; exact Nat.le_of_lt (small1000 hz)) (by rw [Array.size_setIfInBounds, Array.size_setIfInBounds, hsz]; exact Nat.le_succ_of_le (Nat.le_of_lt (small1000 hz)))
        wp_walk
        refine ⟨plainId_quiet plain_sift _, ?_⟩
        have hL2 := swap_li (i := 2 * p + 1 + 1) (j := p) (x := z) (y := x) (t := v) (u := t) ho hI
        refine ih (2 * p + 1 + 1) _ _ _ (by rw [sw_len]; omega) hL2 (by rw [sw_len]; exact hz) (by rw [sw_len]; omega) (dn_step hdn (by omega) (by omega) hx1 hr1 (fun i b h0 hi hb => ?_)) fun h' ws ms q1 q2 q3 q4 => k h' ws ms q1 (q2.trans (sw_perm hr1 hx1)) q3 ((Ot.up _ _ _).trans q4)
        rcases (show i = 2 * p + 1 ∨ i = 2 * p + 1 + 1 by omega) with e | e
        · subst e; rw [hl1] at hb; cases hb; omega
        · subst e; rw [hr1] at hb; cases hb; exact Int.le_refl _
    · rw [if_neg hr]
      rw [hsz] at hr
      wp_walk using wpAny_loadPart' ho
      rw [hya]
      wp_step
      wp_step
      wp_step
      rw [hxa]
      wp_step
      refine wpAny_updateSeq ho rfl ?_ (by rw [hsz]; exact Nat.le_of_lt (small1000 hz)) (by rw [Array.size_setIfInBounds, Array.size_setIfInBounds, hsz]; exact Nat.le_succ_of_le (Nat.le_of_lt (small1000 hz)))
      wp_walk
      refine ⟨plainId_quiet plain_sift _, ?_⟩
      have hL2 := swap_li (i := 2 * p + 1) (j := p) (x := y) (y := x) (t := u) (u := t) ho hI
      refine ih (2 * p + 1) _ _ _ (by rw [sw_len]; omega) hL2 (by rw [sw_len]; exact hz) (by rw [sw_len]; omega) (dn_step hdn (by omega) (by omega) hx1 hl1 (fun i b h0 hi hb => ?_)) fun h' ws ms q1 q2 q3 q4 => k h' ws ms q1 (q2.trans (sw_perm hl1 hx1)) q3 ((Ot.up _ _ _).trans q4)
      have hlt2 := (List.getElem?_eq_some_iff.mp hb).1
      have e : i = 2 * p + 1 := by omega
      subst e; rw [hl1] at hb; cases hb; exact Int.le_refl _
  · rw [if_neg hp]
    rw [hsz] at hp
    wp_walk
    refine ⟨plainId_quiet plain_sift _, ?_⟩
    exact sift_up p s vs ns hL hz hlt (dn_leaf hdn (by omega)) k
end
end LH

namespace LH
open PySem PySem.Spec PyProof.Rows L2
open AutoSeq1 (wpAny_loadPart')
section
variable {prog : Program} {w : World} {A : Around} {E : Value → Shared → Prop} {s : Shared}
theorem push_li {h : Heap} {a : Addr} {vs : List Value} {ns : List Int} {n : Nat} {x : Int} {t : Tok} (ho : h.get? a = some (seqObj "list" vs.toArray n)) (hI : IntsAre vs ns) :
    Li (h.update a (Obj.mapSeq fun xs => xs.push (.int x t))) a (vs ++ [.int x t]) (ns ++ [x]) := by
  have e := get?_update_seq ho (fun xs => xs.push (.int x t))
  rw [List.push_toArray] at e
  exact ⟨⟨_, e⟩, ints_app hI (.cons x t .nil)⟩
theorem call_push {a : Addr} {vs : List Value} {ns : List Int} {x : Int} {t : Tok} {Q : Value → Shared → Prop} (hL : Li s.heap a vs ns) (hz : ns.length < 1000) (hH : IsH ns)
    (k : ∀ (h' : Heap) (ws : List Value) (ms : List Int), IsH ms → ms.Perm (ns ++ [x]) → Li h' a ws ms → Ot s.heap h' a → Q .none { s with heap := h' }) :
    wpAny (model prog w) A (call (.builtin "_heapq.heappush") [.ref a, .int x t]) Q E s := by
  obtain ⟨⟨n, ho⟩, hI⟩ := id hL
  have hvl := hI.length
  have hT : s.TypeIs (.ref a) "list" := ⟨_, ho, rfl⟩
  have hsub := sub_list_self
  refine call_function_tree kind_push plain_push entry_push (args_push _ _) ?_
  have U : ∀ {Q : Unit → Shared → Prop}, Q () { s with heap := s.heap.update a (Obj.mapSeq fun xs => xs.push (.int x t)) } → wpAny (model prog w) A.in1 (updateSeq a fun xs => xs.push (.int x t)) Q E s :=
    fun h => wpAny_updateSeq ho rfl h (by rw [List.size_toArray, hvl]; exact Nat.le_of_lt (small1000 (by omega))) (by rw [Array.size_push, List.size_toArray, hvl]; exact Nat.le_of_lt (Nat.lt_succ_of_lt (small1000 (by omega))))
  have hL2 := push_li (x := x) (t := t) ho hI
  obtain ⟨⟨n2, ho2⟩, hI2⟩ := id hL2
  have hOt := Ot.up s.heap a (Obj.mapSeq fun xs => xs.push (.int x t))
  generalize s.heap.update a (Obj.mapSeq fun xs => xs.push (.int x t)) = h2 at U hL2 ho2 hOt
  wp_walk using wpAny_typeOf hT, U, wpAny_loadPart' ho2
  refine ⟨plainId_quiet plain_sift _, ?_⟩
  have e : (vs ++ [Value.int x t]).toArray.size - 1 = ns.length := by rw [List.size_toArray, List.length_append, hvl]; rfl
  rw [e]
  exact sift_up ns.length { s with heap := h2 } _ _ hL2 (by rw [List.length_append]; exact hz) (by rw [List.length_append]; exact Nat.lt_succ_self _) (up_push hH) fun h' ws ms q1 q2 q3 q4 => k h' ws ms q1 q2 q3 (hOt.trans q4)
theorem ints_split {vs : List Value} : ∀ {ms ks : List Int}, IntsAre vs (ms ++ ks) → ∃ us ws, vs = us ++ ws ∧ IntsAre us ms ∧ IntsAre ws ks
  | [], ks, h => ⟨[], vs, rfl, .nil, h⟩
  | m :: ms, ks, h => by
    cases h with
    | cons n t r =>
      obtain ⟨us, ws, e, h1, h2⟩ := ints_split r
      exact ⟨.int m t :: us, ws, by rw [e]; rfl, .cons m t h1, h2⟩
theorem call_pop1 {a : Addr} {vs : List Value} {m : Int} {Q : Value → Shared → Prop} (hL : Li s.heap a vs [m])
    (k : ∀ (h' : Heap) (t : Tok), Li h' a [] [] → Ot s.heap h' a → Q (.int m t) { s with heap := h' }) :
    wpAny (model prog w) A (call (.builtin "_heapq.heappop") [.ref a]) Q E s := by
  obtain ⟨⟨n, ho⟩, hI⟩ := id hL
  have hT : s.TypeIs (.ref a) "list" := ⟨_, ho, rfl⟩
  have hsub := sub_list_self
  cases hI with
  | cons _ t r =>
    cases r
    have U : ∀ {Q : Unit → Shared → Prop}, Q () { s with heap := s.heap.update a (Obj.mapSeq fun xs => xs.pop) } → wpAny (model prog w) A.in1 (updateSeq a fun xs => xs.pop) Q E s :=
      fun h => wpAny_updateSeq ho rfl h (by show 1 ≤ sizeLine; decide) (by show 0 ≤ sizeLine + 1; exact Nat.zero_le _)
    have e := get?_update_seq ho (fun xs => xs.pop)
    have hOt := Ot.up s.heap a (Obj.mapSeq fun xs => xs.pop)
    generalize s.heap.update a (Obj.mapSeq fun xs => xs.pop) = h2 at U e hOt
    have hL2 : Li h2 a [] [] := ⟨⟨_, e⟩, .nil⟩
    refine call_function_tree kind_pop plain_pop entry_pop (args_pop _) ?_
    wp_walk using wpAny_typeOf hT, U, wpAny_loadPart' ho
    exact k h2 t hL2 hOt
theorem call_pop2 {a : Addr} {vs : List Value} {f last : Int} {mid : List Int} {Q : Value → Shared → Prop} (hL : Li s.heap a vs (f :: (mid ++ [last]))) (hz : mid.length < 900) (hH : IsH (f :: (mid ++ [last])))
    (k : ∀ (h' : Heap) (t : Tok) (ws : List Value) (ms : List Int), IsH ms → ms.Perm (last :: mid) → Li h' a ws ms → Ot s.heap h' a → Q (.int f t) { s with heap := h' }) :
    wpAny (model prog w) A (call (.builtin "_heapq.heappop") [.ref a]) Q E s := by
  obtain ⟨⟨n, ho⟩, hI⟩ := id hL
  have hT : s.TypeIs (.ref a) "list" := ⟨_, ho, rfl⟩
  have hsub := sub_list_self
  cases hI with
  | cons _ t r =>
    obtain ⟨um, ul, rfl, hm, hl⟩ := ints_split r
    cases hl with
    | cons _ t2 r2 =>
      cases r2
      have hml := hm.length
      have U : ∀ {Q : Unit → Shared → Prop}, Q () { s with heap := s.heap.update a (Obj.mapSeq fun xs => xs.pop) } → wpAny (model prog w) A.in1 (updateSeq a fun xs => xs.pop) Q E s :=
        fun h => wpAny_updateSeq ho rfl h (by simp only [List.size_toArray, List.length_cons, List.length_append, List.length_nil]; exact Nat.le_of_lt (small1000 (by omega))) (by rw [Array.size_pop]; simp only [List.size_toArray, List.length_cons, List.length_append, List.length_nil]; exact Nat.le_succ_of_le (Nat.le_of_lt (small1000 (by omega))))
      have e := get?_update_seq ho (fun xs => xs.pop)
      have hOt := Ot.up s.heap a (Obj.mapSeq fun xs => xs.pop)
      generalize s.heap.update a (Obj.mapSeq fun xs => xs.pop) = h2 at U e hOt
      refine call_function_tree kind_pop plain_pop entry_pop (args_pop _) ?_
      wp_walk using wpAny_typeOf hT, U, wpAny_loadPart' ho
      have hb : (Value.int f t :: (um ++ [Value.int last t2])).toArray.back? = some (.int last t2) := by
        show ((Value.int f t :: um) ++ [Value.int last t2]).toArray.back? = _
        simp only [List.back?_toArray, List.getLast?_concat]
      rw [hb]
      have ep : (Value.int f t :: (um ++ [Value.int last t2])).toArray.pop = (Value.int f t :: um).toArray := by
        show ((Value.int f t :: um) ++ [Value.int last t2]).toArray.pop = _
        simp only [List.pop_toArray, List.dropLast_concat]
      rw [ep] at e
      wp_step
      wp_step
      refine U ?_
      rw [if_neg (by simp)]
      wp_step
      wp_step
      show wpAny _ _ (pure (Value.int f t)) _ _ _
      wp_step
      have U2 : ∀ {Q : Unit → Shared → Prop}, Q () { s with heap := h2.update a (Obj.mapSeq fun xs => xs.setIfInBounds 0 (.int last t2)) } → wpAny (model prog w) A.in1 (updateSeq a fun xs => xs.setIfInBounds 0 (.int last t2)) Q E { s with heap := h2 } :=
        fun h => wpAny_updateSeq e rfl h (by simp only [List.size_toArray, List.length_cons]; exact Nat.le_of_lt (small1000 (by omega))) (by rw [Array.size_setIfInBounds]; simp only [List.size_toArray, List.length_cons]; exact Nat.le_succ_of_le (Nat.le_of_lt (small1000 (by omega))))
      have e2 := get?_update_seq e (fun xs => xs.setIfInBounds 0 (.int last t2))
      rw [List.setIfInBounds_toArray] at e2
      have hOt2 := hOt.trans (Ot.up h2 a (Obj.mapSeq fun xs => xs.setIfInBounds 0 (.int last t2)))
      generalize h2.update a (Obj.mapSeq fun xs => xs.setIfInBounds 0 (.int last t2)) = h3 at U2 e2 hOt2
      wp_walk using U2
      refine ⟨plainId_quiet plain_sift _, ?_⟩
      exact sift_down (last :: mid).length 0 { s with heap := h3 } (.int last t2 :: um) (last :: mid) (by omega) ⟨⟨_, e2⟩, .cons last t2 hm⟩ (by simp only [List.length_cons]; omega) (by simp) (dn_pop hH) fun h' ws ms q1 q2 q3 q4 => k h' t ws ms q1 q2 q3 (hOt2.trans q4)
end
/-! ### the rules -/
/-- heappush(xs, x), ints in heap order -/
def rPush : List V → Hp → VK → Prop := fun vs H Q => ∃ (a : Addr) (ns : List Int) (x : Int), vs = [.ref a, .int x] ∧ H a = some (.lst (ns.map V.int)) ∧ IsH ns ∧ ns.length < 900 ∧
  ∀ ms : List Int, ms.Perm (ns ++ [x]) → IsH ms → Q .non (upd H a (.lst (ms.map V.int)))
/-- heappop(xs), ints in heap order, at least one -/
def rPop : List V → Hp → VK → Prop := fun vs H Q => ∃ (a : Addr) (ns : List Int), vs = [.ref a] ∧ H a = some (.lst (ns.map V.int)) ∧ IsH ns ∧ ns ≠ [] ∧ ns.length < 900 ∧
  ∀ (m : Int) (ms : List Int), (m :: ms).Perm ns → (∀ x ∈ ns, m ≤ x) → IsH ms → Q (.int m) (upd H a (.lst (ms.map V.int)))
section
variable {X : Cx}
theorem li_of {P : Program} {w : World} {H : Hp} {h : Heap} {a : Addr} {ns : List Int} (x : ObjOk P w H h a (.lst (ns.map V.int))) : ∃ vs, Li h a vs ns := by
  obtain ⟨_, its, n, rv, hob⟩ := x
  exact ⟨its, ⟨n, hob⟩, rv.ints⟩
theorem cr_push : CallR X (.builtin "_heapq.heappush") rPush := by
  intro pins s σ H vs us Q I r h
  obtain ⟨a, ns, x, rfl, ha, hH, hz, q⟩ := h
  obtain ⟨u1, u2, rfl, r1, r2⟩ := vals2 r
  cases r1
  obtain ⟨t, rfl⟩ := r2
  obtain ⟨ws, hL⟩ := li_of (I.hok a _ ha)
  refine call_push hL (by omega) hH fun h' us ms h1 h2 h3 h4 => ?_
  obtain ⟨⟨n, hn⟩, hI⟩ := id h3
  have hlen : (ms.map V.int).length ≤ sizeLine := by rw [List.length_map, h2.length_eq, List.length_append]; exact Nat.le_of_lt (small1000 (by show ns.length + 1 ≤ 1000; omega))
  exact ⟨.non, upd H a (.lst (ms.map V.int)), I.write (e := a) (t' := s.toks) (by rw [ha]; trivial) (.inl rfl) (fun b u hb hu => (h4.2 b hb).trans hu) ⟨_, hn⟩ ⟨hlen, us, n, vals_of_ints hI, hn⟩, rfl, q ms h2 h1⟩
theorem cr_pop : CallR X (.builtin "_heapq.heappop") rPop := by
  intro pins s σ H vs us Q I r h
  obtain ⟨a, ns, rfl, ha, hH, hne, hz, q⟩ := h
  rw [Vals.ref1 r]
  obtain ⟨ws, hL⟩ := li_of (I.hok a _ ha)
  have fin : ∀ (m : Int) (t : Tok) (h' : Heap) (us : List Value) (ms : List Int), (m :: ms).Perm ns → (∀ x ∈ ns, m ≤ x) → IsH ms → Li h' a us ms → Ot s.heap h' a → EP X pins σ Q (.int m t) { s with heap := h' } := by
    intro m t h' us ms h1 hmin h2 h3 h4
    obtain ⟨⟨n, hn⟩, hI⟩ := id h3
    have hl := h1.length_eq
    rw [List.length_cons] at hl
    have hlen : (ms.map V.int).length ≤ sizeLine := by rw [List.length_map]; exact Nat.le_of_lt (small1000 (by omega))
    exact ⟨.int m, upd H a (.lst (ms.map V.int)), I.write (e := a) (t' := s.toks) (by rw [ha]; trivial) (.inl rfl) (fun b u hb hu => (h4.2 b hb).trans hu) ⟨_, hn⟩ ⟨hlen, us, n, vals_of_ints hI, hn⟩, ⟨t, rfl⟩, q m ms h1 hmin h2⟩
  have hmin : ∀ f r, ns = f :: r → ∀ x ∈ ns, f ≤ x := fun f r e x hx => by
    obtain ⟨i, hi⟩ := List.mem_iff_getElem?.mp hx
    exact heap_min hH (by rw [e]; rfl) i x hi
  match ns, hne, hL, hH, hmin, hz with
  | [m], _, hL, hH, hmin, hz => exact call_pop1 hL fun h' t h1 h2 => fin m t h' [] [] (List.Perm.refl _) (hmin m [] rfl) heap_nil h1 h2
  | f :: b :: r, _, hL, hH, hmin, hz =>
    obtain ⟨mid, last, e⟩ : ∃ mid last, b :: r = mid ++ [last] := ⟨(b :: r).dropLast, (b :: r).getLast (by simp), (List.dropLast_concat_getLast (by simp)).symm⟩
    rw [e] at hL hH hmin hz ha fin q
    refine call_pop2 hL (by simp only [List.length_cons, List.length_append, List.length_nil] at hz; omega) hH fun h' t ws ms h1 h2 h3 h4 => ?_
    refine fin f t h' ws ms ?_ (hmin f _ rfl) h1 h3 h4
    exact (h2.trans ((List.perm_append_singleton last mid).symm)).cons f
end
end LH

namespace LT
open PySem PySem.Spec PyProof.Rows L2
/-- sorted(d), d a dict by ints: its keys in a new list -/
def rSortedK : List V → Hp → VK → Prop := fun vs H Q => ∃ (a : Addr) (kvs : List (Key × V)) (ks : List Int), vs = [.ref a] ∧ Rd H a (.dK kvs) ∧ kvs.map (·.1) = ks.map Sum.inl ∧ ks.length ≤ 1000 ∧
  ∀ (ys : List Int) (p : Addr), ys.Perm ks → ys.Pairwise (· ≤ ·) → H p = none → Q (.ref p) (upd H p (.lst (ys.map V.int)))
theorem cr_sortedK {X : Cx} (hcalm : X.calm = true) : CallR X (.builtin "sorted") rSortedK := by
  intro pins s σ H vs us Q I r want
  obtain ⟨a, kvs, ks, rfl, hd, hks, hz, q⟩ := want
  rw [Vals.ref1 r]
  obtain ⟨z, lo, es, rel, dd⟩ := dk_rd I.hok hd
  obtain ⟨ep, hat⟩ := dd.dictAt
  have keys : es.map (·.1) = ks.map Sum.inl := rel.keys.symm.trans hks
  have len : es.length = ks.length := by simpa using congrArg List.length keys
  have fits : ks.length ≤ sizeLine := Nat.le_of_lt (small1000 hz)
  refine Calls.call_function_entry kind_sorted plain_sorted entry_sorted (args_sorted1 _) ?_
  unfold Builtin.«sorted»
  refine wpAny_bind (m := checkCount "sorted" 1 1 _) (wpAny_pure ?_)
  refine wpAny_bind (PySem.W.kdu_collect (A := X.A.in1) (PySem.W.kdl_dict (knd := mixKind X.prog X.w) (kvs := es) (ep := ep) lo) (I.ok.hd hcalm) hat (by rw [len]; exact fits) fun h1 tk acc kept items => ?_)
  have al : acc.toList.length = ks.length := by rw [Array.length_toList, items.1, len]
  have hints : IntsAre acc.toList ks := ints_each al fun j v e => by
    obtain ⟨k, x, e1, e2⟩ := items.2 j v (by rw [← Array.getElem?_toList]; exact e)
    have e3 : (ks.map (Sum.inl (β := Str)))[j]? = some k := by rw [← keys, List.getElem?_map, e1]; rfl
    rw [List.getElem?_map] at e3
    cases e4 : ks[j]? with
    | none => rw [e4] at e3; cases e3
    | some y =>
      rw [e4] at e3
      cases e3
      rcases keyIs_shape (show keyIs (Sum.inl y) v = true from e2) with ⟨i, t, ek, ev⟩ | ⟨w, t, ek, ev⟩
      · cases ek; exact ⟨y, t, rfl, ev⟩
      · cases ek
  have I1 : Inv X pins σ H { s with heap := h1, toks := tk } := I.kept kept
  refine wpAny_bind (wpAny_newList ?_ (by rw [al]; exact fits))
  have at1 : (h1.push (seqObj "list" acc.toList.toArray 0)).get? h1.objs.size = some (seqObj "list" acc.toList.toArray 0) := Heap.get?_push_size _ rfl
  show wpAny _ _ _ _ _ { s with heap := h1.push (seqObj "list" acc.toList.toArray 0), toks := tk }
  refine wpAny_bind (wpAny_holding (wpAny_call_entry slot_list_sort ⟨_, at1, rfl⟩ entry_list_sort (SrtO.list_sort_ord (s := { s with heap := h1.push (seqObj "list" acc.toList.toArray 0), toks := tk }) SrtO.swo_int at1 (by rw [al]; exact fits) (fun h2 => SrtO.ints_sortable hints h2) fun out g1 g2 => ⟨_, rfl, ?_⟩) (args_list_sort _)))
  obtain ⟨k1, k2, k3⟩ := SrtO.ints_out hints g1 g2
  obtain ⟨e', he⟩ := sortedHeap_at (vs := acc.toList) (out := out.toArray) at1
  have hlen : ((out.map SrtO.iv).map V.int).length ≤ sizeLine := by rw [List.length_map, k2.length_eq]; exact fits
  refine wpAny_pure ⟨_, rfl, .ref h1.objs.size, upd H h1.objs.size (.lst ((out.map SrtO.iv).map V.int)), I1.laid (t' := tk) (fun b u e => ?_) (Nat.le_refl _)
    (show ObjOk X.prog X.w _ _ _ (.lst ((out.map SrtO.iv).map V.int)) from ⟨hlen, out, e', vals_of_ints k1, he⟩), rfl, q _ _ k2 k3 (I1.hok.fresh (Nat.le_refl _))⟩
  have lt : b < h1.objs.size := Heap.lt_size e
  rw [sortedHeap_old (Nat.ne_of_lt lt) (by rw [size_push']; exact Nat.lt_succ_of_lt lt)]
  exact Heap.get?_push_of_some _ e
end LT

namespace LC
open PySem PySem.Spec PyProof.Rows
open Sem (wp)
theorem mro_co : mroOf (.type "itertools.combinations") = pure [.type "itertools.combinations", .type "object"] := by rw [mroOf_type]; kernel_rfl
theorem look_co : typeLookup (.type "itertools.combinations") "__new__" = pure (some (.builtin "itertools.combinations.__new__")) := by rw [typeLookup_type, builtinLookup_eq_fast]; kernel_rfl
theorem init_co : Slot "itertools.combinations" "__init__" "object.__init__" :=
  .of (owner := "object") (n := "__init__") (by rw [typeLookup_type, builtinLookup_eq_fast]; kernel_rfl) (by decide +kernel) (by decide +kernel) (by decide +kernel) (by first | exact .inl (by decide +kernel) | exact .inr (by decide +kernel)) (by rw [isSubtype_type]; kernel_rfl)
theorem self_co : isSubtype (.type "itertools.combinations") (.type "itertools.combinations") = pure true := by rw [isSubtype_type]; kernel_rfl
theorem called_co : TypeCalled "itertools.combinations" "itertools.combinations.__new__" "object.__init__" :=
  ⟨by decide +kernel, by decide +kernel, ⟨_, _, mro_co⟩, madeBy_type mro_co look_co (by decide +kernel), by decide +kernel, self_co, init_co⟩
theorem tcall_co (a b : Value) : checkTypeCall "itertools.combinations" ⟨[a, b], []⟩ = pure () := by kernel_rfl
theorem ncall_co (a b : Value) : checkBuiltinCall "itertools.combinations.__new__" ⟨[.type "itertools.combinations", a, b], []⟩ = pure () := by kernel_rfl
theorem enew_co : entryFor table "itertools.combinations.__new__" = some Builtin.«itertools.combinations.__new__» := entryFor_of_tree (by kernel_rfl)
theorem siter_co : Slot "itertools.combinations" "__iter__" "itertools.combinations.__iter__" :=
  .of (owner := "itertools.combinations") (n := "__iter__") (by rw [typeLookup_type, builtinLookup_eq_fast]; kernel_rfl) (by decide +kernel) (by decide +kernel) (by decide +kernel) (by first | exact .inl (by decide +kernel) | exact .inr (by decide +kernel)) self_co
theorem snext_co : Slot "itertools.combinations" "__next__" "itertools.combinations.__next__" :=
  .of (owner := "itertools.combinations") (n := "__next__") (by rw [typeLookup_type, builtinLookup_eq_fast]; kernel_rfl) (by decide +kernel) (by decide +kernel) (by decide +kernel) (by first | exact .inl (by decide +kernel) | exact .inr (by decide +kernel)) self_co
theorem eiter_co : entryFor table "itertools.combinations.__iter__" = some Builtin.«dict_keyiterator.__iter__» :=
  entryFor_alias (id' := "dict_keyiterator.__iter__") (by kernel_rfl) (by first | rfl | decide +kernel | (unfold String.splitOn; simp +decide [String.splitOnAux])) (by decide +kernel) (by kernel_rfl)
theorem enext_co : entryFor table "itertools.combinations.__next__" = some Builtin.«itertools.combinations.__next__» := entryFor_of_tree (by kernel_rfl)
theorem owner_co : Manifest.owners.lookup (String.ofList "itertools.combinations".toList) = some Manifest.sig_itertools_combinations := by kernel_rfl
theorem aiter_co (a : Value) : argsOk "itertools.combinations.__iter__" ⟨[a], []⟩ := by unfold argsOk; kernel_rfl
theorem anext_co (a : Value) : argsOk "itertools.combinations.__next__" ⟨[a], []⟩ := by unfold argsOk; kernel_rfl
theorem nodict_co : typeHasDict (.type "itertools.combinations") = false := by decide +kernel
theorem self_co2 : isSubtype (.type "itertools.combinations") (.type ("itertools." ++ "combinations")) = pure true := by
  rw [show ("itertools." ++ "combinations" : String) = "itertools.combinations" by decide]; exact self_co
end LC

namespace LC
open PySem PySem.Spec PyProof.Rows
open Sem (wp)
/-- a walk over pairs: the pool, the state, what was handed out, the two indices -/
def coObj (p : Addr) (st : Int) (old : Value) (i j : Nat) : Obj := { cls := .type "itertools.combinations", data := .fields #[.ref p, rawInt st, old, rawInt i, rawInt j] }
theorem meets_co (l : Addr) (T : String) (o : Obj) (its : Array Value) (n : Nat) (t : Tok) (hT : T = "list" ∨ T = "tuple") (hc : o.cls = .type T) (hd : o.data = .seq its n) (hz : its.size ≤ 1000) :
    Meets (Builtin.«itertools.combinations.__new__» ⟨[.type "itertools.combinations", .ref l, .int 2 t], []⟩)
      (fun _ R s => s.heap.get? l = some o ∧ ∀ h1 : Heap, s.heap.objs.size ≤ h1.objs.size → (∀ b u, s.heap.get? b = some u → h1.get? b = some u) →
        R (.ok (.ret (.ref (h1.objs.size + 1)))) { s with heap := (h1.push { cls := .type "tuple", data := .seq its.toList.toArray }).push (coObj h1.objs.size (if 2 > its.toList.length then 2 else 0) .none 0 1) }) :=
  .of_wp fun prog w A R s h => by
    obtain ⟨hp, g, dd, tk, os⟩ := s
    obtain ⟨ho, h⟩ := h
    have hsub := self_co
    have hsub2 := self_co2
    have hnd := nodict_co
    repeat (first
      | (with_reducible refine LT.gather (s := ⟨hp, g, dd, tk, os⟩) l hT ho hc hd (Nat.le_of_lt (L2.small1000 hz)) fun h1 z1 k1 => ?_)
      | (with_reducible refine wpAny_newTuple ?_ (by rw [Array.length_toList]; exact Nat.le_of_lt (L2.small1000 hz)))
      | wp_step
      | simp only [List.head?_cons, Option.some_or, List.getElem?_cons_succ, List.getElem?_cons_zero, List.length_cons, List.length_nil, List.forIn_nil])
    have z := h h1 z1 k1
    refine ⟨_, rfl, ?_⟩
    rw [Heap.size_push]
    exact z
section
variable {prog : Program} {w : World} {A : Around} {E : Value → Shared → Prop} {s : Shared}
theorem call_co {l : Addr} {T : String} {o : Obj} {its : Array Value} {n : Nat} {t : Tok} {Q : Value → Shared → Prop} (hT : T = "list" ∨ T = "tuple") (ho : s.heap.get? l = some o) (hc : o.cls = .type T) (hd : o.data = .seq its n) (hz : its.size ≤ 1000)
    (k : ∀ (h' : Heap) (p : Addr), s.heap.objs.size ≤ p → h'.get? (p + 1) = some (coObj p (if 2 > its.toList.length then 2 else 0) .none 0 1) → h'.get? p = some { cls := .type "tuple", data := .seq its.toList.toArray } → (∀ b u, s.heap.get? b = some u → h'.get? b = some u) → Q (.ref (p + 1)) { s with heap := h' }) :
    wpAny (model prog w) A (call (.type "itertools.combinations") [.ref l, .int 2 t]) Q E s := by
  refine callType_new called_co (by decide +kernel) (tcall_co _ _) (ncall_co _ _) (fun obj => PySem.F.args_object_init_3 obj _ _) enew_co (meets_co l T o its n t hT hc hd hz) ⟨ho, fun h1 z1 k1 => ?_⟩
  have e1 : ((h1.push { cls := .type "tuple", data := .seq its.toList.toArray }).push (coObj h1.objs.size (if 2 > its.toList.length then 2 else 0) .none 0 1)).get? (h1.objs.size + 1) = some (coObj h1.objs.size (if 2 > its.toList.length then 2 else 0) .none 0 1) := by
    have := Heap.get?_push_size (h1.push { cls := .type "tuple", data := .seq its.toList.toArray }) (o := coObj h1.objs.size (if 2 > its.toList.length then 2 else 0) .none 0 1) rfl
    rwa [Heap.size_push] at this
  have e2 : ((h1.push { cls := .type "tuple", data := .seq its.toList.toArray }).push (coObj h1.objs.size (if 2 > its.toList.length then 2 else 0) .none 0 1)).get? h1.objs.size = some { cls := .type "tuple", data := .seq its.toList.toArray } :=
    Heap.get?_push_of_some _ (Heap.get?_push_size _ rfl)
  exact ⟨⟨_, e1, rfl⟩, k _ h1.objs.size z1 e1 e2 fun b u q => Heap.get?_push_of_some _ (Heap.get?_push_of_some _ (k1 b u q))⟩
theorem iter_co {c p : Addr} {st : Int} {old : Value} {i j : Nat} {Q : Value → Shared → Prop} (hit : s.heap.get? c = some (coObj p st old i j)) (h : Q (.ref c) s) : wpAny (model prog w) A (pyIter (.ref c)) Q E s := by
  have hT : s.TypeIs (.ref c) "itertools.combinations" := ⟨_, hit, rfl⟩
  refine wpAny_pyIter_slot hT siter_co (wpAny_call_entry siter_co hT eiter_co ?_ (aiter_co _))
  show wpAny _ _ (ret (.ref c)) _ _ s
  exact wpAny_pure ⟨_, rfl, "itertools.combinations", _, hT, snext_co.lookup, h⟩
end
end LC

namespace LC
open PySem PySem.Spec PyProof.Rows
open Sem (wp)
open AutoSeq1 (wpAny_loadPart')
/-- only the object at c is other than it was, and new ones -/
def Oc (h h' : Heap) (c : Addr) : Prop := h.objs.size ≤ h'.objs.size ∧ ∀ b u, b ≠ c → h.get? b = some u → h'.get? b = some u
section
variable {prog : Program} {w : World} {A : Around} {E : Value → Shared → Prop} {s : Shared}
theorem next_first {c p : Addr} {its : Array Value} {n : Nat} {Q : Option Value → Shared → Prop} (hit : s.heap.get? c = some (coObj p 0 .none 0 1)) (hp : s.heap.get? p = some { cls := .type "tuple", data := .seq its n }) (hpc : p ≠ c)
    (k : ∀ (h' : Heap) (T : Addr), s.heap.objs.size ≤ T → h'.get? T = some { cls := .type "tuple", data := .seq #[its.getD 0 .none, its.getD 1 .none] } → h'.get? c = some (coObj p 1 (.ref T) 0 1) → (∀ b u, b ≠ c → s.heap.get? b = some u → h'.get? b = some u) → Q (some (.ref T)) { s with heap := h' }) :
    wpAny (model prog w) A (pyNext (.ref c)) Q E s := by
  have hT : s.TypeIs (.ref c) "itertools.combinations" := ⟨_, hit, rfl⟩
  unfold pyNext
  refine wpAny_bind (wpAny_attempt (wpAny_callSpecial?_slot (name := Str.ofString "__next__") hT snext_co (wpAny_call_entry snext_co hT enext_co ?_ (anext_co _))))
  wp_walk using wpAny_loadPart' hit, wpAny_loadPart' hp
  have e1 : (s.heap.update c (Obj.mapFields fun x => x.setIfInBounds 1 (rawInt 1))).get? c = some (coObj p 1 .none 0 1) := Heap.get?_update_self _ hit rfl
  have e2 := (Heap.get?_update_ne _ _ _ (Obj.mapFields fun x => x.setIfInBounds 1 (rawInt 1)) hpc).trans hp
  have e3 : ∀ b u, b ≠ c → s.heap.get? b = some u → (s.heap.update c (Obj.mapFields fun x => x.setIfInBounds 1 (rawInt 1))).get? b = some u := fun b u hb hu => (Heap.get?_update_ne _ _ _ _ hb).trans hu
  have e4 : (s.heap.update c (Obj.mapFields fun x => x.setIfInBounds 1 (rawInt 1))).objs.size = s.heap.objs.size := Heap.size_update ..
  generalize s.heap.update c (Obj.mapFields fun x => x.setIfInBounds 1 (rawInt 1)) = h2 at e1 e2 e3 e4
  wp_walk using wpAny_loadPart' e2
  have f1 := fun o => Heap.get?_push_of_some o e1
  refine ⟨_, rfl, wpAny_pure ?_⟩
  have lt := Heap.lt_size e1
  refine k _ h2.objs.size (by omega) ?_ (Heap.get?_update_self _ (f1 _) rfl) fun b u hb hu => ?_
  · exact (Heap.get?_update_ne _ _ _ _ (Nat.ne_of_gt lt)).trans (Heap.get?_push_size _ rfl)
  · exact (Heap.get?_update_ne _ _ _ _ hb).trans (Heap.get?_push_of_some _ (e3 b u hb hu))
end
end LC

namespace LC
open PySem PySem.Spec PyProof.Rows
open Sem (wp)
open AutoSeq1 (wpAny_loadPart')
/-- the pair of indices behind (i, j), as the walk finds it -/
def nx (n i j : Nat) : Option (List Nat) :=
  match (List.range 2).reverse.find? (fun k => [i, j].getD k 0 != k + n - 2) with
  | none => none
  | some k => some ([i, j].take k ++ (List.range (2 - k)).map fun m => [i, j].getD k 0 + 1 + m)
theorem nx_a {n i j : Nat} (h : j + 1 < n) : nx n i j = some [i, j + 1] := by
  have e : (List.range 2).reverse = [1, 0] := by decide
  unfold nx
  rw [e, List.find?_cons_of_pos (by simp; omega)]
  rfl
theorem nx_b {n i j : Nat} (h : j + 1 = n) (h2 : i + 2 < n) : nx n i j = some [i + 1, i + 2] := by
  have e : (List.range 2).reverse = [1, 0] := by decide
  unfold nx
  rw [e, List.find?_cons_of_neg (by simp; omega), List.find?_cons_of_pos (by simp; omega)]
  rfl
theorem nx_c {n i j : Nat} (h : j + 1 = n) (h2 : i + 2 = n) : nx n i j = none := by
  have e : (List.range 2).reverse = [1, 0] := by decide
  unfold nx
  rw [e, List.find?_cons_of_neg (by simp; omega), List.find?_cons_of_neg (by simp; omega)]
  rfl
section
variable {prog : Program} {w : World} {A : Around} {E : Value → Shared → Prop} {s : Shared}
theorem next_more {c p : Addr} {its : Array Value} {n i j i2 j2 : Nat} {old : Value} {Q : Option Value → Shared → Prop} (hit : s.heap.get? c = some (coObj p 1 old i j)) (hp : s.heap.get? p = some { cls := .type "tuple", data := .seq its n }) (hpc : p ≠ c) (hn : nx its.size i j = some [i2, j2])
    (k : ∀ (h' : Heap) (T : Addr), s.heap.objs.size ≤ T → h'.get? T = some { cls := .type "tuple", data := .seq #[its.getD i2 .none, its.getD j2 .none] } → h'.get? c = some (coObj p 1 (.ref T) i2 j2) → (∀ b u, b ≠ c → s.heap.get? b = some u → h'.get? b = some u) → Q (some (.ref T)) { s with heap := h' }) :
    wpAny (model prog w) A (pyNext (.ref c)) Q E s := by
  have hT : s.TypeIs (.ref c) "itertools.combinations" := ⟨_, hit, rfl⟩
  unfold pyNext
  refine wpAny_bind (wpAny_attempt (wpAny_callSpecial?_slot (name := Str.ofString "__next__") hT snext_co (wpAny_call_entry snext_co hT enext_co ?_ (anext_co _))))
  wp_walk using wpAny_loadPart' hit, wpAny_loadPart' hp
  split
  · rename_i nxt he
    change nx its.size i j = some nxt at he
    rw [hn] at he
    cases he
    have e1 : (s.heap.update c (Obj.mapFields fun fs => fs.extract 0 3 ++ (List.map (fun (n : Nat) => rawInt n) [i2, j2]).toArray)).get? c = some (coObj p 1 old i2 j2) := (Heap.get?_update_self _ hit rfl).trans (by simp [coObj, Obj.mapFields])
    have e2 := (Heap.get?_update_ne _ _ _ (Obj.mapFields fun fs => fs.extract 0 3 ++ (List.map (fun (n : Nat) => rawInt n) [i2, j2]).toArray) hpc).trans hp
    have e3 : ∀ b u, b ≠ c → s.heap.get? b = some u → (s.heap.update c (Obj.mapFields fun fs => fs.extract 0 3 ++ (List.map (fun (n : Nat) => rawInt n) [i2, j2]).toArray)).get? b = some u := fun b u hb hu => (Heap.get?_update_ne _ _ _ _ hb).trans hu
    have e4 : (s.heap.update c (Obj.mapFields fun fs => fs.extract 0 3 ++ (List.map (fun (n : Nat) => rawInt n) [i2, j2]).toArray)).objs.size = s.heap.objs.size := Heap.size_update ..
    wp_step
    wp_step
    wp_step
    refine wpAny_bind (wpAny_load hit ?_)
    show wpAny _ _ (update c (Obj.mapFields fun fs => fs.extract 0 3 ++ (List.map (fun (n : Nat) => rawInt n) [i2, j2]).toArray) >>= fun _ => lookBehind c) _ _ _
    wp_step
    with_reducible apply wpAny_update'
    · exact hit
    generalize s.heap.update c (Obj.mapFields fun fs => fs.extract 0 3 ++ (List.map (fun (n : Nat) => rawInt n) [i2, j2]).toArray) = h2 at e1 e2 e3 e4 ⊢
    wp_walk using wpAny_loadPart' e1, wpAny_loadPart' e2
    refine ⟨_, rfl, wpAny_pure ?_⟩
    have lt := Heap.lt_size e1
    have f1 := fun o => Heap.get?_push_of_some o e1
    refine k _ h2.objs.size (by omega) ?_ (Heap.get?_update_self _ (f1 _) rfl) fun b u hb hu => ?_
    · exact (Heap.get?_update_ne _ _ _ _ (Nat.ne_of_gt lt)).trans (Heap.get?_push_size _ rfl)
    · exact (Heap.get?_update_ne _ _ _ _ hb).trans (Heap.get?_push_of_some _ (e3 b u hb hu))
  · rename_i he
    change nx its.size i j = none at he
    rw [hn] at he
    cases he
theorem next_none {c p : Addr} {its : Array Value} {n i j : Nat} {old : Value} {Q : Option Value → Shared → Prop} (hh : A.handled = none) (hit : s.heap.get? c = some (coObj p 1 old i j)) (hp : s.heap.get? p = some { cls := .type "tuple", data := .seq its n }) (hpc : p ≠ c) (hn : nx its.size i j = none)
    (k : ∀ h' : Heap, s.heap.objs.size ≤ h'.objs.size → (∀ b u, b ≠ c → s.heap.get? b = some u → h'.get? b = some u) → Q none { s with heap := h' }) :
    wpAny (model prog w) A (pyNext (.ref c)) Q E s := by
  have hT : s.TypeIs (.ref c) "itertools.combinations" := ⟨_, hit, rfl⟩
  have hh1 : A.in1.handled = none := hh
  unfold pyNext
  refine wpAny_bind (wpAny_attempt (wpAny_callSpecial?_slot (name := Str.ofString "__next__") hT snext_co (wpAny_call_entry snext_co hT enext_co ?_ (anext_co _))))
  wp_walk using wpAny_loadPart' hit, wpAny_loadPart' hp
  split
  · rename_i nxt he
    change nx its.size i j = some nxt at he
    rw [hn] at he
    cases he
  · wp_walk using wpAny_loadPart' hit
    simp only [raiseNew]
    refine wpAny_bind (wpAny_handled ?_)
    rw [hh1]
    refine wpAny_bind (wpAny_pure (wpAny_throw ?_))
    refine wpAny_bind (wpAny_isInstance (T := "StopIteration") (b := true) ⟨_, Heap.get?_push_size _ rfl, rfl⟩ isSubtype_stop ?_)
    refine wpAny_pure (k _ (by simp only [Heap.size_push, Heap.size_update]; omega) fun b u hb hu => Heap.get?_push_of_some _ (Heap.get?_push_of_some _ ((Heap.get?_update_ne _ _ _ _ hb).trans hu)))
theorem next_over {c p : Addr} {i j : Nat} {old : Value} {Q : Option Value → Shared → Prop} (hh : A.handled = none) (hit : s.heap.get? c = some (coObj p 2 old i j))
    (k : ∀ h' : Heap, s.heap.objs.size ≤ h'.objs.size → (∀ b u, b ≠ c → s.heap.get? b = some u → h'.get? b = some u) → Q none { s with heap := h' }) :
    wpAny (model prog w) A (pyNext (.ref c)) Q E s := by
  have hT : s.TypeIs (.ref c) "itertools.combinations" := ⟨_, hit, rfl⟩
  have hh1 : A.in1.handled = none := hh
  unfold pyNext
  refine wpAny_bind (wpAny_attempt (wpAny_callSpecial?_slot (name := Str.ofString "__next__") hT snext_co (wpAny_call_entry snext_co hT enext_co ?_ (anext_co _))))
  wp_walk using wpAny_loadPart' hit
  simp only [raiseNew]
  refine wpAny_bind (wpAny_handled ?_)
  rw [hh1]
  refine wpAny_bind (wpAny_pure (wpAny_throw ?_))
  refine wpAny_bind (wpAny_isInstance (T := "StopIteration") (b := true) ⟨_, Heap.get?_push_size _ rfl, rfl⟩ isSubtype_stop ?_)
  refine wpAny_pure (k _ (by simp only [Heap.size_push, Heap.size_update]; omega) fun b u hb hu => Heap.get?_push_of_some _ (Heap.get?_push_of_some _ hu))
end
end LC

namespace LC
open PySem PySem.Spec PyProof.Rows L2
/-! ### the pairs, in their order -/
def nxp (n : Nat) (q : Nat × Nat) : Option (Nat × Nat) := if q.2 + 1 < n then some (q.1, q.2 + 1) else if q.1 + 2 < n then some (q.1 + 1, q.1 + 2) else none
def gop (n : Nat) : Nat → Nat × Nat → List (Nat × Nat)
  | 0, _ => []
  | f + 1, q => q :: match nxp n q with
    | none => []
    | some r => gop n f r
def prs (n : Nat) : List (Nat × Nat) := if n < 2 then [] else gop n (n * n + 1) (0, 1)
def mu (n : Nat) (q : Nat × Nat) : Nat := (n - q.1) * n - q.2
theorem nxp_ok {n : Nat} {q r : Nat × Nat} (h1 : q.1 < q.2) (h2 : q.2 < n) (h : nxp n q = some r) : r.1 < r.2 ∧ r.2 < n ∧ mu n r < mu n q := by
  unfold nxp at h
  have e : n ≤ (n - q.1) * n := Nat.le_mul_of_pos_left n (by omega)
  split at h
  · cases h
    refine ⟨by show q.1 < q.2 + 1; omega, by assumption, ?_⟩
    show (n - q.1) * n - (q.2 + 1) < (n - q.1) * n - q.2
    omega
  · split at h
    · cases h
      refine ⟨by show q.1 + 1 < q.1 + 2; omega, by assumption, ?_⟩
      show (n - (q.1 + 1)) * n - (q.1 + 2) < (n - q.1) * n - q.2
      have e2 : (n - q.1) * n = (n - (q.1 + 1)) * n + n := by
        rw [show n - q.1 = (n - (q.1 + 1)) + 1 by omega, Nat.add_mul, Nat.one_mul]
      omega
    · cases h
theorem gop_step {n : Nat} : ∀ (f : Nat) (q : Nat × Nat), q.1 < q.2 → q.2 < n → mu n q < f → ∀ (k : Nat) (r : Nat × Nat), (gop n f q)[k]? = some r → r.1 < r.2 ∧ r.2 < n ∧ (gop n f q)[k + 1]? = nxp n r
  | 0, q, _, _, h, _, _, _ => by omega
  | f + 1, q, h1, h2, h, k, r, hk => by
    cases e : nxp n q with
    | none =>
      have eg : gop n (f + 1) q = [q] := by rw [gop, e]
      rw [eg] at hk ⊢
      cases k with
      | zero => cases hk; exact ⟨h1, h2, by rw [e]; rfl⟩
      | succ k => simp at hk
    | some u =>
      obtain ⟨a, b, c⟩ := nxp_ok h1 h2 e
      have eg : gop n (f + 1) q = q :: gop n f u := by rw [gop, e]
      rw [eg] at hk ⊢
      cases k with
      | zero =>
        cases hk
        refine ⟨h1, h2, ?_⟩
        rw [e]
        show (gop n f u)[0]? = some u
        cases f with
        | zero => omega
        | succ f => rw [gop]; rfl
      | succ k => exact gop_step f u a b (by omega) k r hk
theorem prs_zero {n : Nat} (h : 2 ≤ n) : (prs n)[0]? = some (0, 1) := by
  unfold prs
  rw [if_neg (by omega), gop]; rfl
theorem prs_step {n k : Nat} {r : Nat × Nat} (h : (prs n)[k]? = some r) : r.1 < r.2 ∧ r.2 < n ∧ (prs n)[k + 1]? = nxp n r := by
  unfold prs at h ⊢
  by_cases c : n < 2
  · rw [if_pos c] at h; simp at h
  · rw [if_neg c] at h ⊢
    refine gop_step _ _ (by decide) (by show 1 < n; omega) ?_ k r h
    show (n - 0) * n - 1 < n * n + 1
    rw [Nat.sub_zero]; omega
theorem nx_of {n : Nat} {q r : Nat × Nat} (h1 : q.1 < q.2) (h2 : q.2 < n) (h : nxp n q = some r) : nx n q.1 q.2 = some [r.1, r.2] := by
  unfold nxp at h
  split at h
  · cases h; exact nx_a (by assumption)
  · split at h
    · cases h; exact nx_b (by omega) (by assumption)
    · cases h
theorem nx_of_none {n : Nat} {q : Nat × Nat} (h1 : q.1 < q.2) (h2 : q.2 < n) (h : nxp n q = none) : nx n q.1 q.2 = none := by
  unfold nxp at h
  split at h
  · cases h
  · split at h
    · cases h
    · exact nx_c (by omega) (by omega)
/-! ### the walk -/
/-- the pairs of the items xs, in their order, as new tuples -/
def Ico (xs : List V) : It :=
  ⟨fun k _ => k < (prs xs.length).length,
    fun k H v H' => ∃ (T : Addr) (q : Nat × Nat) (x y : V), v = .ref T ∧ H T = none ∧ H' = upd H T (.tup [x, y]) ∧ (prs xs.length)[k]? = some q ∧ xs[q.1]? = some x ∧ xs[q.2]? = some y,
    fun k _ => k = (prs xs.length).length⟩
def coSt (c p : Addr) (its : List Value) (k : Nat) (h : Heap) : Prop :=
  h.get? p = some { cls := .type "tuple", data := .seq its.toArray } ∧
    ((k = 0 ∧ h.get? c = some (coObj p (if 2 > its.length then 2 else 0) .none 0 1)) ∨ ∃ old q, 0 < k ∧ (prs its.length)[k - 1]? = some q ∧ h.get? c = some (coObj p 1 old q.1 q.2))
theorem coSt.c {c p : Addr} {its : List Value} {k : Nat} {h : Heap} (s : coSt c p its k h) : ∃ st old i j, h.get? c = some (coObj p st old i j) := by
  rcases s.2 with ⟨_, e⟩ | ⟨old, q, _, _, e⟩
  · exact ⟨_, _, _, _, e⟩
  · exact ⟨_, _, _, _, e⟩
theorem turn_co {P : Program} {w : World} {K : PySem.W.Frag} {tg : Expr} {c p : Addr} {xs : List V} {its : List Value} (rv : Vals xs its) (hpc : p ≠ c) :
    Turn P w K tg (Ico xs) [c, p] c (coSt c p its) where
  mem := List.mem_cons_self
  obj := fun k h st b hb => by
    rcases List.mem_cons.mp hb with rfl | hb
    · obtain ⟨_, _, _, _, e⟩ := st.c
      exact ⟨_, e, fun v q => by cases q⟩
    · rw [List.mem_singleton.mp hb]; exact ⟨_, st.1, fun v q => by cases q⟩
  keep := fun k h h' st kp => by
    refine ⟨kp p (by simp) _ st.1, ?_⟩
    rcases st.2 with ⟨k0, e⟩ | ⟨old, q, k0, e1, e⟩
    · exact .inl ⟨k0, kp c (by simp) _ e⟩
    · exact .inr ⟨old, q, k0, e1, kp c (by simp) _ e⟩
  item := by
    intro X hP hw hK hc k pins s σ H E I hf st hk
    subst hP hw hK
    replace hk : k < (prs xs.length).length := hk
    have hl := rv.length
    obtain ⟨q, hq⟩ : ∃ q, (prs xs.length)[k]? = some q := ⟨_, List.getElem?_eq_getElem hk⟩
    obtain ⟨q1, q2, _⟩ := prs_step hq
    have hx := List.getElem?_eq_getElem (l := xs) (i := q.1) (by omega)
    have hy := List.getElem?_eq_getElem (l := xs) (i := q.2) (by omega)
    obtain ⟨u, hu, ru⟩ := rv.get hx
    obtain ⟨v, hv, rv2⟩ := rv.get hy
    have hfc : ∀ b ∈ [c], FpOk X pins H b := fun b hb => hf b (by simp at hb; simp [hb])
    have fin : ∀ (h' : Heap) (T : Addr), s.heap.objs.size ≤ T → h'.get? T = some { cls := .type "tuple", data := .seq #[its.toArray.getD q.1 .none, its.toArray.getD q.2 .none] } → h'.get? c = some (coObj p 1 (.ref T) q.1 q.2) → (∀ b u, b ≠ c → s.heap.get? b = some u → h'.get? b = some u) →
        (∃ u, (some (Value.ref T)) = some u ∧ wpAny (model X.prog X.w) X.A (letOwnedTupleGo tg (.ref c) u) (fun _ s2 => ∃ x H', Inv X pins σ H' s2 ∧ RelV x u ∧ (Ico xs).yld k H x H' ∧ coSt c p its (k + 1) s2.heap ∧ ∀ b ∈ [c, p], H' b = none) E { s with heap := h' }) := by
      intro h' T hT eT ec kp
      refine ⟨_, rfl, go_of ec rfl rfl (by decide) ?_⟩
      have e1 : its.toArray.getD q.1 .none = u := by simp [hu]
      have e2 : its.toArray.getD q.2 .none = v := by simp [hv]
      rw [e1, e2] at eT
      have ob : ObjOk X.prog X.w (upd H T (.tup [xs[q.1]'(by omega), xs[q.2]'(by omega)])) h' T (.tup [xs[q.1]'(by omega), xs[q.2]'(by omega)]) :=
        ⟨by show 2 ≤ sizeLine; decide, [u, v], .cons ru (.cons rv2 .nil), ⟨_, eT, rfl, _, rfl⟩⟩
      have hTn := I.hok.fresh hT
      refine ⟨.ref T, _, I.turnedNew (ch := [c]) (t' := s.toks) (fun b o nb e => kp b o (fun z => nb (by simp [z])) e) hfc hT ob, rfl, ⟨T, q, _, _, rfl, hTn, rfl, hq, hx, hy⟩, ⟨kp p _ hpc st.1, .inr ⟨_, q, Nat.succ_pos k, by rw [Nat.add_sub_cancel, ← hl]; exact hq, ec⟩⟩, fun b hb => ?_⟩
      have lt : b < s.heap.objs.size := by
        rcases List.mem_cons.mp hb with rfl | hb
        · obtain ⟨_, _, _, _, e⟩ := st.c; exact Heap.lt_size e
        · rw [List.mem_singleton.mp hb]; exact Heap.lt_size st.1
      rw [upd_ne (Nat.ne_of_lt (Nat.lt_of_lt_of_le lt hT))]
      exact (hf b hb).1
    rcases st.2 with ⟨rfl, e⟩ | ⟨old, q0, k0, e1, e⟩
    · have hn : 2 ≤ its.length := by
        rw [← hl]
        rcases Nat.lt_or_ge xs.length 2 with z | z
        · unfold prs at hk; rw [if_pos z] at hk; simp at hk
        · exact z
      rw [if_neg (by omega)] at e
      have e0 := prs_zero (n := xs.length) (by omega)
      rw [hq] at e0
      cases e0
      exact next_first e st.1 hpc fun h' T hT eT ec kp => fin h' T hT eT ec kp
    · obtain ⟨a1, a2, a3⟩ := prs_step e1
      rw [← hl, show k - 1 + 1 = k by omega] at a3
      have hn : nxp xs.length q0 = some q := a3.symm.trans hq
      refine next_more e st.1 hpc (i2 := q.1) (j2 := q.2) ?_ fun h' T hT eT ec kp => fin h' T hT eT ec kp
      rw [List.size_toArray, ← hl]
      exact nx_of a1 (by omega) hn
  done := by
    intro X hP hw hK hc k pins s σ H E I hf st hk
    subst hP hw hK
    replace hk : k = (prs xs.length).length := hk
    have hl := rv.length
    have hfc : ∀ b ∈ [c], FpOk X pins H b := fun b hb => hf b (by simp at hb; simp [hb])
    have hh : X.A.handled = none := I.ok.hd hc
    rcases st.2 with ⟨rfl, e⟩ | ⟨old, q0, k0, e1, e⟩
    · have hn : 2 > its.length := by
        rw [← hl]
        rcases Nat.lt_or_ge xs.length 2 with z | z
        · exact z
        · have := (List.getElem?_eq_some_iff.mp (prs_zero z)).1; omega
      rw [if_pos hn] at e
      exact next_over hh e fun h' _ kp => ⟨rfl, I.turnedL (ch := [c]) (t' := s.toks) (fun b o nb q => kp b o (fun z => nb (by simp [z])) q) hfc⟩
    · obtain ⟨a1, a2, a3⟩ := prs_step e1
      rw [← hl, show k - 1 + 1 = k by omega, hk, List.getElem?_eq_none (Nat.le_refl _)] at a3
      exact next_none hh e st.1 hpc (by rw [List.size_toArray, ← hl]; exact nx_of_none a1 (by omega) a3.symm) fun h' _ kp => ⟨rfl, I.turnedL (ch := [c]) (t' := s.toks) (fun b o nb q => kp b o (fun z => nb (by simp [z])) q) hfc⟩
  self := fun A k s Q E st h => by
    obtain ⟨_, _, _, _, e⟩ := st.c
    exact iter_co e h
def iCo (K : PySem.W.Frag) (ta : TA) : TI := fun σ H R => ta σ H fun vs H1 => ∃ a xs, vs = [.ref a, .int 2] ∧ SqL K H1 a xs ∧ xs.length ≤ 1000 ∧ R (Ico xs) H1
theorem pi_co {X : Cx} {x : Str} {e e2 tg : Expr} {ta : TA} {p pos : Pos} (hg : Gl X x) (hm : X.mg x = some (.type "itertools.combinations")) (ha : PA X [e, e2] ta) (hdb : (x == ("__debug__" : Str)) = false := by decide)
    (hs : starEach [e, e2] X.env = (false, eval e X.env) :: starEach [e2] X.env := by rfl) (hpl : (backTo pos (starEach [e2] X.env)).any (·.1) = false := by rfl) :
    PI X tg (.Call (.Name x p) [e, e2] [] pos) (iCo X.K ta) := by
  constructor
  intro pins s σ H R I want
  refine wpAny_Call_Name_kw (ld_glob I hg hm ?_ hdb)
  refine PyProof.Rows.callWith_type1 (thn (ha.run pos pins s σ H _ I want) ?_) hs hpl
  rintro us s1 ⟨vs, H1, J, rel, a, xs, rfl, qx, hz, q⟩
  obtain ⟨u1, u2, rfl, r1, r2⟩ := vals2 rel
  cases r1
  obtain ⟨t, rfl⟩ := r2
  obtain ⟨its, rv, p1, _⟩ := J.list qx
  have hl := rv.length
  obtain ⟨o, ho, hc, n, hd⟩ := p1.isList
  refine call_co (.inl rfl) ho hc hd (by rw [List.size_toArray, ← hl]; exact hz) fun h' pp hpp e1 e2 kp => iter_co e1 ?_
  have J2 : Inv X pins σ H1 { s1 with heap := h' } := J.kept (t' := s1.toks) kp
  refine ⟨pp + 1, [pp + 1, pp], _, _, H1, rfl, J2, turn_co rv (Nat.ne_of_lt (Nat.lt_succ_self pp)), ⟨by simpa using e2, .inl ⟨rfl, by simpa using e1⟩⟩, fun b hb => ?_, q⟩
  have le : s1.heap.objs.size ≤ b := by
    rcases List.mem_cons.mp hb with rfl | hb
    · omega
    · rw [List.mem_singleton.mp hb]; exact hpp
  exact J.fpOk le (J.hok.fresh le)
theorem walk_co {xs : List V} : Walk (Ico xs) (prs xs.length).length (fun _ => True) (fun k H v H' => ∃ (T : Addr) (q : Nat × Nat) (x y : V), v = .ref T ∧ H T = none ∧ H' = upd H T (.tup [x, y]) ∧ (prs xs.length)[k]? = some q ∧ xs[q.1]? = some x ∧ xs[q.2]? = some y) :=
  ⟨fun _ _ h _ => h, fun _ _ => rfl, fun _ _ _ _ _ _ y => y⟩
end LC

namespace LX
open PySem PySem.Spec PyProof.Rows L2 LC
open Sem (wp)
/-- the text x, each sign in a new pair with its place -/
def IteS (x : Str) : It :=
  ⟨fun i _ => i < x.cps.size, fun i H v H' => ∃ T c, v = .ref T ∧ H T = none ∧ H' = upd H T (.tup [.int (i : Nat), .str ⟨#[c]⟩]) ∧ x.cps[i]? = some c, fun i _ => x.cps.size ≤ i⟩
theorem turn_enumS {P : Program} {w : World} {K : PySem.W.Frag} {elts : List Expr} {kk : Nat} {tpos : Pos} (z : Str) (t : Tok) (e it : Addr) :
    Turn P w K (.Tuple elts kk tpos) (IteS z) [e, it] e (fun i h => i ≤ z.cps.size ∧ (∃ old, IsEnum h e it ((i : Nat) : Int) old) ∧ h.IsStrIter it (strIterType z) z t i ∧ e ≠ it) where
  mem := List.mem_cons_self
  obj := fun i h ⟨_, ⟨old, he⟩, ⟨o, ho, _, hd⟩, _⟩ b hb => by
    rcases List.mem_cons.mp hb with rfl | hb
    · exact ⟨_, he, fun v q => by cases q⟩
    · rw [List.mem_singleton.mp hb]; exact ⟨o, ho, fun v q => by rw [hd] at q; cases q⟩
  keep := fun i h h' ⟨hi0, ⟨old, he⟩, ⟨o, ho, h2, h3⟩, ne⟩ k => ⟨hi0, ⟨old, k e List.mem_cons_self _ he⟩, ⟨o, k it (List.mem_cons_of_mem _ List.mem_cons_self) o ho, h2, h3⟩, ne⟩
  item := by
    intro X hP hw hK hc i pins s σ H E I hf ⟨hi0, ⟨old, he⟩, hit, ne⟩ hi
    subst hP hw hK
    replace hi : i < z.cps.size := hi
    have lte : e < s.heap.objs.size := Heap.lt_size he
    have lti : it < s.heap.objs.size := let ⟨_, q, _⟩ := hit; Heap.lt_size q
    refine wpAny_pyNext_enum_itemD (Draws.text (A := X.A.in1) (show X.A.in1.handled = none from I.ok.hd hc) it z t) he hit hi ne (by simp [ne]) fun y h1 tk hy out st new sz kept => ?_
    obtain ⟨c, u, hc1, rfl⟩ := hy
    refine ⟨_, rfl, wpAny_letOwnedTupleGo_enum (s := { s with heap := h1, toks := tk + 1 }) out fun h2 he2 sb => ?_⟩
    have new2 := (sb.2 _ (Nat.ne_of_gt lte)).trans new
    have ob : ObjOk X.prog X.w (upd H s.heap.objs.size (.tup [.int (i : Nat), .str ⟨#[c]⟩])) h2 s.heap.objs.size (.tup [.int (i : Nat), .str ⟨#[c]⟩]) :=
      ⟨by show 2 ≤ sizeLine; decide, [.int i tk, .str ⟨#[c]⟩ u], .cons ⟨_, rfl⟩ (.cons ⟨_, rfl⟩ .nil), ⟨_, new2, rfl, _, rfl⟩⟩
    have J : Inv X pins σ (upd H s.heap.objs.size (.tup [.int (i : Nat), .str ⟨#[c]⟩])) { s with heap := h2, toks := tk + 1 } :=
      I.turnedNew (ch := [e, it]) (fun b o nb q => (sb.2 b fun z => nb (by simp [z])).trans (kept b o (fun z => nb (by simp [z])) (fun z => nb (by simp [z])) q)) hf (Nat.le_refl _) ob
    refine ⟨.ref s.heap.objs.size, _, J, rfl, ⟨_, c, rfl, I.hok.fresh (Nat.le_refl _), rfl, hc1⟩, ⟨hi, ⟨.str ⟨#[c]⟩ u, by rw [show ((i + 1 : Nat) : Int) = (i : Int) + 1 by omega]; exact he2⟩, ?_, ne⟩, fun b hb => ?_⟩
    · obtain ⟨o, ho, q1, q2⟩ := st
      exact ⟨o, (sb.2 it ne.symm).trans ho, q1, q2⟩
    · have lt : b < s.heap.objs.size := by
        rcases List.mem_cons.mp hb with rfl | hb
        · exact lte
        · rw [List.mem_singleton.mp hb]; exact lti
      rw [upd_ne (Nat.ne_of_lt lt)]
      exact (hf b hb).1
  done := by
    intro X hP hw hK hc i pins s σ H E I hf ⟨hi0, ⟨old, he⟩, hit, ne⟩ hx
    subst hP hw hK
    replace hx : z.cps.size ≤ i := hx
    have ei : i = z.cps.size := Nat.le_antisymm hi0 hx
    subst ei
    obtain ⟨f0, f1, f2, f3, f4, f5⟩ := hf it (by simp)
    exact wpAny_pyNext_enum_endD (Draws.text (A := X.A.in1) (show X.A.in1.handled = none from I.ok.hd hc) it z t) he hit fun h1 eb => ⟨rfl, I.turned (t' := s.toks) (fun b o nb q => eb b o nb q) f0 f1 f3 f4 f5⟩
  self := fun A i s Q E ⟨_, ⟨_, he⟩, _⟩ h => wpAny_pyIter_enum he h
def iEnumS (ta : TA) : TI := fun σ H R => ta σ H fun vs H1 => ∃ x, vs = [.str x] ∧ R (IteS x) H1
/-- enumerate(s), s a text -/
theorem pi_enumS {X : Cx} {e : Expr} {ta : TA} {p pos tpos : Pos} {elts : List Expr} {kk : Nat} (hg : Gl X "enumerate") (hm : X.mg "enumerate" = none) (ha : PA X [e] ta) (hs : starEach [e] X.env = [(false, eval e X.env)] := by rfl) :
    PI X (.Tuple elts kk tpos) (.Call (.Name "enumerate" p) [e] [] pos) (iEnumS ta) := by
  constructor
  intro pins s σ H R I want
  refine Call_ (ld_blt I hg hm boot_enumerate (PyProof.Rows.callWith_type1 (thn (ha.run pos pins s σ H _ I want) ?_) hs rfl))
  rintro us s1 ⟨vs, H1, J, rel, x, rfl, q⟩
  obtain ⟨u, rfl, ru⟩ := vals1 rel
  obtain ⟨t, rfl⟩ := ru
  refine call_enumerate_str fun h1 he hit hsz keep => wpAny_pyIter_enum he ?_
  have J2 : Inv X pins σ H1 { s1 with heap := h1 } := J.kept (t' := s1.toks) keep
  refine ⟨s1.heap.objs.size + 1, [s1.heap.objs.size + 1, s1.heap.objs.size], _, _, H1, rfl, J2, turn_enumS x t _ _, ⟨Nat.zero_le _, ⟨.none, he⟩, hit, Nat.succ_ne_self _⟩, fun b hb => ?_, q⟩
  have le : s1.heap.objs.size ≤ b := by
    rcases List.mem_cons.mp hb with rfl | hb
    · exact Nat.le_add_right _ _
    · rw [List.mem_singleton.mp hb]; exact Nat.le_refl _
  exact J.fpOk le (J.hok.fresh le)
theorem walk_enumS {x : Str} : Walk (IteS x) x.cps.size (fun _ => True) (fun i H v H' => ∃ T c, v = .ref T ∧ H T = none ∧ H' = upd H T (.tup [.int (i : Nat), .str ⟨#[c]⟩]) ∧ x.cps[i]? = some c) :=
  ⟨fun _ _ h _ => h, fun _ _ => Nat.le_refl _, fun _ _ _ _ _ _ y => y⟩
theorem PG.or {X : Cx} {e : Expr} {t u : V → L2.St → Hp → (L2.St → Hp → Prop) → Prop} (h1 : PG X e t) (h2 : PG X e u) : PG X e (fun v σ H Q => t v σ H Q ∨ u v σ H Q) :=
  ⟨fun a1 a2 a3 a4 a5 a6 a7 a8 a9 w => w.elim (h1.run a1 a2 a3 a4 a5 a6 a7 a8 a9) (h2.run a1 a2 a3 a4 a5 a6 a7 a8 a9)⟩
/-! combinations(range(n), 2) -/
theorem small_of {n : Nat} (hz : n ≤ 1000) : Builtin.Range.small 0 (n : Int) 1 = true := by
  have e : Builtin.Range.rangeSize 0 (n : Int) 1 = ↑n := by
    unfold Builtin.Range.rangeSize
    simp
    omega
  have f : ∀ i : Int, 0 ≤ i → i ≤ 1000 → Builtin.Range.rangeFitsLong i = true := fun i h1 h2 => by
    unfold Builtin.Range.rangeFitsLong
    simp
    omega
  unfold Builtin.Range.small
  rw [e, f 0 (by decide) (by decide), f n (by omega) (by omega), f 1 (by decide) (by decide), if_pos (by decide), Int.sub_self, Int.add_zero, f n (by omega) (by omega)]
  simp
theorem size_of (n : Nat) : Builtin.Range.rangeSize 0 (n : Int) 1 = ↑n := by
  unfold Builtin.Range.rangeSize
  simp
  omega
theorem vals_rg : ∀ {m : Nat} {a : Int} {its : List Value}, its.length = m → (∀ (j : Nat) (v : Value), its[j]? = some v → ∃ t, v = .int (a + (j : Int)) t) → Vals ((List.range m).map fun i => V.int (a + ↑i)) its := by
  intro m
  induction m with
  | zero =>
    intro a its hl _
    cases its with
    | nil => exact .nil
    | cons _ _ => cases hl
  | succ m ih =>
    intro a its hl h
    cases its with
    | nil => cases hl
    | cons v r =>
      rw [List.range_succ_eq_map, List.map_cons, List.map_map]
      refine .cons ?_ ?_
      · obtain ⟨t, e⟩ := h 0 v rfl
        exact ⟨t, e⟩
      · have := ih (a := a + 1) (its := r) (by simpa using hl) fun j v hv => by
          obtain ⟨t, e⟩ := h (j + 1) v (by simpa using hv)
          exact ⟨t, by rw [e]; congr 1; omega⟩
        have e : (List.range m).map ((fun i : Nat => V.int (a + ↑i)) ∘ Nat.succ) = (List.range m).map fun i : Nat => V.int (a + 1 + ↑i) := by
          apply List.map_congr_left
          intro i _
          show V.int (a + ((i + 1 : Nat) : Int)) = V.int (a + 1 + ↑i)
          congr 1; omega
        rw [e]; exact this
theorem collect_rg {prog : Program} {w : World} {A : Around} {E : Value → Shared → Prop} {s : Shared} {r : Addr} {t u v : Tok} {n : Nat} {Q : List Value → Shared → Prop} (hh : A.handled = none) (hr : IsRange s.heap r 0 n 1 t u v) (hz : n ≤ 1000)
    (k : ∀ (h1 : Heap) (tk : Nat) (its : List Value), (∀ b u, s.heap.get? b = some u → h1.get? b = some u) → its.length = n → Vals (rgV 0 n) its → Q its { s with heap := h1, toks := tk }) :
    wpAny (model prog w) A (collect (.ref r)) Q E s := by
  refine L2.collect_range hh hr (small_of hz) (size_of n) (Nat.le_trans hz (by decide)) fun h1 tk acc k1 hit => ?_
  obtain ⟨h2, h3⟩ := hit
  have hl : acc.toList.length = n := by rw [Array.length_toList]; exact h2
  refine k h1 tk acc.toList k1 hl ?_
  have := vals_rg (m := n) (a := 0) hl fun j v hv => by
    obtain ⟨t, e⟩ := h3 j v (by simpa using hv)
    exact ⟨t, by rw [e]; congr 1; omega⟩
  unfold rgV
  rw [show ((n : Int) - 0).toNat = n by omega]
  exact this
theorem meets_coR (l : Addr) (n : Nat) (t1 u1 v1 t : Tok) (hz : n ≤ 1000) :
    Meets (Builtin.«itertools.combinations.__new__» ⟨[.type "itertools.combinations", .ref l, .int 2 t], []⟩)
      (fun A R s => A.handled = none ∧ IsRange s.heap l 0 n 1 t1 u1 v1 ∧ ∀ (h1 : Heap) (tk : Nat) (its : List Value), (∀ b u, s.heap.get? b = some u → h1.get? b = some u) → Vals (rgV 0 n) its →
        R (.ok (.ret (.ref (h1.objs.size + 1)))) { s with heap := (h1.push { cls := .type "tuple", data := .seq its.toArray }).push (coObj h1.objs.size (if 2 > its.length then 2 else 0) .none 0 1), toks := tk }) :=
  .of_wp fun prog w A R s h => by
    obtain ⟨hp, g, dd, tk, os⟩ := s
    obtain ⟨hh, hr, h⟩ := h
    have hsub := self_co
    have hsub2 := self_co2
    have hnd := nodict_co
    have hh1 : A.in1.handled = none := hh
    repeat (first
      | (with_reducible refine collect_rg (s := ⟨hp, g, dd, tk, os⟩) hh1 hr hz fun h1 tk2 its k1 hl1 hvs => ?_)
      | (with_reducible refine wpAny_newTuple ?_ (by rw [hl1]; exact Nat.le_of_lt (L2.small1000 hz)))
      | wp_step
      | simp only [List.head?_cons, Option.some_or, List.getElem?_cons_succ, List.getElem?_cons_zero, List.length_cons, List.length_nil, List.forIn_nil])
    have z := h h1 tk2 its k1 hvs
    refine ⟨_, rfl, ?_⟩
    rw [Heap.size_push]
    exact z
section
variable {prog : Program} {w : World} {A : Around} {E : Value → Shared → Prop} {s : Shared}
theorem call_coR {l : Addr} {n : Nat} {t1 u1 v1 t : Tok} {Q : Value → Shared → Prop} (hh : A.handled = none) (hr : IsRange s.heap l 0 n 1 t1 u1 v1) (hz : n ≤ 1000)
    (k : ∀ (h1 h' : Heap) (tk : Nat) (its : List Value), (∀ b u, s.heap.get? b = some u → h1.get? b = some u) → (∀ b u, h1.get? b = some u → h'.get? b = some u) → Vals (rgV 0 n) its →
      h'.get? (h1.objs.size + 1) = some (coObj h1.objs.size (if 2 > its.length then 2 else 0) .none 0 1) → h'.get? h1.objs.size = some { cls := .type "tuple", data := .seq its.toArray } → Q (.ref (h1.objs.size + 1)) { s with heap := h', toks := tk }) :
    wpAny (model prog w) A (call (.type "itertools.combinations") [.ref l, .int 2 t]) Q E s := by
  have hh1 : A.in1.handled = none := hh
  refine callType_new called_co (by decide +kernel) (tcall_co _ _) (ncall_co _ _) (fun obj => PySem.F.args_object_init_3 obj _ _) enew_co (meets_coR l n t1 u1 v1 t hz) ⟨hh1, hr, fun h1 tk its k1 hvs => ?_⟩
  have e1 : ((h1.push { cls := .type "tuple", data := .seq its.toArray }).push (coObj h1.objs.size (if 2 > its.length then 2 else 0) .none 0 1)).get? (h1.objs.size + 1) = some (coObj h1.objs.size (if 2 > its.length then 2 else 0) .none 0 1) := by
    have := Heap.get?_push_size (h1.push { cls := .type "tuple", data := .seq its.toArray }) (o := coObj h1.objs.size (if 2 > its.length then 2 else 0) .none 0 1) rfl
    rwa [Heap.size_push] at this
  have e2 : ((h1.push { cls := .type "tuple", data := .seq its.toArray }).push (coObj h1.objs.size (if 2 > its.length then 2 else 0) .none 0 1)).get? h1.objs.size = some { cls := .type "tuple", data := .seq its.toArray } :=
    Heap.get?_push_of_some _ (Heap.get?_push_size _ rfl)
  exact ⟨⟨_, e1, rfl⟩, k h1 _ tk its k1 (fun b u q => Heap.get?_push_of_some _ (Heap.get?_push_of_some _ q)) hvs e1 e2⟩
end
def iCoR (tr : L2.St → Hp → (Int → Int → Hp → Prop) → Prop) : TI := fun σ H R => tr σ H fun a b H1 => ∃ n : Nat, a = 0 ∧ b = n ∧ n ≤ 1000 ∧ R (Ico (rgV 0 n)) H1
theorem const2 {X : Cx} {j : Nat} {s : Shared} {E : Value → Shared → Prop} {Q : Value → Shared → Prop} (q : Q (Value.int 2 s.toks) { s with toks := s.toks + 1 }) : wpAny (model X.prog X.w) X.A (eval (.Constant (.int 2) j pos) X.env) Q E s := by
  show wpAny _ _ (constValue X.env (.int 2)) _ _ _
  unfold constValue
  repeat wp_step
  exact q
theorem pi_coR {X : Cx} {x : Str} {e tg : Expr} {tr : L2.St → Hp → (Int → Int → Hp → Prop) → Prop} {p pos pos2 : Pos} {j : Nat} (hg : Gl X x) (hm : X.mg x = some (.type "itertools.combinations")) (hc : X.calm = true) (ha : PRg X e tr) (hdb : (x == ("__debug__" : Str)) = false := by decide)
    (hs : starEach [e, .Constant (.int 2) j pos2] X.env = (false, eval e X.env) :: starEach [.Constant (.int 2) j pos2] X.env := by rfl) (hs2 : starEach [.Constant (.int 2) j pos2] X.env = (false, eval (.Constant (.int 2) j pos2) X.env) :: starEach [] X.env := by rfl) (hpl : (backTo pos (starEach [.Constant (.int 2) j pos2] X.env)).any (·.1) = false := by rfl) :
    PI X tg (.Call (.Name x p) [e, .Constant (.int 2) j pos2] [] pos) (iCoR tr) := by
  constructor
  intro pins s σ H R I want
  refine wpAny_Call_Name_kw (ld_glob I hg hm ?_ hdb)
  refine PyProof.Rows.callWith_type1 (PyProof.Rows.args_cons (thn (ha pins s σ H _ I want) ?_) hs) hs hpl
  rintro v s1 ⟨r, a, b, t, u, v, H1, rfl, hr, J, n, rfl, rfl, hz, q⟩
  refine PyProof.Rows.args_cons (const2 (PyProof.Rows.args_nil ?_)) hs2
  refine call_coR (J.ok.hd hc) hr hz fun h1 h' tk its k1 k2 rv e2 e1 => iter_co e2 ?_
  have J1 : Inv X pins σ H1 { s1 with heap := h1 } := J.kept (t' := s1.toks) k1
  have J2 : Inv X pins σ H1 { s1 with heap := h', toks := tk } := J1.kept (t' := tk) k2
  refine ⟨h1.objs.size + 1, [h1.objs.size + 1, h1.objs.size], _, _, H1, rfl, J2, turn_co rv (Nat.ne_of_lt (Nat.lt_succ_self h1.objs.size)), ⟨e1, .inl ⟨rfl, e2⟩⟩, fun b hb => ?_, q⟩
  have le : h1.objs.size ≤ b := by
    rcases List.mem_cons.mp hb with rfl | hb
    · omega
    · rw [List.mem_singleton.mp hb]; exact Nat.le_refl _
  exact J1.fpOk le (J1.hok.fresh le)
end LX

namespace LX
open PySem L2
theorem lookup_map {α β : Type} [BEq α] (g : α → β → β) (n : α) : ∀ l : List (α × β), List.lookup n (l.map fun x => (x.1, g x.1 x.2)) = (l.find? fun x => n == x.1).map fun x => g x.1 x.2
  | [] => rfl
  | (a, b) :: r => by
    rw [List.map_cons]
    show List.lookup n ((a, g a b) :: _) = _
    rw [List.lookup_cons, List.find?_cons]
    show (match n == a with | true => _ | false => _) = _
    cases q : n == a with
    | true => rfl
    | false => exact lookup_map g n r
theorem lookup_find {α β : Type} [BEq α] (n : α) : ∀ l : List (α × β), List.lookup n l = (l.find? fun x => n == x.1).map fun x => x.2
  | [] => rfl
  | (a, b) :: r => by
    rw [List.lookup_cons, List.find?_cons]
    cases q : n == a with
    | true => rfl
    | false => exact lookup_find n r
theorem relabel_or {sc : Scope} {env : Env} {n : Str} (h : List.lookup n sc.names = some NameKind.cell ∨ List.lookup n sc.names = some NameKind.free) :
    List.lookup n (relabel sc env).names = some NameKind.cell ∨ List.lookup n (relabel sc env).names = some NameKind.free := by
  have e : (relabel sc env).names = sc.names.map fun x => (x.1, (fun (n : Str) (k : NameKind) => if (k == NameKind.free && env.scope.kind == ScopeKind.function && env.kindOf n == some NameKind.cell) = true then NameKind.cell else k) x.1 x.2) := by
    unfold relabel
    apply List.map_congr_left
    rintro ⟨a, b⟩ _
    show (if _ then _ else _) = _
    split
    · rename_i q
      show _ = (a, if _ then _ else _)
      rw [if_pos q]
    · rename_i q
      show _ = (a, if _ then _ else _)
      rw [if_neg q]
  rw [e]
  generalize hg : (fun (n : Str) (k : NameKind) => if (k == NameKind.free && env.scope.kind == ScopeKind.function && env.kindOf n == some NameKind.cell) = true then NameKind.cell else k) = g
  rw [lookup_map g]
  have g1 : ∀ n, g n NameKind.cell = NameKind.cell := fun n => by rw [← hg]; exact if_neg (by simp)
  have g2 : ∀ n, g n NameKind.free = NameKind.cell ∨ g n NameKind.free = NameKind.free := fun n => by
    rw [← hg]
    show (if _ then _ else _) = _ ∨ (if _ then _ else _) = _
    split
    · exact .inl rfl
    · exact .inr rfl
  rw [lookup_find] at h
  cases q : sc.names.find? fun x => n == x.1 with
  | none => rw [q] at h; rcases h with h | h <;> cases h
  | some y =>
    rw [q] at h
    rcases h with h | h
    · left
      have h2 : y.2 = NameKind.cell := Option.some.inj h
      show some (g y.1 y.2) = _
      rw [h2, g1]
    · have h2 : y.2 = NameKind.free := Option.some.inj h
      show some (g y.1 y.2) = _ ∨ some (g y.1 y.2) = _
      rw [h2]
      exact (g2 y.1).imp (congrArg some) (congrArg some)
/-- a comprehension within a comprehension's block -/
theorem blkOk_in {X : Cx} {s : Shared} {H : Hp} {sc : Scope} {cl : List (Str × Addr)} {C : Addr} {fp : List Addr} {N : List Str} {scope : Scope} {own : List (Str × Nat)} (h : blkC N sc scope own = true) : BlkOk N (X.blk s H sc (compEnvC sc cl C X.env) fp).env.scope scope own := by
  obtain ⟨a, b, c, d, e⟩ := blkOk_by h
  exact ⟨a, b, c, fun y hy q => relabel_or (d y hy q), e⟩
end LX

namespace LP
open PySem L2 LT LG LQ LH LC LX
def G30 : Int := 1000000000000000000000000000000
/-- a place list of these places -/
structure Pl (ns : List Int) : Prop where
  nd : ns.Nodup
  rg : ∀ x ∈ ns, 0 ≤ x ∧ x ≤ G30
  le : ns.length ≤ 200
theorem Pl.perm {ns ms : List Int} (p : Pl ns) (h : ms.Perm ns) : Pl ms := ⟨h.nodup_iff.mpr p.nd, fun x hx => p.rg x (h.subset hx), by rw [h.length_eq]; exact p.le⟩
section
variable (K : PySem.W.Frag)
abbrev Is (H : Hp) (a : Addr) (ns : List Int) : Prop := SqE K H a (ns.map V.int)
def sp_is_whole : Sp := fun vs H Q _ => ∃ n : Int, vs = [.int n] ∧ Q (.bl true) H
def sp_is_listed : Sp := fun vs H Q _ => ∃ (a : Addr) (xs : List V), vs = [.ref a] ∧ SqE K H a xs ∧ ∀ H', Same H H' → Q (.bl true) H'
def sp_is_place : Sp := fun vs H Q _ => ∃ n : Int, vs = [.int n] ∧ 0 ≤ n ∧ n ≤ G30 ∧ Q (.bl true) H
def sp_is_place_list : Sp := fun vs H Q _ => ∃ (a : Addr) (ns : List Int), vs = [.ref a] ∧ Is K H a ns ∧ Pl ns ∧ ∀ H', Same H H' → Q (.bl true) H'
def sp_check_places : Sp := fun vs H Q _ => ∃ (a : Addr) (ns : List Int), vs = [.ref a] ∧ Is K H a ns ∧ Pl ns ∧ ∀ H', Same H H' → Q .non H'
def sp_check_same_places : Sp := fun vs H Q _ => ∃ (a b : Addr) (ns ms : List Int), vs = [.ref a, .ref b] ∧ Is K H a ns ∧ Is K H b ms ∧ ns.Perm ms ∧ ∀ H', Same H H' → Q .non H'
def sp_numbers_by_place : Sp := fun vs H Q _ => ∃ (a : Addr) (ns : List Int), vs = [.ref a] ∧ Is K H a ns ∧ Pl ns ∧ ∀ (H' : Hp) (d : Addr), Same H H' → H d = none → H' d = some (.dK (numK ns)) → Q (.ref d) H'
/-! the law's own -/
def sp__law_shuffled : Sp := fun vs H Q _ => ∃ (b l : Addr) (ns : List Int) (d : Nat) (p : Addr) (xs : List Int), vs = [.ref b, .ref p] ∧ Bag H b l ns d ∧ d < 900000 ∧ ns.length ≤ 63 ∧ SqL K H p (xs.map V.int) ∧ xs.length ≤ 400 ∧ p ≠ b ∧
  ∀ (H' : Hp) (q : Addr) (ys : List Int), Bag H' b l ns (d + xs.length) → Fr H H' b → H q = none → ys.Perm xs → H' q = some (.lst (ys.map V.int)) → Q (.ref q) H'
def sp__law_places : Sp := fun vs H Q _ => ∃ (b l : Addr) (ns : List Int) (d n : Nat), vs = [.ref b, .int n] ∧ Bag H b l ns d ∧ d < 890000 ∧ ns.length ≤ 63 ∧ n ≤ 200 ∧
  ∀ (H' : Hp) (q : Addr) (xs : List Int), Bag H' b l ns (d + 202) → Fr H H' b → H q = none → Pl xs → xs.length = n → H' q = some (.lst (xs.map V.int)) → Q (.ref q) H'
def sp__law_filled : Sp := fun vs H Q _ => ∃ (a : Addr) (ns : List Int) (l : Pat), vs = [.ref a, .str (pstr l)] ∧ SqL K H a (ns.map V.int) ∧ ns.length ≤ 200 ∧ Good l ∧ tks l = ns.length ∧ ∀ (H' : Hp) (p : Addr), Same H H' → H p = none → H' p = some (.lst ((fillsOf ns l).map V.int)) → Q (.ref p) H'
/-- a dict with the numbers of these places -/
abbrev Nm (H : Hp) (d : Addr) (ns : List Int) : Prop := H d = some (.dK (numK ns))
def sp_check_pair : Sp := fun vs H Q _ => ∃ (a b : Addr) (ns ms : List Int), vs = [.ref a, .ref b] ∧ Is K H a ns ∧ Is K H b ms ∧ Pl ns ∧ ms.Perm ns ∧ ∀ H', Same H H' → Q .non H'
def sp_is_two : Sp := fun vs H Q _ => ∃ (t f : Addr) (tk fs : List Int) (a b : Int), vs = [.ref t, .ref f, .int a, .int b] ∧ Nm H t tk ∧ Nm H f fs ∧ tk.Nodup ∧ fs.Nodup ∧ a ∈ tk ∧ b ∈ tk ∧ a ∈ fs ∧ b ∈ fs ∧
  Q (.bl (decide (a < b ∧ ix tk a < ix tk b ∧ ix fs b < ix fs a))) H
def sp_is_three : Sp := fun vs H Q _ => ∃ (t f : Addr) (tk fs : List Int) (a b c : Int), vs = [.ref t, .ref f, .int a, .int b, .int c] ∧ Nm H t tk ∧ Nm H f fs ∧ tk.Nodup ∧ fs.Nodup ∧ a ∈ tk ∧ b ∈ tk ∧ c ∈ tk ∧ a ∈ fs ∧ b ∈ fs ∧ c ∈ fs ∧
  Q (.bl (decide ((a < b ∧ b < c) ∧ (ix tk c < ix tk b ∧ ix tk b < ix tk a) ∧ ix fs a < ix fs c ∧ ix fs c < ix fs b))) H
/-- where there is no obstruction -/
def sp_first_two : Sp := fun vs H Q _ => ∃ (t f : Addr) (tk fs : List Int), vs = [.ref t, .ref f] ∧ Nm H t tk ∧ Nm H f fs ∧ tk.Nodup ∧ tk.length ≤ 200 ∧ fs.Perm tk ∧ NoObs tk fs ∧ ∀ H', Same H H' → Q .non H'
def sp_last_fill_between : Sp := fun vs H Q _ => ∃ (t f : Addr) (tk fs : List Int) (b : Int), vs = [.ref t, .ref f, .int b] ∧ Nm H t tk ∧ Nm H f fs ∧ t ≠ f ∧ tk.Nodup ∧ tk.length ≤ 200 ∧ fs.Perm tk ∧ b ∈ tk ∧
  ∀ (H' : Hp) (r : Int), Same H H' → (r = -1 ∨ ∃ c ∈ tk, c > b ∧ ix tk c < ix tk b ∧ ix fs c < ix fs b ∧ r = (ix fs c : Nat)) → Q (.int r) H'
def sp_first_three : Sp := fun vs H Q _ => ∃ (t f : Addr) (tk fs : List Int), vs = [.ref t, .ref f] ∧ Nm H t tk ∧ Nm H f fs ∧ t ≠ f ∧ tk.Nodup ∧ tk.length ≤ 200 ∧ fs.Perm tk ∧ NoObs tk fs ∧ ∀ H', Same H H' → Q .non H'
def sp_obstruction : Sp := fun vs H Q _ => ∃ (a b : Addr) (tk fs : List Int), vs = [.ref a, .ref b] ∧ Is K H a tk ∧ Is K H b fs ∧ Pl tk ∧ fs.Perm tk ∧ NoObs tk fs ∧ ∀ H', Same H H' → Q .non H'
def natV (ts : List Nat) : List V := ts.map fun t : Nat => V.int t
def los (tk fs : List Int) : List Nat := (List.range fs.length).map (lo tk fs)
def his (tk fs : List Int) : List Nat := (List.range fs.length).map (hi tk fs)
def sp_least_times : Sp := fun vs H Q _ => ∃ (a b : Addr) (tk fs : List Int), vs = [.ref a, .ref b] ∧ Is K H a tk ∧ Is K H b fs ∧ Pl tk ∧ fs.Perm tk ∧ ∀ (H' : Hp) (p : Addr), Same H H' → H p = none → H' p = some (.lst (natV (los tk fs))) → Q (.ref p) H'
def sp_most_times : Sp := fun vs H Q _ => ∃ (a b : Addr) (tk fs : List Int), vs = [.ref a, .ref b] ∧ Is K H a tk ∧ Is K H b fs ∧ Pl tk ∧ fs.Perm tk ∧ ∀ (H' : Hp) (p : Addr), Same H H' → H p = none → H' p = some (.lst (natV (his tk fs))) → Q (.ref p) H'
def sp_check_possible : Sp := fun vs H Q _ => ∃ (a b : Addr) (tk fs : List Int), vs = [.ref a, .ref b] ∧ Is K H a tk ∧ Is K H b fs ∧ Pl tk ∧ fs.Perm tk ∧ NoObs tk fs ∧ ∀ H', Same H H' → Q .non H'
/-- a list of pairs of numbers at p -/
structure Prs (H : Hp) (p : Addr) (ps : List (Nat × Nat)) (Ts : List Addr) : Prop where
  ls : H p = some (.lst (Ts.map V.ref))
  len : Ts.length = ps.length
  at_ : ∀ (i : Nat) T x, Ts[i]? = some T → ps[i]? = some x → H T = some (.tup [V.int x.1, V.int x.2])
def bnds (tk fs : List Int) : List (Nat × Nat) := (los tk fs).zip (his tk fs)
def sp_time_bounds : Sp := fun vs H Q _ => ∃ (a b : Addr) (tk fs : List Int), vs = [.ref a, .ref b] ∧ Is K H a tk ∧ Is K H b fs ∧ Pl tk ∧ fs.Perm tk ∧ NoObs tk fs ∧
  ∀ (H' : Hp) (p : Addr) (Ts : List Addr), Same H H' → H p = none → Prs H' p (bnds tk fs) Ts → Q (.ref p) H'
/-! facts -/
def fw : Fact → Str
  | .bf _ _ => "before"
  | .af _ _ => "after"
  | .ou _ _ => "out"
def fc1 : Fact → Nat
  | .bf i _ => i
  | .af i _ => i
  | .ou m _ => m
def fc2 : Fact → Nat
  | .bf _ j => j
  | .af _ j => j
  | .ou _ k => k
def fcV (f : Fact) : List V := [.str (fw f), .int (fc1 f : Nat), .int (fc2 f : Nat)]
/-- a list or tuple of facts at p -/
structure FsE (H : Hp) (p : Addr) (F : List Fact) (as : List Addr) : Prop where
  sq : SqE K H p (as.map V.ref)
  len : as.length = F.length
  at_ : ∀ (i : Nat) a f, as[i]? = some a → F[i]? = some f → SqE K H a (fcV f)
def LmAt (H : Hp) (a : Addr) (L : Lim) : Prop := ∃ (p q : Addr) (Ts Us : List Addr), H a = some (.tup [.ref p, .ref q]) ∧ Prs H p L.1 Ts ∧ Prs H q L.2 Us
def LmN (H H' : Hp) (a : Addr) (L : Lim) : Prop := ∃ (p q : Addr) (Ts Us : List Addr), H' a = some (.tup [.ref p, .ref q]) ∧ Prs H' p L.1 Ts ∧ Prs H' q L.2 Us ∧ H p = none ∧ H q = none
structure LmL (H : Hp) (p : Addr) (Ls : List Lim) (as : List Addr) : Prop where
  ls : H p = some (.lst (as.map V.ref))
  len : as.length = Ls.length
  at_ : ∀ (i : Nat) a L, as[i]? = some a → Ls[i]? = some L → LmAt H a L
/-- None, or the tuple of these numbers -/
def RsAt (H : Hp) (v : V) (r : List Nat) : Prop := (r = [] ∧ v = .non) ∨ (r ≠ [] ∧ ∃ a, v = .ref a ∧ H a = some (.tup (natV r)))
def badB (lo hi : Nat → Nat) (L : Lim) : Bool := L.1.any (fun x => decide (hi x.1 < x.2)) || L.2.any (fun x => decide (x.2 < lo x.1))
def behB (L M : Lim) : Bool := L.1.any fun x => M.2.any fun y => decide (x.1 ≤ y.1 ∧ y.2 < x.2)
theorem badB_iff {lo hi : Nat → Nat} {L : Lim} : badB lo hi L = true ↔ Bad lo hi L := by
  unfold badB Bad
  simp only [Bool.or_eq_true, List.any_eq_true, decide_eq_true_eq]
theorem behB_iff {L M : Lim} : behB L M = true ↔ Beh L M := by
  unfold behB Beh
  simp only [List.any_eq_true, decide_eq_true_eq]
def sp_is_number : Sp := fun vs H Q _ => ∃ x n : Int, vs = [.int x, .int n] ∧ 0 ≤ x ∧ x < n ∧ Q (.bl true) H
def sp_is_fact : Sp := fun vs H Q _ => ∃ (a : Addr) (n : Nat) (f : Fact), vs = [.ref a, .int n] ∧ SqE K H a (fcV f) ∧ f.ok n ∧ n ≤ 200 ∧ ∀ H', Same H H' → Q (.bl true) H'
def sp_check_facts : Sp := fun vs H Q _ => ∃ (p : Addr) (n : Nat) (F : List Fact) (as : List Addr), vs = [.ref p, .int n] ∧ FsE K H p F as ∧ (∀ f ∈ F, f.ok n) ∧ n ≤ 200 ∧ F.length ≤ 400 ∧ ∀ H', Same H H' → Q .non H'
def sp_limits_of_out : Sp := fun vs H Q _ => ∃ m k n : Nat, vs = [.int m, .int k, .int n] ∧ m ≤ 2 * n ∧ k ≤ n ∧ n ≤ 200 ∧ ∀ (H' : Hp) (a : Addr), Same H H' → LmN H H' a (limOut n m k) → Q (.ref a) H'
def sp_limits_of : Sp := fun vs H Q _ => ∃ (a : Addr) (n : Nat) (f : Fact), vs = [.ref a, .int n] ∧ SqE K H a (fcV f) ∧ f.ok n ∧ n ≤ 200 ∧ ∀ (H' : Hp) (q : Addr), Same H H' → LmN H H' q (lim n f) → Q (.ref q) H'
def sp_read_facts : Sp := fun vs H Q _ => ∃ (a b p : Addr) (tk fs : List Int) (F : List Fact) (as : List Addr), vs = [.ref a, .ref b, .ref p] ∧ Is K H a tk ∧ Is K H b fs ∧ Pl tk ∧ fs.Perm tk ∧ NoObs tk fs ∧ FsE K H p F as ∧ (∀ f ∈ F, f.ok tk.length) ∧ F.length ≤ 400 ∧
  ∀ (H' : Hp) (q x y : Addr) (Ts Us : List Addr), Same H H' → H' q = some (.tup [.ref x, .ref y]) → Prs H' x (bnds tk fs) Ts → LmL H' y (F.map (lim tk.length)) Us → Q (.ref q) H'
def nb (tk fs : List Int) (Ls : List Lim) : List (Nat × Nat) := (List.range fs.length).map fun j => (nlo (lo tk fs) Ls j, nhi (hi tk fs) Ls j)
def sp_narrow : Sp := fun vs H Q _ => ∃ (x y : Addr) (tk fs : List Int) (Ls : List Lim) (Ts Us : List Addr), vs = [.ref x, .ref y] ∧ Prs H x (bnds tk fs) Ts ∧ LmL H y Ls Us ∧ Ls.length ≤ 400 ∧ fs.length ≤ 200 ∧ (∀ L ∈ Ls, LimOk fs.length L) ∧ fs.Perm tk ∧
  ∀ (H' : Hp) (p : Addr) (Xs : List Addr), Same H H' → Prs H' p (nb tk fs Ls) Xs → Q (.ref p) H'
def sp_can_be_met : Sp := fun vs H Q _ => ∃ (x : Addr) (ps : List (Nat × Nat)) (Ts : List Addr), vs = [.ref x] ∧ Prs H x ps Ts ∧ ps.length ≤ 200 ∧ ∀ H', Same H H' → Q (.bl (ps.all fun z => decide (z.1 ≤ z.2))) H'
def sp_contradicts_pair : Sp := fun vs H Q _ => ∃ (a p : Addr) (tk fs : List Int) (L : Lim) (Ts : List Addr), vs = [.ref a, .ref p] ∧ LmAt H a L ∧ Prs H p (bnds tk fs) Ts ∧ LimOk fs.length L ∧ L.1.length ≤ 1 ∧ L.2.length ≤ 1 ∧ ∀ H', Same H H' → Q (.bl (badB (lo tk fs) (hi tk fs) L)) H'
def sp_puts_behind : Sp := fun vs H Q _ => ∃ (a b : Addr) (L M : Lim), vs = [.ref a, .ref b] ∧ LmAt H a L ∧ LmAt H b M ∧ L.1.length ≤ 1 ∧ M.2.length ≤ 1 ∧ ∀ H', Same H H' → Q (.bl (behB L M)) H'
def OneL (tk fs : List Int) (Ls : List Lim) (x : Nat) : Prop := ∃ L, Ls[x]? = some L ∧ Bad (lo tk fs) (hi tk fs) L
def TwoL (Ls : List Lim) (x y : Nat) : Prop := ∃ L M, Ls[x]? = some L ∧ Ls[y]? = some M ∧ (Beh L M ∨ Beh M L)
def sp_find_contradiction : Sp := fun vs H Q _ => ∃ (x y : Addr) (tk fs : List Int) (Ls : List Lim) (Ts Us : List Addr), vs = [.ref x, .ref y] ∧ Prs H x (bnds tk fs) Ts ∧ LmL H y Ls Us ∧ Ls.length ≤ 400 ∧ (∀ L ∈ Ls, LimOk fs.length L ∧ L.1.length ≤ 1 ∧ L.2.length ≤ 1) ∧
  ∀ (H' : Hp) (v : V) (r : List Nat), Same H H' → Conf Ls.length (OneL tk fs Ls) (TwoL Ls) r → RsAt H' v r → Q v H'
/-! the law's own, of what it makes itself -/
def EA (H : Hp) (a : Addr) (xs : List V) : Prop := H a = some (.lst xs) ∨ H a = some (.tup xs)
structure FsA (H : Hp) (b p : Addr) (F : List Fact) (as : List Addr) : Prop where
  sq : EA H p (as.map V.ref)
  nb : p ≠ b
  len : as.length = F.length
  at_ : ∀ (i : Nat) a f, as[i]? = some a → F[i]? = some f → EA H a (fcV f) ∧ a ≠ b
def psV (ps : List Pat) : List V := ps.map fun t => V.str (pstr t)
def sp__law_either : Sp := fun vs H Q _ => ∃ (b l : Addr) (ns : List Int) (d : Nat) (p : Addr) (xs : List V), vs = [.ref b, .ref p] ∧ Bag H b l ns d ∧ d < 900000 ∧ ns.length ≤ 63 ∧ EA H p xs ∧ p ≠ b ∧
  ∀ (H' : Hp) (q : Addr), Bag H' b l ns (d + 1) → Fr H H' b → q ≠ b → EA H' q xs → Q (.ref q) H'
def sp__law_dressed : Sp := fun vs H Q _ => ∃ (b l : Addr) (ns : List Int) (d : Nat) (p : Addr) (F : List Fact) (as : List Addr), vs = [.ref b, .ref p] ∧ Bag H b l ns d ∧ d < 890000 ∧ ns.length ≤ 63 ∧ F.length ≤ 400 ∧ H p = some (.lst (as.map V.ref)) ∧ FsA H b p F as ∧
  ∀ (H' : Hp) (q : Addr) (Us : List Addr), Bag H' b l ns (d + 401) → Fr H H' b → FsA H' b q F Us → Q (.ref q) H'
def sp__law_all_patterns : Sp := fun vs H Q _ => ∃ n : Nat, vs = [.int n] ∧ n ≤ 5 ∧ ∀ (H' : Hp) (p : Addr) (ps : List Pat), Same H H' → H p = none → (∀ t, t ∈ ps ↔ Good t ∧ tks t = n) → ps.length ≤ 1024 → H' p = some (.lst (psV ps)) → Q (.ref p) H'
def sp__law_few : Sp := fun vs H Q _ => ∃ (b l : Addr) (ns : List Int) (d : Nat), vs = [.ref b, .int 5] ∧ Bag H b l ns d ∧ d < 880000 ∧ ns.length ≤ 63 ∧
  ∀ (H' : Hp) (q x y z : Addr) (tk fs : List Int) (ps : List Pat), Bag H' b l ns (d + 204) → Fr H H' b → H' q = some (.tup [.ref x, .ref y, .ref z]) → H' x = some (.lst (tk.map V.int)) → H' y = some (.lst (fs.map V.int)) → H' z = some (.lst (psV ps)) → x ≠ b → y ≠ b → z ≠ b → Pl tk → tk.length ≤ 5 → Every tk fs ps → ps.length ≤ 1024 → Q (.ref q) H'
def sp__law_fact : Sp := fun vs H Q _ => ∃ (b l : Addr) (ns : List Int) (d n : Nat), vs = [.ref b, .int n] ∧ Bag H b l ns d ∧ d < 890000 ∧ ns.length ≤ 63 ∧ n ≤ 5 ∧
  ∀ (H' : Hp) (q : Addr) (f : Fact), Bag H' b l ns (d + 6) → Fr H H' b → q ≠ b → H' q = some (.tup (fcV f)) → f.ok n → Q (.ref q) H'
def sp__law_holds : Sp := fun vs H Q _ => ∃ (l : Pat) (a : Addr) (f : Fact), vs = [.str (pstr l), .ref a] ∧ H a = some (.tup (fcV f)) ∧ Good l ∧ f.ok (tks l) ∧ tks l ≤ 5 ∧ ∀ H', Same H H' → Q (.bl (holds l f)) H'
/-- a list of facts, each a tuple, at p -/
structure FsL (H : Hp) (p : Addr) (F : List Fact) (as : List Addr) : Prop where
  ls : H p = some (.lst (as.map V.ref))
  len : as.length = F.length
  at_ : ∀ (i : Nat) a f, as[i]? = some a → F[i]? = some f → H a = some (.tup (fcV f))
def sp__law_fitting : Sp := fun vs H Q _ => ∃ (s p : Addr) (n : Nat) (ps : List Pat) (F : List Fact) (as : List Addr), vs = [.ref s, .ref p] ∧ H s = some (.lst (psV ps)) ∧ FsL H p F as ∧ (∀ t ∈ ps, Good t ∧ tks t = n) ∧ (∀ f ∈ F, f.ok n) ∧ n ≤ 5 ∧ ps.length ≤ 1024 ∧ F.length ≤ 6 ∧
  ∀ (H' : Hp) (q : Addr), Same H H' → H q = none → H' q = some (.lst (psV (ps.filter fun l => F.all (holds l)))) → Q (.ref q) H'
def sp__law_conflict : Sp := fun vs H Q _ => ∃ (s p : Addr) (n : Nat) (ps : List Pat) (F : List Fact) (as : List Addr), vs = [.ref s, .ref p] ∧ H s = some (.lst (psV ps)) ∧ FsL H p F as ∧ (∀ t ∈ ps, Good t ∧ tks t = n) ∧ (∀ f ∈ F, f.ok n) ∧ n ≤ 5 ∧ ps.length ≤ 1024 ∧ F.length ≤ 6 ∧
  ∀ (H' : Hp) (v : V) (r : List Nat), Same H H' → Conf F.length (OneP ps F) (TwoP ps F) r → RsAt H' v r → Q v H'
def sp_law : Sp := fun vs H Q _ => ∃ (a : Addr) (ns : List Int), vs = [.ref a] ∧ SqL K H a (ns.map V.int) ∧ ns.length ≤ 63 ∧ ∀ H', Q (.bl true) H'
end
end LP

namespace LP
open PySem L2 LT LG LQ LH LC LX
section
variable {P : Program} {w : World} {K : PySem.W.Frag} {mg : Str → Option Value} {base : Heap}
theorem ok_is_whole (e : Env P K mg) : FnOk P w K mg base CX0 1 e.a_is_whole e.d_is_whole ["value"] (sp_is_whole) := by
  refine Fun.ok e.f_is_whole sc_is_whole (fun vs H Q E h => ?_) (fun cdv A outer s H vs Q E hr h => ?_)
  · obtain ⟨n, rfl, _⟩ := h; rfl
  · obtain ⟨n, rfl, k⟩ := h
    refine ⟨_, (pss_one (ps_ret (pe_and (pe_callB call_isi (by rfl) e.n_isinstance (by decide +kernel) (pa_cons (pv 0) (pa_cons (pe_bltn (v := V.ty "int") (by rfl) e.n_int (by decide +kernel) rfl) pa_nil))) (pe_one (pe_not (pe_callB call_isi (by rfl) e.n_isinstance (by decide +kernel) (pa_cons (pv 0) (pa_cons (pe_bltn (v := V.ty "bool") (by rfl) e.n_bool (by decide +kernel) rfl) pa_nil)))))))), ?_⟩
    refine ⟨_, rfl, _, _, _, _, true, rfl, .ty "int", .base (.int n), kit_ty (by decide +kernel), _, rfl, iteT ?_⟩
    refine ⟨_, rfl, _, _, _, _, false, rfl, .ty "bool", .base (.int n), kit_ty (by decide +kernel), _, rfl, ?_⟩
    exact k
theorem ok_is_listed (e : Env P K mg) : FnOk P w K mg base CX0 1 e.a_is_listed e.d_is_listed ["value"] (sp_is_listed K) := by
  refine Fun.ok e.f_is_listed sc_is_listed (fun vs H Q E h => ?_) (fun cdv A outer s H vs Q E hr h => ?_)
  · obtain ⟨a, xs, rfl, _⟩ := h; rfl
  · obtain ⟨a, xs, rfl, hx, k⟩ := h
    refine ⟨_, (pss_one (ps_ret (pe_callB call_isiT (by rfl) e.n_isinstance (by decide +kernel) (pa_cons (pv 0) (pa_cons (pe_tup (pa_cons (pe_bltn (v := V.ty "list") (by rfl) e.n_list (by decide +kernel) rfl) (pa_cons (pe_bltn (v := V.ty "tuple") (by rfl) e.n_tuple (by decide +kernel) rfl) pa_nil))) pa_nil))))), ?_⟩
    refine ⟨_, rfl, (by show 2 ≤ sizeLine; decide), fun p hp => ?_⟩
    rcases ty_E (hx.same (same_upd hp)) with hx | hx
    · exact ⟨_, p, _, .type "list", [.type "list", .type "tuple"], true, rfl, upd_same, .cons (.ty _) (.cons (.ty _) .nil), hx, kit_lt, k _ (same_upd hp)⟩
    · exact ⟨_, p, _, .type "tuple", [.type "list", .type "tuple"], true, rfl, upd_same, .cons (.ty _) (.cons (.ty _) .nil), hx, kit_tt, k _ (same_upd hp)⟩
theorem ok_is_place (e : Env P K mg) : FnOk P w K mg base CX0 2 e.a_is_place e.d_is_place ["value"] (sp_is_place) := by
  refine Fun.ok e.f_is_place sc_is_place (fun vs H Q E h => ?_) (fun cdv A outer s H vs Q E hr h => ?_)
  · obtain ⟨n, rfl, _⟩ := h; rfl
  · obtain ⟨n, rfl, h1, h2, k⟩ := h
    refine ⟨_, (pss_one (ps_ret (pe_and (pe_call ((ok_is_whole e).mono (by decide)) hr rfl e.g_is_whole e.f_is_whole.kp e.b_is_whole .nil pass0 (pa_cons (pv 0) pa_nil)) (pe_one (pe_chain op_le op_le pe_int (pv 0) (pe_glob (v := V.int 1000000000000000000000000000000) rfl e.g_GREATEST_PLACE ⟨_, rfl⟩)))))), ?_⟩
    refine ⟨_, rfl, n, rfl, _, rfl, iteT ?_⟩
    refine ⟨_, rfl, _, _, rfl, rfl, _, rfl, iteD h1 ?_⟩
    refine ⟨_, _, rfl, rfl, ?_⟩
    show Q (V.bl (decide (n ≤ 1000000000000000000000000000000))) H
    rw [decide_eq_true (show n ≤ 1000000000000000000000000000000 from h2)]
    exact k
theorem all_bl {bs : List Bool} (h : ∀ b ∈ bs, b = true) : bs.all id = true := List.all_eq_true.mpr h
theorem ok_is_place_list (e : Env P K mg) : FnOk P w K mg base CX0 3 e.a_is_place_list e.d_is_place_list ["value"] (sp_is_place_list K) := by
  refine Fun.ok e.f_is_place_list sc_is_place_list (fun vs H Q E h => ?_) (fun cdv A outer s H vs Q E hr h => ?_)
  · obtain ⟨a, ns, rfl, _⟩ := h; rfl
  · obtain ⟨a, ns, rfl, hE, pl, k⟩ := h
    refine ⟨_, (pss_cons (ps_if (PW.pt (pw_or (pt_not (pt_val (pe_call ((ok_is_listed e).mono (by decide)) hr rfl e.g_is_listed e.f_is_listed.kp e.b_is_listed .nil pass0 (pa_cons (pv 0) pa_nil)))) (pw_or1 (pt_cmpR op_gt (pe_callB LS.call_len (by rfl) e.n_len PySem.boot_len (pa_cons (pv 0) pa_nil)) (pe_glob (v := V.int 200) rfl e.g_MOST_PLACES ⟨_, rfl⟩) (nomark _)))))
        (pss_one (ps_ret pe_bl))
        pss_nil)
      (pss_one (ps_ret (pe_and (pe_callB (cr_all rfl) (by rfl) e.n_all (by decide +kernel) (pa_cons (pe_lc (own := [("item", 1)]) rfl sc_is_place_list.nd (PI.or (pi_list (pv 0)) (pi_tup (pv 0))) (blkOk_by (N := ["value", "item"]) (sc := defScope s_is_place_list) (by decide +kernel)) (fun _ _ _ _ _ => (pg_name (i := 1) sc_is_place_list.nd rfl (by first | exact Or.inl rfl | exact Or.inr rfl))) (fun _ _ _ _ _ => pts_nil) (fun _ _ _ _ _ => (pe_call ((ok_is_place e).mono (by decide)) hr rfl e.g_is_place e.f_is_place.kp e.b_is_place .nil pass0 (pa_cons (pv 1) pa_nil)))) pa_nil)) (pe_one (pe_cmpR op_eq (pe_lenSetS (by rfl) e.n_len (by rfl) e.n_set (pv 0)) (pe_callB LS.call_len (by rfl) e.n_len PySem.boot_len (pa_cons (pv 0) pa_nil)) (nomark _))))))), ?_⟩
    refine ⟨_, rfl, a, _, rfl, hE, fun H1 s1 => ⟨true, rfl, iteNB rfl ?_⟩⟩
    have hE1 := hE.same s1
    have hle := pl.le
    refine ⟨_, rfl, a, _, rfl, hE1, _, _, rfl, rfl, _, rfl, iteX (by rw [List.length_map]; omega) ?_⟩
    refine or_E hE1 rfl fun J G wk hG D hD => ?_
    have sD : ∀ o, Same H1 (upd H1 D o) := fun o => same_upd hD
    refine lc_it wk (fun j H' => H' = upd H1 D (.lst (List.replicate j (V.bl true)))) rfl (fun j H' _ h => by subst h; exact hG _ (sD _)) ?_ ?_
    · rintro j x H2 H3 hj rfl ⟨rfl, hx⟩
      obtain ⟨n, hn, rfl⟩ := at_int hx
      obtain ⟨h0, h1⟩ := pl.rg n (List.mem_of_getElem? hn)
      rw [List.length_map] at hj
      refine ⟨rfl, _, rfl, n, rfl, h0, h1, _, upd_same, ?_, ?_⟩
      · rw [List.length_replicate]; exact small1000 (by omega)
      · rw [upd_upd, ← List.replicate_succ']
    · rintro H2 rfl
      have hb : List.replicate (List.map V.int ns).length (V.bl true) = (List.replicate ns.length true).map V.bl := by rw [List.length_map, List.map_replicate]
      refine ⟨D, List.replicate ns.length true, rfl, SqL.of (by rw [upd_same, hb]), true, ?_, iteT ?_⟩
      · rw [all_bl fun b hb => (List.mem_replicate.mp hb).2]
      have hE2 := hE1.same (sD (.lst (List.replicate (List.map V.int ns).length (V.bl true))))
      refine ⟨_, rfl, a, ns, rfl, hE2, pl.nd, by omega, ?_⟩
      refine ⟨_, rfl, a, _, rfl, hE2, rfl, ?_⟩
      rw [List.length_map, decide_eq_true rfl]
      have s2 : Same H (upd H1 D (.lst (List.replicate (List.map V.int ns).length (V.bl true)))) := s1.trans (sD _)
      rw [List.length_map] at s2
      exact k _ s2
theorem ok_check_places (e : Env P K mg) : FnOk P w K mg base CX0 4 e.a_check_places e.d_check_places ["value"] (sp_check_places K) := by
  refine Fun.ok e.f_check_places sc_check_places (fun vs H Q E h => ?_) (fun cdv A outer s H vs Q E hr h => ?_)
  · obtain ⟨a, ns, rfl, _⟩ := h; rfl
  · obtain ⟨a, ns, rfl, hE, pl, k⟩ := h
    refine ⟨_, (pss_one (ps_if (pt_not (pt_val (pe_call ((ok_is_place_list e).mono (by decide)) hr rfl e.g_is_place_list e.f_is_place_list.kp e.b_is_place_list .nil pass0 (pa_cons (pv 0) pa_nil))))
        (pss_one ps_never)
        pss_nil)), ?_⟩
    exact ⟨_, rfl, a, ns, rfl, hE, pl, fun H1 s1 => ⟨true, rfl, iteNB rfl (k _ s1)⟩⟩
theorem dp_ints {K : PySem.W.Frag} {H : Hp} : ∀ l : List Int, DpAll K H (l.map V.int) (l.map PyData.int)
  | [] => .nil
  | i :: r => .cons (.int i) (dp_ints r)
theorem canLay_ints : ∀ l : List Int, PyData.canLayAll0 (l.map PyData.int) = true
  | [] => rfl
  | i :: r => by simp [PyData.canLayAll0, PyData.canLay0, canLay_ints r]
theorem depth_ints : ∀ l : List Int, PyData.depthAll (l.map PyData.int) = 0
  | [] => rfl
  | i :: r => by simp [PyData.depthAll, PyData.depth, depth_ints r]
theorem shaped_ints (l : List Int) : SeqAt.shaped (.list (l.map PyData.int)) = true := by
  simp [SeqAt.shaped, PyData.canLay0, PyData.depth, canLay_ints, depth_ints]
theorem eqvAll_ints : ∀ l : List Int, PyData.eqvAll (l.map PyData.int) (l.map PyData.int) = true
  | [] => by simp [PyData.eqvAll]
  | a :: r => by
    simp only [List.map_cons, PyData.eqvAll, eqvAll_ints r]
    simp [PyData.eqv]
theorem sorted_eq {l m n : List Int} (h1 : l.Perm n) (h2 : m.Perm n) (h3 : l.Pairwise (· ≤ ·)) (h4 : m.Pairwise (· ≤ ·)) : l = m :=
  List.Perm.eq_of_pairwise (le := (· ≤ ·)) (fun a b _ _ h h' => Int.le_antisymm h h') h3 h4 (h1.trans h2.symm)
theorem ok_check_same_places (e : Env P K mg) : FnOk P w K mg base CX0 1 e.a_check_same_places e.d_check_same_places ["first", "second"] (sp_check_same_places K) := by
  refine Fun.ok e.f_check_same_places sc_check_same_places (fun vs H Q E h => ?_) (fun cdv A outer s H vs Q E hr h => ?_)
  · obtain ⟨a, b, ns, ms, rfl, _⟩ := h; rfl
  · obtain ⟨a, b, ns, ms, rfl, h1, h2, hp, k⟩ := h
    refine ⟨_, (pss_one (ps_if (pt_cmpR (op_neD hr.units) (pe_callB cr_sortedE (by rfl) e.n_sorted (by decide +kernel) (pa_cons (pv 0) pa_nil)) (pe_callB cr_sortedE (by rfl) e.n_sorted (by decide +kernel) (pa_cons (pv 1) pa_nil)) (nomark _))
        (pss_one ps_never)
        pss_nil)), ?_⟩
    refine ⟨_, rfl, a, ns, rfl, h1, fun ns' p p1 p2 hp1 => ?_⟩
    have s1 := same_upd (o := HO.lst (ns'.map V.int)) hp1
    refine ⟨_, rfl, b, ms, rfl, h2.same s1, fun ms' q q1 q2 hq1 => ?_⟩
    have s2 := same_upd (o := HO.lst (ms'.map V.int)) hq1
    have e : ns' = ms' := sorted_eq p1 (q1.trans hp.symm) p2 q2
    refine ⟨_, _, .lst (SqL.of (s2 _ _ upd_same)) (dp_ints ns'), .lst (SqL.of upd_same) (dp_ints ms'), shaped_ints _, shaped_ints _, _, rfl, ?_⟩
    subst e
    rw [show PyData.eqv (.list (ns'.map PyData.int)) (.list (ns'.map PyData.int)) = true by simp only [PyData.eqv]; exact eqvAll_ints ns']
    exact iteF (k _ (s1.trans s2))
end
end LP

namespace LP
open PySem L2 LT LG LQ LH LC LX
section
variable {P : Program} {w : World} {K : PySem.W.Frag} {mg : Str → Option Value} {base : Heap}
theorem at_ref {as : List Addr} {j : Nat} {v : V} (h : (as.map V.ref)[j]? = some v) : ∃ a, as[j]? = some a ∧ v = .ref a := by
  rw [List.getElem?_map] at h
  cases q : as[j]? with
  | none => rw [q] at h; cases h
  | some x => rw [q] at h; cases h; exact ⟨x, rfl, rfl⟩
theorem rd_ixT {K : PySem.W.Frag} {H : Hp} {a : Addr} {Q : VK} {xs : List V} {j : Nat} {v : V} {z : Int} (h : SqT K H a xs) (e : xs[j]? = some v) (hz : z = (j : Int)) (q : Q v H) : rIxT K (.ref a) (.int z) H Q :=
  ⟨_, _, _, _, rfl, rfl, h, by
    subst hz
    unfold atI
    rw [ixN_at (List.getElem?_eq_some_iff.mp e).1]
    exact e, q⟩
/-- index of a list or tuple: two ways meet again -/
theorem ixE {K : PySem.W.Frag} {H : Hp} {a : Addr} {Q : VK} {xs : List V} {i j : Nat} {v : V} {z : Int} {σ : L2.St} (hv : σ[i]? = some (some (.ref a))) (h : SqE K H a xs) (e : xs[j]? = some v) (hz : z = (j : Int)) (q : Q v H) : tOp (rIxL K) (tVar i) (tC (V.int z)) σ H Q ∨ tOp (rIxT K) (tVar i) (tC (V.int z)) σ H Q :=
  h.elim (fun h => .inl ⟨_, hv, rd_ix h e hz q⟩) fun h => .inr ⟨_, hv, rd_ixT h e hz q⟩
theorem unpE {K : PySem.W.Frag} {H : Hp} {a : Addr} {xs : List V} {n : Nat} {t : TGs} {σ : L2.St} {Q : L2.St → Hp → Prop} (h : SqE K H a xs) (hl : xs.length = n) (q : t xs σ H Q) : gTup K n t (.ref a) σ H Q ∨ gUnl K n t (.ref a) σ H Q :=
  h.elim (fun h => .inr ⟨a, xs, rfl, h, hl, q⟩) fun h => .inl ⟨a, xs, rfl, h, hl, q⟩
theorem fw_ba (f : Fact) : inV (.str (fw f)) [.str "before", .str "after"] = (match f with | .ou _ _ => false | _ => true) := by
  cases f <;> (simp only [fw]; decide +kernel)
theorem ok_is_number (e : Env P K mg) : FnOk P w K mg base CX0 2 e.a_is_number e.d_is_number ["value", "count"] (sp_is_number) := by
  refine Fun.ok e.f_is_number sc_is_number (fun vs H Q E h => ?_) (fun cdv A outer s H vs Q E hr h => ?_)
  · obtain ⟨x, n, rfl, _⟩ := h; rfl
  · obtain ⟨x, n, rfl, h1, h2, k⟩ := h
    refine ⟨_, (pss_one (ps_ret (pe_and (pe_call ((ok_is_whole e).mono (by decide)) hr rfl e.g_is_whole e.f_is_whole.kp e.b_is_whole .nil pass0 (pa_cons (pv 0) pa_nil)) (pe_one (pe_chain op_le op_lt pe_int (pv 0) (pv 1)))))), ?_⟩
    refine ⟨_, rfl, x, rfl, _, rfl, iteT ?_⟩
    refine ⟨_, rfl, _, _, rfl, rfl, _, rfl, iteD h1 ?_⟩
    refine ⟨_, rfl, _, _, rfl, rfl, ?_⟩
    show Q (V.bl (decide (x < n))) H
    rw [decide_eq_true h2]
    exact k
theorem ok_is_fact (e : Env P K mg) : FnOk P w K mg base CX0 3 e.a_is_fact e.d_is_fact ["value", "count"] (sp_is_fact K) := by
  refine Fun.ok e.f_is_fact sc_is_fact (fun vs H Q E h => ?_) (fun cdv A outer s H vs Q E hr h => ?_)
  · obtain ⟨a, n, f, rfl, _⟩ := h; rfl
  · obtain ⟨a, n, f, rfl, hE, ok, hn, k⟩ := h
    refine ⟨_, (pss_cons (ps_if (PW.pt (pw_or (pt_not (pt_val (pe_call ((ok_is_listed e).mono (by decide)) hr rfl e.g_is_listed e.f_is_listed.kp e.b_is_listed .nil pass0 (pa_cons (pv 0) pa_nil)))) (pw_or (pt_cmpR op_ne (pe_callB LS.call_len (by rfl) e.n_len PySem.boot_len (pa_cons (pv 0) pa_nil)) pe_int (nomark _)) (pw_or1 (pt_not (pt_val (pe_callB call_isi (by rfl) e.n_isinstance (by decide +kernel) (pa_cons (PE.or (pe_ix ix_list (pv 0) pe_int (fun _ _ => rfl)) (pe_ix ix_tup (pv 0) pe_int (fun _ _ => rfl))) (pa_cons (pe_bltn (v := V.ty "str") (by rfl) e.n_str (by decide +kernel) rfl) pa_nil)))))))))
        (pss_one (ps_ret pe_bl))
        pss_nil)
      (pss_cons (ps_asg (pv 0) (LX.pgor (pg_tup (n := 3) (by rfl) (pgs_cons (pg_name (i := 2) sc_is_fact.nd rfl (by first | exact Or.inl rfl | exact Or.inr rfl)) (pgs_cons (pg_name (i := 3) sc_is_fact.nd rfl (by first | exact Or.inl rfl | exact Or.inr rfl)) (pgs_cons (pg_name (i := 4) sc_is_fact.nd rfl (by first | exact Or.inl rfl | exact Or.inr rfl)) pgs_nil)))) (pg_unl (n := 3) rfl (pgs_cons (pg_name (i := 2) sc_is_fact.nd rfl (by first | exact Or.inl rfl | exact Or.inr rfl)) (pgs_cons (pg_name (i := 3) sc_is_fact.nd rfl (by first | exact Or.inl rfl | exact Or.inr rfl)) (pgs_cons (pg_name (i := 4) sc_is_fact.nd rfl (by first | exact Or.inl rfl | exact Or.inr rfl)) pgs_nil))))))
      (pss_cons (ps_if (pt_cmpR op_in_seq (pv 2) (pe_tup (pa_cons pe_str (pa_cons pe_str pa_nil))) (by rfl))
        (pss_one (ps_ret (pe_and (pe_call ((ok_is_number e).mono (by decide)) hr rfl e.g_is_number e.f_is_number.kp e.b_is_number .nil pass0 (pa_cons (pv 3) (pa_cons (pv 1) pa_nil))) (pe_one (pe_call ((ok_is_number e).mono (by decide)) hr rfl e.g_is_number e.f_is_number.kp e.b_is_number .nil pass0 (pa_cons (pv 4) (pa_cons (pv 1) pa_nil)))))))
        pss_nil)
      (pss_one (ps_ret (pe_and (pe_cmpR op_eq (pv 2) pe_str (nomark _)) (pe_and (pe_call ((ok_is_number e).mono (by decide)) hr rfl e.g_is_number e.f_is_number.kp e.b_is_number .nil pass0 (pa_cons (pv 3) (pa_cons (pe_op op_add (pe_op op_mul pe_int (pv 1)) pe_int) pa_nil))) (pe_one (pe_call ((ok_is_number e).mono (by decide)) hr rfl e.g_is_number e.f_is_number.kp e.b_is_number .nil pass0 (pa_cons (pv 4) (pa_cons (pe_op op_add (pv 1) pe_int) pa_nil))))))))))), ?_⟩
    refine ⟨_, rfl, a, _, rfl, hE, fun H1 s1 => ⟨true, rfl, iteNB rfl ?_⟩⟩
    have hE1 := hE.same s1
    refine ⟨_, rfl, a, _, rfl, hE1, rfl, _, rfl, iteNB (decide_eq_true rfl) ?_⟩
    refine ixE (j := 0) rfl hE1 rfl rfl ⟨_, _, _, _, true, rfl, .ty "str", .base (.str _), kit_ty (by decide +kernel), _, rfl, iteF ?_⟩
    refine ⟨_, rfl, unpE hE1 rfl ⟨_, _, rfl, _, _, rfl, _, _, rfl, rfl, ?_⟩⟩
    refine ⟨_, rfl, (by show 2 ≤ sizeLine; decide), fun p hp => ?_⟩
    have sp := same_upd (o := HO.tup [V.str "before", V.str "after"]) hp
    refine ⟨p, _, rfl, .inr (SqT.of upd_same), rfl, rfl, _, rfl, ?_⟩
    show if inV (V.str (fw f)) [V.str "before", V.str "after"] = true then _ else _
    rw [fw_ba]
    cases f with
    | bf i j => exact iteT ⟨_, rfl, _, rfl, _, _, rfl, Int.natCast_nonneg _, Int.ofNat_lt.mpr ok.1, true, rfl, iteT ⟨_, rfl, _, rfl, _, _, rfl, Int.natCast_nonneg _, Int.ofNat_lt.mpr ok.2, k _ (s1.trans sp)⟩⟩
    | af i j => exact iteT ⟨_, rfl, _, rfl, _, _, rfl, Int.natCast_nonneg _, Int.ofNat_lt.mpr ok.1, true, rfl, iteT ⟨_, rfl, _, rfl, _, _, rfl, Int.natCast_nonneg _, Int.ofNat_lt.mpr ok.2, k _ (s1.trans sp)⟩⟩
    | ou m j =>
      obtain ⟨o1, o2⟩ := ok
      refine iteF ⟨_, rfl, rfl, _, rfl, iteD rfl ?_⟩
      refine ⟨_, rfl, _, rfl, _, _, rfl, rfl, .inl ⟨by decide, by decide⟩, _, _, rfl, rfl, _, _, rfl, Int.natCast_nonneg _, (by show ((m : Nat) : Int) < 2 * (n : Int) + 1; omega), true, rfl, iteT ?_⟩
      exact ⟨_, rfl, _, rfl, _, _, rfl, rfl, _, _, rfl, Int.natCast_nonneg _, (by show ((j : Nat) : Int) < (n : Int) + 1; omega), k _ (s1.trans sp)⟩
theorem ok_check_facts (e : Env P K mg) : FnOk P w K mg base CX0 4 e.a_check_facts e.d_check_facts ["value", "count"] (sp_check_facts K) := by
  refine Fun.ok e.f_check_facts sc_check_facts (fun vs H Q E h => ?_) (fun cdv A outer s H vs Q E hr h => ?_)
  · obtain ⟨p, n, F, as, rfl, _⟩ := h; rfl
  · obtain ⟨p, n, F, as, rfl, fe, ok, hn, hl, k⟩ := h
    refine ⟨_, (pss_cons (ps_if (PW.pt (pw_or (pt_not (pt_val (pe_call ((ok_is_listed e).mono (by decide)) hr rfl e.g_is_listed e.f_is_listed.kp e.b_is_listed .nil pass0 (pa_cons (pv 0) pa_nil)))) (pw_or1 (pt_cmpR op_gt (pe_callB LS.call_len (by rfl) e.n_len PySem.boot_len (pa_cons (pv 0) pa_nil)) (pe_glob (v := V.int 400) rfl e.g_MOST_FACTS ⟨_, rfl⟩) (nomark _)))))
        (pss_one ps_never)
        pss_nil)
      (pss_one (ps_if (pt_not (pt_val (pe_callB (cr_all rfl) (by rfl) e.n_all (by decide +kernel) (pa_cons (pe_lc (own := [("item", 2)]) rfl sc_check_facts.nd (PI.or (pi_list (pv 0)) (pi_tup (pv 0))) (blkOk_by (N := ["value", "count", "item"]) (sc := defScope s_check_facts) (by decide +kernel)) (fun _ _ _ _ _ => (pg_name (i := 2) sc_check_facts.nd rfl (by first | exact Or.inl rfl | exact Or.inr rfl))) (fun _ _ _ _ _ => pts_nil) (fun _ _ _ _ _ => (pe_call ((ok_is_fact e).mono (by decide)) hr rfl e.g_is_fact e.f_is_fact.kp e.b_is_fact .nil pass0 (pa_cons (pv 2) (pa_cons (pv 1) pa_nil))))) pa_nil))))
        (pss_one ps_never)
        pss_nil))), ?_⟩
    refine ⟨_, rfl, p, _, rfl, fe.sq, fun H1 s1 => ⟨true, rfl, iteNB rfl ?_⟩⟩
    have hE1 := fe.sq.same s1
    have fl := fe.len
    refine ⟨_, rfl, p, _, rfl, hE1, _, _, rfl, rfl, _, rfl, iteX (by rw [List.length_map]; omega) ?_⟩
    refine or_E hE1 rfl fun J G wk hG D hD => ?_
    refine lc_it wk (fun j H' => Same H1 H' ∧ H' D = some (.lst (List.replicate j (V.bl true)))) ⟨same_upd hD, upd_same⟩ (fun j H' _ h => hG _ h.1) ?_ ?_
    · rintro j x H2 H3 hj ⟨s2, hd⟩ ⟨rfl, hx⟩
      rw [List.length_map] at hj
      obtain ⟨a, ha, rfl⟩ := at_ref hx
      have hf := List.getElem?_eq_getElem (l := F) (i := j) (by omega)
      generalize F[j]'(by omega) = f at hf
      refine ⟨rfl, _, rfl, _, rfl, a, n, f, rfl, ((fe.at_ j a f ha hf).same (s1.trans s2)), ok f (List.mem_of_getElem? hf), hn, fun H4 s4 => ?_⟩
      refine ⟨_, s4 _ _ hd, ?_, fun c o hc => ?_, ?_⟩
      · rw [List.length_replicate]; exact small1000 (by omega)
      · rw [upd_ne (ne_of_none hc hD)]; exact s4 _ _ (s2 _ _ hc)
      · rw [upd_same, ← List.replicate_succ']
    · rintro H2 ⟨s2, hd⟩
      rw [List.length_map] at hd
      refine ⟨D, List.replicate as.length true, rfl, SqL.of (by rw [hd, List.map_replicate]), true, ?_, iteNB rfl (k _ (s1.trans s2))⟩
      rw [all_bl fun b hb => (List.mem_replicate.mp hb).2]
end
end LP

namespace LP
open PySem L2 LT LG LQ LH LC LX
section
variable {P : Program} {w : World} {K : PySem.W.Frag} {mg : Str → Option Value} {base : Heap}
theorem neAB : ¬ (V.str "after" = V.str "before") := fun h => absurd (V.str.inj h) (by decide +kernel)
theorem neOB : ¬ (V.str "out" = V.str "before") := fun h => absurd (V.str.inj h) (by decide +kernel)
theorem neOA : ¬ (V.str "out" = V.str "after") := fun h => absurd (V.str.inj h) (by decide +kernel)
theorem Prs.same {H H' : Hp} {p : Addr} {ps : List (Nat × Nat)} {Ts : List Addr} (h : Prs H p ps Ts) (s : Same H H') : Prs H' p ps Ts := ⟨s _ _ h.ls, h.len, fun i T x a b => s _ _ (h.at_ i T x a b)⟩
theorem prs_nil {H : Hp} {p : Addr} (h : H p = some (.lst [])) : Prs H p [] [] := ⟨h, rfl, fun i T x e => by simp at e⟩
theorem prs_one {H : Hp} {p T : Addr} {x : Nat × Nat} (h : H p = some (.lst [.ref T])) (hT : H T = some (.tup [.int (x.1 : Nat), .int (x.2 : Nat)])) : Prs H p [x] [T] :=
  ⟨h, rfl, fun i U y e1 e2 => by
    cases i with
    | zero => cases e1; cases e2; exact hT
    | succ m => simp at e1⟩
theorem LmAt.same {H H' : Hp} {a : Addr} {L : Lim} (h : LmAt H a L) (s : Same H H') : LmAt H' a L := by
  obtain ⟨p, q, Ts, Us, h1, h2, h3⟩ := h
  exact ⟨p, q, Ts, Us, s _ _ h1, h2.same s, h3.same s⟩
theorem ok_limits_of_out (e : Env P K mg) : FnOk P w K mg base CX0 1 e.a_limits_of_out e.d_limits_of_out ["done", "out", "count"] (sp_limits_of_out) := by
  refine Fun.ok e.f_limits_of_out sc_limits_of_out (fun vs H Q E h => ?_) (fun cdv A outer s H vs Q E hr h => ?_)
  · obtain ⟨m, k, n, rfl, _⟩ := h; rfl
  · obtain ⟨m, k, n, rfl, hm, hk, hn, kk⟩ := h
    refine ⟨_, (pss_cons (ps_if (PW.pt (pw_or (pt_cmpR op_eq (pe_op op_mod (pe_op op_add (pv 0) (pv 1)) pe_int) pe_int (nomark _)) (pw_or (pt_cmpR op_gt (pv 1) (pv 0) (nomark _)) (pw_or1 (pt_cmpR op_gt (pv 1) (pe_op op_sub (pe_op op_mul pe_int (pv 2)) (pv 0)) (nomark _))))))
        (pss_one (ps_ret (pe_tup (pa_cons (pe_lst (pa_cons (pe_tup (pa_cons pe_int (pa_cons (pe_op op_add (pv 2) pe_int) pa_nil))) pa_nil)) (pa_cons (pe_lst pa_nil) pa_nil)))))
        pss_nil)
      (pss_cons (ps_set (i := 3) sc_limits_of_out.nd rfl (by first | exact Or.inl rfl | exact Or.inr rfl) (pe_op op_fdivW (pe_op op_add (pv 0) (pv 1)) pe_int))
      (pss_cons (ps_set (i := 4) sc_limits_of_out.nd rfl (by first | exact Or.inl rfl | exact Or.inr rfl) (pe_op op_sub (pv 0) (pv 3)))
      (pss_cons (ps_set (i := 5) sc_limits_of_out.nd rfl (by first | exact Or.inl rfl | exact Or.inr rfl) (pe_ifExp (pt_cmpR op_lt (pv 4) (pv 2) (nomark _)) (pe_lst (pa_cons (pe_tup (pa_cons (pv 4) (pa_cons (pv 3) pa_nil))) pa_nil)) (pe_lst pa_nil)))
      (pss_cons (ps_set (i := 6) sc_limits_of_out.nd rfl (by first | exact Or.inl rfl | exact Or.inr rfl) (pe_ifExp (pt_cmpR op_gt (pv 4) pe_int (nomark _)) (pe_lst (pa_cons (pe_tup (pa_cons (pe_op op_sub (pv 4) pe_int) (pa_cons (pv 3) pa_nil))) pa_nil)) (pe_lst pa_nil)))
      (pss_one (ps_ret (pe_tup (pa_cons (pv 5) (pa_cons (pv 6) pa_nil)))))))))), ?_⟩
    refine ⟨_, rfl, _, rfl, _, _, rfl, rfl, _, _, rfl, rfl, (by show (0 : Int) < 2; decide), rfl, _, rfl, ite2d (fun h1 => ?_) fun h1 => ?_⟩
    · replace h1 : ((m : Int) + k) % 2 = 1 := V.int.inj h1
      refine iteT ⟨_, rfl, _, _, rfl, rfl, (by show 2 ≤ sizeLine; decide), fun T hT => ⟨(by show 1 ≤ sizeLine; decide), fun p hp => ⟨by decide, fun q hq => ⟨(by show 2 ≤ sizeLine; decide), fun c hc => ?_⟩⟩⟩⟩
      rw [show limOut n m k = ([(0, n + 1)], []) from if_pos (by omega)] at kk
      exact kk _ c ((((same_upd hT).trans (same_upd hp)).trans (same_upd hq)).trans (same_upd hc)) ⟨p, q, [T], [], upd_same, prs_one (x := (0, n + 1)) (same_upd hc _ _ (same_upd hq _ _ upd_same)) (same_upd hc _ _ (same_upd hq _ _ (same_upd hp _ _ upd_same))), prs_nil (same_upd hc _ _ upd_same), (same_upd hT).free hp, (same_upd hT).free ((same_upd hp).free hq)⟩
    · replace h1 : ¬ ((m : Int) + k) % 2 = 1 := fun z => h1 (congrArg V.int z)
      refine ⟨_, rfl, _, rfl, _, _, rfl, rfl, _, rfl, ite2d (fun h2 => ?_) fun h2 => ?_⟩
      · refine iteT ⟨_, rfl, _, _, rfl, rfl, (by show 2 ≤ sizeLine; decide), fun T hT => ⟨(by show 1 ≤ sizeLine; decide), fun p hp => ⟨by decide, fun q hq => ⟨(by show 2 ≤ sizeLine; decide), fun c hc => ?_⟩⟩⟩⟩
        rw [show limOut n m k = ([(0, n + 1)], []) from if_pos (by omega)] at kk
        exact kk _ c ((((same_upd hT).trans (same_upd hp)).trans (same_upd hq)).trans (same_upd hc)) ⟨p, q, [T], [], upd_same, prs_one (x := (0, n + 1)) (same_upd hc _ _ (same_upd hq _ _ upd_same)) (same_upd hc _ _ (same_upd hq _ _ (same_upd hp _ _ upd_same))), prs_nil (same_upd hc _ _ upd_same), (same_upd hT).free hp, (same_upd hT).free ((same_upd hp).free hq)⟩
      · refine ⟨_, rfl, _, rfl, _, _, rfl, rfl, .inl ⟨by decide, by decide⟩, _, rfl, _, _, rfl, rfl, _, _, rfl, rfl, _, rfl, ite2d (fun h3 => ?_) fun h3 => ?_⟩
        · refine ⟨_, rfl, _, _, rfl, rfl, (by show 2 ≤ sizeLine; decide), fun T hT => ⟨(by show 1 ≤ sizeLine; decide), fun p hp => ⟨by decide, fun q hq => ⟨(by show 2 ≤ sizeLine; decide), fun c hc => ?_⟩⟩⟩⟩
          rw [show limOut n m k = ([(0, n + 1)], []) from if_pos (by omega)] at kk
          exact kk _ c ((((same_upd hT).trans (same_upd hp)).trans (same_upd hq)).trans (same_upd hc)) ⟨p, q, [T], [], upd_same, prs_one (x := (0, n + 1)) (same_upd hc _ _ (same_upd hq _ _ upd_same)) (same_upd hc _ _ (same_upd hq _ _ (same_upd hp _ _ upd_same))), prs_nil (same_upd hc _ _ upd_same), (same_upd hT).free hp, (same_upd hT).free ((same_upd hp).free hq)⟩
        · refine ⟨_, rfl, _, rfl, _, _, rfl, rfl, _, _, rfl, rfl, ⟨by decide, by decide +kernel⟩, ?_⟩
          obtain ⟨t, ht⟩ : ∃ t, t = (m + k) / 2 := ⟨_, rfl⟩
          obtain ⟨u, hu⟩ : ∃ u, u = m - t := ⟨_, rfl⟩
          have e1 : ((t : Nat) : Int) = ((m : Int) + k) / 2 := by omega
          have e2 : ((u : Nat) : Int) = (m : Int) - ((m : Int) + k) / 2 := by omega
          have e : limOut n m k = (if u < n then [(u, t)] else [], if 0 < u then [(u - 1, t)] else []) := by
            rw [hu, ht]
            exact if_neg (by omega)
          rw [e] at kk
          refine ⟨_, rfl, _, rfl, _, _, rfl, rfl, ?_⟩
          refine ⟨_, rfl, _, rfl, _, _, rfl, rfl, _, rfl, ite2d (fun h4 => ?_) fun h4 => ?_⟩
          · refine ⟨_, rfl, _, rfl, (by show 2 ≤ sizeLine; decide), fun T hT => ⟨(by show 1 ≤ sizeLine; decide), fun p hp => ?_⟩⟩
            rw [if_pos (show u < n by omega)] at kk
            have sp := (same_upd hT).trans (same_upd (o := HO.lst [V.ref T]) hp)
            have np : H p = none := (same_upd hT).free hp
            have pr : ∀ H', Same (upd (upd H T (.tup [.int ((m : Int) - ((m : Int) + k) / 2), .int (((m : Int) + k) / 2)])) p (.lst [.ref T])) H' → Prs H' p [(u, t)] [T] := fun H' s' => prs_one (s' _ _ upd_same) (by rw [e1, e2]; exact s' _ _ (same_upd hp _ _ upd_same))
            refine ⟨_, rfl, _, _, rfl, rfl, _, rfl, ite2d (fun h5 => ?_) fun h5 => ?_⟩
            · refine ⟨_, rfl, _, _, rfl, rfl, _, rfl, (by show 2 ≤ sizeLine; decide), fun U hU => ⟨(by show 1 ≤ sizeLine; decide), fun q hq => ⟨_, rfl, _, rfl, (by show 2 ≤ sizeLine; decide), fun c hc => ?_⟩⟩⟩
              have e3 : ((u - 1 : Nat) : Int) = (m : Int) - ((m : Int) + k) / 2 - 1 := by omega
              rw [if_pos (show 0 < u by omega)] at kk
              refine kk _ c (((sp.trans (same_upd hU)).trans (same_upd hq)).trans (same_upd hc)) ⟨p, q, _, [U], upd_same, pr _ (((same_upd hU).trans (same_upd hq)).trans (same_upd hc)), prs_one (same_upd hc _ _ upd_same) ?_, np, sp.free ((same_upd hU).free hq)⟩
              show _ = some (HO.tup [.int ((u - 1 : Nat) : Int), .int (t : Nat)])
              rw [e3, e1]
              exact same_upd hc _ _ (same_upd hq _ _ upd_same)
            · refine ⟨by decide, fun q hq => ⟨_, rfl, _, rfl, (by show 2 ≤ sizeLine; decide), fun c hc => ?_⟩⟩
              rw [if_neg (show ¬ 0 < u by omega)] at kk
              exact kk _ c ((sp.trans (same_upd hq)).trans (same_upd hc)) ⟨p, q, _, [], upd_same, pr _ ((same_upd hq).trans (same_upd hc)), prs_nil (same_upd hc _ _ upd_same), np, sp.free hq⟩
          · refine ⟨by decide, fun p hp => ?_⟩
            rw [if_neg (show ¬ u < n by omega)] at kk
            have sp := same_upd (o := HO.lst []) hp
            have np : H p = none := hp
            have pr : ∀ H', Same (upd H p (.lst [])) H' → Prs H' p [] [] := fun H' s' => prs_nil (s' _ _ upd_same)
            refine ⟨_, rfl, _, _, rfl, rfl, _, rfl, ite2d (fun h5 => ?_) fun h5 => ?_⟩
            · refine ⟨_, rfl, _, _, rfl, rfl, _, rfl, (by show 2 ≤ sizeLine; decide), fun U hU => ⟨(by show 1 ≤ sizeLine; decide), fun q hq => ⟨_, rfl, _, rfl, (by show 2 ≤ sizeLine; decide), fun c hc => ?_⟩⟩⟩
              have e3 : ((u - 1 : Nat) : Int) = (m : Int) - ((m : Int) + k) / 2 - 1 := by omega
              rw [if_pos (show 0 < u by omega)] at kk
              refine kk _ c (((sp.trans (same_upd hU)).trans (same_upd hq)).trans (same_upd hc)) ⟨p, q, _, [U], upd_same, pr _ (((same_upd hU).trans (same_upd hq)).trans (same_upd hc)), prs_one (same_upd hc _ _ upd_same) ?_, np, sp.free ((same_upd hU).free hq)⟩
              show _ = some (HO.tup [.int ((u - 1 : Nat) : Int), .int (t : Nat)])
              rw [e3, e1]
              exact same_upd hc _ _ (same_upd hq _ _ upd_same)
            · refine ⟨by decide, fun q hq => ⟨_, rfl, _, rfl, (by show 2 ≤ sizeLine; decide), fun c hc => ?_⟩⟩
              rw [if_neg (show ¬ 0 < u by omega)] at kk
              exact kk _ c ((sp.trans (same_upd hq)).trans (same_upd hc)) ⟨p, q, _, [], upd_same, pr _ ((same_upd hq).trans (same_upd hc)), prs_nil (same_upd hc _ _ upd_same), np, sp.free hq⟩
theorem ok_limits_of (e : Env P K mg) : FnOk P w K mg base CX0 2 e.a_limits_of e.d_limits_of ["fact", "count"] (sp_limits_of K) := by
  refine Fun.ok e.f_limits_of sc_limits_of (fun vs H Q E h => ?_) (fun cdv A outer s H vs Q E hr h => ?_)
  · obtain ⟨a, n, f, rfl, _⟩ := h; rfl
  · obtain ⟨a, n, f, rfl, hE, ok, hn, kk⟩ := h
    refine ⟨_, (pss_cons (ps_asg (pv 0) (LX.pgor (pg_tup (n := 3) (by rfl) (pgs_cons (pg_name (i := 2) sc_limits_of.nd rfl (by first | exact Or.inl rfl | exact Or.inr rfl)) (pgs_cons (pg_name (i := 3) sc_limits_of.nd rfl (by first | exact Or.inl rfl | exact Or.inr rfl)) (pgs_cons (pg_name (i := 4) sc_limits_of.nd rfl (by first | exact Or.inl rfl | exact Or.inr rfl)) pgs_nil)))) (pg_unl (n := 3) rfl (pgs_cons (pg_name (i := 2) sc_limits_of.nd rfl (by first | exact Or.inl rfl | exact Or.inr rfl)) (pgs_cons (pg_name (i := 3) sc_limits_of.nd rfl (by first | exact Or.inl rfl | exact Or.inr rfl)) (pgs_cons (pg_name (i := 4) sc_limits_of.nd rfl (by first | exact Or.inl rfl | exact Or.inr rfl)) pgs_nil))))))
      (pss_cons (ps_if (pt_cmpR op_eq (pv 2) pe_str (nomark _))
        (pss_one (ps_ret (pe_tup (pa_cons (pe_lst (pa_cons (pe_tup (pa_cons (pv 4) (pa_cons (pe_op op_add (pv 3) pe_int) pa_nil))) pa_nil)) (pa_cons (pe_lst pa_nil) pa_nil)))))
        pss_nil)
      (pss_cons (ps_if (pt_cmpR op_eq (pv 2) pe_str (nomark _))
        (pss_one (ps_ret (pe_tup (pa_cons (pe_lst pa_nil) (pa_cons (pe_lst (pa_cons (pe_tup (pa_cons (pv 4) (pa_cons (pv 3) pa_nil))) pa_nil)) pa_nil)))))
        pss_nil)
      (pss_one (ps_ret (pe_call ((ok_limits_of_out e).mono (by decide)) hr rfl e.g_limits_of_out e.f_limits_of_out.kp e.b_limits_of_out .nil pass0 (pa_cons (pv 3) (pa_cons (pv 4) (pa_cons (pv 1) pa_nil))))))))), ?_⟩
    refine ⟨_, rfl, unpE hE rfl ⟨_, _, rfl, _, _, rfl, _, _, rfl, rfl, ?_⟩⟩
    cases f with
    | bf i j =>
      refine ⟨_, rfl, rfl, _, rfl, iteD rfl ?_⟩
      refine ⟨_, rfl, _, rfl, _, _, rfl, rfl, (by show 2 ≤ sizeLine; decide), fun T hT => ⟨(by show 1 ≤ sizeLine; decide), fun p hp => ⟨by decide, fun q hq => ⟨(by show 2 ≤ sizeLine; decide), fun c hc => ?_⟩⟩⟩⟩
      have sT := fun o => same_upd (o := o) hT
      have sp := fun o => same_upd (o := o) hp
      have sq := fun o => same_upd (o := o) hq
      have sc := fun o => same_upd (o := o) hc
      exact kk _ c ((((sT _).trans (sp _)).trans (sq _)).trans (sc _)) ⟨p, q, [T], [], upd_same, prs_one (x := (j, i + 1)) (sc _ _ _ (sq _ _ _ upd_same)) (sc _ _ _ (sq _ _ _ (sp _ _ _ upd_same))), prs_nil (sc _ _ _ upd_same), (sT _).free hp, (sT _).free ((sp _).free hq)⟩
    | af i j =>
      refine ⟨_, rfl, rfl, _, rfl, iteX neAB ?_⟩
      refine ⟨_, rfl, rfl, _, rfl, iteD rfl ?_⟩
      refine ⟨by decide, fun q hq => ⟨_, rfl, _, rfl, (by show 2 ≤ sizeLine; decide), fun T hT => ⟨(by show 1 ≤ sizeLine; decide), fun p hp => ⟨(by show 2 ≤ sizeLine; decide), fun c hc => ?_⟩⟩⟩⟩
      have sT := fun o => same_upd (o := o) hT
      have sp := fun o => same_upd (o := o) hp
      have sq := fun o => same_upd (o := o) hq
      have sc := fun o => same_upd (o := o) hc
      exact kk _ c ((((sq _).trans (sT _)).trans (sp _)).trans (sc _)) ⟨q, p, [], [T], upd_same, prs_nil (sc _ _ _ (sp _ _ _ (sT _ _ _ upd_same))), prs_one (x := (j, i)) (sc _ _ _ upd_same) (sc _ _ _ (sp _ _ _ upd_same)), hq, (sq _).free ((sT _).free hp)⟩
    | ou m j =>
      refine ⟨_, rfl, rfl, _, rfl, iteX neOB ?_⟩
      refine ⟨_, rfl, rfl, _, rfl, iteX neOA ?_⟩
      exact ⟨_, rfl, _, rfl, _, rfl, m, j, n, rfl, ok.1, ok.2, hn, kk⟩
end
end LP

namespace LP
open PySem L2 LT LG LQ LH LC LX
section
variable {P : Program} {w : World} {K : PySem.W.Frag} {mg : Str → Option Value} {base : Heap}
theorem pat_len (l : Pat) : (pstr l).cps.size = l.length := pstr_size l
theorem ok_numbers_by_place (e : Env P K mg) : FnOk P w K mg base CX0 1 e.a_numbers_by_place e.d_numbers_by_place ["places"] (sp_numbers_by_place K) := by
  refine Fun.ok e.f_numbers_by_place sc_numbers_by_place (fun vs H Q E h => ?_) (fun cdv A outer s H vs Q E hr h => ?_)
  · obtain ⟨a, ns, rfl, _⟩ := h; rfl
  · obtain ⟨a, ns, rfl, hE, pl, k⟩ := h
    have hle := pl.le
    refine ⟨_, (pss_one (ps_ret (pe_dc (own := [("number", 1), ("place", 2)]) rfl sc_numbers_by_place.nd (PI.or (pi_enum (by rfl) e.n_enumerate (pa_cons (pv 0) pa_nil)) (pi_enumT (by rfl) e.n_enumerate (pa_cons (pv 0) pa_nil))) (blkOk_by (N := ["places", "number", "place"]) (sc := defScope s_numbers_by_place) (by decide +kernel)) (fun _ _ _ _ _ => (show PG _ _ (gTup K 2 _) from pg_tup (by rfl) (pgs_cons (pg_name (i := 1) sc_numbers_by_place.nd rfl (by first | exact Or.inl rfl | exact Or.inr rfl)) (pgs_cons (pg_name (i := 2) sc_numbers_by_place.nd rfl (by first | exact Or.inl rfl | exact Or.inr rfl)) pgs_nil)))) (fun _ _ _ _ _ => pts_nil) (fun _ _ _ _ _ => (pv 2)) (fun _ _ _ _ _ => (pv 1))))), ?_⟩
    refine or_enumE hE (fun Q q => ⟨_, rfl, q⟩) fun J G wk hG D hD => ?_
    refine dc_it wk (fun j H' => Same H H' ∧ H' D = some (.dK (numK (ns.take j)))) ⟨same_upd hD, upd_same⟩ (fun j H' _ h => hG _ h.1) ?_ ?_
    · rintro j x H2 H3 hj ⟨s2, hd⟩ ⟨T, x, y, rfl, hT, rfl, hx, hy⟩
      cases hx
      obtain ⟨n, hn, rfl⟩ := at_int hy
      rw [List.length_map] at hj
      have s3 := same_upd (o := HO.tup [.int (j : Nat), .int n]) hT
      refine ⟨_, _, rfl, SqT.of upd_same, rfl, _, _, rfl, _, _, rfl, rfl, rfl, _, rfl, _, rfl, numK (ns.take j), .inl n, rfl, s3 _ _ hd, ?_, ?_, ?_⟩
      · rw [numK_len, List.length_take]; exact small1000 (by omega)
      · intro b o hb
        rw [upd_ne (ne_of_none hb hD)]
        exact s3 _ _ (s2 _ _ hb)
      · have hnot : n ∉ ns.take j := fun q => by
          obtain ⟨i, hi, e⟩ := List.mem_take_iff_getElem.mp q
          obtain ⟨h1, h2⟩ := List.getElem?_eq_some_iff.mp hn
          have := (List.getElem_inj pl.nd).mp (e.trans h2.symm)
          omega
        rw [upd_same, take_snoc hn]
        have e := numK_put hnot
        rw [List.length_take, Nat.min_eq_left (by omega)] at e
        rw [e]
    · rintro H2 ⟨s2, hd⟩
      rw [List.length_map, List.take_length] at hd
      exact k _ D s2 hD hd
end
end LP

namespace LP
open PySem L2 LT LG LQ LH LC LX
section
variable {P : Program} {w : World} {K : PySem.W.Frag} {mg : Str → Option Value} {base : Heap}
theorem nm_get {H : Hp} {d : Addr} {ns : List Int} {x : Int} (h : Rd H d (.dK (numK ns))) (nd : ns.Nodup) (hx : x ∈ ns) : DGet H d (.int x) (some (.int (ix ns x : Nat))) :=
  .inl ⟨numK ns, .inl x, h, rfl, (numK_val nd (at_ix hx)).symm⟩
theorem nat_lt (a b : Nat) : decide (((a : Nat) : Int) < (b : Nat)) = decide (a < b) := decide_eq_decide.mpr (by omega)
theorem ok_check_pair (e : Env P K mg) : FnOk P w K mg base CX0 5 e.a_check_pair e.d_check_pair ["takes", "fills"] (sp_check_pair K) := by
  refine Fun.ok e.f_check_pair sc_check_pair (fun vs H Q E h => ?_) (fun cdv A outer s H vs Q E hr h => ?_)
  · obtain ⟨a, b, ns, ms, rfl, _⟩ := h; rfl
  · obtain ⟨a, b, ns, ms, rfl, hE, hF, pl, p, k⟩ := h
    refine ⟨_, (pss_cons (ps_expr (pe_call ((ok_check_places e).mono (by decide)) hr rfl e.g_check_places e.f_check_places.kp e.b_check_places .nil pass0 (pa_cons (pv 0) pa_nil)))
      (pss_cons (ps_expr (pe_call ((ok_check_places e).mono (by decide)) hr rfl e.g_check_places e.f_check_places.kp e.b_check_places .nil pass0 (pa_cons (pv 1) pa_nil)))
      (pss_one (ps_expr (pe_call ((ok_check_same_places e).mono (by decide)) hr rfl e.g_check_same_places e.f_check_same_places.kp e.b_check_same_places .nil pass0 (pa_cons (pv 0) (pa_cons (pv 1) pa_nil))))))), ?_⟩
    refine ⟨_, rfl, a, ns, rfl, hE, pl, fun H1 s1 => ?_⟩
    refine ⟨_, rfl, b, ms, rfl, hF.same s1, pl.perm p, fun H2 s2 => ?_⟩
    exact ⟨_, rfl, _, rfl, a, b, ns, ms, rfl, hE.same (s1.trans s2), hF.same (s1.trans s2), p.symm, fun H3 s3 => k _ ((s1.trans s2).trans s3)⟩
theorem ok_is_two (e : Env P K mg) : FnOk P w K mg base CX0 1 e.a_is_two e.d_is_two ["taken", "filled", "a", "b"] (sp_is_two) := by
  refine Fun.ok e.f_is_two sc_is_two (fun vs H Q E h => ?_) (fun cdv A outer s H vs Q E hr h => ?_)
  · obtain ⟨t, f, tk, fs, a, b, rfl, _⟩ := h; rfl
  · obtain ⟨t, f, tk, fs, a, b, rfl, ht, hf, nd, nf, ha, hb, ga, gb, k⟩ := h
    refine ⟨_, (pss_one (ps_ret (pe_and (pe_cmpR op_lt (pv 2) (pv 3) (nomark _)) (pe_and (pe_cmpR op_lt (pe_dget (u1 hr) (pv 0) (pv 2) (fun _ _ => rfl)) (pe_dget (u1 hr) (pv 0) (pv 3) (fun _ _ => rfl)) (nomark _)) (pe_one (pe_cmpR op_lt (pe_dget (u1 hr) (pv 1) (pv 3) (fun _ _ => rfl)) (pe_dget (u1 hr) (pv 1) (pv 2) (fun _ _ => rfl)) (nomark _))))))), ?_⟩
    refine ⟨_, rfl, _, rfl, _, _, rfl, rfl, _, rfl, ?_⟩
    by_cases c1 : a < b
    · refine iteD c1 ?_
      refine ⟨_, rfl, _, rfl, t, _, rfl, nm_get (.inl ht) nd ha, _, rfl, _, rfl, t, _, rfl, nm_get (.inl ht) nd hb, _, _, rfl, rfl, _, rfl, ?_⟩
      by_cases c2 : ix tk a < ix tk b
      · refine iteD (by omega) ?_
        refine ⟨_, rfl, _, rfl, f, _, rfl, nm_get (.inl hf) nf gb, _, rfl, _, rfl, f, _, rfl, nm_get (.inl hf) nf ga, _, _, rfl, rfl, ?_⟩
        show Q (V.bl (decide (((ix fs b : Nat) : Int) < (ix fs a : Nat)))) H
        rw [nat_lt]
        have e : decide (a < b ∧ ix tk a < ix tk b ∧ ix fs b < ix fs a) = decide (ix fs b < ix fs a) := decide_eq_decide.mpr ⟨fun z => z.2.2, fun z => ⟨c1, c2, z⟩⟩
        rw [← e]; exact k
      · refine iteX (by omega) ?_
        rw [decide_eq_false fun z => c2 z.2.1] at k
        exact k
    · refine iteX c1 ?_
      rw [decide_eq_false fun z => c1 z.1] at k
      exact k
/-- a < b < c of three ints -/
theorem chain_lt {σ : L2.St} {H : Hp} {Q : VK} {ta tb tc : TE} {a b c : Int} (ha : ∀ R : VK, R (.int a) H → ta σ H R) (hb : ∀ R : VK, R (.int b) H → tb σ H R) (hc : ∀ R : VK, R (.int c) H → tc σ H R) (k : Q (.bl (decide (a < b ∧ b < c))) H) :
    tChain (rI0 fun i j => V.bl (decide (i < j))) (rI0 fun i j => V.bl (decide (i < j))) ta tb tc σ H Q := by
  refine ha _ (hb _ ⟨_, _, rfl, rfl, _, rfl, ?_⟩)
  by_cases c1 : a < b
  · refine iteD c1 (hc _ ⟨_, _, rfl, rfl, ?_⟩)
    have e : decide (a < b ∧ b < c) = decide (b < c) := decide_eq_decide.mpr ⟨fun z => z.2, fun z => ⟨c1, z⟩⟩
    rw [e] at k; exact k
  · refine iteX c1 ?_
    rw [decide_eq_false fun z => c1 z.1] at k
    exact k
theorem ok_is_three (e : Env P K mg) : FnOk P w K mg base CX0 1 e.a_is_three e.d_is_three ["taken", "filled", "a", "b", "c"] (sp_is_three) := by
  refine Fun.ok e.f_is_three sc_is_three (fun vs H Q E h => ?_) (fun cdv A outer s H vs Q E hr h => ?_)
  · obtain ⟨t, f, tk, fs, a, b, c, rfl, _⟩ := h; rfl
  · obtain ⟨t, f, tk, fs, a, b, c, rfl, ht, hf, nd, nf, ha, hb, hc, ga, gb, gc, k⟩ := h
    refine ⟨_, (pss_one (ps_ret (pe_and (pe_chain op_lt op_lt (pv 2) (pv 3) (pv 4)) (pe_and (pe_chain op_lt op_lt (pe_dget (u1 hr) (pv 0) (pv 4) (fun _ _ => rfl)) (pe_dget (u1 hr) (pv 0) (pv 3) (fun _ _ => rfl)) (pe_dget (u1 hr) (pv 0) (pv 2) (fun _ _ => rfl))) (pe_one (pe_chain op_lt op_lt (pe_dget (u1 hr) (pv 1) (pv 2) (fun _ _ => rfl)) (pe_dget (u1 hr) (pv 1) (pv 4) (fun _ _ => rfl)) (pe_dget (u1 hr) (pv 1) (pv 3) (fun _ _ => rfl)))))))), ?_⟩
    have dv : ∀ {d : Addr} {ns : List Int} {x : Int} {i j : Nat}, Nm H d ns → ns.Nodup → x ∈ ns → (start ["taken", "filled", "a", "b", "c"] [V.ref t, V.ref f, V.int a, V.int b, V.int c])[i]? = some (some (V.ref d)) → (start ["taken", "filled", "a", "b", "c"] [V.ref t, V.ref f, V.int a, V.int b, V.int c])[j]? = some (some (V.int x)) →
        ∀ R : VK, R (.int (ix ns x : Nat)) H → tDGet (tVar i) (tVar j) (start ["taken", "filled", "a", "b", "c"] [V.ref t, V.ref f, V.int a, V.int b, V.int c]) H R := fun h1 h2 h3 e1 e2 R r => ⟨_, e1, _, e2, _, _, rfl, nm_get (.inl h1) h2 h3, r⟩
    refine chain_lt (a := a) (b := b) (c := c) (fun R r => ⟨_, rfl, r⟩) (fun R r => ⟨_, rfl, r⟩) (fun R r => ⟨_, rfl, r⟩) ⟨_, rfl, ?_⟩
    by_cases C1 : a < b ∧ b < c
    · refine iteD C1 ?_
      refine chain_lt (a := (ix tk c : Nat)) (b := (ix tk b : Nat)) (c := (ix tk a : Nat)) (dv ht nd hc rfl rfl) (dv ht nd hb rfl rfl) (dv ht nd ha rfl rfl) ⟨_, rfl, ?_⟩
      by_cases C2 : ix tk c < ix tk b ∧ ix tk b < ix tk a
      · refine iteD (by omega) ?_
        refine chain_lt (a := (ix fs a : Nat)) (b := (ix fs c : Nat)) (c := (ix fs b : Nat)) (dv hf nf ga rfl rfl) (dv hf nf gc rfl rfl) (dv hf nf gb rfl rfl) ?_
        have e : decide ((a < b ∧ b < c) ∧ (ix tk c < ix tk b ∧ ix tk b < ix tk a) ∧ ix fs a < ix fs c ∧ ix fs c < ix fs b) = decide (((ix fs a : Nat) : Int) < (ix fs c : Nat) ∧ ((ix fs c : Nat) : Int) < (ix fs b : Nat)) := decide_eq_decide.mpr ⟨fun z => by omega, fun z => ⟨C1, C2, by omega⟩⟩
        rw [e] at k; exact k
      · refine iteX (by omega) ?_
        rw [decide_eq_false fun z => C2 z.2.1] at k
        exact k
    · refine iteX C1 ?_
      rw [decide_eq_false fun z => C1 z.1] at k
      exact k
/-- two places in order -/
theorem pair_of {xs : List V} {ns : List Int} (e : xs = ns.map V.int) {q : Nat × Nat} {x y : V} (h1 : xs[q.1]? = some x) (h2 : xs[q.2]? = some y) : ∃ a b, ns[q.1]? = some a ∧ ns[q.2]? = some b ∧ x = .int a ∧ y = .int b := by
  subst e
  obtain ⟨a, ha, rfl⟩ := at_int h1
  obtain ⟨b, hb, rfl⟩ := at_int h2
  exact ⟨a, b, ha, hb, rfl, rfl⟩
theorem keys_nm (ns : List Int) : (numK ns).map (·.1) = ns.map Sum.inl := by
  unfold numK
  rw [List.map_map]
  conv => rhs; rw [← List.zipIdx_map_fst 0 ns, List.map_map]
  rfl
theorem ok_first_two (e : Env P K mg) : FnOk P w K mg base CX0 2 e.a_first_two e.d_first_two ["taken", "filled"] (sp_first_two) := by
  refine Fun.ok e.f_first_two sc_first_two (fun vs H Q E h => ?_) (fun cdv A outer s H vs Q E hr h => ?_)
  · obtain ⟨t, f, tk, fs, rfl, _⟩ := h; rfl
  · obtain ⟨t, f, tk, fs, rfl, ht, hf, nd, le, p, no, k⟩ := h
    have nf : fs.Nodup := p.nodup_iff.mpr nd
    refine ⟨_, (pss_cons (ps_for PassesOwn.never rfl (LC.pi_co (by rfl) e.g_combinations (pa_cons (pe_callB (cr_sortedK rfl) (by rfl) e.n_sorted (by decide +kernel) (pa_cons (pv 0) pa_nil)) (pa_cons pe_int pa_nil))) (pg_tup (by rfl) (pgs_cons (pg_name (i := 2) sc_first_two.nd rfl (by first | exact Or.inl rfl | exact Or.inr rfl)) (pgs_cons (pg_name (i := 3) sc_first_two.nd rfl (by first | exact Or.inl rfl | exact Or.inr rfl)) pgs_nil)))
      (pss_one (ps_if (pt_val (pe_call ((ok_is_two e).mono (by decide)) hr rfl e.g_is_two e.f_is_two.kp e.b_is_two .nil pass0 (pa_cons (pv 0) (pa_cons (pv 1) (pa_cons (pv 2) (pa_cons (pv 3) pa_nil))))))
        (pss_one (ps_ret (pe_tup (pa_cons pe_str (pa_cons (pv 2) (pa_cons (pv 3) pa_nil))))))
        pss_nil)))
      (pss_one (ps_ret pe_non))), ?_⟩
    refine ⟨_, rfl, t, numK tk, tk, rfl, .inl ht, keys_nm tk, by omega, fun ys L p1 p2 hL => ⟨L, _, rfl, SqL.of upd_same, by rw [List.length_map, p1.length_eq]; omega, ?_⟩⟩
    have sL := same_upd (o := HO.lst (ys.map V.int)) hL
    refine for_it walk_co (fun i σ H1 => Same H H1 ∧ ∃ v2 v3 : Option V, σ = [some (.ref t), some (.ref f), v2, v3]) ⟨sL, none, none, rfl⟩ (fun _ _ _ _ _ => trivial) ?_ ?_
    · rintro i x σ H1 H2 hi ⟨s1, v2, v3, rfl⟩ ⟨T, q, x, y, rfl, hT, rfl, hq, hx, hy⟩
      obtain ⟨a, b, ha, hb, rfl, rfl⟩ := pair_of rfl hx hy
      have sT := same_upd (o := HO.tup [.int a, .int b]) hT
      have s2 := s1.trans sT
      have ma := p1.subset (List.mem_of_getElem? ha)
      have mb := p1.subset (List.mem_of_getElem? hb)
      refine ⟨_, _, rfl, SqT.of upd_same, rfl, _, _, rfl, _, _, rfl, rfl, ?_⟩
      refine ⟨_, rfl, _, rfl, _, rfl, _, rfl, t, f, tk, fs, a, b, rfl, s2 _ _ ht, s2 _ _ hf, nd, nf, ma, mb, p.symm.subset ma, p.symm.subset mb, _, rfl, ?_⟩
      refine iteX (fun z => no.two a b ma mb z.1 z.2.1 z.2.2) ?_
      exact ⟨s2, _, _, rfl⟩
    · rintro σ H1 ⟨s1, v2, v3, rfl⟩
      exact k _ s1
end
end LP

namespace LP
open PySem L2 LT LG LQ LH LC LX
section
variable {P : Program} {w : World} {K : PySem.W.Frag} {mg : Str → Option Value} {base : Heap}
def goodC (tk fs : List Int) (b c : Int) : Bool := decide (c > b ∧ ix tk c < ix tk b ∧ ix fs c < ix fs b)
def fillC (tk fs : List Int) (b : Int) (l : List Int) : List Int := (l.filter (goodC tk fs b)).map fun c => ((ix fs c : Nat) : Int)
theorem fillC_snoc (tk fs : List Int) (b : Int) {l : List Int} {j : Nat} {c : Int} (h : l[j]? = some c) : fillC tk fs b (l.take (j + 1)) = fillC tk fs b (l.take j) ++ if goodC tk fs b c = true then [((ix fs c : Nat) : Int)] else [] := by
  unfold fillC
  rw [take_snoc h, List.filter_append, List.map_append]
  congr 1
  by_cases q : goodC tk fs b c = true
  · rw [if_pos q, List.filter_cons, if_pos q]; rfl
  · rw [if_neg q, List.filter_cons, if_neg q]; rfl
theorem fillC_len (tk fs : List Int) (b : Int) (l : List Int) : (fillC tk fs b l).length ≤ l.length := by
  unfold fillC; rw [List.length_map]; exact List.length_filter_le _ _
theorem numK_at {ns : List Int} {i : Nat} {k : Key} {v : V} (h : (numK ns)[i]? = some (k, v)) : ∃ x, ns[i]? = some x ∧ k = .inl x := by
  unfold numK at h
  rw [List.getElem?_map, List.getElem?_zipIdx] at h
  cases q : ns[i]? with
  | none => rw [q] at h; cases h
  | some x => rw [q] at h; cases h; exact ⟨x, rfl, rfl⟩
theorem ok_last_fill_between (e : Env P K mg) : FnOk P w K mg base CX0 1 e.a_last_fill_between e.d_last_fill_between ["taken", "filled", "b"] (sp_last_fill_between) := by
  refine Fun.ok e.f_last_fill_between sc_last_fill_between (fun vs H Q E h => ?_) (fun cdv A outer s H vs Q E hr h => ?_)
  · obtain ⟨t, f, tk, fs, b, rfl, _⟩ := h; rfl
  · obtain ⟨t, f, tk, fs, b, rfl, ht, hf, ntf, nd, le, p, hb, k⟩ := h
    have nf : fs.Nodup := p.nodup_iff.mpr nd
    have hbf := p.symm.subset hb
    refine ⟨_, (pss_cons (ps_lock (ps_setLc (i := 3) (own := [("c", 4)]) rfl sc_last_fill_between.nd rfl rfl (sw_true rfl rfl rfl (by decide +kernel)) (pi_keys (pv 0)) (blkOk_by (N := ["taken", "filled", "b", "fills", "c"]) (sc := defScope s_last_fill_between) (by decide +kernel)) (fun _ _ _ _ _ => (pg_name (i := 4) sc_last_fill_between.nd rfl (by first | exact Or.inl rfl | exact Or.inr rfl))) (fun _ _ _ _ _ => pts_one (PW.pt (pw_and (pt_cmpR op_gt (pv 4) (pv 2) (nomark _)) (pw_and (pt_cmpR op_lt (pe_dget (u1 hr) (pv 0) (pv 4) (fun _ _ => rfl)) (pe_dget (u1 hr) (pv 0) (pv 2) (fun _ _ => rfl)) (nomark _)) (pw_and1 (pt_cmpR op_lt (pe_dget (u1 hr) (pv 1) (pv 4) (fun _ _ => rfl)) (pe_dget (u1 hr) (pv 1) (pv 2) (fun _ _ => rfl)) (nomark _))))))) (fun _ _ _ _ _ => (pe_dget (u1 hr) (pv 1) (pv 4) (fun _ _ => rfl)))))
      (pss_one (ps_ret (pe_callBK (LX.cr_maxDef rfl) (by rfl) e.n_max (by decide +kernel) (pa_cons (pv 3) pa_nil) (pk_cons (pe_un un_neg pe_int) pk_nil))))), ?_⟩
    refine ⟨t, _, ht, trivial, fun od => ?_⟩
    have ht0 : (upd H t (.frz od (.dK (numK tk)))) t = some (.frz od (.dK (numK tk))) := upd_same
    have hf0 : (upd H t (.frz od (.dK (numK tk)))) f = some (.dK (numK fs)) := by rw [upd_ne ntf.symm]; exact hf
    refine ⟨_, rfl, t, od, rfl, .inl ⟨_, ht0, fun D hD => ?_⟩⟩
    have sD := fun o => same_upd (o := o) hD
    refine lc_it walk_keys (fun j H' => H' = upd (upd H t (.frz od (.dK (numK tk)))) D (.lst ((fillC tk fs b (tk.take j)).map V.int))) rfl (fun j H' _ h => by subst h; exact sD _ _ _ ht0) ?_ ?_
    · rintro j x H2 H3 hj rfl ⟨rfl, kk, v, hkv, rfl⟩
      rw [numK_len] at hj
      obtain ⟨c, hc, rfl⟩ := numK_at hkv
      have mc := List.mem_of_getElem? hc
      have mcf := p.symm.subset mc
      have htD := sD (.lst ((fillC tk fs b (tk.take j)).map V.int)) _ _ ht0
      have hfD := sD (.lst ((fillC tk fs b (tk.take j)).map V.int)) _ _ hf0
      have fl := fillC_len tk fs b (tk.take j)
      rw [List.length_take] at fl
      have skip : ¬ goodC tk fs b c = true → upd (upd H t (.frz od (.dK (numK tk)))) D (.lst ((fillC tk fs b (tk.take j)).map V.int)) = upd (upd H t (.frz od (.dK (numK tk)))) D (.lst ((fillC tk fs b (tk.take (j + 1))).map V.int)) := fun q => by
        rw [fillC_snoc tk fs b hc, if_neg q, List.append_nil]
      refine ⟨rfl, _, rfl, _, rfl, _, _, rfl, rfl, _, rfl, ?_⟩
      by_cases c1 : c > b
      · refine iteD c1 ?_
        refine ⟨_, rfl, _, rfl, t, _, rfl, nm_get (.inr ⟨_, htD⟩) nd mc, _, rfl, _, rfl, t, _, rfl, nm_get (.inr ⟨_, htD⟩) nd hb, _, _, rfl, rfl, _, rfl, ?_⟩
        by_cases c2 : ix tk c < ix tk b
        · refine iteD (by omega) ?_
          refine ⟨_, rfl, _, rfl, f, _, rfl, nm_get (.inl hfD) nf mcf, _, rfl, _, rfl, f, _, rfl, nm_get (.inl hfD) nf hbf, _, _, rfl, rfl, _, rfl, ?_⟩
          by_cases c3 : ix fs c < ix fs b
          · refine iteD (by omega) ?_
            have q : goodC tk fs b c = true := decide_eq_true ⟨c1, c2, c3⟩
            refine ⟨_, rfl, _, rfl, f, _, rfl, nm_get (.inl hfD) nf mcf, _, upd_same, ?_, ?_⟩
            · rw [List.length_map]; exact small1000 (by omega)
            · rw [upd_upd, fillC_snoc tk fs b hc, if_pos q, List.map_append]; rfl
          · refine iteX (by omega) ?_
            exact skip fun z => c3 (of_decide_eq_true z).2.2
        · refine iteX (by omega) ?_
          exact skip fun z => c2 (of_decide_eq_true z).2.1
      · refine iteX c1 ?_
        exact skip fun z => c1 (of_decide_eq_true z).1
    · rintro H2 rfl
      rw [numK_len, List.take_length]
      refine ⟨?_, ?_⟩
      · exact sD _ _ _ ht0
      have htH : ∀ o : HO, (upd (upd H t (.frz od (.dK (numK tk)))) D o) = upd (upd H D o) t (.frz od (.dK (numK tk))) := fun o => by
        have ntD : t ≠ D := ne_of_none ht0 hD
        funext x
        unfold upd
        by_cases h1 : x = D
        · subst h1
          rw [if_pos rfl, if_neg (fun z => ntD z.symm), if_pos rfl]
        · rw [if_neg h1]
          by_cases h2 : x = t
          · rw [if_pos h2, if_pos h2]
          · rw [if_neg h2, if_neg h2, if_neg h1]
      have hD0 : H D = none := by
        have ntD : t ≠ D := ne_of_none ht0 hD
        rw [upd_ne ntD.symm] at hD; exact hD
      have ntD : t ≠ D := ne_of_none ht0 hD
      rw [htH, upd_upd]
      have hback : upd (upd H D (.lst ((fillC tk fs b tk).map V.int))) t (.dK (numK tk)) = upd H D (.lst ((fillC tk fs b tk).map V.int)) := by
        funext x
        by_cases h2 : x = t
        · subst h2; rw [upd_same, upd_ne ntD]; exact ht.symm
        · rw [upd_ne h2]
      rw [hback]
      have sF := same_upd (o := HO.lst ((fillC tk fs b tk).map V.int)) hD0
      refine ⟨_, rfl, _, rfl, D, fillC tk fs b tk, _, rfl, rfl, SqL.of upd_same, fun e => ?_, fun e m hm hmax => ?_⟩
      · exact k _ (-1) sF (.inl rfl)
      · obtain ⟨c, hc, rfl⟩ := List.mem_map.mp hm
        obtain ⟨mc, gc⟩ := List.mem_filter.mp hc
        obtain ⟨g1, g2, g3⟩ := of_decide_eq_true gc
        exact k _ _ sF (.inr ⟨c, mc, g1, g2, g3, rfl⟩)
/-- a dict with these values at these keys -/
def zipK (ys rs : List Int) : List (Key × V) := (ys.zip rs).map fun p => (.inl p.1, .int p.2)
theorem zipK_len {ys rs : List Int} (h : rs.length ≤ ys.length) : (zipK ys rs).length = rs.length := by
  unfold zipK; rw [List.length_map, List.length_zip]; omega
theorem zipK_put {ys rs : List Int} {x r : Int} (hl : ys.length = rs.length) (h : x ∉ ys) : putK (zipK ys rs) (.inl x) (.int r) = zipK (ys ++ [x]) (rs ++ [r]) := by
  rw [putK_new]
  · unfold zipK
    rw [List.zip_append hl, List.map_append]; rfl
  · intro q hq e
    obtain ⟨⟨a, b⟩, hp, rfl⟩ := List.mem_map.mp hq
    cases e
    exact h (List.of_mem_zip hp).1
theorem zipK_val : ∀ {ys rs : List Int}, ys.Nodup → ∀ {i : Nat} {x r : Int}, ys[i]? = some x → rs[i]? = some r → valV (zipK ys rs) (.inl x) = some (.int r)
  | [], _, _, i, x, r, h, _ => by simp at h
  | _ :: _, [], _, i, x, r, _, h => by simp at h
  | y :: ys, q :: rs, nd, 0, x, r, h1, h2 => by
    cases h1; cases h2
    unfold valV zipK
    rw [List.zip_cons_cons, List.map_cons, List.find?_cons]
    simp
  | y :: ys, q :: rs, nd, i + 1, x, r, h1, h2 => by
    have ih := zipK_val (List.nodup_cons.mp nd).2 (i := i) (x := x) (r := r) h1 h2
    unfold valV at ih ⊢
    have ne : ¬ ((Sum.inl y : Key) = .inl x) := fun e => by
      cases e
      exact (List.nodup_cons.mp nd).1 (List.mem_of_getElem? h1)
    show ((zipK (y :: ys) (q :: rs)).find? _).map _ = _
    have e : zipK (y :: ys) (q :: rs) = (.inl y, .int q) :: zipK ys rs := rfl
    rw [e, List.find?_cons, decide_eq_false ne]
    exact ih
theorem ok_first_three (e : Env P K mg) : FnOk P w K mg base CX0 2 e.a_first_three e.d_first_three ["taken", "filled"] (sp_first_three) := by
  refine Fun.ok e.f_first_three sc_first_three (fun vs H Q E h => ?_) (fun cdv A outer s H vs Q E hr h => ?_)
  · obtain ⟨t, f, tk, fs, rfl, _⟩ := h; rfl
  · obtain ⟨t, f, tk, fs, rfl, ht, hf, ntf, nd, le, p, no, k⟩ := h
    have nf : fs.Nodup := p.nodup_iff.mpr nd
    refine ⟨_, (pss_cons (ps_set (i := 2) sc_first_three.nd rfl (by first | exact Or.inl rfl | exact Or.inr rfl) (pe_callB (cr_sortedK rfl) (by rfl) e.n_sorted (by decide +kernel) (pa_cons (pv 0) pa_nil)))
      (pss_cons (LX.ps_setDc (i := 3) (own := [("b", 5)]) rfl sc_first_three.nd rfl rfl (LX.sw_trueD rfl rfl rfl (by decide +kernel)) (pi_list (pv 2)) (blkOk_by (N := ["taken", "filled", "places", "last", "a", "b", "c"]) (sc := defScope s_first_three) (by decide +kernel)) (fun _ _ _ _ _ => (pg_name (i := 5) sc_first_three.nd rfl (by first | exact Or.inl rfl | exact Or.inr rfl))) (fun _ _ _ _ _ => pts_nil) (fun _ _ _ _ _ => (pv 5)) (fun _ _ _ _ _ => (pe_call ((ok_last_fill_between e).mono (by decide)) hr rfl e.g_last_fill_between e.f_last_fill_between.kp e.b_last_fill_between .nil pass0 (pa_cons (pv 0) (pa_cons (pv 1) (pa_cons (pv 5) pa_nil))))))
      (pss_cons (ps_for PassesOwn.never rfl (LC.pi_co (by rfl) e.g_combinations (pa_cons (pv 2) (pa_cons pe_int pa_nil))) (pg_tup (by rfl) (pgs_cons (pg_name (i := 4) sc_first_three.nd rfl (by first | exact Or.inl rfl | exact Or.inr rfl)) (pgs_cons (pg_name (i := 5) sc_first_three.nd rfl (by first | exact Or.inl rfl | exact Or.inr rfl)) pgs_nil)))
      (pss_one (ps_if (PW.pt (pw_and (pt_cmpR op_lt (pe_dget (u1 hr) (pv 0) (pv 5) (fun _ _ => rfl)) (pe_dget (u1 hr) (pv 0) (pv 4) (fun _ _ => rfl)) (nomark _)) (pw_and1 (pt_cmpR op_lt (pe_dget (u1 hr) (pv 1) (pv 4) (fun _ _ => rfl)) (pe_dget (u1 hr) (pv 3) (pv 5) (fun _ _ => rfl)) (nomark _)))))
        (pss_one (ps_ret (pe_tup (pa_cons pe_str (pa_cons (pv 4) (pa_cons (pv 5) (pa_cons (pe_callB (cr_min rfl) (by rfl) e.n_min (by decide +kernel) (pa_cons (pe_lc (own := [("c", 6)]) rfl sc_first_three.nd (pi_list (pv 2)) (blkOk_by (N := ["taken", "filled", "places", "last", "a", "b", "c"]) (sc := defScope s_first_three) (by decide +kernel)) (fun _ _ _ _ _ => (pg_name (i := 6) sc_first_three.nd rfl (by first | exact Or.inl rfl | exact Or.inr rfl))) (fun _ _ _ _ _ => pts_one (pt_val (pe_call ((ok_is_three e).mono (by decide)) hr rfl e.g_is_three e.f_is_three.kp e.b_is_three .nil pass0 (pa_cons (pv 0) (pa_cons (pv 1) (pa_cons (pv 4) (pa_cons (pv 5) (pa_cons (pv 6) pa_nil)))))))) (fun _ _ _ _ _ => (pv 6))) pa_nil)) pa_nil)))))))
        pss_nil)))
      (pss_one (ps_ret pe_non))))), ?_⟩
    refine ⟨_, rfl, t, numK tk, tk, rfl, .inl ht, keys_nm tk, by omega, fun ys L p1 p2 hL => ?_⟩
    have sL := same_upd (o := HO.lst (ys.map V.int)) hL
    have yl := p1.length_eq
    have yd : ys.Nodup := p1.nodup_iff.mpr nd
    have hL1 : (upd H L (.lst (ys.map V.int))) L = some (.lst (ys.map V.int)) := upd_same
    generalize upd H L (.lst (ys.map V.int)) = H1 at sL hL1
    refine ⟨_, rfl, L, rfl, ⟨_, SqL.of hL1⟩, fun D hD => ?_⟩
    have sD := fun o => same_upd (o := o) hD
    refine dc_it walk_list (fun j H' => ∃ rs : List Int, rs.length = j ∧ Same H1 H' ∧ H' D = some (.dK (zipK (ys.take j) rs)) ∧ ∀ (i : Nat) (y r : Int), ys[i]? = some y → rs[i]? = some r → (r = -1 ∨ ∃ c ∈ tk, c > y ∧ ix tk c < ix tk y ∧ ix fs c < ix fs y ∧ r = (ix fs c : Nat))) ⟨[], rfl, sD _, by rw [upd_same]; rfl, fun i y r _ h => by simp at h⟩ (fun j H' _ ⟨_, _, s, _⟩ => s.seq (SqL.of hL1)) ?_ ?_
    · rintro j x H2 H3 hj ⟨rs, rl, s2, hd, hr⟩ ⟨rfl, hx⟩
      rw [List.length_map] at hj
      obtain ⟨y, hy, rfl⟩ := at_int hx
      have my := p1.subset (List.mem_of_getElem? hy)
      refine ⟨rfl, _, rfl, _, rfl, _, rfl, _, rfl, t, f, tk, fs, y, rfl, s2 _ _ (sL _ _ ht), s2 _ _ (sL _ _ hf), ntf, nd, le, p, my, fun H4 r s4 hr4 => ?_⟩
      refine ⟨zipK (ys.take j) rs, .inl y, rfl, s4 _ _ hd, by rw [zipK_len (by rw [List.length_take]; omega)]; exact small1000 (by omega), rs ++ [r], by rw [List.length_append, rl]; rfl, ?_, ?_, ?_⟩
      · intro b o hb; rw [upd_ne (ne_of_none hb hD)]; exact s4 _ _ (s2 _ _ hb)
      · rw [upd_same, zipK_put (by rw [List.length_take]; omega) (not_take yd hy (Nat.le_refl _)), take_snoc hy]
      · intro i a q h1 h2
        by_cases c : i < rs.length
        · rw [List.getElem?_append_left c] at h2; exact hr i a q h1 h2
        · rw [List.getElem?_append_right (by omega)] at h2
          cases z : i - rs.length with
          | zero =>
            rw [z] at h2; cases h2
            have : i = j := by omega
            subst this
            rw [hy] at h1; cases h1
            exact hr4
          | succ m => rw [z] at h2; simp at h2
    · rintro H2 ⟨rs, rl, s2, hd, hr⟩
      replace rl : rs.length = (ys.map V.int).length := rl
      rw [List.length_map] at rl
      rw [List.length_map, List.take_length] at hd
      have hL2 := s2 _ _ hL1
      refine ⟨_, rfl, L, _, rfl, SqL.of hL2, by rw [List.length_map]; omega, ?_⟩
      refine for_it walk_co (fun i σ H' => Same H2 H' ∧ ∃ v2 v3 v6 : Option V, σ = [some (.ref t), some (.ref f), some (.ref L), some (.ref D), v2, v3, v6]) ⟨Same.refl _, none, none, none, rfl⟩ (fun _ _ _ _ _ => trivial) ?_ ?_
      · rintro i x σ H3 H4 hi ⟨s3, v2, v3, v6, rfl⟩ ⟨T, q, x, y, rfl, hT, rfl, hq, hx, hy⟩
        obtain ⟨a, b, ha, hb, rfl, rfl⟩ := pair_of rfl hx hy
        have sT := same_upd (o := HO.tup [.int a, .int b]) hT
        have s4 := s3.trans sT
        have ma := p1.subset (List.mem_of_getElem? ha)
        have mb := p1.subset (List.mem_of_getElem? hb)
        have hab : a < b := by
          have hq2 := (prs_step hq).1
          have h1 := List.getElem?_eq_some_iff.mp ha
          have h2 := List.getElem?_eq_some_iff.mp hb
          obtain ⟨l1, e1⟩ := h1
          obtain ⟨l2, e2⟩ := h2
          have le2 := List.pairwise_iff_getElem.mp p2 _ _ l1 l2 hq2
          rw [e1, e2] at le2
          have ne : a ≠ b := fun z => by
            have := (List.getElem_inj yd).mp (e1.trans (z.trans e2.symm))
            omega
          omega
        have ht4 := s4 _ _ (s2 _ _ (sL _ _ ht))
        have hf4 := s4 _ _ (s2 _ _ (sL _ _ hf))
        have hd4 := s4 _ _ hd
        refine ⟨_, _, rfl, SqT.of upd_same, rfl, _, _, rfl, _, _, rfl, rfl, ?_⟩
        refine ⟨_, rfl, _, rfl, t, _, rfl, nm_get (.inl ht4) nd mb, _, rfl, _, rfl, t, _, rfl, nm_get (.inl ht4) nd ma, _, _, rfl, rfl, _, rfl, ?_⟩
        by_cases c1 : ix tk b < ix tk a
        · refine iteD (by omega) ?_
          have hrb : rs[q.2]? = some (rs[q.2]'(by have := (List.getElem?_eq_some_iff.mp hb).1; omega)) := List.getElem?_eq_getElem _
          generalize rs[q.2]'(by have := (List.getElem?_eq_some_iff.mp hb).1; omega) = r at hrb
          have hv := zipK_val yd hb hrb
          have hg : DGet (upd H3 T (.tup [.int a, .int b])) D (.int b) (some (.int r)) := .inl ⟨zipK ys rs, .inl b, .inl hd4, rfl, hv.symm⟩
          refine ⟨_, rfl, _, rfl, f, _, rfl, nm_get (.inl hf4) nf (p.symm.subset ma), _, rfl, _, rfl, D, _, rfl, hg, _, _, rfl, rfl, _, rfl, ?_⟩
          refine iteX (fun z => ?_) ⟨s4, _, _, _, rfl⟩
          rcases hr _ _ _ hb hrb with rfl | ⟨c, mc, g1, g2, g3, rfl⟩
          · omega
          · exact no.three a b c ma mb mc hab g1 g2 c1 (by omega) g3
        · refine iteX (by omega) ?_
          exact iteF ⟨s4, _, _, _, rfl⟩
      · rintro σ H3 ⟨s3, v2, v3, v6, rfl⟩
        exact k _ ((sL.trans s2).trans s3)
theorem ok_obstruction (e : Env P K mg) : FnOk P w K mg base CX0 6 e.a_obstruction e.d_obstruction ["takes", "fills"] (sp_obstruction K) := by
  refine Fun.ok e.f_obstruction sc_obstruction (fun vs H Q E h => ?_) (fun cdv A outer s H vs Q E hr h => ?_)
  · obtain ⟨a, b, tk, fs, rfl, _⟩ := h; rfl
  · obtain ⟨a, b, tk, fs, rfl, hE, hF, pl, p, no, k⟩ := h
    have nd := pl.nd
    refine ⟨_, (pss_cons (ps_expr (pe_call ((ok_check_pair e).mono (by decide)) hr rfl e.g_check_pair e.f_check_pair.kp e.b_check_pair .nil pass0 (pa_cons (pv 0) (pa_cons (pv 1) pa_nil))))
      (pss_cons (ps_set (i := 2) sc_obstruction.nd rfl (by first | exact Or.inl rfl | exact Or.inr rfl) (pe_call ((ok_numbers_by_place e).mono (by decide)) hr rfl e.g_numbers_by_place e.f_numbers_by_place.kp e.b_numbers_by_place .nil pass0 (pa_cons (pv 0) pa_nil)))
      (pss_cons (ps_set (i := 3) sc_obstruction.nd rfl (by first | exact Or.inl rfl | exact Or.inr rfl) (pe_call ((ok_numbers_by_place e).mono (by decide)) hr rfl e.g_numbers_by_place e.f_numbers_by_place.kp e.b_numbers_by_place .nil pass0 (pa_cons (pv 1) pa_nil)))
      (pss_cons (ps_set (i := 4) sc_obstruction.nd rfl (by first | exact Or.inl rfl | exact Or.inr rfl) (pe_call ((ok_first_two e).mono (by decide)) hr rfl e.g_first_two e.f_first_two.kp e.b_first_two .nil pass0 (pa_cons (pv 2) (pa_cons (pv 3) pa_nil))))
      (pss_cons (ps_if (pt_cmpR LS.op_isN (pv 4) pe_non (nomark _))
        (pss_one (ps_set (i := 4) sc_obstruction.nd rfl (by first | exact Or.inl rfl | exact Or.inr rfl) (pe_call ((ok_first_three e).mono (by decide)) hr rfl e.g_first_three e.f_first_three.kp e.b_first_three .nil pass0 (pa_cons (pv 2) (pa_cons (pv 3) pa_nil)))))
        pss_nil)
      (pss_one (ps_ret (pv 4)))))))), ?_⟩
    refine ⟨_, rfl, _, rfl, a, b, tk, fs, rfl, hE, hF, pl, p, fun H1 s1 => ?_⟩
    refine ⟨_, rfl, a, tk, rfl, hE.same s1, pl, fun H2 d s2 nd2 hd => ?_⟩
    have t2 := s1.trans s2
    refine ⟨_, rfl, b, fs, rfl, hF.same t2, pl.perm p, fun H3 e s3 ne he => ?_⟩
    have t3 := t2.trans s3
    have hd3 := s3 _ _ hd
    have nde : d ≠ e := ne_of_none hd ne
    refine ⟨_, rfl, _, rfl, d, e, tk, fs, rfl, hd3, he, nd, pl.le, p, no, fun H4 s4 => ?_⟩
    refine ⟨_, rfl, rfl, _, rfl, iteD rfl ?_⟩
    refine ⟨_, rfl, _, rfl, d, e, tk, fs, rfl, s4 _ _ hd3, s4 _ _ he, nde, nd, pl.le, p, no, fun H5 s5 => ?_⟩
    exact ⟨_, rfl, k _ ((t3.trans s4).trans s5)⟩
end
end LP

namespace LP
open PySem L2 LT LG LQ LH LC LX
section
variable {P : Program} {w : World} {K : PySem.W.Frag} {mg : Str → Option Value} {base : Heap}
theorem natV_snoc (l : List Nat) (a : Nat) : natV (l ++ [a]) = natV l ++ [V.int (a : Nat)] := by unfold natV; rw [List.map_append]; rfl
theorem natV_len (l : List Nat) : (natV l).length = l.length := by unfold natV; rw [List.length_map]
theorem los_snoc (tk fs : List Int) (i : Nat) : (List.range (i + 1)).map (lo tk fs) = (List.range i).map (lo tk fs) ++ [lo tk fs i] := by rw [List.range_succ, List.map_append]; rfl
theorem or_E2 {K : PySem.W.Frag} {H0 H : Hp} {a : Addr} {xs : List V} {σ : L2.St} {i : Nat} {R : It → Hp → Prop} (hE : SqE K H0 a xs) (s0 : Same H0 H) (hv : σ[i]? = some (some (.ref a))) (k : ∀ (J : It) (G : Hp → Prop), Walk J xs.length G (YAt xs) → (∀ H', Same H0 H' → G H') → R J H) :
    iList K (tVar i) σ H R ∨ iTup K (tVar i) σ H R := by
  rcases hE with h | h
  · exact .inl ⟨_, hv, a, rfl, ⟨_, s0.seq h⟩, k _ _ walk_list fun H' s => s.seq h⟩
  · exact .inr ⟨_, hv, a, rfl, ⟨_, same_tup s0 h⟩, k _ _ walk_tup fun H' s => same_tup s h⟩
theorem int_max (a b : Nat) : (if ((b : Nat) : Int) > (a : Nat) then V.int (b : Nat) else V.int (a : Nat)) = V.int ((max a b : Nat) : Int) := by
  by_cases c : a < b
  · rw [if_pos (by omega), Nat.max_eq_right (by omega)]
  · rw [if_neg (by omega), Nat.max_eq_left (by omega)]
theorem ok_least_times (e : Env P K mg) : FnOk P w K mg base CX0 2 e.a_least_times e.d_least_times ["takes", "fills"] (sp_least_times K) := by
  refine Fun.ok e.f_least_times sc_least_times (fun vs H Q E h => ?_) (fun cdv A outer s H vs Q E hr h => ?_)
  · obtain ⟨a, b, tk, fs, rfl, _⟩ := h; rfl
  · obtain ⟨a, b, tk, fs, rfl, hE, hF, pl, p, k⟩ := h
    have nd := pl.nd
    have le := pl.le
    have fl := p.length_eq
    refine ⟨_, (pss_cons (ps_set (i := 2) sc_least_times.nd rfl (by first | exact Or.inl rfl | exact Or.inr rfl) (pe_call ((ok_numbers_by_place e).mono (by decide)) hr rfl e.g_numbers_by_place e.f_numbers_by_place.kp e.b_numbers_by_place .nil pass0 (pa_cons (pv 0) pa_nil)))
      (pss_cons (ps_set (i := 3) sc_least_times.nd rfl (by first | exact Or.inl rfl | exact Or.inr rfl) (pe_lst pa_nil))
      (pss_cons (ps_set (i := 4) sc_least_times.nd rfl (by first | exact Or.inl rfl | exact Or.inr rfl) pe_int)
      (pss_cons (ps_for PassesOwn.never rfl (PI.or (pi_list (pv 1)) (pi_tup (pv 1))) (pg_name (i := 5) sc_least_times.nd rfl (by first | exact Or.inl rfl | exact Or.inr rfl))
      (pss_cons (ps_set (i := 4) sc_least_times.nd rfl (by first | exact Or.inl rfl | exact Or.inr rfl) (pe_callB (LS.call_max2 rfl) (by rfl) e.n_max (by decide +kernel) (pa_cons (pv 4) (pa_cons (pe_op op_add (pe_dget (u1 hr) (pv 2) (pv 5) (fun _ _ => rfl)) pe_int) pa_nil))))
      (pss_one (ps_expr (pe_bm PySem.F.plainAttrs_list PySem.F.slot_list_append PySem.F.type_list_append mt_append (pv 3) (pa_cons (pv 4) pa_nil))))))
      (pss_one (ps_ret (pv 3))))))), ?_⟩
    refine ⟨_, rfl, a, tk, rfl, hE, pl, fun H1 d s1 nd1 hd => ?_⟩
    refine ⟨by decide, fun tp htp => ?_⟩
    have st := same_upd (o := HO.lst []) htp
    have t0 : H tp = none := s1.free htp
    refine or_E2 (hF.same s1) st rfl fun J G wk hG => ?_
    refine for_it wk (fun i σ H2 => ∃ v5 : Option V, Same H1 H2 ∧ H2 tp = some (.lst (natV ((List.range i).map (lo tk fs)))) ∧ σ = [some (.ref a), some (.ref b), some (.ref d), some (.ref tp), some (.int (loL tk (fs.take i) : Nat)), v5])
      ⟨none, st, upd_same, rfl⟩ (fun i σ H2 _ ⟨_, s, _⟩ => hG _ s) ?_ ?_
    · rintro i x σ H2 H3 hi ⟨v5, s2, h2, rfl⟩ ⟨rfl, hx⟩
      rw [List.length_map] at hi
      obtain ⟨n, hn, rfl⟩ := at_int hx
      have mn := p.subset (List.mem_of_getElem? hn)
      have e : lo tk fs i = max (loL tk (fs.take i)) (ix tk n + 1) := by unfold lo; rw [take_snoc hn, loL_snoc]
      refine ⟨_, rfl, _, rfl, _, rfl, d, _, rfl, nm_get (.inl (s2 _ _ hd)) nd mn, _, _, rfl, rfl, _, _, rfl, ?_⟩
      have e2 := int_max (loL tk (fs.take i)) (ix tk n + 1)
      rw [← e] at e2
      rw [show (((ix tk n : Nat) : Int) + 1) = ((ix tk n + 1 : Nat) : Int) by omega, show V.int (if ((ix tk n + 1 : Nat) : Int) > (loL tk (fs.take i) : Nat) then ((ix tk n + 1 : Nat) : Int) else (loL tk (fs.take i) : Nat)) = V.int (lo tk fs i : Nat) by rw [← e2]; split <;> rfl]
      refine ⟨_, rfl, .inl ⟨rfl, _, SqL.of h2⟩, _, rfl, tp, _, _, rfl, rfl, h2, by rw [natV_len, List.length_map, List.length_range]; exact small1000 (by omega), some (.int n), ?_, ?_, ?_⟩
      · intro c o hc; rw [upd_ne (ne_of_none hc htp)]; exact s2 _ _ hc
      · rw [upd_same, los_snoc, natV_snoc]
      · rfl
    · rintro σ H2 ⟨v5, s2, h2, rfl⟩
      rw [List.length_map] at h2
      exact ⟨_, rfl, k _ tp (s1.trans s2) t0 h2⟩

/-- the smaller places of a list, by their takes -/
def lessC (tk : List Int) (p : Int) (l : List Int) : List Int := (l.filter fun q => decide (q < p)).map fun c => ((ix tk c : Nat) : Int)
theorem lessC_snoc (tk : List Int) (p : Int) {l : List Int} {j : Nat} {c : Int} (h : l[j]? = some c) : lessC tk p (l.take (j + 1)) = lessC tk p (l.take j) ++ if c < p then [((ix tk c : Nat) : Int)] else [] := by
  unfold lessC
  rw [take_snoc h, List.filter_append, List.map_append]
  congr 1
  by_cases q : c < p
  · rw [if_pos q, List.filter_cons, if_pos (decide_eq_true q)]; rfl
  · rw [if_neg q, List.filter_cons, if_neg (by rw [decide_eq_false q]; exact Bool.false_ne_true)]; rfl
theorem lessC_len (tk : List Int) (p : Int) (l : List Int) : (lessC tk p l).length ≤ l.length := by
  unfold lessC; rw [List.length_map]; exact List.length_filter_le _ _
/-- the least of the bound behind and the smaller places' takes -/
theorem hiL_least {tk r l : List Int} {p m : Int} (hl : ∀ x, x ∈ l ↔ x ∈ r) (hm : m ∈ [((hiL tk r : Nat) : Int)] ++ lessC tk p l) (hmin : ∀ y ∈ [((hiL tk r : Nat) : Int)] ++ lessC tk p l, m ≤ y) : m = ((hiL tk (p :: r) : Nat) : Int) := by
  have e : hiL tk (p :: r) = min (hi1 tk p r) (hiL tk r) := rfl
  obtain ⟨h1, h2, h3⟩ := hi1_ok tk p r
  have h4 := (hiL_ok tk r).2.1
  have m1 := hmin _ (List.mem_append_left _ (List.mem_singleton.mpr rfl))
  have mem : ∀ q ∈ r, q < p → m ≤ (ix tk q : Nat) := fun q hq hp => hmin _ (List.mem_append_right _ (List.mem_map.mpr ⟨q, List.mem_filter.mpr ⟨(hl q).mpr hq, decide_eq_true hp⟩, rfl⟩))
  have m2 : m ≤ (hi1 tk p r : Nat) := by
    rcases h1 with q | ⟨q, hq, hp, q2⟩
    · rw [q]; omega
    · rw [q2]; exact mem q hq hp
  rw [e]
  rcases List.mem_append.mp hm with q | q
  · rw [List.mem_singleton] at q; subst q
    have : hiL tk r ≤ hi1 tk p r := by omega
    rw [Nat.min_eq_right this]
  · obtain ⟨c, hc, rfl⟩ := List.mem_map.mp q
    obtain ⟨c1, c2⟩ := List.mem_filter.mp hc
    have := h3 c ((hl c).mp c1) (of_decide_eq_true c2)
    have m3 : ((ix tk c : Nat) : Int) ≤ (hi1 tk p r : Nat) := m2
    have m4 : ((ix tk c : Nat) : Int) ≤ (hiL tk r : Nat) := m1
    have e1 : ix tk c = hi1 tk p r := by omega
    have e2 : hi1 tk p r ≤ hiL tk r := by omega
    rw [Nat.min_eq_left e2, e1]
theorem his_rev (tk fs : List Int) : ((List.range fs.length).map fun m => hi tk fs (fs.length - 1 - m)).reverse = his tk fs := by
  have e := PySem.W.krv_range fs.length
  have e2 : ((List.range fs.length).map fun m => hi tk fs (fs.length - 1 - m)) = ((List.range fs.length).map fun k => fs.length - 1 - k).map (hi tk fs) := by rw [List.map_map]; rfl
  rw [e2, e, ← List.map_reverse, List.reverse_reverse]; rfl
/-- for x in xs[::-1], xs a list or a tuple -/
theorem or_rev {K : PySem.W.Frag} {H : Hp} {a : Addr} {xs : List V} {σ : L2.St} {i : Nat} {R : It → Hp → Prop} (hE : SqE K H a xs) (hv : σ[i]? = some (some (.ref a)))
    (k : ∀ (rp : Addr) (o : HO) (J : It) (G : Hp → Prop), H rp = none → Walk J xs.reverse.length G (YAt xs.reverse) → (∀ H', H' rp = some o → G H') → R J (upd H rp o)) :
    iList K (fun σ H Q => tRevL K (tVar i) σ H Q ∨ tRevT K (tVar i) σ H Q) σ H R ∨ iTup K (fun σ H Q => tRevL K (tVar i) σ H Q ∨ tRevT K (tVar i) σ H Q) σ H R := by
  rcases hE with h | h
  · exact .inl (.inl ⟨_, hv, a, xs, rfl, h, fun rp hrp => ⟨rp, rfl, ⟨_, SqL.of upd_same⟩, k rp _ _ _ hrp walk_list fun H' e => SqL.of e⟩⟩)
  · exact .inr (.inr ⟨_, hv, a, xs, rfl, h, fun rp hrp => ⟨rp, rfl, ⟨_, SqT.of upd_same⟩, k rp _ _ _ hrp walk_tup fun H' e => SqT.of e⟩⟩)
theorem ok_most_times (e : Env P K mg) : FnOk P w K mg base CX0 2 e.a_most_times e.d_most_times ["takes", "fills"] (sp_most_times K) := by
  refine Fun.ok e.f_most_times sc_most_times (fun vs H Q E h => ?_) (fun cdv A outer s H vs Q E hr h => ?_)
  · obtain ⟨a, b, tk, fs, rfl, _⟩ := h; rfl
  · obtain ⟨a, b, tk, fs, rfl, hE, hF, pl, p, k⟩ := h
    have nd := pl.nd
    have le := pl.le
    have fl := p.length_eq
    refine ⟨_, (pss_cons (ps_set (i := 2) sc_most_times.nd rfl (by first | exact Or.inl rfl | exact Or.inr rfl) (pe_call ((ok_numbers_by_place e).mono (by decide)) hr rfl e.g_numbers_by_place e.f_numbers_by_place.kp e.b_numbers_by_place .nil pass0 (pa_cons (pv 0) pa_nil)))
      (pss_cons (ps_set (i := 3) sc_most_times.nd rfl (by first | exact Or.inl rfl | exact Or.inr rfl) (pe_lst pa_nil))
      (pss_cons (ps_set (i := 4) sc_most_times.nd rfl (by first | exact Or.inl rfl | exact Or.inr rfl) (pe_callB LS.call_len (by rfl) e.n_len PySem.boot_len (pa_cons (pv 0) pa_nil)))
      (pss_cons (ps_set (i := 5) sc_most_times.nd rfl (by first | exact Or.inl rfl | exact Or.inr rfl) (pe_lst pa_nil))
      (pss_cons (ps_for PassesOwn.never rfl (PI.or (pi_list (PE.or (pe_revL (pv 1)) (LX.pe_revT (pv 1)))) (pi_tup (PE.or (pe_revL (pv 1)) (LX.pe_revT (pv 1))))) (pg_name (i := 6) sc_most_times.nd rfl (by first | exact Or.inl rfl | exact Or.inr rfl))
      (pss_cons (ps_set (i := 4) sc_most_times.nd rfl (by first | exact Or.inl rfl | exact Or.inr rfl) (pe_callB (cr_min rfl) (by rfl) e.n_min (by decide +kernel) (pa_cons (pe_op op_cat (pe_lst (pa_cons (pv 4) pa_nil)) (pe_lc (own := [("other", 7)]) rfl sc_most_times.nd (pi_list (pv 5)) (blkOk_by (N := ["takes", "fills", "taken", "times", "most", "later", "place", "other"]) (sc := defScope s_most_times) (by decide +kernel)) (fun _ _ _ _ _ => (pg_name (i := 7) sc_most_times.nd rfl (by first | exact Or.inl rfl | exact Or.inr rfl))) (fun _ _ _ _ _ => pts_one (pt_cmpR op_lt (pv 7) (pv 6) (nomark _))) (fun _ _ _ _ _ => (pe_dget (u1 hr) (pv 2) (pv 7) (fun _ _ => rfl))))) pa_nil)))
      (pss_cons (ps_expr (pe_bm PySem.F.plainAttrs_list PySem.F.slot_list_append PySem.F.type_list_append mt_append (pv 3) (pa_cons (pv 4) pa_nil)))
      (pss_one (ps_expr (pe_bm PySem.F.plainAttrs_list PySem.F.slot_list_append PySem.F.type_list_append mt_append (pv 5) (pa_cons (pv 6) pa_nil)))))))
      (pss_cons (ps_expr (pe_bm0 PySem.F.plainAttrs_list PySem.F.slot_list_reverse PySem.F.type_list_reverse mt_reverse (pv 3)))
      (pss_one (ps_ret (pv 3))))))))), ?_⟩
    refine ⟨_, rfl, a, tk, rfl, hE, pl, fun H1 d s1 nd1 hd => ?_⟩
    refine ⟨by decide, fun tp htp => ?_⟩
    have st := same_upd (o := HO.lst []) htp
    have t0 : H tp = none := s1.free htp
    have hE2 := hE.same (s1.trans st)
    refine ⟨_, rfl, a, _, rfl, hE2, ?_⟩
    rw [List.length_map]
    refine ⟨by decide, fun lp hlp => ?_⟩
    have sl := same_upd (o := HO.lst []) hlp
    have l0 : H1 lp = none := st.free hlp
    have nlt : lp ≠ tp := (ne_of_none upd_same hlp).symm
    have s2 := st.trans sl
    have h2t : (upd (upd H1 tp (.lst [])) lp (.lst [])) tp = some (.lst []) := sl _ _ upd_same
    have h2l : (upd (upd H1 tp (.lst [])) lp (.lst [])) lp = some (.lst []) := upd_same
    generalize upd (upd H1 tp (.lst [])) lp (.lst []) = H2 at s2 h2t h2l
    have l1 : H lp = none := s1.free l0
    have hF2 := hF.same (s1.trans s2)
    have hd2 := s2 _ _ hd
    refine or_rev hF2 rfl fun rp o J G hrp wk hG => ?_
    rw [← List.map_reverse] at wk
    have sr := same_upd (o := o) hrp
    have nrt : rp ≠ tp := (ne_of_none h2t hrp).symm
    have nrl : rp ≠ lp := (ne_of_none h2l hrp).symm
    have hr3 : (upd H2 rp o) rp = some o := upd_same
    have h3t := sr _ _ h2t
    have h3l := sr _ _ h2l
    have hd3 := sr _ _ hd2
    have s3 := s2.trans sr
    generalize upd H2 rp o = H3 at sr hr3 h3t h3l hd3 s3
    refine for_it wk (fun i σ H4 => ∃ v6 v7 : Option V, (∀ c u, H1 c = some u → H4 c = some u) ∧ H4 rp = some o ∧ H4 tp = some (.lst (natV ((List.range i).map fun m => hi tk fs (fs.length - 1 - m)))) ∧ H4 lp = some (.lst ((fs.reverse.take i).map V.int)) ∧
        σ = [some (.ref a), some (.ref b), some (.ref d), some (.ref tp), some (.int (hiL tk (fs.drop (fs.length - i)) : Nat)), some (.ref lp), v6, v7])
      ⟨none, none, s3, hr3, h3t, h3l, by rw [Nat.sub_zero, List.drop_length]; rfl⟩ (fun i σ H4 _ ⟨_, _, _, h, _⟩ => hG _ h) ?_ ?_
    · rintro i x σ Hq H4 hil ⟨v6, v7, s4, h4r, h4t, h4l, rfl⟩ ⟨rfl, hx⟩
      rw [List.length_map, List.length_reverse] at hil
      obtain ⟨n, hn, rfl⟩ := at_int hx
      have mn := p.subset (List.mem_reverse.mp (List.mem_of_getElem? hn))
      have hdr : fs.drop (fs.length - (i + 1)) = n :: fs.drop (fs.length - i) := by
        have e : fs[fs.length - 1 - i]? = some n := by
          rw [List.getElem?_reverse hil] at hn; exact hn
        rw [show fs.length - 1 - i = fs.length - (i + 1) by omega] at e
        obtain ⟨g1, g2⟩ := List.getElem?_eq_some_iff.mp e
        have e2 := List.drop_eq_getElem_cons (l := fs) (i := fs.length - (i + 1)) (by omega)
        rw [show fs.length - (i + 1) + 1 = fs.length - i by omega] at e2
        rw [e2, g2]
      have hl : ∀ x, x ∈ fs.reverse.take i ↔ x ∈ fs.drop (fs.length - i) := fun x => by
        rw [List.take_reverse, List.mem_reverse]
      have ll : (fs.reverse.take i).length = i := by rw [List.length_take, List.length_reverse]; omega
      have hd4 := s4 _ _ hd
      refine ⟨_, rfl, (by show 1 ≤ sizeLine; decide), fun q1 hq1 => ?_⟩
      have sq1 := same_upd (o := HO.lst [V.int (hiL tk (fs.drop (fs.length - i)) : Nat)]) hq1
      refine ⟨_, rfl, lp, rfl, ⟨_, SqL.of (sq1 _ _ h4l)⟩, fun D hD => ?_⟩
      have sD := fun o => same_upd (o := o) hD
      refine lc_it walk_list (fun j H' => H' = upd (upd H4 q1 (.lst [V.int (hiL tk (fs.drop (fs.length - i)) : Nat)])) D (.lst ((lessC tk n ((fs.reverse.take i).take j)).map V.int))) rfl (fun j H' _ e => by subst e; exact SqL.of (sD _ _ _ (sq1 _ _ h4l))) ?_ ?_
      · rintro j x H6 H7 hj rfl ⟨rfl, hx⟩
        rw [List.length_map, ll] at hj
        obtain ⟨c, hc, rfl⟩ := at_int hx
        have mc := p.subset (List.mem_reverse.mp (List.mem_of_mem_take (List.mem_of_getElem? hc)))
        refine ⟨rfl, _, rfl, _, rfl, _, _, rfl, rfl, _, rfl, ite2d (fun q => ?_) fun q => ?_⟩
        · refine ⟨_, rfl, _, rfl, d, _, rfl, nm_get (.inl (sD _ _ _ (sq1 _ _ hd4))) nd mc, _, upd_same, ?_, ?_⟩
          · rw [List.length_map]
            have := lessC_len tk n ((fs.reverse.take i).take j)
            rw [List.length_take, ll] at this
            exact small1000 (by omega)
          · rw [upd_upd, lessC_snoc tk n hc, if_pos q, List.map_append]; rfl
        · rw [lessC_snoc tk n hc, if_neg q, List.append_nil]
      · rintro H6 rfl
        rw [List.length_map, List.take_length]
        have cl := lessC_len tk n (fs.reverse.take i)
        refine ⟨q1, D, _, _, rfl, rfl, sD _ _ _ upd_same, upd_same, by
          show [V.int (hiL tk (fs.drop (fs.length - i)) : Nat)].length + _ ≤ _
          rw [List.length_map]; exact Nat.le_of_lt (small1000 (by show 1 + _ ≤ 1000; omega)), fun z hz => ?_⟩
        have sz := same_upd (o := HO.lst ([V.int (hiL tk (fs.drop (fs.length - i)) : Nat)] ++ (lessC tk n (fs.reverse.take i)).map V.int)) hz
        refine ⟨z, [((hiL tk (fs.drop (fs.length - i)) : Nat) : Int)] ++ lessC tk n (fs.reverse.take i), rfl, SqL.of (by rw [upd_same, List.map_append]; rfl), by simp, fun m hm hmin => ?_⟩
        have em := hiL_least hl hm hmin
        rw [← hdr] at em
        subst em
        have hall : ∀ c u, H4 c = some u → (upd (upd (upd H4 q1 (.lst [V.int (hiL tk (fs.drop (fs.length - i)) : Nat)])) D (.lst ((lessC tk n (fs.reverse.take i)).map V.int))) z (.lst ([V.int (hiL tk (fs.drop (fs.length - i)) : Nat)] ++ (lessC tk n (fs.reverse.take i)).map V.int))) c = some u := fun c u e => sz _ _ (sD _ _ _ (sq1 _ _ e))
        generalize upd (upd (upd H4 q1 (.lst [V.int (hiL tk (fs.drop (fs.length - i)) : Nat)])) D (.lst ((lessC tk n (fs.reverse.take i)).map V.int))) z (.lst ([V.int (hiL tk (fs.drop (fs.length - i)) : Nat)] ++ (lessC tk n (fs.reverse.take i)).map V.int)) = H8 at hall
        refine ⟨_, rfl, .inl ⟨rfl, _, SqL.of (hall _ _ h4t)⟩, _, rfl, tp, _, _, rfl, rfl, hall _ _ h4t, by rw [natV_len, List.length_map, List.length_range]; exact small1000 (by omega), ?_⟩
        have h8l : (upd H8 tp (.lst (natV ((List.range i).map fun m => hi tk fs (fs.length - 1 - m)) ++ [V.int (hiL tk (fs.drop (fs.length - (i + 1))) : Nat)]))) lp = some (.lst ((fs.reverse.take i).map V.int)) := by rw [upd_ne nlt]; exact hall _ _ h4l
        refine ⟨_, rfl, .inl ⟨rfl, _, SqL.of h8l⟩, _, rfl, lp, _, _, rfl, rfl, h8l, by rw [List.length_map, ll]; exact small1000 (by omega), some (.int n), v7, ?_, ?_, ?_, ?_, rfl⟩
        · intro c u e
          rw [upd_ne (ne_of_none e l0), upd_ne (ne_of_none e htp)]
          exact hall _ _ (s4 _ _ e)
        · rw [upd_ne nrl, upd_ne nrt]; exact hall _ _ h4r
        · rw [upd_ne nlt.symm, upd_same, List.range_succ, List.map_append, List.map_singleton, natV_snoc]
          show _ = some (HO.lst (_ ++ [V.int (hi tk fs (fs.length - 1 - i) : Nat)]))
          have e : hi tk fs (fs.length - 1 - i) = hiL tk (fs.drop (fs.length - (i + 1))) := by
            unfold hi; rw [show fs.length - 1 - i = fs.length - (i + 1) by omega]
          rw [e]
        · rw [upd_same, take_snoc hn, List.map_append]; rfl
    · rintro σ H4 ⟨v6, v7, s4, h4r, h4t, h4l, rfl⟩
      rw [List.length_map, List.length_reverse] at h4t
      refine ⟨_, rfl, .inl ⟨rfl, _, SqL.of h4t⟩, tp, _, rfl, rfl, h4t, ?_⟩
      refine ⟨_, rfl, k _ tp ?_ t0 ?_⟩
      · intro c u e
        have e1 := s1 _ _ e
        rw [upd_ne (ne_of_none e t0)]
        exact s4 _ _ e1
      · rw [upd_same]
        have e : (natV ((List.range fs.length).map fun m => hi tk fs (fs.length - 1 - m))).reverse = natV (his tk fs) := by
          unfold natV
          rw [← List.map_reverse, his_rev]
        rw [e]
theorem ok_check_possible (e : Env P K mg) : FnOk P w K mg base CX0 7 e.a_check_possible e.d_check_possible ["takes", "fills"] (sp_check_possible K) := by
  refine Fun.ok e.f_check_possible sc_check_possible (fun vs H Q E h => ?_) (fun cdv A outer s H vs Q E hr h => ?_)
  · obtain ⟨a, b, tk, fs, rfl, _⟩ := h; rfl
  · obtain ⟨a, b, tk, fs, rfl, hE, hF, pl, p, no, k⟩ := h
    refine ⟨_, (pss_cons (ps_set (i := 2) sc_check_possible.nd rfl (by first | exact Or.inl rfl | exact Or.inr rfl) (pe_call ((ok_obstruction e).mono (by decide)) hr rfl e.g_obstruction e.f_obstruction.kp e.b_obstruction .nil pass0 (pa_cons (pv 0) (pa_cons (pv 1) pa_nil))))
      (pss_one (ps_if (pt_cmpR LS.op_notN (pv 2) pe_non (nomark _))
        (pss_one ps_never)
        pss_nil))), ?_⟩
    refine ⟨_, rfl, _, rfl, a, b, tk, fs, rfl, hE, hF, pl, p, no, fun H1 s1 => ?_⟩
    exact ⟨_, rfl, rfl, _, rfl, iteNS rfl (k _ s1)⟩
theorem los_len (tk fs : List Int) : (los tk fs).length = fs.length := by unfold los; rw [List.length_map, List.length_range]
theorem his_len (tk fs : List Int) : (his tk fs).length = fs.length := by unfold his; rw [List.length_map, List.length_range]
theorem bnds_len (tk fs : List Int) : (bnds tk fs).length = fs.length := by unfold bnds; rw [List.length_zip, los_len, his_len, Nat.min_self]
theorem natV_at {l : List Nat} {i : Nat} {x : Nat} (h : l[i]? = some x) : (natV l)[i]? = some (V.int (x : Nat)) := by unfold natV; rw [List.getElem?_map, h]; rfl
theorem prs_zd {H1 H2 : Hp} {p : Addr} {tk fs : List Int} {Us : List Addr} (h : H2 p = some (.lst (Us.map V.ref))) (hl : Us.length = (natV (los tk fs)).length) (z : Zd H1 H2 (natV (los tk fs)) (natV (his tk fs)) Us) : Prs H2 p (bnds tk fs) Us := by
  refine ⟨h, by rw [hl, natV_len, los_len, bnds_len], fun i T x hT hx => ?_⟩
  obtain ⟨h1, h2⟩ := List.getElem?_zip_eq_some.mp hx
  exact (z i T _ _ hT (natV_at h1) (natV_at h2)).2
theorem ok_time_bounds (e : Env P K mg) : FnOk P w K mg base CX0 8 e.a_time_bounds e.d_time_bounds ["takes", "fills"] (sp_time_bounds K) := by
  refine Fun.ok e.f_time_bounds sc_time_bounds (fun vs H Q E h => ?_) (fun cdv A outer s H vs Q E hr h => ?_)
  · obtain ⟨a, b, tk, fs, rfl, _⟩ := h; rfl
  · obtain ⟨a, b, tk, fs, rfl, hE, hF, pl, p, no, k⟩ := h
    have le := pl.le
    have fl := p.length_eq
    refine ⟨_, (pss_cons (ps_expr (pe_call ((ok_check_possible e).mono (by decide)) hr rfl e.g_check_possible e.f_check_possible.kp e.b_check_possible .nil pass0 (pa_cons (pv 0) (pa_cons (pv 1) pa_nil))))
      (pss_one (ps_ret (LX.pe_listZip rfl (by rfl) e.n_list (by rfl) e.n_zip (pa_cons (pe_call ((ok_least_times e).mono (by decide)) hr rfl e.g_least_times e.f_least_times.kp e.b_least_times .nil pass0 (pa_cons (pv 0) (pa_cons (pv 1) pa_nil))) (pa_cons (pe_call ((ok_most_times e).mono (by decide)) hr rfl e.g_most_times e.f_most_times.kp e.b_most_times .nil pass0 (pa_cons (pv 0) (pa_cons (pv 1) pa_nil))) pa_nil)))))), ?_⟩
    refine ⟨_, rfl, _, rfl, a, b, tk, fs, rfl, hE, hF, pl, p, no, fun H1 s1 => ?_⟩
    refine ⟨_, rfl, _, rfl, a, b, tk, fs, rfl, hE.same s1, hF.same s1, pl, p, fun H2 x s2 nx hx => ?_⟩
    have t2 := s1.trans s2
    refine ⟨_, rfl, _, rfl, a, b, tk, fs, rfl, hE.same t2, hF.same t2, pl, p, fun H3 y s3 ny hy => ?_⟩
    have t3 := t2.trans s3
    refine ⟨x, y, _, _, rfl, SqL.of (s3 _ _ hx), SqL.of hy, by rw [natV_len, natV_len, los_len, his_len], by rw [natV_len, los_len]; omega, fun H4 q Us s4 nq hq hl zd => ?_⟩
    exact k H4 q Us (t3.trans s4) (t3.free nq) (prs_zd hq hl zd)
end
end LP

namespace LP
open PySem L2 LT LG LQ LH LC LX
section
variable {P : Program} {w : World} {K : PySem.W.Frag} {mg : Str → Option Value} {base : Heap}
theorem bnds_at {tk fs : List Int} {i : Nat} {x : Nat × Nat} (h : (bnds tk fs)[i]? = some x) : i < fs.length ∧ x = (lo tk fs i, hi tk fs i) := by
  unfold bnds at h
  obtain ⟨h1, h2⟩ := List.getElem?_zip_eq_some.mp h
  unfold los at h1
  unfold his at h2
  rw [List.getElem?_map] at h1 h2
  cases q : (List.range fs.length)[i]? with
  | none => rw [q] at h1; cases h1
  | some j =>
    obtain ⟨z1, z2⟩ := List.getElem?_eq_some_iff.mp q
    rw [List.length_range] at z1
    rw [List.getElem_range] at z2
    subst z2
    rw [q] at h1 h2
    exact ⟨z1, Prod.ext (Option.some.inj h1).symm (Option.some.inj h2).symm⟩
theorem bnds_get {tk fs : List Int} {i : Nat} (h : i < fs.length) : (bnds tk fs)[i]? = some (lo tk fs i, hi tk fs i) := by
  have e := List.getElem?_eq_getElem (l := bnds tk fs) (i := i) (by rw [bnds_len]; exact h)
  rw [e]
  have := (bnds_at e).2
  rw [this]
/-- a walk with anything as its turn -/
theorem it2 {J : It} {n : Nat} {G : Hp → Prop} {Y : Nat → Hp → V → Hp → Prop} (wk : Walk J n G Y) {T : V → Hp → (Hp → Prop) → Prop} {H1 : Hp} {Qd : Hp → Prop} (Pv : Nat → Hp → Prop) (h0 : Pv 0 H1) (hG : ∀ (i : Nat) (H : Hp), i ≤ n → Pv i H → G H)
    (turn : ∀ (i : Nat) (x : V) (H H' : Hp), i < n → Pv i H → Y i H x H' → T x H' (Pv (i + 1))) (fin : ∀ H, Pv n H → Qd H) :
    ∃ W : Nat → Nat → Hp → Prop, (∃ m, W 0 m H1) ∧ ∀ i m H, W i m H → (J.stop i H ∧ Qd H) ∨ (J.go i H ∧ ∃ Nx : Hp → Prop, (∀ H', Nx H' → ∃ m', m' < m ∧ W (i + 1) m' H') ∧ ∀ x H', J.yld i H x H' → T x H' Nx) := by
  refine ⟨fun i m H => i + m = n ∧ Pv i H, ⟨n, Nat.zero_add n, h0⟩, fun i m H ⟨e, p⟩ => ?_⟩
  rcases Nat.eq_zero_or_pos m with z | z
  · have : i = n := by omega
    subst this
    exact .inl ⟨wk.stops H (hG _ H (Nat.le_refl _) p), fin H p⟩
  · exact .inr ⟨wk.goes i H (by omega) (hG i H (by omega) p), Pv (i + 1), fun H' p' => ⟨m - 1, by omega, by omega, p'⟩, fun x H' y => turn i x H H' (by omega) p (wk.yields i H x H' (by omega) (hG i H (by omega) p) y)⟩
theorem lc2_in {J : It} {n : Nat} {G : Hp → Prop} {Y : Nat → Hp → V → Hp → Prop} (wk : Walk J n G Y) {g1 : TG} {tt1 : TT} {te : TE} {vs1 : List Nat} {σ2 : L2.St} (σ0 : L2.St) (hσ : wipe σ2 vs1 = σ0) {H4 : Hp} {D : Addr} {Nx : Hp → Prop} (Pv : Nat → Hp → Prop) (h0 : Pv 0 H4) (hG : ∀ (i : Nat) (H : Hp), i ≤ n → Pv i H → G H)
    (turn : ∀ (i : Nat) (x : V) (H H' : Hp), i < n → Pv i H → Y i H x H' → g1 x σ0 H' fun σ3 H5 => wipe σ3 vs1 = σ0 ∧ tt1 σ3 H5 fun b H6 => if b = true then te σ3 H6 fun y H7 => ∃ acc, H7 D = some (.lst acc) ∧ acc.length < sizeLine ∧ Pv (i + 1) (upd H7 D (.lst (acc ++ [y]))) else Pv (i + 1) H6)
    (fin : ∀ H, Pv n H → Nx H) :
    ∃ W1 : Nat → Nat → Hp → Prop, (∃ m, W1 0 m H4) ∧ ∀ j k H, W1 j k H → (J.stop j H ∧ Nx H) ∨ (J.go j H ∧ ∃ Nx1 : Hp → Prop, (∀ H', Nx1 H' → ∃ k', k' < k ∧ W1 (j + 1) k' H') ∧ ∀ x H', J.yld j H x H' → g1 x (wipe σ2 vs1) H' fun σ3 H5 => wipe σ3 vs1 = wipe σ2 vs1 ∧ tt1 σ3 H5 fun b H6 => if b = true then te σ3 H6 fun y H7 => ∃ acc, H7 D = some (.lst acc) ∧ acc.length < sizeLine ∧ Nx1 (upd H7 D (.lst (acc ++ [y]))) else Nx1 H6) := by
  subst hσ
  exact it2 wk (T := fun x H' Nx1 => g1 x (wipe σ2 vs1) H' fun σ3 H5 => wipe σ3 vs1 = wipe σ2 vs1 ∧ tt1 σ3 H5 fun b H6 => if b = true then te σ3 H6 fun y H7 => ∃ acc, H7 D = some (.lst acc) ∧ acc.length < sizeLine ∧ Nx1 (upd H7 D (.lst (acc ++ [y]))) else Nx1 H6) Pv h0 hG turn fin
theorem lc2_it {J : It} {n : Nat} {G : Hp → Prop} {Y : Nat → Hp → V → Hp → Prop} (wk : Walk J n G Y) {g g1 : TG} {tt tt1 : TT} {wi1 : TI} {te : TE} {vs vs1 : List Nat} {σ : L2.St} (σ0 : L2.St) (hσ : wipe σ vs = σ0) {H1 : Hp} {D : Addr} {Qd : Hp → Prop} (Pv : Nat → Hp → Prop) (h0 : Pv 0 (upd H1 D (.lst []))) (hG : ∀ (i : Nat) (H : Hp), i ≤ n → Pv i H → G H)
    (turn : ∀ (i : Nat) (x : V) (H H' : Hp), i < n → Pv i H → Y i H x H' → g x σ0 H' fun σ2 H2 => wipe σ2 vs = σ0 ∧ tt σ2 H2 fun b H3 => if b = true then wi1 σ2 H3 fun J1 H4 => ∃ W1 : Nat → Nat → Hp → Prop, (∃ m, W1 0 m H4) ∧ ∀ j k H, W1 j k H → (J1.stop j H ∧ Pv (i + 1) H) ∨ (J1.go j H ∧ ∃ Nx1 : Hp → Prop, (∀ H', Nx1 H' → ∃ k', k' < k ∧ W1 (j + 1) k' H') ∧ ∀ x H', J1.yld j H x H' → g1 x (wipe σ2 vs1) H' fun σ3 H5 => wipe σ3 vs1 = wipe σ2 vs1 ∧ tt1 σ3 H5 fun b H6 => if b = true then te σ3 H6 fun y H7 => ∃ acc, H7 D = some (.lst acc) ∧ acc.length < sizeLine ∧ Nx1 (upd H7 D (.lst (acc ++ [y]))) else Nx1 H6) else Pv (i + 1) H3)
    (fin : ∀ H, Pv n H → Qd H) :
    ∃ W : Nat → Nat → Hp → Prop, (∃ m, W 0 m (upd H1 D (.lst []))) ∧ ∀ i m H, W i m H → (J.stop i H ∧ Qd H) ∨ (J.go i H ∧ ∃ Nx : Hp → Prop, (∀ H', Nx H' → ∃ m', m' < m ∧ W (i + 1) m' H') ∧ ∀ x H', J.yld i H x H' → g x (wipe σ vs) H' fun σ2 H2 => wipe σ2 vs = wipe σ vs ∧ tt σ2 H2 fun b H3 => if b = true then wi1 σ2 H3 fun J1 H4 => ∃ W1 : Nat → Nat → Hp → Prop, (∃ m, W1 0 m H4) ∧ ∀ j k H, W1 j k H → (J1.stop j H ∧ Nx H) ∨ (J1.go j H ∧ ∃ Nx1 : Hp → Prop, (∀ H', Nx1 H' → ∃ k', k' < k ∧ W1 (j + 1) k' H') ∧ ∀ x H', J1.yld j H x H' → g1 x (wipe σ2 vs1) H' fun σ3 H5 => wipe σ3 vs1 = wipe σ2 vs1 ∧ tt1 σ3 H5 fun b H6 => if b = true then te σ3 H6 fun y H7 => ∃ acc, H7 D = some (.lst acc) ∧ acc.length < sizeLine ∧ Nx1 (upd H7 D (.lst (acc ++ [y]))) else Nx1 H6) else Nx H3) := by
  subst hσ
  exact it2 wk (T := fun x H' Nx => g x (wipe σ vs) H' fun σ2 H2 => wipe σ2 vs = wipe σ vs ∧ tt σ2 H2 fun b H3 => if b = true then wi1 σ2 H3 fun J1 H4 => ∃ W1 : Nat → Nat → Hp → Prop, (∃ m, W1 0 m H4) ∧ ∀ j k H, W1 j k H → (J1.stop j H ∧ Nx H) ∨ (J1.go j H ∧ ∃ Nx1 : Hp → Prop, (∀ H', Nx1 H' → ∃ k', k' < k ∧ W1 (j + 1) k' H') ∧ ∀ x H', J1.yld j H x H' → g1 x (wipe σ2 vs1) H' fun σ3 H5 => wipe σ3 vs1 = wipe σ2 vs1 ∧ tt1 σ3 H5 fun b H6 => if b = true then te σ3 H6 fun y H7 => ∃ acc, H7 D = some (.lst acc) ∧ acc.length < sizeLine ∧ Nx1 (upd H7 D (.lst (acc ++ [y]))) else Nx1 H6) else Nx H3) Pv h0 hG turn fin
theorem flat_len {L M : Lim} (l1 : L.1.length ≤ 1) (l2 : M.2.length ≤ 1) (j : Nat) : ((L.1.take j).flatMap fun x => M.2.map fun y => decide (x.1 ≤ y.1 ∧ y.2 < x.2)).length ≤ 1 := by
  have h : (L.1.take j).length ≤ 1 := by rw [List.length_take]; omega
  generalize L.1.take j = l at h
  match l, h with
  | [], _ => exact Nat.zero_le _
  | [x], _ => rw [List.flatMap_singleton, List.length_map]; exact l2
  | _ :: _ :: _, h => simp at h
theorem flat_any (L M : Lim) : (L.1.flatMap fun x => M.2.map fun y => decide (x.1 ≤ y.1 ∧ y.2 < x.2)).any id = behB L M := by
  unfold behB
  rw [List.any_flatMap]
  congr 1
  funext x
  rw [List.any_map]
  rfl
theorem any_bl (bs : List Bool) : bs.any id = bs.any fun b => b := rfl
theorem at_pr {H : Hp} {p : Addr} {ps : List (Nat × Nat)} {Ts : List Addr} (h : Prs H p ps Ts) {j : Nat} {v : V} (hv : (Ts.map V.ref)[j]? = some v) : ∃ T x, v = .ref T ∧ ps[j]? = some x ∧ H T = some (.tup [V.int (x.1 : Nat), V.int (x.2 : Nat)]) := by
  obtain ⟨T, hT, rfl⟩ := at_ref hv
  have l := (List.getElem?_eq_some_iff.mp hT).1
  have e := List.getElem?_eq_getElem (l := ps) (i := j) (by rw [← h.len]; exact l)
  exact ⟨T, _, rfl, e, h.at_ j T _ hT e⟩
theorem ok_contradicts_pair (e : Env P K mg) : FnOk P w K mg base CX0 1 e.a_contradicts_pair e.d_contradicts_pair ["limits", "bounds"] (sp_contradicts_pair) := by
  refine Fun.ok e.f_contradicts_pair sc_contradicts_pair (fun vs H Q E h => ?_) (fun cdv A outer s H vs Q E hr h => ?_)
  · obtain ⟨a, p, tk, fs, L, Ts, rfl, _⟩ := h; rfl
  · obtain ⟨a, p, tk, fs, L, Ts, rfl, ⟨lp, mp, Us, Vs, ha, hl, hm⟩, hb, ok, l1, l2, k⟩ := h
    refine ⟨_, (pss_cons (ps_asg (pv 0) (pg_tup (by rfl) (pgs_cons (pg_name (i := 2) sc_contradicts_pair.nd rfl (by first | exact Or.inl rfl | exact Or.inr rfl)) (pgs_cons (pg_name (i := 3) sc_contradicts_pair.nd rfl (by first | exact Or.inl rfl | exact Or.inr rfl)) pgs_nil))))
      (pss_cons (ps_setLc (i := 4) (own := [("fill", 6), ("time", 7)]) rfl sc_contradicts_pair.nd rfl rfl (sw_true rfl rfl rfl (by decide +kernel)) (pi_list (pv 2)) (blkOk_by (N := ["limits", "bounds", "leasts", "mosts", "too_late", "too_early", "fill", "time"]) (sc := defScope s_contradicts_pair) (by decide +kernel)) (fun _ _ _ _ _ => (show PG _ _ (gTup K 2 _) from pg_tup (by rfl) (pgs_cons (pg_name (i := 6) sc_contradicts_pair.nd rfl (by first | exact Or.inl rfl | exact Or.inr rfl)) (pgs_cons (pg_name (i := 7) sc_contradicts_pair.nd rfl (by first | exact Or.inl rfl | exact Or.inr rfl)) pgs_nil)))) (fun _ _ _ _ _ => pts_nil) (fun _ _ _ _ _ => (pe_cmpR op_gt (pv 7) (pe_ix (show IxR _ (rIxT K) from ix_tup) (pe_ix (show IxR _ (rIxL K) from ix_list) (pv 1) (pv 6) (fun _ _ => rfl)) pe_int (fun _ _ => rfl)) (nomark _))))
      (pss_cons (ps_setLc (i := 5) (own := [("fill", 6), ("time", 7)]) rfl sc_contradicts_pair.nd rfl rfl (sw_true rfl rfl rfl (by decide +kernel)) (pi_list (pv 3)) (blkOk_by (N := ["limits", "bounds", "leasts", "mosts", "too_late", "too_early", "fill", "time"]) (sc := defScope s_contradicts_pair) (by decide +kernel)) (fun _ _ _ _ _ => (show PG _ _ (gTup K 2 _) from pg_tup (by rfl) (pgs_cons (pg_name (i := 6) sc_contradicts_pair.nd rfl (by first | exact Or.inl rfl | exact Or.inr rfl)) (pgs_cons (pg_name (i := 7) sc_contradicts_pair.nd rfl (by first | exact Or.inl rfl | exact Or.inr rfl)) pgs_nil)))) (fun _ _ _ _ _ => pts_nil) (fun _ _ _ _ _ => (pe_cmpR op_lt (pv 7) (pe_ix (show IxR _ (rIxT K) from ix_tup) (pe_ix (show IxR _ (rIxL K) from ix_list) (pv 1) (pv 6) (fun _ _ => rfl)) pe_int (fun _ _ => rfl)) (nomark _))))
      (pss_one (ps_ret (pe_callB (cr_any rfl) (by rfl) e.n_any (by decide +kernel) (pa_cons (pe_op op_cat (pv 4) (pv 5)) pa_nil))))))), ?_⟩
    refine ⟨_, rfl, _, _, rfl, SqT.of ha, rfl, _, _, rfl, _, _, rfl, rfl, ?_⟩
    refine ⟨_, rfl, lp, rfl, ⟨_, SqL.of hl.ls⟩, fun D hD => lc_it walk_list (fun j H' => Same H H' ∧ H' D = some (.lst ((L.1.take j).map fun x => V.bl (decide (hi tk fs x.1 < x.2))))) ⟨same_upd hD, upd_same⟩ (fun j H' _ h => h.1.seq (SqL.of hl.ls)) ?_ ?_⟩
    · rintro j v H2 H3 hj ⟨s2, hd⟩ ⟨rfl, hv⟩
      obtain ⟨T, x, rfl, hx, hT⟩ := at_pr hl hv
      have jl : j < L.1.length := (List.getElem?_eq_some_iff.mp hx).1
      have bx := ok.a x (List.mem_of_getElem? hx)
      have hg := bnds_get (tk := tk) bx
      have tl : x.1 < Ts.length := by rw [hb.len, bnds_len]; exact bx
      have ht := List.getElem?_eq_getElem (l := Ts) tl
      refine ⟨_, _, rfl, SqT.of (s2 _ _ hT), rfl, _, _, rfl, _, _, rfl, rfl, rfl, ?_⟩
      refine ⟨_, rfl, _, rfl, _, rfl, rd_ix (j := x.1) (SqL.of (s2 _ _ hb.ls)) (by rw [List.getElem?_map, ht]; rfl) rfl ?_⟩
      refine ⟨_, _, _, _, rfl, rfl, SqT.of (s2 _ _ (hb.at_ x.1 _ _ ht hg)), rfl, ?_⟩
      refine ⟨_, _, rfl, rfl, _, hd, by rw [List.length_map]; exact small1000 (by rw [List.length_take]; omega), fun c o hc => ?_, ?_⟩
      · rw [upd_ne (ne_of_none hc hD)]; exact s2 _ _ hc
      · rw [upd_same, take_snoc hx, List.map_append]
        show some (HO.lst (_ ++ [V.bl (decide (((hi tk fs x.1 : Nat) : Int) < ((x.2 : Nat) : Int)))])) = _
        rw [show decide (((hi tk fs x.1 : Nat) : Int) < ((x.2 : Nat) : Int)) = decide (hi tk fs x.1 < x.2) from decide_eq_decide.mpr Int.ofNat_lt]
        rfl
    · rintro H2 ⟨s2, hd⟩
      rw [List.length_map, hl.len, List.take_length] at hd
      refine ⟨_, rfl, mp, rfl, ⟨_, SqL.of (s2 _ _ hm.ls)⟩, fun D2 hD2 => lc_it walk_list (fun j H' => Same H2 H' ∧ H' D2 = some (.lst ((L.2.take j).map fun x => V.bl (decide (x.2 < lo tk fs x.1))))) ⟨same_upd hD2, upd_same⟩ (fun j H' _ h => h.1.seq (SqL.of (s2 _ _ hm.ls))) ?_ ?_⟩
      · rintro j v H3 H4 hj ⟨s3, hd2⟩ ⟨rfl, hv⟩
        obtain ⟨T, x, rfl, hx, hT⟩ := at_pr hm hv
        have jl : j < L.2.length := (List.getElem?_eq_some_iff.mp hx).1
        have bx := ok.b x (List.mem_of_getElem? hx)
        have hg := bnds_get (tk := tk) bx
        have tl : x.1 < Ts.length := by rw [hb.len, bnds_len]; exact bx
        have ht := List.getElem?_eq_getElem (l := Ts) tl
        have s23 := s2.trans s3
        refine ⟨_, _, rfl, SqT.of (s23 _ _ hT), rfl, _, _, rfl, _, _, rfl, rfl, rfl, ?_⟩
        refine ⟨_, rfl, _, rfl, _, rfl, rd_ix (j := x.1) (SqL.of (s23 _ _ hb.ls)) (by rw [List.getElem?_map, ht]; rfl) rfl ?_⟩
        refine ⟨_, _, _, _, rfl, rfl, SqT.of (s23 _ _ (hb.at_ x.1 _ _ ht hg)), rfl, ?_⟩
        refine ⟨_, _, rfl, rfl, _, hd2, by rw [List.length_map]; exact small1000 (by rw [List.length_take]; omega), fun c o hc => ?_, ?_⟩
        · rw [upd_ne (ne_of_none hc hD2)]; exact s3 _ _ hc
        · rw [upd_same, take_snoc hx, List.map_append]
          show some (HO.lst (_ ++ [V.bl (decide (((x.2 : Nat) : Int) < ((lo tk fs x.1 : Nat) : Int)))])) = _
          rw [show decide (((x.2 : Nat) : Int) < ((lo tk fs x.1 : Nat) : Int)) = decide (x.2 < lo tk fs x.1) from decide_eq_decide.mpr Int.ofNat_lt]
          rfl
      · rintro H3 ⟨s3, hd2⟩
        rw [List.length_map, hm.len, List.take_length] at hd2
        refine ⟨_, rfl, _, rfl, _, _, _, _, rfl, rfl, s3 _ _ hd, hd2, by rw [List.length_map, List.length_map]; exact Nat.le_of_lt (small1000 (by omega)), fun q hq => ?_⟩
        refine ⟨q, (L.1.map fun x => decide (hi tk fs x.1 < x.2)) ++ (L.2.map fun x => decide (x.2 < lo tk fs x.1)), rfl, SqL.of (by rw [upd_same, List.map_append, List.map_map, List.map_map]; rfl), ?_⟩
        rw [List.any_append, List.any_map, List.any_map]
        exact k _ ((s2.trans s3).trans (same_upd hq))
end
end LP

namespace LP
open PySem L2 LT LG LQ LH LC LX
section
variable {P : Program} {w : World} {K : PySem.W.Frag} {mg : Str → Option Value} {base : Heap}
theorem ok_puts_behind (e : Env P K mg) : FnOk P w K mg base CX0 1 e.a_puts_behind e.d_puts_behind ["limits", "others"] (sp_puts_behind) := by
  refine Fun.ok e.f_puts_behind sc_puts_behind (fun vs H Q E h => ?_) (fun cdv A outer s H vs Q E hr h => ?_)
  · obtain ⟨a, b, L, M, rfl, _⟩ := h; rfl
  · obtain ⟨a, b, L, M, rfl, ⟨lp, lq, Us, Vs, ha, hl, hl2⟩, ⟨mp, mq, Ws, Xs, hb, hm, hm2⟩, l1, l2, k⟩ := h
    refine ⟨_, (pss_cons (ps_asg (pv 0) (pg_tup (by rfl) (pgs_cons (pg_name (i := 2) sc_puts_behind.nd rfl (by first | exact Or.inl rfl | exact Or.inr rfl)) (pgs_cons (pg_name (i := 3) sc_puts_behind.nd rfl (by first | exact Or.inl rfl | exact Or.inr rfl)) pgs_nil))))
      (pss_cons (ps_asg (pv 1) (pg_tup (by rfl) (pgs_cons (pg_name (i := 3) sc_puts_behind.nd rfl (by first | exact Or.inl rfl | exact Or.inr rfl)) (pgs_cons (pg_name (i := 4) sc_puts_behind.nd rfl (by first | exact Or.inl rfl | exact Or.inr rfl)) pgs_nil))))
      (pss_one (ps_ret (pe_callB (cr_any rfl) (by rfl) e.n_any (by decide +kernel) (pa_cons (pe_lc2 (own := [("fill", 5), ("time", 6), ("later", 7), ("most", 8)]) rfl sc_puts_behind.nd (pi_list (pv 2)) (blkOk_by (N := ["limits", "others", "leasts", "_", "mosts", "fill", "time", "later", "most"]) (sc := defScope s_puts_behind) (by decide +kernel)) (vs1 := [7, 8]) (by decide) (fun _ _ _ _ _ => (show PG _ _ (gTup K 2 _) from pg_tup (by rfl) (pgs_cons (pg_name (i := 5) sc_puts_behind.nd rfl (by first | exact Or.inl rfl | exact Or.inr rfl)) (pgs_cons (pg_name (i := 6) sc_puts_behind.nd rfl (by first | exact Or.inl rfl | exact Or.inr rfl)) pgs_nil)))) (fun _ _ _ _ _ => pts_nil) (fun _ _ _ _ _ => (show PI _ _ _ (iList K _) from pi_list (pv 4))) (fun _ _ _ _ _ => (show PG _ _ (gTup K 2 _) from pg_tup (by rfl) (pgs_cons (pg_name (i := 7) sc_puts_behind.nd rfl (by first | exact Or.inl rfl | exact Or.inr rfl)) (pgs_cons (pg_name (i := 8) sc_puts_behind.nd rfl (by first | exact Or.inl rfl | exact Or.inr rfl)) pgs_nil)))) (fun _ _ _ _ _ => pts_nil) (fun _ _ _ _ _ => (pe_and (pe_cmpR op_le (pv 5) (pv 7) (nomark _)) (pe_one (pe_cmpR op_gt (pv 6) (pv 8) (nomark _)))))) pa_nil)))))), ?_⟩
    refine ⟨_, rfl, _, _, rfl, SqT.of ha, rfl, _, _, rfl, _, _, rfl, rfl, ?_⟩
    refine ⟨_, rfl, _, _, rfl, SqT.of hb, rfl, _, _, rfl, _, _, rfl, rfl, ?_⟩
    refine ⟨_, rfl, lp, rfl, ⟨_, SqL.of hl.ls⟩, fun D hD => lc2_it walk_list [some (.ref a), some (.ref b), some (.ref lp), some (.ref mp), some (.ref mq), none, none, none, none] (by simp [wipe, L2.start, List.replicate]) (fun j H' => Same H H' ∧ H' D = some (.lst (((L.1.take j).flatMap fun x => M.2.map fun y => decide (x.1 ≤ y.1 ∧ y.2 < x.2)).map V.bl))) ⟨same_upd hD, upd_same⟩ (fun j H' _ h => h.1.seq (SqL.of hl.ls)) ?_ ?_⟩
    · rintro j v H2 H3 hj ⟨s2, hd⟩ ⟨rfl, hv⟩
      obtain ⟨T, x, rfl, hx, hT⟩ := at_pr hl hv
      have jl : j < L.1.length := (List.getElem?_eq_some_iff.mp hx).1
      refine ⟨_, _, rfl, SqT.of (s2 _ _ hT), rfl, _, _, rfl, _, _, rfl, rfl, rfl, ?_⟩
      refine ⟨_, rfl, mq, rfl, ⟨_, SqL.of (s2 _ _ hm2.ls)⟩, lc2_in walk_list [some (.ref a), some (.ref b), some (.ref lp), some (.ref mp), some (.ref mq), some (.int (x.1 : Nat)), some (.int (x.2 : Nat)), none, none] rfl (fun i H' => Same H H' ∧ H' D = some (.lst ((((L.1.take j).flatMap fun x => M.2.map fun y => decide (x.1 ≤ y.1 ∧ y.2 < x.2)) ++ (M.2.take i).map fun y => decide (x.1 ≤ y.1 ∧ y.2 < x.2)).map V.bl))) ⟨s2, by rw [hd, List.take_zero, List.map_nil, List.append_nil]⟩ (fun i H' _ h => h.1.seq (SqL.of hm2.ls)) ?_ ?_⟩
      · rintro i v H4 H5 hi2 ⟨s4, hd4⟩ ⟨rfl, hv2⟩
        obtain ⟨U, y, rfl, hy, hU⟩ := at_pr hm2 hv2
        refine ⟨_, _, rfl, SqT.of (s4 _ _ hU), rfl, _, _, rfl, _, _, rfl, rfl, rfl, ?_⟩
        have add : ∀ b, b = decide (x.1 ≤ y.1 ∧ y.2 < x.2) → ∃ acc, H5 D = some (HO.lst acc) ∧ acc.length < sizeLine ∧ Same H (upd H5 D (HO.lst (acc ++ [V.bl b]))) ∧ (upd H5 D (HO.lst (acc ++ [V.bl b]))) D = some (.lst ((((L.1.take j).flatMap fun x => M.2.map fun y => decide (x.1 ≤ y.1 ∧ y.2 < x.2)) ++ (M.2.take (i + 1)).map fun y => decide (x.1 ≤ y.1 ∧ y.2 < x.2)).map V.bl)) := by
          rintro b rfl
          refine ⟨_, hd4, ?_, fun c o hc => ?_, ?_⟩
          · rw [List.length_map, List.length_append, List.length_map, List.length_take]
            have := flat_len l1 l2 j
            exact small1000 (by omega)
          · rw [upd_ne (ne_of_none hc hD)]; exact s4 _ _ hc
          · rw [upd_same, take_snoc hy, List.map_append, List.map_append, List.map_append, List.map_append, List.append_assoc]; rfl
        refine ⟨_, rfl, _, rfl, _, _, rfl, rfl, _, rfl, ite2d (fun h => ⟨_, rfl, _, rfl, _, _, rfl, rfl, add _ ?_⟩) fun h => add _ ?_⟩
        · exact decide_eq_decide.mpr ⟨fun z => ⟨Int.ofNat_le.mp h, Int.ofNat_lt.mp z⟩, fun z => Int.ofNat_lt.mpr z.2⟩
        · exact (decide_eq_false fun z => h (Int.ofNat_le.mpr z.1)).symm
      · rintro H4 ⟨s4, hd4⟩
        rw [List.length_map, hm2.len, List.take_length] at hd4
        refine ⟨s4, ?_⟩
        rw [hd4, take_snoc hx, List.flatMap_append, List.flatMap_singleton]
    · rintro H2 ⟨s2, hd⟩
      rw [List.length_map, hl.len, List.take_length] at hd
      refine ⟨D, _, rfl, SqL.of hd, ?_⟩
      rw [flat_any]
      exact k _ s2
end
end LP

namespace LP
open PySem L2 LT LG LQ LH LC LX
section
variable {P : Program} {w : World} {K : PySem.W.Frag} {mg : Str → Option Value} {base : Heap}
theorem prs_before {n : Nat} : ∀ (k : Nat) (q : Nat × Nat), (prs n)[k]? = some q → ∀ z w, z < w → w < n → (z < q.1 ∨ z = q.1 ∧ w < q.2) → ∃ m, m < k ∧ (prs n)[m]? = some (z, w)
  | 0, q, h, z, w, h1, h2, h3 => by
    have := (prs_step h).2.1
    have a := (prs_step h).1
    have e := prs_zero (n := n) (by omega)
    rw [h] at e; cases e
    simp at h3
    omega
  | k + 1, q, h, z, w, h1, h2, h3 => by
    have lt := (List.getElem?_eq_some_iff.mp h).1
    have e0 := List.getElem?_eq_getElem (l := prs n) (i := k) (by omega)
    generalize (prs n)[k]'(by omega) = q0 at e0
    obtain ⟨a, b, c⟩ := prs_step e0
    rw [h] at c
    have ih := prs_before k q0 e0 z w h1 h2
    have done : (z < q0.1 ∨ z = q0.1 ∧ w ≤ q0.2) → ∃ m, m < k + 1 ∧ (prs n)[m]? = some (z, w) := fun h4 => by
      by_cases d : z = q0.1 ∧ w = q0.2
      · exact ⟨k, Nat.lt_succ_self k, by rw [e0, d.1, d.2]⟩
      · obtain ⟨m, hm, e⟩ := ih (by omega)
        exact ⟨m, by omega, e⟩
    unfold nxp at c
    split at c
    · cases c
      exact done (by simp at h3; omega)
    · split at c
      · cases c
        exact done (by simp at h3; omega)
      · cases c
theorem prs_all {n z w : Nat} (h1 : z < w) (h2 : w < n) : ∃ m : Nat, (prs n)[m]? = some (z, w) := by
  have e := prs_zero (n := n) (by omega)
  have lt := (List.getElem?_eq_some_iff.mp e).1
  have e0 := List.getElem?_eq_getElem (l := prs n) (i := (prs n).length - 1) (by omega)
  generalize (prs n)[(prs n).length - 1]'(by omega) = q at e0
  obtain ⟨a, b, c⟩ := prs_step e0
  rw [List.getElem?_eq_none (by omega)] at c
  unfold nxp at c
  split at c
  · cases c
  · split at c
    · cases c
    · by_cases d : z = q.1 ∧ w = q.2
      · exact ⟨(prs n).length - 1, by rw [e0, d.1, d.2]⟩
      · obtain ⟨m, hm, e⟩ := prs_before _ q e0 z w h1 h2 (by omega)
        exact ⟨m, e⟩
theorem ok_read_facts (e : Env P K mg) : FnOk P w K mg base CX0 9 e.a_read_facts e.d_read_facts ["takes", "fills", "facts"] (sp_read_facts K) := by
  refine Fun.ok e.f_read_facts sc_read_facts (fun vs H Q E h => ?_) (fun cdv A outer s H vs Q E hr h => ?_)
  · obtain ⟨a, b, p, tk, fs, F, as, rfl, _⟩ := h; rfl
  · obtain ⟨a, b, p, tk, fs, F, as, rfl, hE, hF, pl, pf, no, fe, ok, hl, k⟩ := h
    have le := pl.le
    have fl := pf.length_eq
    refine ⟨_, (pss_cons (ps_set (i := 3) sc_read_facts.nd rfl (by first | exact Or.inl rfl | exact Or.inr rfl) (pe_call ((ok_time_bounds e).mono (by decide)) hr rfl e.g_time_bounds e.f_time_bounds.kp e.b_time_bounds .nil pass0 (pa_cons (pv 0) (pa_cons (pv 1) pa_nil))))
      (pss_cons (ps_expr (pe_call ((ok_check_facts e).mono (by decide)) hr rfl e.g_check_facts e.f_check_facts.kp e.b_check_facts .nil pass0 (pa_cons (pv 2) (pa_cons (pe_callB LS.call_len (by rfl) e.n_len PySem.boot_len (pa_cons (pv 3) pa_nil)) pa_nil))))
      (pss_one (ps_ret (pe_tup (pa_cons (pv 3) (pa_cons (pe_lc (own := [("fact", 4)]) rfl sc_read_facts.nd (PI.or (pi_list (pv 2)) (pi_tup (pv 2))) (blkOk_by (N := ["takes", "fills", "facts", "bounds", "fact"]) (sc := defScope s_read_facts) (by decide +kernel)) (fun _ _ _ _ _ => (pg_name (i := 4) sc_read_facts.nd rfl (by first | exact Or.inl rfl | exact Or.inr rfl))) (fun _ _ _ _ _ => pts_nil) (fun _ _ _ _ _ => (pe_call ((ok_limits_of e).mono (by decide)) hr rfl e.g_limits_of e.f_limits_of.kp e.b_limits_of .nil pass0 (pa_cons (pv 4) (pa_cons (pe_callB (show CallR _ _ (rLenS K) from LS.call_len) (by rfl) e.n_len PySem.boot_len (pa_cons (pv 3) pa_nil)) pa_nil))))) pa_nil))))))), ?_⟩
    refine ⟨_, rfl, _, rfl, a, b, tk, fs, rfl, hE, hF, pl, pf, no, fun H1 x Ts s1 nx hx => ?_⟩
    have tl : (Ts.map V.ref).length = tk.length := by rw [List.length_map, hx.len, bnds_len, fl]
    have fe1 := fe.sq.same s1
    refine ⟨_, rfl, _, rfl, x, _, rfl, .inl (SqL.of hx.ls), p, (Ts.map V.ref).length, F, as, rfl, ⟨fe1, fe.len, fun i a f h1 h2 => (fe.at_ i a f h1 h2).same s1⟩, fun f hf => by rw [tl]; exact ok f hf, by rw [tl]; exact le, hl, fun H2 s2 => ?_⟩
    have t2 := s1.trans s2
    refine ⟨_, rfl, ?_⟩
    refine or_E (fe.sq.same t2) rfl fun J G wk hG D hD => lc_it wk (fun j H' => ∃ Us : List Addr, Us.length = j ∧ Same H2 H' ∧ H' D = some (.lst (Us.map V.ref)) ∧ ∀ (i : Nat) c f, Us[i]? = some c → F[i]? = some f → ∃ (r q : Addr) (Xs Ys : List Addr), H' c = some (.tup [.ref r, .ref q]) ∧ Prs H' r (lim tk.length f).1 Xs ∧ Prs H' q (lim tk.length f).2 Ys ∧ r ≠ D ∧ q ≠ D)
      ⟨[], rfl, same_upd hD, upd_same, fun i c f e => by simp at e⟩ (fun j H' _ ⟨_, _, s, _⟩ => hG _ s) ?_ ?_
    · rintro j v H3 H4 hj ⟨Us, ul, s3, hd, hU⟩ ⟨rfl, hx2⟩
      rw [List.length_map] at hj
      have fl2 := fe.len
      obtain ⟨c, hc, rfl⟩ := at_ref hx2
      have hf := List.getElem?_eq_getElem (l := F) (i := j) (by omega)
      generalize F[j]'(by omega) = f at hf
      refine ⟨rfl, _, rfl, _, rfl, x, _, rfl, .inl (SqL.of (s3 _ _ (s2 _ _ hx.ls))), c, (Ts.map V.ref).length, f, rfl, (fe.at_ j c f hc hf).same (t2.trans s3), by rw [tl]; exact ok f (List.mem_of_getElem? hf), by rw [tl]; exact le, fun H5 q s5 ⟨r, t, Xs, Ys, e1, e2, e3, e4, e5⟩ => ?_⟩
      rw [tl] at e2 e3
      have hd5 := s5 _ _ hd
      have nr : r ≠ D := (ne_of_none hd e4).symm
      have nt : t ≠ D := (ne_of_none hd e5).symm
      have up : ∀ (c : Addr) (f : Fact) (r t : Addr) (Xs Ys : List Addr) (zs : List V), H5 c = some (.tup [.ref r, .ref t]) → Prs H5 r (lim tk.length f).1 Xs → Prs H5 t (lim tk.length f).2 Ys → r ≠ D → t ≠ D → ∃ (r q : Addr) (Xs Ys : List Addr), (upd H5 D (.lst zs)) c = some (.tup [.ref r, .ref q]) ∧ Prs (upd H5 D (.lst zs)) r (lim tk.length f).1 Xs ∧ Prs (upd H5 D (.lst zs)) q (lim tk.length f).2 Ys ∧ r ≠ D ∧ q ≠ D := by
        intro c f r t Xs Ys zs z1 z2 z3 z4 z5
        have tup : ∀ c xs, H5 c = some (.tup xs) → (upd H5 D (.lst zs)) c = some (.tup xs) := fun c xs h => by
          rw [upd_ne (fun e => by subst e; rw [hd5] at h; cases h)]; exact h
        exact ⟨r, t, Xs, Ys, tup _ _ z1, ⟨by rw [upd_ne z4]; exact z2.ls, z2.len, fun i T y a b => tup _ _ (z2.at_ i T y a b)⟩, ⟨by rw [upd_ne z5]; exact z3.ls, z3.len, fun i T y a b => tup _ _ (z3.at_ i T y a b)⟩, z4, z5⟩
      refine ⟨_, hd5, by rw [List.length_map]; exact small1000 (by omega), Us ++ [q], by rw [List.length_append, ul]; rfl, fun c o hc2 => ?_, by rw [upd_same, List.map_append]; rfl, fun i c f' e6 e7 => ?_⟩
      · rw [upd_ne (ne_of_none hc2 hD)]; exact s5 _ _ (s3 _ _ hc2)
      · by_cases z : i < Us.length
        · rw [List.getElem?_append_left z] at e6
          obtain ⟨r', t', Xs', Ys', z1, z2, z3, z4, z5⟩ := hU i c f' e6 e7
          exact up c f' r' t' Xs' Ys' _ (s5 _ _ z1) (z2.same s5) (z3.same s5) z4 z5
        · rw [List.getElem?_append_right (by omega)] at e6
          cases y : i - Us.length with
          | succ m => rw [y] at e6; simp at e6
          | zero =>
            rw [y] at e6; cases e6
            have : i = j := by omega
            subst this
            rw [hf] at e7; cases e7
            exact up q f r t Xs Ys _ e1 e2 e3 nr nt
    · rintro H3 ⟨Us, ul, s3, hd, hU⟩
      rw [List.length_map] at ul
      refine ⟨(by show 2 ≤ sizeLine; decide), fun q hq => ?_⟩
      have sq := same_upd (o := HO.tup [V.ref x, V.ref D]) hq
      have t3 := (t2.trans s3).trans sq
      refine k _ q x D Ts Us t3 upd_same ((hx.same s2).same (s3.trans sq)) ⟨sq _ _ hd, by rw [List.length_map, ul, fe.len], fun i c L e1 e2 => ?_⟩
      rw [List.getElem?_map] at e2
      cases z : F[i]? with
      | none => rw [z] at e2; cases e2
      | some f =>
        rw [z] at e2; cases e2
        obtain ⟨r, t, Xs, Ys, z1, z2, z3, _, _⟩ := hU i c f e1 z
        exact ⟨r, t, Xs, Ys, sq _ _ z1, z2.same sq, z3.same sq⟩
end
end LP

namespace LP
open PySem L2 LT LG LQ LH LC LX
section
variable {P : Program} {w : World} {K : PySem.W.Frag} {mg : Str → Option Value} {base : Heap}
def tab (n : Nat) (f : Nat → Nat) : List V := natV ((List.range n).map f)
theorem tab_len (n : Nat) (f : Nat → Nat) : (tab n f).length = n := by unfold tab natV; rw [List.length_map, List.length_map, List.length_range]
theorem tab_at {n j : Nat} {f : Nat → Nat} (h : j < n) : (tab n f)[j]? = some (.int (f j : Nat)) := by
  unfold tab natV
  rw [List.getElem?_map, range_at h]; rfl
theorem tab_congr {n : Nat} {f g : Nat → Nat} (h : ∀ j, j < n → f j = g j) : tab n f = tab n g := by
  unfold tab
  congr 1
  exact List.map_congr_left fun j hj => h j (List.mem_range.mp hj)
theorem tab_set {n k v : Nat} {f : Nat → Nat} (g : Nat → Nat) (hk : k < n) (h1 : g k = v) (h2 : ∀ j, j < n → j ≠ k → g j = f j) : (tab n f).set k (.int (v : Nat)) = tab n g := by
  apply List.ext_getElem?
  intro j
  rw [List.getElem?_set]
  by_cases c : k = j
  · subst c
    rw [if_pos rfl, if_pos (by rw [tab_len]; exact hk), tab_at hk, h1]
  · rw [if_neg c]
    by_cases d : j < n
    · rw [tab_at d, tab_at d, h2 j d (fun e => c e.symm)]
    · rw [List.getElem?_eq_none (by rw [tab_len]; omega), List.getElem?_eq_none (by rw [tab_len]; omega)]
theorem vmax (a b : Nat) : V.int (if (a : Int) < (b : Int) then (b : Int) else (a : Int)) = V.int ((max a b : Nat) : Int) := by
  congr 1
  split <;> omega
theorem vmin (a b : Nat) : V.int (if (b : Int) < (a : Int) then (b : Int) else (a : Int)) = V.int ((min a b : Nat) : Int) := by
  congr 1
  split <;> omega
theorem lml_at {H : Hp} {p : Addr} {Ls : List Lim} {Us : List Addr} (h : LmL H p Ls Us) {i : Nat} (hi : i < Ls.length) : ∃ a, Us[i]? = some a ∧ Ls[i]? = some (Ls[i]'hi) ∧ LmAt H a (Ls[i]'hi) := by
  have e := List.getElem?_eq_getElem (l := Us) (i := i) (by rw [h.len]; exact hi)
  have e2 := List.getElem?_eq_getElem (l := Ls) hi
  exact ⟨_, e, e2, h.at_ i _ _ e e2⟩
theorem ok_narrow (e : Env P K mg) : FnOk P w K mg base CX0 1 e.a_narrow e.d_narrow ["bounds", "all_limits"] (sp_narrow) := by
  refine Fun.ok e.f_narrow sc_narrow (fun vs H Q E h => ?_) (fun cdv A outer s H vs Q E hr h => ?_)
  · obtain ⟨x, y, tk, fs, Ls, Ts, Us, rfl, _⟩ := h; rfl
  · obtain ⟨x, y, tk, fs, Ls, Ts, Us, rfl, hx, hy, hl, hn, ok, pf, k⟩ := h
    have tl : Ts.length = fs.length := by rw [hx.len, bnds_len]
    have ul := hy.len
    refine ⟨_, (pss_cons (ps_setLc (i := 2) (own := [("least", 8), ("_", 9)]) rfl sc_narrow.nd rfl rfl (sw_true rfl rfl rfl (by decide +kernel)) (pi_list (pv 0)) (blkOk_by (N := ["bounds", "all_limits", "least_times", "most_times", "leasts", "mosts", "fill", "time", "least", "_", "most"]) (sc := defScope s_narrow) (by decide +kernel)) (fun _ _ _ _ _ => (show PG _ _ (gTup K 2 _) from pg_tup (by rfl) (pgs_cons (pg_name (i := 8) sc_narrow.nd rfl (by first | exact Or.inl rfl | exact Or.inr rfl)) (pgs_cons (pg_name (i := 9) sc_narrow.nd rfl (by first | exact Or.inl rfl | exact Or.inr rfl)) pgs_nil)))) (fun _ _ _ _ _ => pts_nil) (fun _ _ _ _ _ => (pv 8)))
      (pss_cons (ps_setLc (i := 3) (own := [("_", 9), ("most", 10)]) rfl sc_narrow.nd rfl rfl (sw_true rfl rfl rfl (by decide +kernel)) (pi_list (pv 0)) (blkOk_by (N := ["bounds", "all_limits", "least_times", "most_times", "leasts", "mosts", "fill", "time", "least", "_", "most"]) (sc := defScope s_narrow) (by decide +kernel)) (fun _ _ _ _ _ => (show PG _ _ (gTup K 2 _) from pg_tup (by rfl) (pgs_cons (pg_name (i := 9) sc_narrow.nd rfl (by first | exact Or.inl rfl | exact Or.inr rfl)) (pgs_cons (pg_name (i := 10) sc_narrow.nd rfl (by first | exact Or.inl rfl | exact Or.inr rfl)) pgs_nil)))) (fun _ _ _ _ _ => pts_nil) (fun _ _ _ _ _ => (pv 10)))
      (pss_cons (ps_for PassesOwn.never rfl (pi_list (pv 1)) (pg_tup (by rfl) (pgs_cons (pg_name (i := 4) sc_narrow.nd rfl (by first | exact Or.inl rfl | exact Or.inr rfl)) (pgs_cons (pg_name (i := 5) sc_narrow.nd rfl (by first | exact Or.inl rfl | exact Or.inr rfl)) pgs_nil)))
      (pss_cons (ps_for PassesOwn.never rfl (pi_list (pv 4)) (pg_tup (by rfl) (pgs_cons (pg_name (i := 6) sc_narrow.nd rfl (by first | exact Or.inl rfl | exact Or.inr rfl)) (pgs_cons (pg_name (i := 7) sc_narrow.nd rfl (by first | exact Or.inl rfl | exact Or.inr rfl)) pgs_nil)))
      (pss_one (ps_asg (pe_callB (LS.call_max2 rfl) (by rfl) e.n_max (by decide +kernel) (pa_cons (pe_ix ix_list (pv 2) (pv 6) (fun _ _ => rfl)) (pa_cons (pv 7) pa_nil))) (pg_sub (pv 2) (pv 6) set_list))))
      (pss_one (ps_for PassesOwn.never rfl (pi_list (pv 5)) (pg_tup (by rfl) (pgs_cons (pg_name (i := 6) sc_narrow.nd rfl (by first | exact Or.inl rfl | exact Or.inr rfl)) (pgs_cons (pg_name (i := 7) sc_narrow.nd rfl (by first | exact Or.inl rfl | exact Or.inr rfl)) pgs_nil)))
      (pss_one (ps_asg (pe_callB (LS.call_min2 rfl) (by rfl) e.n_min (by decide +kernel) (pa_cons (pe_ix ix_list (pv 3) (pv 6) (fun _ _ => rfl)) (pa_cons (pv 7) pa_nil))) (pg_sub (pv 3) (pv 6) set_list)))))))
      (pss_cons (ps_for PassesOwn.never rfl (pi_range2 (by rfl) e.n_range (pa_cons pe_int (pa_cons (pe_callB LS.call_len (by rfl) e.n_len PySem.boot_len (pa_cons (pv 0) pa_nil)) pa_nil))) (pg_name (i := 6) sc_narrow.nd rfl (by first | exact Or.inl rfl | exact Or.inr rfl))
      (pss_one (ps_asg (pe_callB (LS.call_max2 rfl) (by rfl) e.n_max (by decide +kernel) (pa_cons (pe_ix ix_list (pv 2) (pv 6) (fun _ _ => rfl)) (pa_cons (pe_ix ix_list (pv 2) (pe_op op_sub (pv 6) pe_int) (fun _ _ => rfl)) pa_nil))) (pg_sub (pv 2) (pv 6) set_list))))
      (pss_cons (ps_for PassesOwn.never rfl (pi_revR (by rfl) e.n_reversed (prg_1 (by rfl) e.n_range (pe_op op_sub (pe_callB LS.call_len (by rfl) e.n_len PySem.boot_len (pa_cons (pv 0) pa_nil)) pe_int))) (pg_name (i := 6) sc_narrow.nd rfl (by first | exact Or.inl rfl | exact Or.inr rfl))
      (pss_one (ps_asg (pe_callB (LS.call_min2 rfl) (by rfl) e.n_min (by decide +kernel) (pa_cons (pe_ix ix_list (pv 3) (pv 6) (fun _ _ => rfl)) (pa_cons (pe_ix ix_list (pv 3) (pe_op op_add (pv 6) pe_int) (fun _ _ => rfl)) pa_nil))) (pg_sub (pv 3) (pv 6) set_list))))
      (pss_one (ps_ret (LX.pe_listZip rfl (by rfl) e.n_list (by rfl) e.n_zip (pa_cons (pv 2) (pa_cons (pv 3) pa_nil)))))))))), ?_⟩
    refine ⟨_, rfl, x, rfl, ⟨_, SqL.of hx.ls⟩, fun D hD => lc_it walk_list (fun j H' => Same H H' ∧ H' D = some (.lst ((tab fs.length (lo tk fs)).take j))) ⟨same_upd hD, upd_same⟩ (fun j H' _ h => h.1.seq (SqL.of hx.ls)) ?_ ?_⟩
    · rintro j v H2 H3 hj ⟨s2, hd⟩ ⟨rfl, hv⟩
      obtain ⟨T, z, rfl, hz, hT⟩ := at_pr hx hv
      obtain ⟨z1, rfl⟩ := bnds_at hz
      refine ⟨_, _, rfl, SqT.of (s2 _ _ hT), rfl, _, _, rfl, _, _, rfl, rfl, rfl, _, rfl, _, hd, ?_, fun c o hc => ?_, ?_⟩
      · rw [List.length_take, tab_len]; exact small1000 (by omega)
      · rw [upd_ne (ne_of_none hc hD)]; exact s2 _ _ hc
      · rw [upd_same, take_snoc (tab_at z1)]
    rintro H1 ⟨s1, hd⟩
    rw [List.length_map, tl, List.take_of_length_le (by rw [tab_len]; exact Nat.le_refl _)] at hd
    refine ⟨_, rfl, x, rfl, ⟨_, SqL.of (s1 _ _ hx.ls)⟩, fun E hE => lc_it walk_list (fun j H' => Same H1 H' ∧ H' E = some (.lst ((tab fs.length (hi tk fs)).take j))) ⟨same_upd hE, upd_same⟩ (fun j H' _ h => h.1.seq (SqL.of (s1 _ _ hx.ls))) ?_ ?_⟩
    · rintro j v H2 H3 hj ⟨s2, he⟩ ⟨rfl, hv⟩
      obtain ⟨T, z, rfl, hz, hT⟩ := at_pr hx hv
      obtain ⟨z1, rfl⟩ := bnds_at hz
      refine ⟨_, _, rfl, SqT.of (s2 _ _ (s1 _ _ hT)), rfl, _, _, rfl, _, _, rfl, rfl, rfl, _, rfl, _, he, ?_, fun c o hc => ?_, ?_⟩
      · rw [List.length_take, tab_len]; exact small1000 (by omega)
      · rw [upd_ne (ne_of_none hc hE)]; exact s2 _ _ hc
      · rw [upd_same, take_snoc (tab_at z1)]
    rintro H2 ⟨s2, he⟩
    rw [List.length_map, tl, List.take_of_length_le (by rw [tab_len]; exact Nat.le_refl _)] at he
    have hd2 := s2 _ _ hd
    have s02 := s1.trans s2
    have hE0 : H E = none := s1.free hE
    have nDE : D ≠ E := ne_of_none hd hE
    have upD : ∀ {H' o}, Same H H' → Same H (upd H' D o) := fun {H' o} s c u hc => by rw [upd_ne (ne_of_none hc hD)]; exact s _ _ hc
    have upE : ∀ {H' o}, Same H H' → Same H (upd H' E o) := fun {H' o} s c u hc => by rw [upd_ne (ne_of_none hc hE0)]; exact s _ _ hc
    refine ⟨_, rfl, y, rfl, ⟨_, SqL.of (s02 _ _ hy.ls)⟩, for_it walk_list (fun i σ H' => ∃ v4 v5 v6 v7 v8 v9 v10 : Option V, σ = [some (.ref x), some (.ref y), some (.ref D), some (.ref E), v4, v5, v6, v7, v8, v9, v10] ∧ Same H H' ∧ H' D = some (.lst (tab fs.length (ptl (lo tk fs) (leasts (Ls.take i))))) ∧ H' E = some (.lst (tab fs.length (ptu (hi tk fs) (mosts (Ls.take i))))))
      ⟨_, _, _, _, _, _, _, rfl, s02, hd2, he⟩ (fun i σ H' _ ⟨_, _, _, _, _, _, _, _, s, _⟩ => s.seq (SqL.of hy.ls)) ?_ ?_⟩
    · rintro i v σ H3 H4 hii ⟨v4, v5, v6, v7, v8, v9, v10, rfl, s3, hd3, he3⟩ ⟨rfl, hv⟩
      rw [List.length_map] at hii
      obtain ⟨a, ha, rfl⟩ := at_ref hv
      obtain ⟨a2, e1, e2, lm⟩ := lml_at hy (i := i) (by omega)
      rw [ha] at e1; cases e1
      generalize Ls[i]'(by omega) = L at e2 lm
      have okL := ok L (List.mem_of_getElem? e2)
      obtain ⟨lp, mp, As, Bs, g1, g2, g3⟩ := lm
      refine ⟨_, _, rfl, SqT.of (s3 _ _ g1), rfl, _, _, rfl, _, _, rfl, rfl, ?_⟩
      refine ⟨_, rfl, lp, rfl, ⟨_, SqL.of (s3 _ _ g2.ls)⟩, for_it walk_list (fun j σ H' => ∃ v6 v7 : Option V, σ = [some (.ref x), some (.ref y), some (.ref D), some (.ref E), some (.ref lp), some (.ref mp), v6, v7, v8, v9, v10] ∧ Same H H' ∧ H' D = some (.lst (tab fs.length (ptl (lo tk fs) (leasts (Ls.take i) ++ L.1.take j)))) ∧ H' E = some (.lst (tab fs.length (ptu (hi tk fs) (mosts (Ls.take i))))))
        ⟨_, _, rfl, s3, by rw [List.take_zero, List.append_nil]; exact hd3, he3⟩ (fun i σ H' _ ⟨_, _, _, s, _⟩ => s.seq (SqL.of g2.ls)) ?_ ?_⟩
      · rintro j v σ H5 H6 hj ⟨v6, v7, rfl, s5, hd5, he5⟩ ⟨rfl, hv⟩
        obtain ⟨T, z, rfl, hz, hT⟩ := at_pr g2 hv
        have zn := okL.a z (List.mem_of_getElem? hz)
        refine ⟨_, _, rfl, SqT.of (s5 _ _ hT), rfl, _, _, rfl, _, _, rfl, rfl, ?_⟩
        refine ⟨_, rfl, _, rfl, rd_ix (SqL.of hd5) (tab_at zn) rfl ?_⟩
        refine ⟨_, rfl, _, _, rfl, _, rfl, _, rfl, D, _, _, z.1, rfl, rfl, hd5, ixN_at (by rw [tab_len]; exact zn), ?_⟩
        have tk1 : leasts (Ls.take i) ++ L.1.take (j + 1) = leasts (Ls.take i) ++ L.1.take j ++ [z] := by rw [take_snoc hz, List.append_assoc]
        refine ⟨_, _, rfl, upD s5, ?_, by rw [upd_ne nDE.symm]; exact he5⟩
        rw [upd_same]
        show some (HO.lst ((tab fs.length (ptl (lo tk fs) (leasts (Ls.take i) ++ L.1.take j))).set z.1 (V.int (if ((ptl (lo tk fs) (leasts (Ls.take i) ++ L.1.take j) z.1 : Nat) : Int) < ((z.2 : Nat) : Int) then ((z.2 : Nat) : Int) else ((ptl (lo tk fs) (leasts (Ls.take i) ++ L.1.take j) z.1 : Nat) : Int))))) = _
        rw [vmax, tab_set (ptl (lo tk fs) (leasts (Ls.take i) ++ L.1.take (j + 1))) zn (by rw [tk1, ptl_snoc, if_pos rfl]) fun q _ hq => by rw [tk1, ptl_snoc, if_neg (fun e => hq e.symm)]]
      · rintro σ H5 ⟨v6, v7, rfl, s5, hd5, he5⟩
        rw [List.length_map, g2.len, List.take_length] at hd5
        have tkL : leasts (Ls.take (i + 1)) = leasts (Ls.take i) ++ L.1 := by rw [take_snoc e2, leasts_snoc]
        rw [← tkL] at hd5
        refine ⟨_, rfl, mp, rfl, ⟨_, SqL.of (s5 _ _ g3.ls)⟩, for_it walk_list (fun j σ H' => ∃ v6 v7 : Option V, σ = [some (.ref x), some (.ref y), some (.ref D), some (.ref E), some (.ref lp), some (.ref mp), v6, v7, v8, v9, v10] ∧ Same H H' ∧ H' D = some (.lst (tab fs.length (ptl (lo tk fs) (leasts (Ls.take (i + 1)))))) ∧ H' E = some (.lst (tab fs.length (ptu (hi tk fs) (mosts (Ls.take i) ++ L.2.take j)))))
          ⟨_, _, rfl, s5, hd5, by rw [List.take_zero, List.append_nil]; exact he5⟩ (fun i σ H' _ ⟨_, _, _, s, _⟩ => s.seq (SqL.of g3.ls)) ?_ ?_⟩
        · rintro j v σ H6 H7 hj ⟨v6, v7, rfl, s6, hd6, he6⟩ ⟨rfl, hv⟩
          obtain ⟨T, z, rfl, hz, hT⟩ := at_pr g3 hv
          have zn := okL.b z (List.mem_of_getElem? hz)
          have tk1 : mosts (Ls.take i) ++ L.2.take (j + 1) = mosts (Ls.take i) ++ L.2.take j ++ [z] := by rw [take_snoc hz, List.append_assoc]
          refine ⟨_, _, rfl, SqT.of (s6 _ _ hT), rfl, _, _, rfl, _, _, rfl, rfl, ?_⟩
          refine ⟨_, rfl, _, rfl, rd_ix (SqL.of he6) (tab_at zn) rfl ?_⟩
          refine ⟨_, rfl, _, _, rfl, _, rfl, _, rfl, E, _, _, z.1, rfl, rfl, he6, ixN_at (by rw [tab_len]; exact zn), ?_⟩
          refine ⟨_, _, rfl, upE s6, by rw [upd_ne nDE]; exact hd6, ?_⟩
          rw [upd_same]
          show some (HO.lst ((tab fs.length (ptu (hi tk fs) (mosts (Ls.take i) ++ L.2.take j))).set z.1 (V.int (if ((z.2 : Nat) : Int) < ((ptu (hi tk fs) (mosts (Ls.take i) ++ L.2.take j) z.1 : Nat) : Int) then ((z.2 : Nat) : Int) else ((ptu (hi tk fs) (mosts (Ls.take i) ++ L.2.take j) z.1 : Nat) : Int))))) = _
          rw [vmin, tab_set (ptu (hi tk fs) (mosts (Ls.take i) ++ L.2.take (j + 1))) zn (by rw [tk1, ptu_snoc, if_pos rfl]) fun q _ hq => by rw [tk1, ptu_snoc, if_neg (fun e => hq e.symm)]]
        · rintro σ H6 ⟨v6, v7, rfl, s6, hd6, he6⟩
          rw [List.length_map, g3.len, List.take_length] at he6
          have tkM : mosts (Ls.take (i + 1)) = mosts (Ls.take i) ++ L.2 := by rw [take_snoc e2, mosts_snoc]
          rw [← tkM] at he6
          exact ⟨_, _, _, _, _, _, _, rfl, s6, hd6, he6⟩
    · rintro σ H3 ⟨v4, v5, v6, v7, v8, v9, v10, rfl, s3, hd3, he3⟩
      rw [List.length_map, ul, List.take_length] at hd3 he3
      have tll : (Ts.map V.ref).length = fs.length := by rw [List.length_map, tl]
      refine ⟨_, rfl, x, _, rfl, .inl (SqL.of (s3 _ _ hx.ls)), _, _, rfl, ⟨by decide, by decide, by omega, by omega⟩, for_it walk_range (fun i σ H' => ∃ v6 : Option V, σ = [some (.ref x), some (.ref y), some (.ref D), some (.ref E), v4, v5, v6, v7, v8, v9, v10] ∧ Same H H' ∧ H' D = some (.lst (tab fs.length fun j => if j ≤ i then nlo (lo tk fs) Ls j else ptl (lo tk fs) (leasts Ls) j)) ∧ H' E = some (.lst (tab fs.length (ptu (hi tk fs) (mosts Ls)))))
        ⟨_, rfl, s3, ?_, he3⟩ (fun _ _ _ _ _ => trivial) ?_ ?_⟩
      · rw [hd3]
        congr 2
        refine tab_congr fun j _ => ?_
        by_cases c : j ≤ 0
        · obtain rfl : j = 0 := by omega
          rw [if_pos c]; exact (low_zero _ _).symm
        · rw [if_neg c]
      · rintro i v σ Hq H4 hii ⟨v6, rfl, s4, hd4, he4⟩ ⟨rfl, rfl⟩
        rw [tll] at hii
        have i1 : i + 1 < fs.length := by omega
        refine ⟨_, rfl, _, rfl, rd_ix (SqL.of hd4) (tab_at i1) (by show (1 : Int) + (i : Nat) = _; omega) ?_⟩
        refine ⟨_, rfl, _, rfl, _, _, rfl, rfl, rd_ix (SqL.of hd4) (tab_at (show i < fs.length by omega)) (by show (1 : Int) + (i : Nat) - 1 = _; omega) ?_⟩
        refine ⟨_, _, rfl, _, rfl, _, rfl, D, _, _, i + 1, rfl, rfl, hd4, ?_, ?_⟩
        · rw [show (1 : Int) + (i : Nat) = ((i + 1 : Nat) : Int) by omega]; exact ixN_at (by rw [tab_len]; exact i1)
        refine ⟨_, rfl, upD s4, ?_, by rw [upd_ne nDE.symm]; exact he4⟩
        rw [upd_same]
        show some (HO.lst ((tab fs.length fun j => if j ≤ i then nlo (lo tk fs) Ls j else ptl (lo tk fs) (leasts Ls) j).set (i + 1) (V.int (if (((if i + 1 ≤ i then nlo (lo tk fs) Ls (i + 1) else ptl (lo tk fs) (leasts Ls) (i + 1)) : Nat) : Int) < (((if i ≤ i then nlo (lo tk fs) Ls i else ptl (lo tk fs) (leasts Ls) i) : Nat) : Int) then (((if i ≤ i then nlo (lo tk fs) Ls i else ptl (lo tk fs) (leasts Ls) i) : Nat) : Int) else (((if i + 1 ≤ i then nlo (lo tk fs) Ls (i + 1) else ptl (lo tk fs) (leasts Ls) (i + 1)) : Nat) : Int))))) = _
        rw [vmax, if_neg (by omega), if_pos (Nat.le_refl i), tab_set (fun j => if j ≤ i + 1 then nlo (lo tk fs) Ls j else ptl (lo tk fs) (leasts Ls) j) i1 ?_ ?_]
        · show (if i + 1 ≤ i + 1 then _ else _) = _
          rw [if_pos (Nat.le_refl _)]
          exact low_succ (fun h => lo_mono tk fs h) _ _
        · intro j _ hj
          show (if _ then _ else _) = (if _ then _ else _)
          by_cases c : j ≤ i
          · rw [if_pos c, if_pos (by omega)]
          · rw [if_neg c, if_neg (by omega)]
      · rintro σ H4 ⟨v6, rfl, s4, hd4, he4⟩
        rw [tll] at hd4
        have hdF : H4 D = some (.lst (tab fs.length (nlo (lo tk fs) Ls))) := by
          rw [hd4]
          congr 2
          exact tab_congr fun j hj => if_pos (by omega)
        have mr : ∀ x ∈ mosts Ls, x.1 < fs.length := fun x hx => by
          obtain ⟨L, hL, hx⟩ := List.mem_flatMap.mp hx
          exact (ok L hL).b x hx
        refine ⟨_, rfl, x, _, rfl, .inl (SqL.of (s4 _ _ hx.ls)), _, _, rfl, rfl, _, rfl, by decide, by decide, by omega, by omega, for_it walk_rangeC (fun i σ H' => ∃ v6 : Option V, σ = [some (.ref x), some (.ref y), some (.ref D), some (.ref E), v4, v5, v6, v7, v8, v9, v10] ∧ Same H H' ∧ H' D = some (.lst (tab fs.length (nlo (lo tk fs) Ls))) ∧ H' E = some (.lst (tab fs.length fun j => if fs.length - 1 - i ≤ j then nhi (hi tk fs) Ls j else ptu (hi tk fs) (mosts Ls) j)))
          ⟨_, rfl, s4, hdF, ?_⟩ (fun _ _ _ _ _ => trivial) ?_ ?_⟩
        · rw [he4]
          congr 2
          refine tab_congr fun j hj => ?_
          by_cases c : fs.length - 1 - 0 ≤ j
          · obtain rfl : j = fs.length - 1 := by omega
            rw [if_pos c]; exact (upp_last _ mr).symm
          · rw [if_neg c]
        · rintro i v σ Hq H5 hii ⟨v6, rfl, s5, hd5, he5⟩ ⟨rfl, rfl⟩
          rw [tll] at hii
          have i1 : fs.length - 2 - i < fs.length := by omega
          have i2 : fs.length - 2 - i + 1 < fs.length := by omega
          have ev : (0 : Int) + ((((((Ts.map V.ref).length : Nat) : Int) - 1 - 0).toNat : Nat) : Int) - 1 + (i : Nat) * (-1) = ((fs.length - 2 - i : Nat) : Int) := by rw [tll]; omega
          refine ⟨_, rfl, _, rfl, rd_ix (SqL.of he5) (tab_at i1) ev ?_⟩
          refine ⟨_, rfl, _, rfl, _, _, rfl, rfl, rd_ix (SqL.of he5) (tab_at i2) (by show (0 : Int) + ((((((Ts.map V.ref).length : Nat) : Int) - 1 - 0).toNat : Nat) : Int) - 1 + (i : Nat) * (-1) + 1 = _; rw [ev]; omega) ?_⟩
          refine ⟨_, _, rfl, _, rfl, _, rfl, E, _, _, fs.length - 2 - i, rfl, rfl, he5, ?_, ?_⟩
          · show ixN _ ((0 : Int) + ((((((Ts.map V.ref).length : Nat) : Int) - 1 - 0).toNat : Nat) : Int) - 1 + (i : Nat) * (-1)) = _
            rw [ev]; exact ixN_at (by rw [tab_len]; exact i1)
          refine ⟨_, rfl, upE s5, by rw [upd_ne nDE]; exact hd5, ?_⟩
          rw [upd_same]
          obtain ⟨q, hq⟩ : ∃ q, q = fs.length - 2 - i := ⟨_, rfl⟩
          rw [← hq] at i1 i2 ⊢
          have n1 : ¬ fs.length - 1 - i ≤ q := by omega
          have n2 : fs.length - 1 - i ≤ q + 1 := by omega
          show some (HO.lst ((tab fs.length fun j => if fs.length - 1 - i ≤ j then nhi (hi tk fs) Ls j else ptu (hi tk fs) (mosts Ls) j).set q (V.int (if (((if fs.length - 1 - i ≤ q + 1 then nhi (hi tk fs) Ls (q + 1) else ptu (hi tk fs) (mosts Ls) (q + 1)) : Nat) : Int) < (((if fs.length - 1 - i ≤ q then nhi (hi tk fs) Ls q else ptu (hi tk fs) (mosts Ls) q) : Nat) : Int) then (((if fs.length - 1 - i ≤ q + 1 then nhi (hi tk fs) Ls (q + 1) else ptu (hi tk fs) (mosts Ls) (q + 1)) : Nat) : Int) else (((if fs.length - 1 - i ≤ q then nhi (hi tk fs) Ls q else ptu (hi tk fs) (mosts Ls) q) : Nat) : Int))))) = _
          rw [vmin, if_neg n1, if_pos n2, tab_set (fun j => if fs.length - 1 - (i + 1) ≤ j then nhi (hi tk fs) Ls j else ptu (hi tk fs) (mosts Ls) j) i1 ?_ ?_]
          · show (if _ then _ else _) = _
            rw [if_pos (by omega)]
            exact upp_pred (fun h => hi_mono tk fs h) _ _
          · intro j _ hj
            show (if _ then _ else _) = (if _ then _ else _)
            by_cases c : fs.length - 1 - i ≤ j
            · rw [if_pos c, if_pos (by omega)]
            · rw [if_neg c, if_neg (by omega)]
        · rintro σ H5 ⟨v6, rfl, s5, hd5, he5⟩
          rw [tll] at he5
          have heF : H5 E = some (.lst (tab fs.length (nhi (hi tk fs) Ls))) := by
            rw [he5]
            congr 2
            exact tab_congr fun j hj => if_pos (by omega)
          refine ⟨_, rfl, _, rfl, D, E, _, _, rfl, SqL.of hd5, SqL.of heF, by rw [tab_len, tab_len], by rw [tab_len]; omega, fun H6 q Xs s6 nq hq hql zd => ?_⟩
          refine k H6 q Xs (s5.trans s6) ⟨hq, ?_, fun i T z e1 e2 => ?_⟩
          · rw [hql, tab_len]; unfold nb; rw [List.length_map, List.length_range]
          · obtain ⟨z1, rfl⟩ := at_range e2
            exact (zd i T _ _ e1 (tab_at z1) (tab_at z1)).2
end
end LP

namespace LP
open PySem L2 LT LG LQ LH LC LX
section
variable {P : Program} {w : World} {K : PySem.W.Frag} {mg : Str → Option Value} {base : Heap}
theorem rg_at {n i : Nat} {v : V} (h : (rgV 0 (n : Int))[i]? = some v) : i < n ∧ v = .int (i : Nat) := by
  unfold rgV at h
  rw [List.getElem?_map] at h
  cases q : (List.range ((n : Int) - 0).toNat)[i]? with
  | none => rw [q] at h; cases h
  | some j =>
    obtain ⟨z1, z2⟩ := List.getElem?_eq_some_iff.mp q
    rw [List.length_range] at z1
    rw [List.getElem_range] at z2
    subst z2
    rw [q] at h; cases h
    exact ⟨by omega, by show V.int (0 + _) = _; rw [Int.zero_add]⟩
theorem lim_le (n : Nat) (f : Fact) : (lim n f).1.length ≤ 1 ∧ (lim n f).2.length ≤ 1 := by
  cases f with
  | bf i j => exact ⟨Nat.le_refl _, Nat.zero_le _⟩
  | af i j => exact ⟨Nat.zero_le _, Nat.le_refl _⟩
  | ou m k =>
    show (limOut n m k).1.length ≤ 1 ∧ (limOut n m k).2.length ≤ 1
    unfold limOut
    split
    · exact ⟨Nat.le_refl _, Nat.zero_le _⟩
    · refine ⟨?_, ?_⟩
      · show (if _ then _ else _ : List (Nat × Nat)).length ≤ 1
        split
        · exact Nat.le_refl _
        · exact Nat.zero_le _
      · show (if _ then _ else _ : List (Nat × Nat)).length ≤ 1
        split
        · exact Nat.le_refl _
        · exact Nat.zero_le _
theorem rg_len (n : Nat) : (rgV 0 (n : Int)).length = n := by
  unfold rgV
  rw [List.length_map, List.length_range]; omega
theorem LmL.same {H H' : Hp} {p : Addr} {Ls : List Lim} {Us : List Addr} (h : LmL H p Ls Us) (s : Same H H') : LmL H' p Ls Us := ⟨s _ _ h.ls, h.len, fun i a L e1 e2 => (h.at_ i a L e1 e2).same s⟩
theorem ok_find_contradiction (e : Env P K mg) : FnOk P w K mg base CX0 2 e.a_find_contradiction e.d_find_contradiction ["bounds", "all_limits"] (sp_find_contradiction) := by
  refine Fun.ok e.f_find_contradiction sc_find_contradiction (fun vs H Q E h => ?_) (fun cdv A outer s H vs Q E hr h => ?_)
  · obtain ⟨x, y, tk, fs, Ls, Ts, Us, rfl, _⟩ := h; rfl
  · obtain ⟨x, y, tk, fs, Ls, Ts, Us, rfl, hx, hy, hl, ok, k⟩ := h
    have ul := hy.len
    refine ⟨_, (pss_cons (ps_for PassesOwn.never rfl (pi_enum (by rfl) e.n_enumerate (pa_cons (pv 1) pa_nil)) (pg_tup (by rfl) (pgs_cons (pg_name (i := 2) sc_find_contradiction.nd rfl (by first | exact Or.inl rfl | exact Or.inr rfl)) (pgs_cons (pg_name (i := 3) sc_find_contradiction.nd rfl (by first | exact Or.inl rfl | exact Or.inr rfl)) pgs_nil)))
      (pss_one (ps_if (pt_val (pe_call ((ok_contradicts_pair e).mono (by decide)) hr rfl e.g_contradicts_pair e.f_contradicts_pair.kp e.b_contradicts_pair .nil pass0 (pa_cons (pv 3) (pa_cons (pv 0) pa_nil))))
        (pss_one (ps_ret (pe_tup (pa_cons (pv 2) pa_nil))))
        pss_nil)))
      (pss_cons (ps_for PassesOwn.never rfl (LX.pi_coR (by rfl) e.g_combinations rfl (prg_1 (by rfl) e.n_range (pe_callB LS.call_len (by rfl) e.n_len PySem.boot_len (pa_cons (pv 1) pa_nil)))) (pg_tup (by rfl) (pgs_cons (pg_name (i := 2) sc_find_contradiction.nd rfl (by first | exact Or.inl rfl | exact Or.inr rfl)) (pgs_cons (pg_name (i := 4) sc_find_contradiction.nd rfl (by first | exact Or.inl rfl | exact Or.inr rfl)) pgs_nil)))
      (pss_one (ps_if (PW.pt (pw_or (pt_val (pe_call ((ok_puts_behind e).mono (by decide)) hr rfl e.g_puts_behind e.f_puts_behind.kp e.b_puts_behind .nil pass0 (pa_cons (pe_ix ix_list (pv 1) (pv 2) (fun _ _ => rfl)) (pa_cons (pe_ix ix_list (pv 1) (pv 4) (fun _ _ => rfl)) pa_nil)))) (pw_or1 (pt_val (pe_call ((ok_puts_behind e).mono (by decide)) hr rfl e.g_puts_behind e.f_puts_behind.kp e.b_puts_behind .nil pass0 (pa_cons (pe_ix ix_list (pv 1) (pv 4) (fun _ _ => rfl)) (pa_cons (pe_ix ix_list (pv 1) (pv 2) (fun _ _ => rfl)) pa_nil)))))))
        (pss_one (ps_ret (pe_tup (pa_cons (pv 2) (pa_cons (pv 4) pa_nil)))))
        pss_nil)))
      (pss_one (ps_ret pe_non)))), ?_⟩
    refine ⟨_, rfl, y, _, rfl, SqL.of hy.ls, for_it walk_enum (fun i σ H' => ∃ v2 v3 v4, σ = [some (.ref x), some (.ref y), v2, v3, v4] ∧ Same H H' ∧ ∀ z, z < i → ¬ OneL tk fs Ls z) ⟨none, none, none, rfl, fun _ _ h => h, fun z h => by omega⟩ (fun i σ H' _ ⟨_, _, _, _, s, _⟩ => s.seq (SqL.of hy.ls)) ?_ ?_⟩
    · rintro i v σ H1 H2 hii ⟨v2, v3, v4, rfl, s1, no⟩ ⟨T, x', y', rfl, hT, rfl, hx', hy'⟩
      rw [List.length_map] at hii
      cases hx'
      obtain ⟨a, ha, rfl⟩ := at_ref hy'
      obtain ⟨a2, e1, e2, lm⟩ := lml_at hy (i := i) (by omega)
      rw [ha] at e1; cases e1
      generalize Ls[i]'(by omega) = L at e2 lm
      have sT := same_upd (o := HO.tup [V.int (i : Nat), V.ref a]) hT
      obtain ⟨o1, o2, o3⟩ := ok L (List.mem_of_getElem? e2)
      refine ⟨_, _, rfl, SqT.of upd_same, rfl, _, _, rfl, _, _, rfl, rfl, ?_⟩
      refine ⟨_, rfl, _, rfl, a, x, tk, fs, L, Ts, rfl, (lm.same s1).same sT, (hx.same s1).same sT, o1, o2, o3, fun H3 s3 => ⟨_, rfl, ?_⟩⟩
      by_cases hb : badB (lo tk fs) (hi tk fs) L = true
      · rw [hb]
        refine iteT ⟨_, rfl, (by show 1 ≤ sizeLine; decide), fun q hq => ?_⟩
        exact k _ _ [i] (((s1.trans sT).trans s3).trans (same_upd hq)) ⟨.inr (.inl ⟨i, rfl, by omega, ⟨L, e2, badB_iff.mp hb⟩, no⟩)⟩ (.inr ⟨by simp, q, rfl, upd_same⟩)
      · rw [Bool.eq_false_iff.mpr hb]
        refine iteF ⟨_, _, _, rfl, (s1.trans sT).trans s3, fun z hz => ?_⟩
        by_cases zi : z = i
        · subst zi
          rintro ⟨L', e3, b⟩
          rw [e2] at e3; cases e3
          exact hb (badB_iff.mpr b)
        · exact no z (by omega)
    · rintro σ H1 ⟨v2, v3, v4, rfl, s1, no⟩
      rw [List.length_map, ul] at no
      have e : (Us.map V.ref).length = Ls.length := by rw [List.length_map, ul]
      refine ⟨_, rfl, y, _, rfl, .inl (SqL.of (s1 _ _ hy.ls)), ((Us.map V.ref).length : Nat), rfl, (Us.map V.ref).length, rfl, rfl, by omega, for_it walk_co (fun m σ H' => ∃ v2 v3 v4, σ = [some (.ref x), some (.ref y), v2, v3, v4] ∧ Same H H' ∧ ∀ j, j < m → ∀ q, (prs Ls.length)[j]? = some q → ¬ TwoL Ls q.1 q.2) ⟨_, _, _, rfl, s1, fun j h => by omega⟩ (fun _ _ _ _ _ => trivial) ?_ ?_⟩
      · rintro m v σ H2 H3 hm ⟨v2, v3, v4, rfl, s2, no2⟩ ⟨T, q, x1, y1, rfl, hT, rfl, hq, hx1, hy1⟩
        rw [e] at hx1 hy1
        rw [rg_len, e] at hq
        obtain ⟨l1, rfl⟩ := rg_at hx1
        obtain ⟨l2, rfl⟩ := rg_at hy1
        have q12 := (prs_step hq).1
        obtain ⟨a, ea, eL, lmA⟩ := lml_at hy l1
        obtain ⟨b, eb, eM, lmB⟩ := lml_at hy l2
        generalize Ls[q.1]'l1 = L at eL lmA
        generalize Ls[q.2]'l2 = M at eM lmB
        obtain ⟨_, o2, o3⟩ := ok L (List.mem_of_getElem? eL)
        obtain ⟨_, o4, o5⟩ := ok M (List.mem_of_getElem? eM)
        have sT := same_upd (o := HO.tup [V.int (q.1 : Nat), V.int (q.2 : Nat)]) hT
        have s3 := s2.trans sT
        have a1 : (Us.map V.ref)[q.1]? = some (.ref a) := by rw [List.getElem?_map, ea]; rfl
        have b1 : (Us.map V.ref)[q.2]? = some (.ref b) := by rw [List.getElem?_map, eb]; rfl
        have ret : ∀ H4, Same H H4 → TwoL Ls q.1 q.2 → ∀ r, H4 r = none → Q (.ref r) (upd H4 r (.tup [.int (q.1 : Nat), .int (q.2 : Nat)])) := fun H4 s4 tw r hr2 =>
          k _ _ [q.1, q.2] (s4.trans (same_upd hr2)) ⟨.inr (.inr ⟨q.1, q.2, rfl, no, q12, l2, tw, fun z w' zw wl lex => by
            obtain ⟨j, hj, e⟩ := prs_before m q hq z w' zw wl lex
            exact no2 j hj _ e⟩)⟩ (.inr ⟨by simp, r, rfl, upd_same⟩)
        refine ⟨_, _, rfl, SqT.of upd_same, rfl, _, _, rfl, _, _, rfl, rfl, ?_⟩
        refine ⟨_, rfl, _, rfl, rd_ix (SqL.of (s3 _ _ hy.ls)) a1 rfl ?_⟩
        refine ⟨_, rfl, _, rfl, rd_ix (SqL.of (s3 _ _ hy.ls)) b1 rfl ?_⟩
        refine ⟨a, b, L, M, rfl, lmA.same s3, lmB.same s3, o2, o5, fun H4 s4 => ⟨_, rfl, ?_⟩⟩
        have s5 := s3.trans s4
        have nxt : ∀ H6, Same H H6 → ¬ TwoL Ls q.1 q.2 → ∃ v2 v3' v4, [some (V.ref x), some (V.ref y), some (V.int (q.1 : Nat)), v3, some (V.int (q.2 : Nat))] = [some (V.ref x), some (V.ref y), v2, v3', v4] ∧ Same H H6 ∧ ∀ (j : Nat), j < m + 1 → ∀ (q : Nat × Nat), (prs Ls.length)[j]? = some q → ¬TwoL Ls q.fst q.snd := fun H6 s6 nt =>
          ⟨_, _, _, rfl, s6, fun j hj r er => by
            by_cases z : j = m
            · subst z; rw [hq] at er; cases er; exact nt
            · exact no2 j (by omega) r er⟩
        by_cases h1 : behB L M = true
        · rw [h1]
          refine iteT (iteT ⟨_, rfl, _, rfl, (by show 2 ≤ sizeLine; decide), fun r hr2 => ret _ s5 ⟨L, M, eL, eM, .inl (behB_iff.mp h1)⟩ r hr2⟩)
        · rw [Bool.eq_false_iff.mpr h1]
          refine iteF ⟨_, rfl, _, rfl, rd_ix (SqL.of (s5 _ _ hy.ls)) b1 rfl ?_⟩
          refine ⟨_, rfl, _, rfl, rd_ix (SqL.of (s5 _ _ hy.ls)) a1 rfl ?_⟩
          refine ⟨b, a, M, L, rfl, lmB.same s5, lmA.same s5, o4, o3, fun H5 s6 => ⟨_, rfl, ?_⟩⟩
          have s7 := s5.trans s6
          by_cases h2 : behB M L = true
          · rw [h2]
            exact iteT ⟨_, rfl, _, rfl, (by show 2 ≤ sizeLine; decide), fun r hr2 => ret _ s7 ⟨L, M, eL, eM, .inr (behB_iff.mp h2)⟩ r hr2⟩
          · rw [Bool.eq_false_iff.mpr h2]
            refine iteF (nxt _ s7 ?_)
            rintro ⟨L', M', z1, z2, z3⟩
            rw [eL] at z1; rw [eM] at z2
            cases z1; cases z2
            exact z3.elim (fun z => h1 (behB_iff.mpr z)) fun z => h2 (behB_iff.mpr z)
      · rintro σ H2 ⟨v2, v3, v4, rfl, s2, no2⟩
        rw [rg_len, e] at no2
        refine k _ _ [] s2 ⟨.inl ⟨rfl, no, fun z w' zw wl => ?_⟩⟩ (.inl ⟨rfl, rfl⟩)
        obtain ⟨j, ej⟩ := prs_all zw wl
        exact no2 j (List.getElem?_eq_some_iff.mp ej).1 _ ej
end
end LP

namespace LP
open PySem L2 LT LG LQ LH LC LX
section
variable {P : Program} {w : World} {K : PySem.W.Frag} {mg : Str → Option Value} {base : Heap}
theorem nb_get {tk fs : List Int} {Ls : List Lim} {i : Nat} (h : i < fs.length) : (nb tk fs Ls)[i]? = some (nlo (lo tk fs) Ls i, nhi (hi tk fs) Ls i) := by
  unfold nb
  rw [List.getElem?_map, List.getElem?_range h]; rfl
theorem nb_len (tk fs : List Int) (Ls : List Lim) : (nb tk fs Ls).length = fs.length := by unfold nb; rw [List.length_map, List.length_range]
theorem ok_can_be_met (e : Env P K mg) : FnOk P w K mg base CX0 1 e.a_can_be_met e.d_can_be_met ["bounds"] (sp_can_be_met) := by
  refine Fun.ok e.f_can_be_met sc_can_be_met (fun vs H Q E h => ?_) (fun cdv A outer s H vs Q E hr h => ?_)
  · obtain ⟨x, ps, Ts, rfl, _⟩ := h; rfl
  · obtain ⟨x, ps, Ts, rfl, hx, hl, k⟩ := h
    refine ⟨_, (pss_one (ps_ret (pe_callB (cr_all rfl) (by rfl) e.n_all (by decide +kernel) (pa_cons (pe_lc (own := [("least", 1), ("most", 2)]) rfl sc_can_be_met.nd (pi_list (pv 0)) (blkOk_by (N := ["bounds", "least", "most"]) (sc := defScope s_can_be_met) (by decide +kernel)) (fun _ _ _ _ _ => (show PG _ _ (gTup K 2 _) from pg_tup (by rfl) (pgs_cons (pg_name (i := 1) sc_can_be_met.nd rfl (by first | exact Or.inl rfl | exact Or.inr rfl)) (pgs_cons (pg_name (i := 2) sc_can_be_met.nd rfl (by first | exact Or.inl rfl | exact Or.inr rfl)) pgs_nil)))) (fun _ _ _ _ _ => pts_nil) (fun _ _ _ _ _ => (pe_cmpR op_le (pv 1) (pv 2) (nomark _)))) pa_nil)))), ?_⟩
    refine ⟨_, rfl, x, rfl, ⟨_, SqL.of hx.ls⟩, fun D hD => lc_it walk_list (fun j H' => Same H H' ∧ H' D = some (.lst (((ps.take j).map fun z => decide (z.1 ≤ z.2)).map V.bl))) ⟨same_upd hD, upd_same⟩ (fun j H' _ h => h.1.seq (SqL.of hx.ls)) ?_ ?_⟩
    · rintro j v H2 H3 hj ⟨s2, hd⟩ ⟨rfl, hv⟩
      obtain ⟨T, z, rfl, hz, hT⟩ := at_pr hx hv
      refine ⟨_, _, rfl, SqT.of (s2 _ _ hT), rfl, _, _, rfl, _, _, rfl, rfl, rfl, _, rfl, _, rfl, _, _, rfl, rfl, _, hd, ?_, fun c o hc => ?_, ?_⟩
      · rw [List.length_map, List.length_map, List.length_take]; exact small1000 (by omega)
      · rw [upd_ne (ne_of_none hc hD)]; exact s2 _ _ hc
      · rw [upd_same, take_snoc hz, List.map_append, List.map_append]
        show some (HO.lst (_ ++ [V.bl (decide (((z.1 : Nat) : Int) ≤ ((z.2 : Nat) : Int)))])) = _
        rw [show decide (((z.1 : Nat) : Int) ≤ ((z.2 : Nat) : Int)) = decide (z.1 ≤ z.2) from decide_eq_decide.mpr Int.ofNat_le]
        rfl
    · rintro H2 ⟨s2, hd⟩
      rw [List.length_map, hx.len, List.take_length] at hd
      refine ⟨D, _, rfl, SqL.of hd, ?_⟩
      rw [List.all_map]
      exact k _ s2
end
end LP

namespace LP
open PySem L2 LT LG LQ LH LC LX LR
local macro_rules | `(tactic| array_mem_dec) => `(tactic| first
  | assumption
  | ((with_reducible apply LS.hp_s); assumption; array_mem_dec)
  | ((with_reducible apply LS.hp_f); assumption; array_mem_dec; array_mem_dec)
  | ((with_reducible apply LS.hp_t); assumption; array_mem_dec; array_mem_dec)
  | ((with_reducible apply LS.hp_l); assumption; array_mem_dec; array_mem_dec)
  | ((with_reducible apply LS.sq_o); array_mem_dec)
  | ((with_reducible apply LS.sq_s); assumption; array_mem_dec)
  | ((with_reducible apply LS.sq_f); assumption; array_mem_dec; array_mem_dec)
  | ((with_reducible apply LS.sq_t); assumption; array_mem_dec; array_mem_dec)
  | ((with_reducible apply LS.sq_l); assumption; array_mem_dec; array_mem_dec)
  | ((with_reducible apply LS.tu_o); array_mem_dec)
  | ((with_reducible apply LS.tu_s); assumption; array_mem_dec)
  | ((with_reducible apply LS.tu_f); assumption; array_mem_dec; array_mem_dec)
  | ((with_reducible apply LS.tu_t); assumption; array_mem_dec; array_mem_dec)
  | ((with_reducible apply LS.tu_l); assumption; array_mem_dec; array_mem_dec)
  | ((with_reducible apply LS.se_l); array_mem_dec)
  | ((with_reducible apply LS.se_t); array_mem_dec)
  | ((with_reducible apply LS.se_s); assumption; array_mem_dec)
  | ((with_reducible apply LS.se_f); assumption; array_mem_dec; array_mem_dec)
  | ((with_reducible apply LS.se_tt); assumption; array_mem_dec; array_mem_dec)
  | ((with_reducible exact Same.refl _))
  | ((with_reducible apply LS.sm_s); assumption; array_mem_dec)
  | ((with_reducible apply LS.sm_f); assumption; array_mem_dec; array_mem_dec)
  | ((with_reducible exact Fr.refl _ _))
  | ((with_reducible apply LS.fr_b); assumption; array_mem_dec)
  | ((with_reducible apply LS.fr_s); assumption; array_mem_dec)
  | ((with_reducible apply LS.fr_n); assumption; array_mem_dec; array_mem_dec)
  | ((with_reducible apply LS.fr_t); assumption; array_mem_dec)
  | ((with_reducible apply LS.no_s); assumption; array_mem_dec)
  | ((with_reducible apply LS.no_f); assumption; array_mem_dec; array_mem_dec)
  | ((with_reducible apply LS.no_t); assumption; array_mem_dec)
  | ((with_reducible apply LS.no_l); assumption; assumption)
  | ((with_reducible apply Ne.symm); assumption)
  | ((with_reducible apply LS.ne_a); assumption; array_mem_dec)
  | ((with_reducible apply LS.ne_b); assumption; array_mem_dec)
  | ((with_reducible apply LS.ne_ap); assumption)
  | ((with_reducible apply LS.ne_il); assumption; array_mem_dec)
  | ((with_reducible apply LS.ne_li); assumption; array_mem_dec)
  | ((with_reducible apply LS.ne_lt); assumption; assumption)
  | ((with_reducible apply LS.ne_tl); assumption; assumption)
  | ((with_reducible apply LS.ne_rl); assumption; array_mem_dec)
  | ((with_reducible apply LS.rl_t); assumption)
  | ((with_reducible apply LS.rl_s); assumption; array_mem_dec)
  | ((with_reducible apply LS.rl_f); assumption; array_mem_dec; array_mem_dec)
  | ((with_reducible apply LS.rl_l); assumption; array_mem_dec; array_mem_dec)
  | ((with_reducible apply LS.ap_new); assumption; assumption; array_mem_dec)
  | ((with_reducible apply LS.ap_t); assumption; array_mem_dec; array_mem_dec)
  | ((with_reducible apply LS.ap_s); assumption; array_mem_dec; array_mem_dec)
  | ((with_reducible apply LS.ap_f); assumption; array_mem_dec; array_mem_dec; array_mem_dec)
  | ((with_reducible apply LS.ap_l); assumption; array_mem_dec; array_mem_dec; array_mem_dec)
  | (with_reducible apply LS.ni_nil)
  | ((with_reducible apply LS.ni_cons); array_mem_dec; array_mem_dec)
  | (with_reducible apply LS.trk_nil)
  | ((with_reducible apply LS.trk_cons); array_mem_dec; array_mem_dec)
  | (with_reducible apply LS.al_nil)
  | ((with_reducible apply LS.al_cons); array_mem_dec; array_mem_dec)
  | (with_reducible apply LS.mem_hd)
  | ((with_reducible apply LS.mem_tl); array_mem_dec)
  | ((with_reducible apply LS.fl_refl); array_mem_dec)
  | ((with_reducible apply LS.fl_l); assumption; array_mem_dec)
  | ((with_reducible apply LS.fl_lm); assumption; array_mem_dec; array_mem_dec)
  | (with_reducible apply LS.sub_nil)
  | ((with_reducible apply LS.sub_cons); array_mem_dec; array_mem_dec)
  | ((with_reducible apply LS.fl_s); assumption; array_mem_dec)
  | ((with_reducible apply LS.fl_m); assumption; array_mem_dec; array_mem_dec; array_mem_dec)
  | ((with_reducible apply LS.fl_n); assumption; array_mem_dec; array_mem_dec; array_mem_dec)
  | ((with_reducible apply LS.rt_refl); array_mem_dec)
  | ((with_reducible apply LS.rt_t); assumption; array_mem_dec)
  | ((with_reducible apply LS.rt_s); assumption; array_mem_dec)
  | ((with_reducible apply LS.rt_f); assumption; array_mem_dec; array_mem_dec; array_mem_dec)
  | ((with_reducible apply LS.sz); (first | decide | (simp only [List.length_append, List.length_map, List.length_cons, List.length_nil, List.length_replicate]; omega)))
  | ((with_reducible apply LS.szl); (first | decide | (simp only [List.length_append, List.length_map, List.length_cons, List.length_nil, List.length_replicate]; omega))))
local macro_rules | `(tactic| array_get_dec) => `(tactic| first
  | ((with_reducible apply LS.var); exact rfl)
  | (with_reducible apply LS.con)
  | (with_reducible apply LS.op)
  | (with_reducible apply LS.ri0)
  | (with_reducible apply LS.tseq)
  | (with_reducible apply LS.tasg)
  | (with_reducible apply LS.gname)
  | (with_reducible apply LS.tcons)
  | (with_reducible apply LS.tnil)
  | (with_reducible apply LS.tcb)
  | (with_reducible apply LS.tcall)
  | (with_reducible apply LS.ttest)
  | (with_reducible apply LS.k_b)
  | (with_reducible apply LS.tb)
  | (with_reducible apply LS.tifs)
  | (with_reducible apply LS.ift)
  | (with_reducible apply LS.iff_)
  | (with_reducible apply LS.ifnt)
  | (with_reducible apply LS.ifnf)
  | (with_reducible apply LS.tnext)
  | (with_reducible apply LS.tdrop)
  | (with_reducible apply LS.tret)
  | (with_reducible apply LS.tretn)
  | (with_reducible apply LS.un)
  | (with_reducible apply LS.ru)
  | (with_reducible apply LS.tyes)
  | (with_reducible apply LS.tand)
  | (with_reducible apply LS.tor)
  | (with_reducible apply LS.tnot)
  | (with_reducible apply LS.tif)
  | (with_reducible apply LS.tandv)
  | (with_reducible apply LS.k_av)
  | (with_reducible apply LS.torv)
  | (with_reducible apply LS.k_ov)
  | (with_reducible apply LS.tnotv)
  | (with_reducible apply LS.k_nv)
  | (with_reducible apply LS.tchain)
  | (with_reducible apply LS.k_ch)
  | (with_reducible apply LS.req_i)
  | (with_reducible apply LS.rne_i)
  | (with_reducible apply LS.req_s)
  | (with_reducible apply LS.rne_s)
  | (with_reducible apply LS.req_b)
  | (with_reducible apply LS.rne_b)
  | ((with_reducible apply LS.rin_i); array_mem_dec)
  | ((with_reducible apply LS.rni_i); array_mem_dec)
  | ((with_reducible apply LS.rlen_li); array_mem_dec)
  | ((with_reducible apply LS.rlen_ls); array_mem_dec)
  | ((with_reducible apply LS.rlen_l); array_mem_dec)
  | ((with_reducible apply LS.rlen_Ei); array_mem_dec)
  | ((with_reducible apply LS.rlen_E); array_mem_dec)
  | ((with_reducible apply LS.rlen_t); array_mem_dec)
  | ((with_reducible apply LS.rixl); array_mem_dec; exact rfl)
  | ((with_reducible apply LS.rixt); array_mem_dec; exact rfl)
  | (with_reducible apply LS.isi_int_int)
  | (with_reducible apply LS.isi_int_bool)
  | (with_reducible apply LS.isi_int_str)
  | (with_reducible apply LS.isi_str_int)
  | (with_reducible apply LS.isi_str_bool)
  | (with_reducible apply LS.isi_str_str)
  | (with_reducible apply LS.isi_bool_int)
  | (with_reducible apply LS.isi_bool_bool)
  | (with_reducible apply LS.isi_bool_str)
  | (with_reducible apply LS.isi_non_int)
  | (with_reducible apply LS.isi_non_bool)
  | (with_reducible apply LS.isi_non_str)
  | ((with_reducible apply LS.isi_list_int); array_mem_dec)
  | ((with_reducible apply LS.isi_list_bool); array_mem_dec)
  | ((with_reducible apply LS.isi_list_str); array_mem_dec)
  | ((with_reducible apply LS.isi_list_list); array_mem_dec)
  | ((with_reducible apply LS.isi_list_tuple); array_mem_dec)
  | ((with_reducible apply LS.isi_tuple_int); array_mem_dec)
  | ((with_reducible apply LS.isi_tuple_bool); array_mem_dec)
  | ((with_reducible apply LS.isi_tuple_str); array_mem_dec)
  | ((with_reducible apply LS.isi_tuple_list); array_mem_dec)
  | ((with_reducible apply LS.isi_tuple_tuple); array_mem_dec)
  | ((with_reducible apply LS.isiT_i); array_mem_dec)
  | ((with_reducible apply LS.isiT_s); array_mem_dec)
  | ((with_reducible apply LS.isiT_E); array_mem_dec; array_mem_dec)
  | (with_reducible apply LS.tfld)
  | ((with_reducible apply LS.k_fl); array_mem_dec; assumption; assumption; exact rfl)
  | (with_reducible apply LS.tmeth)
  | ((with_reducible apply LS.k_me); array_mem_dec; exact rfl)
  | (with_reducible apply LS.tmake)
  | (with_reducible apply LS.tsfld)
  | (with_reducible apply LS.tprop)
  | ((with_reducible apply LS.k_pr); array_mem_dec)
  | ((with_reducible apply LS.rlen_own); array_mem_dec)
  | (with_reducible apply LS.rabs)
  | (with_reducible apply LS.rmin2)
  | (with_reducible apply LS.rmax2)
  | (with_reducible apply LS.tsl)
  | (with_reducible apply LS.tthen)
  | (with_reducible apply LS.tstep)
  | (with_reducible apply LS.tnop)
  | (with_reducible apply LS.tpart)
  | (with_reducible apply LS.k_part)
  | (with_reducible apply LS.ttup)
  | (with_reducible apply LS.tlst)
  | (with_reducible apply LS.tbm)
  | (with_reducible apply LS.tbm0)
  | ((with_reducible apply LS.ty_l); array_mem_dec)
  | (with_reducible apply LS.tpar)
  | (with_reducible apply LS.tfor)
  | (with_reducible apply LS.tlc)
  | (with_reducible apply LS.ilist)
  | ((with_reducible apply LS.k_il); array_mem_dec)
  | (with_reducible apply LS.itup)
  | ((with_reducible apply LS.k_it); array_mem_dec)
  | (with_reducible apply LS.istr)
  | (with_reducible apply LS.k_is)
  | (with_reducible apply LS.irng1)
  | ((with_reducible apply LS.k_r1n); omega)
  | ((with_reducible apply LS.k_r1); (first | omega | decide); (first | omega | decide))
  | (with_reducible apply LS.irng2)
  | ((with_reducible apply LS.k_r2); (first | omega | decide); (first | omega | decide); (first | omega | decide); (first | omega | decide))
  | (with_reducible apply LS.ienum)
  | ((with_reducible apply LS.k_en); array_mem_dec)
  | (with_reducible apply LS.izip)
  | ((with_reducible apply LS.k_zip); array_mem_dec; array_mem_dec)
  | (with_reducible apply LS.tlstrg)
  | (with_reducible apply LS.trg1)
  | (with_reducible apply LS.k_g1)
  | (with_reducible apply LS.risn_i)
  | (with_reducible apply LS.risn_s)
  | (with_reducible apply LS.risn_n)
  | (with_reducible apply LS.rnotn_i)
  | (with_reducible apply LS.rnotn_n)
  | (with_reducible apply LS.rint_b)
  | (with_reducible apply LS.rint_i)
  | (with_reducible apply LS.tm0)
  | (with_reducible apply LS.tm1)
  | (with_reducible apply LS.is_str)
  | (with_reducible apply LS.ex_s0)
  | (with_reducible apply LS.ex_int_b)
  | (with_reducible apply LS.k_par)
  | (with_reducible apply LS.tpar3)
  | (with_reducible apply LS.k_par3)
  | ((with_reducible apply LS.taug); exact rfl)
  | (with_reducible apply LS.ipi)
  | ((with_reducible apply LS.gtup); array_mem_dec; exact rfl)
  | ((with_reducible apply LS.gunl); array_mem_dec; exact rfl)
  | (with_reducible apply LS.gnil)
  | (with_reducible apply LS.gcons)
  | (with_reducible apply LS.gsub)
  | ((with_reducible apply LS.ri); first | omega | decide | assumption | exact ⟨by decide, by decide, by decide⟩ | exact .inl ⟨by decide, by decide⟩ | exact .inr ⟨by decide, by decide⟩ | exact .inl ⟨by omega, by omega⟩ | exact .inr ⟨by omega, by omega⟩)
  | (with_reducible apply LS.ex_ss)
  | (with_reducible apply LS.ex_s1)
  | (with_reducible apply LS.ex_i1)
  | (with_reducible apply LS.and_rfl)
  | (with_reducible apply LS.and_tr)
  | (with_reducible apply LS.is_non))
local macro_rules | `(tactic| array_get_dec) => `(tactic| first
  | (with_reducible apply LS.tcalle)
  | (with_reducible apply LS.tcalls))
local macro_rules | `(tactic| array_get_dec) => `(tactic| first
  | (with_reducible apply LS.mks)
  | (with_reducible apply LS.rnotn_rr)
  | (with_reducible apply LS.risn_rr)
  | (with_reducible apply LS.txf))
local macro_rules | `(tactic| array_get_dec) => `(tactic| first
  | (with_reducible apply LS.trg2)
  | (with_reducible apply LS.k_g2))

section
variable {P : Program} {w : World} {K : PySem.W.Frag} {mg : Str → Option Value} {base : Heap}

def metB (tk fs : List Int) (Ls : List Lim) : Bool := (nb tk fs Ls).all fun z => decide (z.1 ≤ z.2)
def sp_check_number : Sp := fun vs H Q _ => ∃ x n : Int, vs = [.int x, .int n] ∧ 0 ≤ x ∧ x < n ∧ Q .non H
theorem ok_check_number (e : Env P K mg) : FnOk P w K mg base CX0 3 e.a_check_number e.d_check_number ["value", "count"] (sp_check_number) := by
  refine Fun.ok e.f_check_number sc_check_number (fun vs H Q E h => ?_) (fun cdv A outer s H vs Q E hr h => ?_)
  · obtain ⟨x, n, rfl, _⟩ := h; rfl
  · obtain ⟨x, n, rfl, h0, h1, k⟩ := h
    refine ⟨_, (pss_one (ps_if (pt_not (pt_val (pe_call ((ok_is_number e).mono (by decide)) hr rfl e.g_is_number e.f_is_number.kp e.b_is_number .nil pass0 (pa_cons (pv 0) (pa_cons (pv 1) pa_nil)))))
        (pss_one ps_never)
        pss_nil)), ?_⟩
    repeat array_get_dec
    refine ⟨x, n, rfl, h0, h1, ?_⟩
    repeat array_get_dec
    exact k
def spX_narrow (K : PySem.W.Frag) (CC : Addr) : Sp := fun vs H Q E => ∃ (x y : Addr) (tk fs : List Int) (Ls : List Lim) (Ts Us : List Addr), vs = [.ref x, .ref y] ∧ Prs H x (bnds tk fs) Ts ∧ LmL H y Ls Us ∧ Ls.length ≤ 400 ∧ fs.length ≤ 200 ∧ (∀ L ∈ Ls, LimOk fs.length L ∧ L.1.length ≤ 1 ∧ L.2.length ≤ 1) ∧ fs.Perm tk ∧
  (metB tk fs Ls = true → ∀ (H' : Hp) (p : Addr) (Xs : List Addr), Same H H' → Prs H' p (nb tk fs Ls) Xs → Q (.ref p) H') ∧
  (metB tk fs Ls = false → ∀ (H' : Hp) (v : V) (r : List Nat) (d : Addr), Same H H' → Conf Ls.length (OneL tk fs Ls) (TwoL Ls) r → RsAt H' v r → H d = none → H' d = some (.xd [("indices", v)]) → E (.ref CC) (some d) H')
theorem RsAt.same {H H' : Hp} {v : V} {r : List Nat} (h : RsAt H v r) (s : Same H H') : RsAt H' v r := by
  rcases h with h | ⟨h1, a, h2, ha⟩
  · exact .inl h
  · exact .inr ⟨h1, a, h2, s _ _ ha⟩
theorem okx_narrow_if_consistent (e : Env P K mg) : FnOk P w K mg base (L2.CX P w) 3 e.a_narrow_if_consistent e.d_narrow_if_consistent ["bounds", "all_limits"] (spX_narrow K e.C_Contradiction) := by
  refine Fun.okX e.f_narrow_if_consistent sc_narrow_if_consistent (fun vs H Q E h => ?_) (fun cdv A outer s H vs Q E hr h => ?_)
  · obtain ⟨x, y, tk, fs, Ls, Ts, Us, rfl, _⟩ := h; rfl
  · obtain ⟨x, y, tk, fs, Ls, Ts, Us, rfl, hx, hy, hl, fl, ok, pf, k1, k2⟩ := h
    refine ⟨_, (pss_cons (ps_set (i := 2) sc_narrow_if_consistent.nd rfl (by first | exact Or.inl rfl | exact Or.inr rfl) (pe_call ((ok_narrow e).mono (by decide)) hr rfl e.g_narrow e.f_narrow.kp e.b_narrow .nil pass0 (pa_cons (pv 0) (pa_cons (pv 1) pa_nil))))
      (pss_cons (ps_if (pt_not (pt_val (pe_call ((ok_can_be_met e).mono (by decide)) hr rfl e.g_can_be_met e.f_can_be_met.kp e.b_can_be_met .nil pass0 (pa_cons (pv 2) pa_nil))))
        (pss_one (ps_raise rfl (takes_of rfl rfl rfl rfl) (L2.pmk_sup e.su_Contradiction fo_Contradiction e.g_Contradiction e.n_super hr (pa_cons (pe_call ((ok_find_contradiction e).mono (by decide)) hr rfl e.g_find_contradiction e.f_find_contradiction.kp e.b_find_contradiction .nil pass0 (pa_cons (pv 0) (pa_cons (pv 1) pa_nil))) pa_nil))))
        pss_nil)
      (pss_one (ps_ret (pv 2))))), ?_⟩
    repeat array_get_dec
    refine ⟨x, y, tk, fs, Ls, Ts, Us, rfl, hx, hy, hl, fl, fun L hL => (ok L hL).1, pf, fun H1 p Xs s1 hp => ?_⟩
    repeat array_get_dec
    refine ⟨p, _, Xs, rfl, hp, by rw [nb_len]; exact fl, fun H2 s2 => ?_⟩
    have s12 := s1.trans s2
    cases hm : metB tk fs Ls with
    | true =>
      rw [show (nb tk fs Ls).all (fun z => decide (z.1 ≤ z.2)) = true from hm]
      repeat array_get_dec
      exact k1 hm H2 p Xs s12 (hp.same s2)
    | false =>
      rw [show (nb tk fs Ls).all (fun z => decide (z.1 ≤ z.2)) = false from hm]
      repeat array_get_dec
      refine ⟨x, y, tk, fs, Ls, Ts, Us, rfl, hx.same s12, hy.same s12, hl, ok, fun H3 v r s3 c rs => ?_⟩
      repeat array_get_dec
      refine LS.k_mks fun d H4 nd s4 hd => ?_
      exact k2 hm H4 v r d ((s12.trans s3).trans s4) c (rs.same s4) ((s12.trans s3).free nd) hd
/-- the narrowed bounds of a fill -/
def nbL (tk fs : List Int) (F : List Fact) (j : Nat) : Nat := nlo (lo tk fs) (F.map (lim tk.length)) j
def nbH (tk fs : List Int) (F : List Fact) (j : Nat) : Nat := nhi (hi tk fs) (F.map (lim tk.length)) j
def spX_time_range (K : PySem.W.Frag) (CC : Addr) : Sp := fun vs H Q E => ∃ (a b p : Addr) (tk fs : List Int) (F : List Fact) (as : List Addr) (j : Nat), vs = [.ref a, .ref b, .ref p, .int j] ∧ Is K H a tk ∧ Is K H b fs ∧ Pl tk ∧ fs.Perm tk ∧ NoObs tk fs ∧ FsE K H p F as ∧ (∀ f ∈ F, f.ok tk.length) ∧ F.length ≤ 400 ∧ j < tk.length ∧
  (metB tk fs (F.map (lim tk.length)) = true → ∀ (H' : Hp) (q : Addr), Same H H' → H' q = some (.tup [.int (nbL tk fs F j : Nat), .int (nbH tk fs F j : Nat)]) → Q (.ref q) H') ∧
  (metB tk fs (F.map (lim tk.length)) = false → ∀ (H' : Hp) (v : V) (r : List Nat) (d : Addr), Same H H' → Conf F.length (One tk fs F) (Two tk F) r → RsAt H' v r → H d = none → H' d = some (.xd [("indices", v)]) → E (.ref CC) (some d) H')
theorem okx_time_range (e : Env P K mg) : FnOk P w K mg base (L2.CX P w) 10 e.a_time_range e.d_time_range ["takes", "fills", "facts", "fill"] (spX_time_range K e.C_Contradiction) := by
  refine Fun.okX e.f_time_range sc_time_range (fun vs H Q E h => ?_) (fun cdv A outer s H vs Q E hr h => ?_)
  · obtain ⟨a, b, p, tk, fs, F, as, j, rfl, _⟩ := h; rfl
  · obtain ⟨a, b, p, tk, fs, F, as, j, rfl, hE, hF, pl, pf, no, fe, ok, hl, hj, k1, k2⟩ := h
    have fl := pf.length_eq
    have le := pl.le
    refine ⟨_, (pss_cons (ps_asg (pe_call ((ok_read_facts e).mono (by decide)) hr rfl e.g_read_facts e.f_read_facts.kp e.b_read_facts .nil pass0 (pa_cons (pv 0) (pa_cons (pv 1) (pa_cons (pv 2) pa_nil)))) (pg_tup (by rfl) (pgs_cons (pg_name (i := 4) sc_time_range.nd rfl (by first | exact Or.inl rfl | exact Or.inr rfl)) (pgs_cons (pg_name (i := 5) sc_time_range.nd rfl (by first | exact Or.inl rfl | exact Or.inr rfl)) pgs_nil))))
      (pss_cons (ps_expr (pe_call ((ok_check_number e).mono (by decide)) hr rfl e.g_check_number e.f_check_number.kp e.b_check_number .nil pass0 (pa_cons (pv 3) (pa_cons (pe_callB LS.call_len (by rfl) e.n_len PySem.boot_len (pa_cons (pv 4) pa_nil)) pa_nil))))
      (pss_one (ps_ret (pe_ix ix_list (pe_call ((okx_narrow_if_consistent e).mono (by decide)) hr rfl e.g_narrow_if_consistent e.f_narrow_if_consistent.kp e.b_narrow_if_consistent .nil (passes_call (takes_of rfl rfl rfl rfl) (fun _ _ _ _ h => h)) (pa_cons (pv 4) (pa_cons (pv 5) pa_nil))) (pv 3) (fun _ _ => rfl)))))), ?_⟩
    repeat array_get_dec
    refine ⟨a, b, p, tk, fs, F, as, rfl, hE, hF, pl, pf, no, fe, ok, hl, fun H1 q x y Ts Us s1 hq hx hy => ?_⟩
    have xl := hx.ls
    have tl : (Ts.map V.ref).length = tk.length := by rw [List.length_map, hx.len, bnds_len, fl]
    repeat array_get_dec
    rw [tl]
    refine ⟨j, _, rfl, by omega, by omega, ?_⟩
    repeat array_get_dec
    refine ⟨x, y, tk, fs, F.map (lim tk.length), Ts, Us, rfl, hx, hy, by rw [List.length_map]; exact hl, by omega, fun L hL => ?_, pf, fun hm H2 p2 Xs s2 hp2 => ?_, fun hm H2 v r d s2 c rs nd hd => ?_⟩
    · obtain ⟨f, hf, rfl⟩ := List.mem_map.mp hL
      rw [fl]
      exact ⟨lim_ok (ok f hf), lim_le tk.length f⟩
    · obtain ⟨X, hX⟩ : ∃ X, Xs[j]? = some X := ⟨_, List.getElem?_eq_getElem (by rw [hp2.len, nb_len]; omega)⟩
      have hq2 := hp2.at_ j X _ hX (nb_get (by omega))
      repeat array_get_dec
      refine LS.rixl_n (j := j) (v := .ref X) (SqL.of hp2.ls) (by rw [List.getElem?_map, hX]; rfl) rfl ?_
      exact k1 hm H2 X (s1.trans s2) hq2
    · refine k2 hm H2 v r d (s1.trans s2) ?_ rs (s1.free nd) hd
      rw [List.length_map] at c
      have at_ : ∀ x : Nat, (F.map (lim tk.length))[x]? = (F[x]?).map (lim tk.length) := fun x => List.getElem?_map ..
      refine c.iff (fun x _ => ⟨fun ⟨L, e, b⟩ => ?_, fun ⟨f, e, b⟩ => ⟨_, by rw [at_, e]; rfl, b⟩⟩) fun _ x y _ _ => ⟨fun ⟨L, M, e1, e2, b⟩ => ?_, fun ⟨f, g, e1, e2, b⟩ => ⟨_, _, by rw [at_, e1]; rfl, by rw [at_, e2]; rfl, b⟩⟩
      · rw [at_] at e
        cases q : F[x]? with
        | none => rw [q] at e; cases e
        | some f => rw [q] at e; cases e; exact ⟨f, q, b⟩
      · rw [at_] at e1 e2
        cases q : F[x]? with
        | none => rw [q] at e1; cases e1
        | some f =>
          cases q2 : F[y]? with
          | none => rw [q2] at e2; cases e2
          | some g => rw [q] at e1; rw [q2] at e2; cases e1; cases e2; exact ⟨f, g, q, q2, b⟩
end
end LP

namespace LP
open PySem L2 LT LG LQ LH LC LX
section
variable {P : Program} {w : World} {K : PySem.W.Frag} {mg : Str → Option Value} {base : Heap}
theorem neBO : ¬ (V.str "before" = V.str "out") := fun h => absurd (V.str.inj h) (by decide +kernel)
theorem neAO : ¬ (V.str "after" = V.str "out") := fun h => absurd (V.str.inj h) (by decide +kernel)
theorem vsTR : ¬ (V.str ⟨#[sgn true]⟩ = V.str "R") := fun h => absurd (V.str.inj h) (by decide +kernel)
theorem count_R (l : List Bool) : Txt.count (pstr l) ("R" : Str) = ((l.count false : Nat) : Int) := by
  rw [show ("R" : Str) = ⟨#[82]⟩ by decide +kernel, PyProof.Rows.count_cnt]
  show PyProof.Rows.cnt 82 (l.map sgn).toArray.toList = _
  rw [List.toList_toArray]
  induction l with
  | nil => rfl
  | cons b r ih =>
    rw [List.map_cons, PyProof.Rows.cnt_cons, ih]
    cases b with
    | true => rw [if_neg (by decide)]; simp
    | false => rw [if_pos (by decide)]; simp; omega
theorem cut_pat (l : Pat) (m : Nat) : cutS (pstr l) none (some (m : Int)) = pstr (l.take m) := by
  unfold cutS
  rw [HT.sIx_none, HT.sIx_nat, List.drop_zero, Nat.sub_zero]
  unfold pstr
  have e : (⟨(l.map sgn).toArray⟩ : Str).length = l.length := by show (l.map sgn).toArray.size = _; simp
  rw [e]
  congr 2
  show List.take (min m l.length) (l.map sgn) = (l.take m).map sgn
  rw [← List.map_take]
  congr 1
  by_cases h : m ≤ l.length
  · rw [Nat.min_eq_left h]
  · rw [Nat.min_eq_right (by omega), List.take_length, List.take_of_length_le (by omega)]
theorem pos_get {b : Bool} {l : Pat} {i : Nat} (h : i < (pos b l).length) : ((pos b l).map fun t : Nat => V.int t)[i]? = some (V.int ((pos b l).getD i 0 : Nat)) := by
  rw [List.getElem?_map, List.getD_eq_getElem?_getD, List.getElem?_eq_getElem h]; rfl
theorem ok__law_holds (e : Env P K mg) : FnOk P w K mg base CX0 1 e.a__law_holds e.d__law_holds ["pattern", "fact"] (sp__law_holds) := by
  refine Fun.ok e.f__law_holds sc__law_holds (fun vs H Q E h => ?_) (fun cdv A outer s H vs Q E hr h => ?_)
  · obtain ⟨l, a, f, rfl, _⟩ := h; rfl
  · obtain ⟨l, a, f, rfl, hf, g, ok, hn, k⟩ := h
    have ll : l.length ≤ 10 := by have := len_pat l; have := g.2; omega
    refine ⟨_, (pss_cons (ps_asg (pv 1) (pg_tup (by rfl) (pgs_cons (pg_name (i := 2) sc__law_holds.nd rfl (by first | exact Or.inl rfl | exact Or.inr rfl)) (pgs_cons (pg_name (i := 3) sc__law_holds.nd rfl (by first | exact Or.inl rfl | exact Or.inr rfl)) (pgs_cons (pg_name (i := 4) sc__law_holds.nd rfl (by first | exact Or.inl rfl | exact Or.inr rfl)) pgs_nil)))))
      (pss_cons (ps_if (pt_cmpR op_eq (pv 2) pe_str (nomark _))
        (pss_one (ps_ret (pe_cmpR op_eq (pe_op op_sub (pe_m1 PySem.F.slot_str_count PySem.F.type_str_count mt_count (pe_slice sl_str (pv 0) po_none (po_some (pv 3))) pe_str) (pe_m1 PySem.F.slot_str_count PySem.F.type_str_count mt_count (pe_slice sl_str (pv 0) po_none (po_some (pv 3))) pe_str)) (pv 4) (nomark _))))
        pss_nil)
      (pss_cons (ps_setLc (i := 5) (own := [("at", 7), ("letter", 8)]) rfl sc__law_holds.nd rfl rfl (sw_true rfl rfl rfl (by decide +kernel)) (LX.pi_enumS (by rfl) e.n_enumerate (pa_cons (pv 0) pa_nil)) (blkOk_by (N := ["pattern", "fact", "word", "first", "second", "takes_here", "fills_here", "at", "letter"]) (sc := defScope s__law_holds) (by decide +kernel)) (fun _ _ _ _ _ => (show PG _ _ (gTup K 2 _) from pg_tup (by rfl) (pgs_cons (pg_name (i := 7) sc__law_holds.nd rfl (by first | exact Or.inl rfl | exact Or.inr rfl)) (pgs_cons (pg_name (i := 8) sc__law_holds.nd rfl (by first | exact Or.inl rfl | exact Or.inr rfl)) pgs_nil)))) (fun _ _ _ _ _ => pts_one (pt_cmpR op_eq (pv 8) pe_str (nomark _))) (fun _ _ _ _ _ => (pv 7)))
      (pss_cons (ps_setLc (i := 6) (own := [("at", 7), ("letter", 8)]) rfl sc__law_holds.nd rfl rfl (sw_true rfl rfl rfl (by decide +kernel)) (LX.pi_enumS (by rfl) e.n_enumerate (pa_cons (pv 0) pa_nil)) (blkOk_by (N := ["pattern", "fact", "word", "first", "second", "takes_here", "fills_here", "at", "letter"]) (sc := defScope s__law_holds) (by decide +kernel)) (fun _ _ _ _ _ => (show PG _ _ (gTup K 2 _) from pg_tup (by rfl) (pgs_cons (pg_name (i := 7) sc__law_holds.nd rfl (by first | exact Or.inl rfl | exact Or.inr rfl)) (pgs_cons (pg_name (i := 8) sc__law_holds.nd rfl (by first | exact Or.inl rfl | exact Or.inr rfl)) pgs_nil)))) (fun _ _ _ _ _ => pts_one (pt_cmpR op_eq (pv 8) pe_str (nomark _))) (fun _ _ _ _ _ => (pv 7)))
      (pss_one (ps_ret (pe_cmpR op_eq (pe_cmpR op_lt (pe_ix ix_list (pv 5) (pv 3) (fun _ _ => rfl)) (pe_ix ix_list (pv 6) (pv 4) (fun _ _ => rfl)) (nomark _)) (pe_cmpR op_eq (pv 2) pe_str (nomark _)) (nomark _)))))))), ?_⟩
    refine ⟨_, rfl, _, _, rfl, SqT.of hf, rfl, _, _, rfl, _, _, rfl, _, _, rfl, rfl, ?_⟩
    cases f with
    | ou m j =>
      refine ⟨_, rfl, rfl, _, rfl, iteD rfl ?_⟩
      have sz : (pstr l).length ≤ sizeLine := by
        show (pstr l).cps.size ≤ sizeLine
        rw [pstr_size]; exact Nat.le_of_lt (small1000 (by omega))
      refine ⟨_, rfl, _, rfl, _, rfl, _, rfl, sz, ⟨_, rfl⟩, _, _, rfl, rfl, ?_⟩
      refine ⟨_, rfl, _, rfl, _, rfl, _, rfl, sz, ⟨_, rfl⟩, _, _, rfl, rfl, _, _, rfl, rfl, _, rfl, rfl, ?_⟩
      show Q (V.bl (decide (V.int (Txt.count (cutS (pstr l) none (some (m:Int))) "T" - Txt.count (cutS (pstr l) none (some (m:Int))) "R") = V.int (j : Nat)))) H
      rw [cut_pat, count_T, count_R]
      have e : holds l (.ou m j) = decide (V.int (((List.count true (l.take m) : Nat) : Int) - (List.count false (l.take m) : Nat)) = V.int (j : Nat)) := decide_eq_decide.mpr ⟨congrArg V.int, V.int.inj⟩
      rw [← e]
      exact k _ (fun _ _ h => h)
    | bf i j =>
      refine ⟨_, rfl, rfl, _, rfl, iteX (by exact neBO) ?_⟩
      obtain ⟨o1, o2⟩ := ok
      refine ⟨_, rfl, _, rfl, fun D hD => lc_it walk_enumS (fun j H' => Same H H' ∧ H' D = some (.lst ((pos true (l.take j)).map fun t : Nat => V.int t))) ⟨same_upd hD, upd_same⟩ (fun _ _ _ _ => trivial) ?_ ?_⟩
      · rintro m v H2 H3 hj ⟨s2, hd⟩ ⟨T, c, rfl, hT, rfl, hc⟩
        obtain ⟨bb, hb, rfl⟩ := pstr_at hc
        have sT := same_upd (o := HO.tup [V.int (m : Nat), V.str ⟨#[sgn bb]⟩]) hT
        have hl : (pos true (l.take m)).length ≤ 10 := by rw [pos_len]; have := tks_take l m; have := len_pat l; show tks _ ≤ 10; omega
        have ml : (l.take m).length = m := by have := (List.getElem?_eq_some_iff.mp hb).1; rw [List.length_take]; omega
        refine ⟨_, _, rfl, SqT.of upd_same, rfl, _, _, rfl, _, _, rfl, rfl, rfl, ?_⟩
        cases bb with
        | true =>
          refine ⟨_, rfl, rfl, _, rfl, iteD vsT ⟨_, rfl, _, sT _ _ hd, by rw [List.length_map]; exact small1000 (by omega), fun c o hc => ?_, ?_⟩⟩
          · rw [upd_ne (ne_of_none hc hD)]; exact sT _ _ (s2 _ _ hc)
          · rw [upd_same, take_snoc hb, pos_snoc, if_pos rfl, ml, List.map_append]; rfl
        | false =>
          refine ⟨_, rfl, rfl, _, rfl, iteX vsR ⟨s2.trans sT, ?_⟩⟩
          rw [take_snoc hb, pos_snoc, if_neg (by decide), List.append_nil]
          exact sT _ _ hd
      · rintro H2 ⟨s2, hd⟩
        rw [pstr_size, List.take_length] at hd
        refine ⟨_, rfl, _, rfl, fun D2 hD2 => lc_it walk_enumS (fun j H' => Same H2 H' ∧ H' D2 = some (.lst ((pos false (l.take j)).map fun t : Nat => V.int t))) ⟨same_upd hD2, upd_same⟩ (fun _ _ _ _ => trivial) ?_ ?_⟩
        · rintro m v H3 H4 hj ⟨s3, hd2⟩ ⟨T, c, rfl, hT, rfl, hc⟩
          obtain ⟨bb, hb, rfl⟩ := pstr_at hc
          have sT := same_upd (o := HO.tup [V.int (m : Nat), V.str ⟨#[sgn bb]⟩]) hT
          have hl : (pos false (l.take m)).length ≤ 10 := by rw [pos_len]; have := fls_take l m; have := len_pat l; show fls _ ≤ 10; omega
          have ml : (l.take m).length = m := by have := (List.getElem?_eq_some_iff.mp hb).1; rw [List.length_take]; omega
          refine ⟨_, _, rfl, SqT.of upd_same, rfl, _, _, rfl, _, _, rfl, rfl, rfl, ?_⟩
          cases bb with
          | true =>
            refine ⟨_, rfl, rfl, _, rfl, iteX (by exact vsTR) ⟨s3.trans sT, ?_⟩⟩
            rw [take_snoc hb, pos_snoc, if_neg (by decide), List.append_nil]
            exact sT _ _ hd2
          | false =>
            refine ⟨_, rfl, rfl, _, rfl, iteD vsRR ⟨_, rfl, _, sT _ _ hd2, by rw [List.length_map]; exact small1000 (by omega), fun c o hc => ?_, ?_⟩⟩
            · rw [upd_ne (ne_of_none hc hD2)]; exact sT _ _ (s3 _ _ hc)
            · rw [upd_same, take_snoc hb, pos_snoc, if_pos rfl, ml, List.map_append]; rfl
        · rintro H3 ⟨s3, hd2⟩
          rw [pstr_size, List.take_length] at hd2
          refine ⟨_, rfl, _, rfl, rd_ix (SqL.of (s3 _ _ hd)) (pos_get (by rw [pos_len]; exact o1)) rfl ?_⟩
          refine ⟨_, rfl, _, rfl, rd_ix (SqL.of hd2) (pos_get (by rw [pos_len]; have := g.2; show j < fls l; omega)) rfl ?_⟩
          refine ⟨_, _, rfl, rfl, _, rfl, rfl, rfl, ?_⟩
          show Q (V.bl (decide (V.bl (decide (((pos true l).getD i 0 : Nat) < (((pos false l).getD j 0 : Nat) : Int))) = V.bl (decide (V.str "before" = V.str "before"))))) H3
          have e : holds l (.bf i j) = decide (V.bl (decide (((pos true l).getD i 0 : Nat) < (((pos false l).getD j 0 : Nat) : Int))) = V.bl (decide (V.str "before" = V.str "before"))) := by
            rw [decide_eq_true (p := V.str "before" = V.str "before") rfl]
            show decide _ = _
            by_cases z : (pos true l).getD i 0 < (pos false l).getD j 0
            · rw [decide_eq_true z, decide_eq_true (p := ((((pos true l).getD i 0 : Nat) : Int) < ((pos false l).getD j 0 : Nat))) (Int.ofNat_lt.mpr z)]; rfl
            · rw [decide_eq_false z, decide_eq_false (p := ((((pos true l).getD i 0 : Nat) : Int) < ((pos false l).getD j 0 : Nat))) (fun y => z (Int.ofNat_lt.mp y))]; rfl
          rw [← e]
          exact k _ (s2.trans s3)
    | af i j =>
      refine ⟨_, rfl, rfl, _, rfl, iteX (by exact neAO) ?_⟩
      obtain ⟨o1, o2⟩ := ok
      refine ⟨_, rfl, _, rfl, fun D hD => lc_it walk_enumS (fun j H' => Same H H' ∧ H' D = some (.lst ((pos true (l.take j)).map fun t : Nat => V.int t))) ⟨same_upd hD, upd_same⟩ (fun _ _ _ _ => trivial) ?_ ?_⟩
      · rintro m v H2 H3 hj ⟨s2, hd⟩ ⟨T, c, rfl, hT, rfl, hc⟩
        obtain ⟨bb, hb, rfl⟩ := pstr_at hc
        have sT := same_upd (o := HO.tup [V.int (m : Nat), V.str ⟨#[sgn bb]⟩]) hT
        have hl : (pos true (l.take m)).length ≤ 10 := by rw [pos_len]; have := tks_take l m; have := len_pat l; show tks _ ≤ 10; omega
        have ml : (l.take m).length = m := by have := (List.getElem?_eq_some_iff.mp hb).1; rw [List.length_take]; omega
        refine ⟨_, _, rfl, SqT.of upd_same, rfl, _, _, rfl, _, _, rfl, rfl, rfl, ?_⟩
        cases bb with
        | true =>
          refine ⟨_, rfl, rfl, _, rfl, iteD vsT ⟨_, rfl, _, sT _ _ hd, by rw [List.length_map]; exact small1000 (by omega), fun c o hc => ?_, ?_⟩⟩
          · rw [upd_ne (ne_of_none hc hD)]; exact sT _ _ (s2 _ _ hc)
          · rw [upd_same, take_snoc hb, pos_snoc, if_pos rfl, ml, List.map_append]; rfl
        | false =>
          refine ⟨_, rfl, rfl, _, rfl, iteX vsR ⟨s2.trans sT, ?_⟩⟩
          rw [take_snoc hb, pos_snoc, if_neg (by decide), List.append_nil]
          exact sT _ _ hd
      · rintro H2 ⟨s2, hd⟩
        rw [pstr_size, List.take_length] at hd
        refine ⟨_, rfl, _, rfl, fun D2 hD2 => lc_it walk_enumS (fun j H' => Same H2 H' ∧ H' D2 = some (.lst ((pos false (l.take j)).map fun t : Nat => V.int t))) ⟨same_upd hD2, upd_same⟩ (fun _ _ _ _ => trivial) ?_ ?_⟩
        · rintro m v H3 H4 hj ⟨s3, hd2⟩ ⟨T, c, rfl, hT, rfl, hc⟩
          obtain ⟨bb, hb, rfl⟩ := pstr_at hc
          have sT := same_upd (o := HO.tup [V.int (m : Nat), V.str ⟨#[sgn bb]⟩]) hT
          have hl : (pos false (l.take m)).length ≤ 10 := by rw [pos_len]; have := fls_take l m; have := len_pat l; show fls _ ≤ 10; omega
          have ml : (l.take m).length = m := by have := (List.getElem?_eq_some_iff.mp hb).1; rw [List.length_take]; omega
          refine ⟨_, _, rfl, SqT.of upd_same, rfl, _, _, rfl, _, _, rfl, rfl, rfl, ?_⟩
          cases bb with
          | true =>
            refine ⟨_, rfl, rfl, _, rfl, iteX (by exact vsTR) ⟨s3.trans sT, ?_⟩⟩
            rw [take_snoc hb, pos_snoc, if_neg (by decide), List.append_nil]
            exact sT _ _ hd2
          | false =>
            refine ⟨_, rfl, rfl, _, rfl, iteD vsRR ⟨_, rfl, _, sT _ _ hd2, by rw [List.length_map]; exact small1000 (by omega), fun c o hc => ?_, ?_⟩⟩
            · rw [upd_ne (ne_of_none hc hD2)]; exact sT _ _ (s3 _ _ hc)
            · rw [upd_same, take_snoc hb, pos_snoc, if_pos rfl, ml, List.map_append]; rfl
        · rintro H3 ⟨s3, hd2⟩
          rw [pstr_size, List.take_length] at hd2
          refine ⟨_, rfl, _, rfl, rd_ix (SqL.of (s3 _ _ hd)) (pos_get (by rw [pos_len]; exact o1)) rfl ?_⟩
          refine ⟨_, rfl, _, rfl, rd_ix (SqL.of hd2) (pos_get (by rw [pos_len]; have := g.2; show j < fls l; omega)) rfl ?_⟩
          refine ⟨_, _, rfl, rfl, _, rfl, rfl, rfl, ?_⟩
          show Q (V.bl (decide (V.bl (decide (((pos true l).getD i 0 : Nat) < (((pos false l).getD j 0 : Nat) : Int))) = V.bl (decide (V.str "after" = V.str "before"))))) H3
          have e : holds l (.af i j) = decide (V.bl (decide (((pos true l).getD i 0 : Nat) < (((pos false l).getD j 0 : Nat) : Int))) = V.bl (decide (V.str "after" = V.str "before"))) := by
            rw [decide_eq_false (p := V.str "after" = V.str "before") neAB]
            show (!decide _) = _
            by_cases z : (pos true l).getD i 0 < (pos false l).getD j 0
            · rw [decide_eq_true z, decide_eq_true (p := ((((pos true l).getD i 0 : Nat) : Int) < ((pos false l).getD j 0 : Nat))) (Int.ofNat_lt.mpr z)]; rfl
            · rw [decide_eq_false z, decide_eq_false (p := ((((pos true l).getD i 0 : Nat) : Int) < ((pos false l).getD j 0 : Nat))) (fun y => z (Int.ofNat_lt.mp y))]; rfl
          rw [← e]
          exact k _ (s2.trans s3)
end
end LP

namespace LP
open PySem L2 LT LG LQ LH LC LX
section
variable {P : Program} {w : World} {K : PySem.W.Frag} {mg : Str → Option Value} {base : Heap}
/-- the places of the patterns that satisfy a fact -/
def idxs (ps : List Pat) (f : Fact) : List Int := (ps.zipIdx.filter fun x => holds x.1 f).map fun x => ((x.2 : Nat) : Int)
theorem idxs_snoc (ps : List Pat) (l : Pat) (f : Fact) : idxs (ps ++ [l]) f = idxs ps f ++ if holds l f = true then [((ps.length : Nat) : Int)] else [] := by
  unfold idxs
  rw [List.zipIdx_append, List.filter_append, List.map_append, List.zipIdx_singleton]
  congr 1
  rw [List.filter_cons]
  cases h : holds l f with
  | true => simp [h]
  | false => simp [h]
theorem idxs_mem {ps : List Pat} {f : Fact} {z : Int} : z ∈ idxs ps f ↔ ∃ (k : Nat) (l : Pat), z = (k : Int) ∧ ps[k]? = some l ∧ holds l f = true := by
  unfold idxs
  rw [List.mem_map]
  constructor
  · rintro ⟨⟨l, k⟩, h, rfl⟩
    obtain ⟨h1, h2⟩ := List.mem_filter.mp h
    exact ⟨k, l, rfl, List.mem_zipIdx_iff_getElem?.mp h1, h2⟩
  · rintro ⟨k, l, rfl, h1, h2⟩
    exact ⟨(l, k), List.mem_filter.mpr ⟨List.mem_zipIdx_iff_getElem?.mpr h1, h2⟩, rfl⟩
theorem idxs_nil {ps : List Pat} {f : Fact} : idxs ps f = [] ↔ ∀ l ∈ ps, holds l f = false := by
  constructor
  · intro h l hl
    obtain ⟨k, hk⟩ := List.mem_iff_getElem?.mp hl
    cases q : holds l f with
    | false => rfl
    | true =>
      have : ((k : Nat) : Int) ∈ idxs ps f := idxs_mem.mpr ⟨k, l, rfl, hk, q⟩
      rw [h] at this; cases this
  · intro h
    rw [List.eq_nil_iff_forall_not_mem]
    intro z hz
    obtain ⟨k, l, _, h1, h2⟩ := idxs_mem.mp hz
    rw [h l (List.mem_of_getElem? h1)] at h2; cases h2
theorem both_nil {ps : List Pat} {f g : Fact} : (idxs ps f).filter (fun z => decide (z ∈ idxs ps g)) = [] ↔ ∀ l ∈ ps, ¬ (holds l f = true ∧ holds l g = true) := by
  rw [List.filter_eq_nil_iff]
  constructor
  · intro h l hl hh
    obtain ⟨k, hk⟩ := List.mem_iff_getElem?.mp hl
    exact h k (idxs_mem.mpr ⟨k, l, rfl, hk, hh.1⟩) (decide_eq_true (idxs_mem.mpr ⟨k, l, rfl, hk, hh.2⟩))
  · intro h z hz hd
    obtain ⟨k, l, e, h1, h2⟩ := idxs_mem.mp hz
    obtain ⟨k', l', e', h1', h2'⟩ := idxs_mem.mp (of_decide_eq_true hd)
    have : k = k' := by omega
    subst this
    rw [h1] at h1'; cases h1'
    exact h l (List.mem_of_getElem? h1) ⟨h2, h2'⟩
theorem idxs_len (ps : List Pat) (f : Fact) : (idxs ps f).length ≤ ps.length := by
  unfold idxs
  rw [List.length_map]
  have := List.length_filter_le (fun x : Pat × Nat => holds x.1 f) ps.zipIdx
  rw [List.length_zipIdx] at this
  exact this
theorem eqv_inil (ns : List Int) : PyData.eqv (.list (ns.map PyData.int)) (.list []) = decide (ns = []) := by
  cases ns with
  | nil => simp [PyData.eqv, PyData.eqvAll]
  | cons a r => simp [PyData.eqv, PyData.eqvAll]
theorem small4k {n : Nat} (h : n ≤ 4000) : n < sizeLine := Nat.lt_of_le_of_lt h (by decide)
theorem psV_at {ps : List Pat} {i : Nat} {v : V} (h : (psV ps)[i]? = some v) : ∃ l, ps[i]? = some l ∧ v = .str (pstr l) := by
  unfold psV at h
  rw [List.getElem?_map] at h
  cases q : ps[i]? with
  | none => rw [q] at h; cases h
  | some l => rw [q] at h; cases h; exact ⟨l, rfl, rfl⟩
theorem ok__law_conflict (e : Env P K mg) : FnOk P w K mg base CX0 2 e.a__law_conflict e.d__law_conflict ["some", "facts"] (sp__law_conflict) := by
  refine Fun.ok e.f__law_conflict sc__law_conflict (fun vs H Q E h => ?_) (fun cdv A outer s H vs Q E hr h => ?_)
  · obtain ⟨s, p, n, ps, F, as, rfl, _⟩ := h; rfl
  · obtain ⟨s, p, n, ps, F, as, rfl, hs, hp, okp, okf, hn, pl, fl, k⟩ := h
    have al := hp.len
    refine ⟨_, (pss_cons (ps_set (i := 2) sc__law_conflict.nd rfl (by first | exact Or.inl rfl | exact Or.inr rfl) (pe_lc (own := [("fact", 5)]) rfl sc__law_conflict.nd (pi_list (pv 1)) (blkOk_by (N := ["some", "facts", "held", "one", "other", "fact", "at", "pattern"]) (sc := defScope s__law_conflict) (by decide +kernel)) (fun _ _ _ _ _ => (pg_name (i := 5) sc__law_conflict.nd rfl (by first | exact Or.inl rfl | exact Or.inr rfl))) (fun _ _ _ _ _ => pts_nil) (fun _ _ _ _ _ => (pe_lc (own := [("at", 6), ("pattern", 7)]) rfl sc__law_conflict.nd (show PI _ _ _ (iEnum K _) from (pi_enum (by rfl) e.n_enumerate (pa_cons (pv 0) pa_nil))) (LX.blkOk_in (N := ["some", "facts", "held", "one", "other", "fact", "at", "pattern"]) (by decide +kernel)) (fun _ _ _ _ _ => (show PG _ _ (gTup K 2 _) from pg_tup (by rfl) (pgs_cons (pg_name (i := 6) sc__law_conflict.nd rfl (by first | exact Or.inl rfl | exact Or.inr rfl)) (pgs_cons (pg_name (i := 7) sc__law_conflict.nd rfl (by first | exact Or.inl rfl | exact Or.inr rfl)) pgs_nil)))) (fun _ _ _ _ _ => pts_one (pt_val (pe_call ((ok__law_holds e).mono (by decide)) hr rfl e.g__law_holds e.f__law_holds.kp e.b__law_holds .nil pass0 (pa_cons (pv 7) (pa_cons (pv 5) pa_nil))))) (fun _ _ _ _ _ => (pv 6))))))
      (pss_cons (ps_for PassesOwn.never rfl (pi_range1 (by rfl) e.n_range (pa_cons (pe_callB LS.call_len (by rfl) e.n_len PySem.boot_len (pa_cons (pv 1) pa_nil)) pa_nil)) (pg_name (i := 3) sc__law_conflict.nd rfl (by first | exact Or.inl rfl | exact Or.inr rfl))
      (pss_one (ps_if (pt_cmpR (op_eqD hr.units) (pe_ix ix_list (pv 2) (pv 3) (fun _ _ => rfl)) (pe_lst pa_nil) (nomark _))
        (pss_one (ps_ret (pe_tup (pa_cons (pv 3) pa_nil))))
        pss_nil)))
      (pss_cons (ps_for PassesOwn.never rfl (pi_range1 (by rfl) e.n_range (pa_cons (pe_callB LS.call_len (by rfl) e.n_len PySem.boot_len (pa_cons (pv 1) pa_nil)) pa_nil)) (pg_name (i := 3) sc__law_conflict.nd rfl (by first | exact Or.inl rfl | exact Or.inr rfl))
      (pss_one (ps_for PassesOwn.never rfl (pi_range2 (by rfl) e.n_range (pa_cons (pe_op op_add (pv 3) pe_int) (pa_cons (pe_callB LS.call_len (by rfl) e.n_len PySem.boot_len (pa_cons (pv 1) pa_nil)) pa_nil))) (pg_name (i := 4) sc__law_conflict.nd rfl (by first | exact Or.inl rfl | exact Or.inr rfl))
      (pss_one (ps_if (pt_cmpR (op_eqD hr.units) (pe_lc (own := [("at", 6)]) rfl sc__law_conflict.nd (pi_list (pe_ix ix_list (pv 2) (pv 3) (fun _ _ => rfl))) (blkOk_by (N := ["some", "facts", "held", "one", "other", "fact", "at", "pattern"]) (sc := defScope s__law_conflict) (by decide +kernel)) (fun _ _ _ _ _ => (pg_name (i := 6) sc__law_conflict.nd rfl (by first | exact Or.inl rfl | exact Or.inr rfl))) (fun _ _ _ _ _ => pts_one (pt_cmpR (show OpR _ _ (rIn K false) from op_in_seq) (pv 6) (pe_ix (show IxR _ (rIxL K) from ix_list) (pv 2) (pv 4) (fun _ _ => rfl)) (by rfl))) (fun _ _ _ _ _ => (pv 6))) (pe_lst pa_nil) (nomark _))
        (pss_one (ps_ret (pe_tup (pa_cons (pv 3) (pa_cons (pv 4) pa_nil)))))
        pss_nil)))))
      (pss_one (ps_ret pe_non))))), ?_⟩
    refine ⟨_, rfl, p, rfl, ⟨_, SqL.of hp.ls⟩, fun D hD => lc_it walk_list (fun j H' => ∃ Us : List Addr, Us.length = j ∧ Same H H' ∧ H' D = some (.lst (Us.map V.ref)) ∧ ∀ (i : Nat) c f, Us[i]? = some c → F[i]? = some f → c ≠ D ∧ H' c = some (.lst ((idxs ps f).map V.int)))
      ⟨[], rfl, same_upd hD, upd_same, fun i c f e => by simp at e⟩ (fun j H' _ ⟨_, _, s, _⟩ => s.seq (SqL.of hp.ls)) ?_ ?_⟩
    · rintro j v H2 H3 hj ⟨Us, ul, s2, hd, hU⟩ ⟨rfl, hx⟩
      rw [List.length_map] at hj
      obtain ⟨a, ha, rfl⟩ := at_ref hx
      have hf := List.getElem?_eq_getElem (l := F) (i := j) (by omega)
      generalize F[j]'(by omega) = f at hf
      have haf := s2 _ _ (hp.at_ j a f ha hf)
      have hs2 := s2 _ _ hs
      refine ⟨rfl, _, rfl, s, _, rfl, SqL.of hs2, fun D2 hD2 => lc_it walk_enum (fun i H' => Same H3 H' ∧ H' D2 = some (.lst ((idxs (ps.take i) f).map V.int))) ⟨same_upd hD2, upd_same⟩ (fun i H' _ h => h.1.seq (SqL.of hs2)) ?_ ?_⟩
      · rintro i v H4 H5 hi ⟨s4, hd4⟩ ⟨T, x, y, rfl, hT, rfl, hx1, hy1⟩
        cases hx1
        obtain ⟨l, hl, rfl⟩ := psV_at hy1
        obtain ⟨g, tl⟩ := okp l (List.mem_of_getElem? hl)
        have sT := same_upd (o := HO.tup [V.int (i : Nat), V.str (pstr l)]) hT
        have il : (ps.take i).length = i := by have := (List.getElem?_eq_some_iff.mp hl).1; rw [List.length_take]; omega
        refine ⟨_, _, rfl, SqT.of upd_same, rfl, _, _, rfl, _, _, rfl, rfl, rfl, ?_⟩
        refine ⟨_, rfl, _, rfl, l, a, f, rfl, sT _ _ (s4 _ _ haf), g, by rw [tl]; exact okf f (List.mem_of_getElem? hf), by omega, fun H6 s6 => ⟨_, rfl, ?_⟩⟩
        have sn := idxs_snoc (ps.take i) l f
        rw [il, ← take_snoc hl] at sn
        by_cases hh : holds l f = true
        · rw [if_pos hh] at sn
          rw [hh]
          refine iteT ⟨_, rfl, _, s6 _ _ (sT _ _ hd4), ?_, fun c o hc => ?_, ?_⟩
          · rw [List.length_map]; have := idxs_len (ps.take i) f; rw [il] at this; have h9 := (List.getElem?_eq_some_iff.mp hl).1; exact small4k (by omega)
          · rw [upd_ne (ne_of_none hc hD2)]; exact s6 _ _ (sT _ _ (s4 _ _ hc))
          · rw [upd_same, sn, List.map_append]; rfl
        · rw [if_neg hh, List.append_nil] at sn
          rw [Bool.eq_false_iff.mpr hh]
          refine iteF ⟨(s4.trans sT).trans s6, ?_⟩
          rw [sn]; exact s6 _ _ (sT _ _ hd4)
      · rintro H4 ⟨s4, hd4⟩
        have e : (psV ps).length = ps.length := by unfold psV; rw [List.length_map]
        rw [e, List.take_length] at hd4
        have hd5 := s4 _ _ hd
        have n2 : D2 ≠ D := (ne_of_none hd hD2).symm
        refine ⟨_, hd5, by rw [List.length_map]; exact small1000 (by omega), Us ++ [D2], by rw [List.length_append, ul]; rfl, fun c o hc => ?_, by rw [upd_same, List.map_append]; rfl, fun i c f' e6 e7 => ?_⟩
        · rw [upd_ne (ne_of_none hc hD)]; exact s4 _ _ (s2 _ _ hc)
        · by_cases z : i < Us.length
          · rw [List.getElem?_append_left z] at e6
            obtain ⟨z1, z2⟩ := hU i c f' e6 e7
            exact ⟨z1, by rw [upd_ne z1]; exact s4 _ _ z2⟩
          · rw [List.getElem?_append_right (by omega)] at e6
            cases y : i - Us.length with
            | succ m => rw [y] at e6; simp at e6
            | zero =>
              rw [y] at e6; cases e6
              have : i = j := by omega
              subst this
              rw [hf] at e7; cases e7
              exact ⟨n2, by rw [upd_ne n2]; exact hd4⟩
    · rintro H1 ⟨Us, ul, s1, hd, hU⟩
      rw [List.length_map] at ul
      have e : (as.map V.ref).length = F.length := by rw [List.length_map, al]
      have hel : ∀ {z : Nat}, z < F.length → ∃ c f, (Us.map V.ref)[z]? = some (.ref c) ∧ F[z]? = some f ∧ H1 c = some (.lst ((idxs ps f).map V.int)) := fun {z} hz => by
        have e1 := List.getElem?_eq_getElem (l := Us) (i := z) (by omega)
        have e2 := List.getElem?_eq_getElem (l := F) hz
        exact ⟨_, _, by rw [List.getElem?_map, e1]; rfl, e2, (hU z _ _ e1 e2).2⟩
      refine ⟨_, rfl, p, _, rfl, .inl (SqL.of (s1 _ _ hp.ls)), _, rfl, by omega, by omega, for_it walk_range (fun i σ H' => ∃ v3 v4 v5 v6 v7 : Option V, σ = [some (.ref s), some (.ref p), some (.ref D), v3, v4, v5, v6, v7] ∧ Same H1 H' ∧ ∀ z, z < i → ¬ OneP ps F z) ⟨_, _, _, _, _, rfl, fun _ _ h => h, fun z h => by omega⟩ (fun _ _ _ _ _ => trivial) ?_ ?_⟩
      · rintro i x σ Hq H2 hi ⟨v3, v4, v5, v6, v7, rfl, s2, no⟩ ⟨rfl, rfl⟩
        obtain ⟨c, f, hc, hf, hcf⟩ := hel (z := i) (by omega)
        refine ⟨_, rfl, _, rfl, rd_ix (SqL.of (s2 _ _ hd)) hc (Int.zero_add _) ?_⟩
        refine ⟨by decide, fun q hq => ?_⟩
        have sq := same_upd (o := HO.lst []) hq
        refine ⟨_, _, .lst (SqL.of (sq _ _ (s2 _ _ hcf))) (dp_ints _), .lst (SqL.of upd_same) .nil, shaped_ints _, rfl, _, rfl, ?_⟩
        rw [eqv_inil]
        refine ite2d (fun h => ?_) fun h => ?_
        · refine ⟨_, rfl, (by show 1 ≤ sizeLine; decide), fun t ht => ?_⟩
          refine k _ _ [i] (((s1.trans s2).trans sq).trans (same_upd ht)) ⟨.inr (.inl ⟨i, rfl, by omega, ⟨f, hf, idxs_nil.mp h⟩, no⟩)⟩ (.inr ⟨by simp, t, rfl, ?_⟩)
          rw [upd_same]
          show some (HO.tup [V.int (0 + (i : Int))]) = _
          rw [Int.zero_add]; rfl
        · refine ⟨_, _, _, _, _, rfl, s2.trans sq, fun z hz => ?_⟩
          by_cases zi : z = i
          · subst zi
            rintro ⟨g, hg, hh⟩
            rw [hf] at hg; cases hg
            exact h (idxs_nil.mpr hh)
          · exact no z (by omega)
      · rintro σ H2 ⟨v3, v4, v5, v6, v7, rfl, s2, no⟩
        rw [e] at no
        refine ⟨_, rfl, p, _, rfl, .inl (SqL.of (s2 _ _ (s1 _ _ hp.ls))), _, rfl, by omega, by omega, for_it walk_range (fun i σ H' => ∃ v3 v4 v5 v6 v7 : Option V, σ = [some (.ref s), some (.ref p), some (.ref D), v3, v4, v5, v6, v7] ∧ Same H1 H' ∧ ∀ z u, z < i → z < u → u < F.length → ¬ TwoP ps F z u) ⟨_, _, _, _, _, rfl, s2, fun z u h => by omega⟩ (fun _ _ _ _ _ => trivial) ?_ ?_⟩
        · rintro i x σ Hq H3 hi ⟨v3', v4', v5', v6', v7', rfl, s3, no2⟩ ⟨rfl, rfl⟩
          obtain ⟨c, f, hc, hf, hcf⟩ := hel (z := i) (by omega)
          refine ⟨_, rfl, _, _, rfl, rfl, _, rfl, p, _, rfl, .inl (SqL.of (s3 _ _ (s1 _ _ hp.ls))), _, _, rfl, ⟨by omega, by omega, by omega, by omega⟩, for_it walk_range (fun j σ H' => ∃ v4 v5 v6 v7 : Option V, σ = [some (.ref s), some (.ref p), some (.ref D), some (.int (0 + (i : Nat))), v4, v5, v6, v7] ∧ Same H1 H' ∧ ∀ u, i < u → u < i + 1 + j → u < F.length → ¬ TwoP ps F i u) ⟨_, _, _, _, rfl, s3, fun u h1 h2 => by omega⟩ (fun _ _ _ _ _ => trivial) ?_ ?_⟩
          · rintro j x σ Hr H4 hj ⟨v4, v5, v6, v7, rfl, s4, no3⟩ ⟨rfl, rfl⟩
            have hlt : i + 1 + j < F.length := by omega
            obtain ⟨c2, g, hc2, hg, hcg⟩ := hel hlt
            refine ⟨_, rfl, _, rfl, rd_ix (SqL.of (s4 _ _ hd)) hc (Int.zero_add _) ⟨c, rfl, ⟨_, SqL.of (s4 _ _ hcf)⟩, fun E hE => lc_it walk_list (fun m H' => Same H4 H' ∧ H' E = some (.lst ((((idxs ps f).take m).filter fun z => decide (z ∈ idxs ps g)).map V.int))) ⟨same_upd hE, upd_same⟩ (fun m H' _ h => h.1.seq (SqL.of (s4 _ _ hcf))) ?_ ?_⟩⟩
            · rintro m v H5 H6 hm ⟨s5, hE5⟩ ⟨rfl, hx⟩
              obtain ⟨z, hz, rfl⟩ := at_int hx
              have s6 := s4.trans s5
              refine ⟨rfl, _, rfl, _, rfl, _, rfl, rd_ix (SqL.of (s6 _ _ hd)) hc2 (by show (0 : Int) + (i : Nat) + 1 + (j : Nat) = _; omega) ?_⟩
              refine ⟨c2, _, rfl, .inl (SqL.of (s6 _ _ hcg)), rfl, flat_ints _, _, rfl, ?_⟩
              show if inV (V.int z) ((idxs ps g).map V.int) = true then _ else _
              rw [in_ints]
              have tk1 : (idxs ps f).take (m + 1) = (idxs ps f).take m ++ [z] := take_snoc hz
              refine ite2d (fun h => ?_) fun h => ?_
              · refine ⟨_, rfl, _, hE5, ?_, fun b o hb => ?_, ?_⟩
                · have h8 := List.length_filter_le (fun z => decide (z ∈ idxs ps g)) ((idxs ps f).take m)
                  have h9 := idxs_len ps f
                  rw [List.length_take] at h8
                  rw [List.length_map]
                  exact small4k (by omega)
                · rw [upd_ne (ne_of_none hb hE)]; exact s5 _ _ hb
                · rw [upd_same, tk1, List.filter_append, List.filter_cons, if_pos (decide_eq_true h), List.filter_nil, List.map_append]; rfl
              · refine ⟨s5, ?_⟩
                rw [tk1, List.filter_append, List.filter_cons, if_neg (by rw [decide_eq_false h]; exact Bool.false_ne_true), List.filter_nil, List.append_nil]
                exact hE5
            · rintro H5 ⟨s5, hE5⟩
              rw [List.length_map, List.take_length] at hE5
              refine ⟨by decide, fun q hq => ?_⟩
              have sq := same_upd (o := HO.lst []) hq
              have s6 := s4.trans s5
              refine ⟨_, _, .lst (SqL.of (sq _ _ hE5)) (dp_ints _), .lst (SqL.of upd_same) .nil, shaped_ints _, rfl, _, rfl, ?_⟩
              rw [eqv_inil]
              refine ite2d (fun h => ?_) fun h => ?_
              · refine ⟨_, rfl, _, rfl, (by show 2 ≤ sizeLine; decide), fun t ht => ?_⟩
                refine k _ _ [i, i + 1 + j] (((s1.trans s6).trans sq).trans (same_upd ht)) ⟨.inr (.inr ⟨i, i + 1 + j, rfl, no, by omega, hlt, ⟨f, g, hf, hg, both_nil.mp h⟩, fun z u zu ul2 lex => ?_⟩)⟩ (.inr ⟨by simp, t, rfl, ?_⟩)
                · rcases lex with q1 | ⟨q1, q2⟩
                  · exact no2 z u q1 zu ul2
                  · subst q1; exact no3 u zu (by omega) ul2
                · rw [upd_same]
                  show some (HO.tup [V.int (0 + (i : Int)), V.int (0 + (i : Int) + 1 + (j : Nat))]) = some (HO.tup [V.int (i : Nat), V.int ((i + 1 + j : Nat) : Int)])
                  rw [Int.zero_add, show ((i + 1 + j : Nat) : Int) = (i : Int) + 1 + (j : Nat) by omega]
              · refine ⟨_, _, _, _, rfl, s6.trans sq, fun u h1 h2 h3 => ?_⟩
                by_cases ui : u = i + 1 + j
                · subst ui
                  rintro ⟨f', g', hf', hg', hh⟩
                  rw [hf] at hf'; rw [hg] at hg'; cases hf'; cases hg'
                  exact h (both_nil.mpr hh)
                · exact no3 u h1 (by omega) h3
          · rintro σ H4 ⟨v4, v5, v6, v7, rfl, s4, no3⟩
            refine ⟨_, _, _, _, _, rfl, s4, fun z u h1 h2 h3 => ?_⟩
            by_cases zi : z = i
            · subst zi; exact no3 u h2 (by omega) h3
            · exact no2 z u (by omega) h2 h3
        · rintro σ H3 ⟨v3', v4', v5', v6', v7', rfl, s3, no2⟩
          rw [e] at no2
          exact k _ _ [] (s1.trans s3) ⟨.inl ⟨rfl, no, fun x y h1 h2 => no2 x y (by omega) h1 h2⟩⟩ (.inl ⟨rfl, rfl⟩)
end
end LP

namespace LP
open PySem L2 LT LG LQ LH LC LX
section
variable {P : Program} {w : World} {K : PySem.W.Frag} {mg : Str → Option Value} {base : Heap}
def fdL (f : Fact) : List PyData := [.str (fw f), .int (fc1 f : Nat), .int (fc2 f : Nat)]
theorem sm_fdL {f : Fact} {n : Nat} (ok : f.ok n) (hn : n ≤ 200) : ∀ d ∈ fdL f, Sm d 0 200 := by
  have hw : Sm (.str (fw f)) 0 200 := by
    cases f with
    | bf i j => exact ⟨by show PyData.showable (.str "before") = true; decide +kernel, by show PyData.leavesShort 40 (.str "before") = true; decide +kernel, by show PyData.canLay0 (.str "before") = true; decide +kernel, Nat.le_refl _, by show PyData.weight (.str "before") ≤ 200; decide +kernel⟩
    | af i j => exact ⟨by show PyData.showable (.str "after") = true; decide +kernel, by show PyData.leavesShort 40 (.str "after") = true; decide +kernel, by show PyData.canLay0 (.str "after") = true; decide +kernel, Nat.le_refl _, by show PyData.weight (.str "after") ≤ 200; decide +kernel⟩
    | ou i j => exact ⟨by show PyData.showable (.str "out") = true; decide +kernel, by show PyData.leavesShort 40 (.str "out") = true; decide +kernel, by show PyData.canLay0 (.str "out") = true; decide +kernel, Nat.le_refl _, by show PyData.weight (.str "out") ≤ 200; decide +kernel⟩
  have hi : ∀ m : Nat, m ≤ 1000 → Sm (.int (m : Nat)) 0 200 := fun m hm => (Sm.int (by rw [Int.natAbs_natCast]; exact Nat.lt_of_le_of_lt hm (by decide))).mono (Nat.le_refl _) (by decide)
  have hb : fc1 f ≤ 400 ∧ fc2 f ≤ 400 := by
    cases f with
    | bf i j => obtain ⟨a, b⟩ := ok; exact ⟨by show i ≤ 400; omega, by show j ≤ 400; omega⟩
    | af i j => obtain ⟨a, b⟩ := ok; exact ⟨by show i ≤ 400; omega, by show j ≤ 400; omega⟩
    | ou i j => obtain ⟨a, b⟩ := ok; exact ⟨by show i ≤ 400; omega, by show j ≤ 400; omega⟩
  intro d hd
  rcases List.mem_cons.mp hd with rfl | hd
  · exact hw
  · rcases List.mem_cons.mp hd with rfl | hd
    · exact hi _ (by omega)
    · rw [List.mem_singleton.mp hd]; exact hi _ (by omega)
theorem dp_fdL {K : PySem.W.Frag} {H : Hp} (f : Fact) : DpAll K H (fcV f) (fdL f) := .cons (.str _) (.cons (.int _) (.cons (.int _) .nil))
theorem eqv_lnil (ds : List PyData) : PyData.eqv (.list ds) (.list []) = decide (ds = []) := by
  cases ds with
  | nil => simp [PyData.eqv, PyData.eqvAll]
  | cons a r => simp [PyData.eqv, PyData.eqvAll]
theorem FsL.same {H H' : Hp} {p : Addr} {F : List Fact} {as : List Addr} (h : FsL H p F as) (s : Same H H') : FsL H' p F as := ⟨s _ _ h.ls, h.len, fun i a f e1 e2 => s _ _ (h.at_ i a f e1 e2)⟩
theorem FsL.dp {K : PySem.W.Frag} {H : Hp} {p : Addr} {F : List Fact} {as : List Addr} (h : FsL H p F as) : Dp K H (.ref p) (.list (F.map fun f => .tuple (fdL f))) := by
  refine .lst (SqL.of h.ls) (dpAll_of (by rw [List.length_map, List.length_map, h.len]) fun i v d e1 e2 => ?_)
  obtain ⟨a, ha, rfl⟩ := at_ref e1
  rw [List.getElem?_map] at e2
  cases q : F[i]? with
  | none => rw [q] at e2; cases e2
  | some f =>
    rw [q] at e2; cases e2
    exact .tup (SqT.of (h.at_ i a f ha q)) (dp_fdL f)
theorem shaped_facts {F : List Fact} {n : Nat} (ok : ∀ f ∈ F, f.ok n) (hn : n ≤ 200) (hl : F.length ≤ 20) : SeqAt.shaped (.list (F.map fun f => .tuple (fdL f))) = true := by
  have h : Sm (.list (F.map fun f => .tuple (fdL f))) 2 20000 := by
    have := Sm.list (k := 1) (w := 603) (l := F.map fun f => .tuple (fdL f)) fun d hd => by
      obtain ⟨f, hf, rfl⟩ := List.mem_map.mp hd
      exact (Sm.tup (sm_fdL (ok f hf) hn)).mono (by decide) (by show (200 + 1) * 3 ≤ 603; decide)
    refine this.mono (by decide) ?_
    rw [List.length_map]
    calc (603 + 1) * F.length ≤ 604 * 20 := Nat.mul_le_mul_left _ hl
      _ ≤ 20000 := by decide
  exact (h.ok (by decide) (by decide)).2.1
theorem ok__law_fitting (e : Env P K mg) : FnOk P w K mg base CX0 2 e.a__law_fitting e.d__law_fitting ["some", "facts"] (sp__law_fitting) := by
  refine Fun.ok e.f__law_fitting sc__law_fitting (fun vs H Q E h => ?_) (fun cdv A outer s H vs Q E hr h => ?_)
  · obtain ⟨s, p, n, ps, F, as, rfl, _⟩ := h; rfl
  · obtain ⟨s, p, n, ps, F, as, rfl, hs, hp, okp, okf, hn, pl, fl, k⟩ := h
    have al := hp.len
    refine ⟨_, (pss_one (ps_ret (pe_lc (own := [("pattern", 2)]) rfl sc__law_fitting.nd (pi_list (pv 0)) (blkOk_by (N := ["some", "facts", "pattern", "fact"]) (sc := defScope s__law_fitting) (by decide +kernel)) (fun _ _ _ _ _ => (pg_name (i := 2) sc__law_fitting.nd rfl (by first | exact Or.inl rfl | exact Or.inr rfl))) (fun _ _ _ _ _ => pts_one (pt_cmpR (show OpR _ _ (rEqD K) from (op_eqD hr.units)) (pe_lc (own := [("fact", 3)]) rfl sc__law_fitting.nd (show PI _ _ _ (iList K _) from pi_list (pv 1)) (LX.blkOk_in (N := ["some", "facts", "pattern", "fact"]) (by decide +kernel)) (fun _ _ _ _ _ => (pg_name (i := 3) sc__law_fitting.nd rfl (by first | exact Or.inl rfl | exact Or.inr rfl))) (fun _ _ _ _ _ => pts_one (pt_not (pt_val (pe_call ((ok__law_holds e).mono (by decide)) hr rfl e.g__law_holds e.f__law_holds.kp e.b__law_holds .nil pass0 (pa_cons (pv 2) (pa_cons (pv 3) pa_nil)))))) (fun _ _ _ _ _ => (pv 3))) (pe_lst pa_nil) (nomark _))) (fun _ _ _ _ _ => (pv 2))))), ?_⟩
    refine ⟨_, rfl, s, rfl, ⟨_, SqL.of hs⟩, fun D hD => lc_it walk_list (fun j H' => Same H H' ∧ H' D = some (.lst (psV ((ps.take j).filter fun l => F.all (holds l))))) ⟨same_upd hD, upd_same⟩ (fun j H' _ h => h.1.seq (SqL.of hs)) ?_ ?_⟩
    · rintro j v H2 H3 hj ⟨s2, hd⟩ ⟨rfl, hx⟩
      obtain ⟨l, hl, rfl⟩ := psV_at hx
      obtain ⟨g, tl⟩ := okp l (List.mem_of_getElem? hl)
      refine ⟨rfl, _, rfl, p, rfl, ⟨_, SqL.of (s2 _ _ hp.ls)⟩, fun E hE => lc_it walk_list (fun i H' => ∃ (G : List Fact) (bs : List Addr), Same H3 H' ∧ H' E = some (.lst (bs.map V.ref)) ∧ bs.length = G.length ∧ (∀ (i : Nat) a f, bs[i]? = some a → G[i]? = some f → a ≠ E ∧ H' a = some (.tup (fcV f))) ∧ (∀ f ∈ G, f.ok n) ∧ G.length ≤ i ∧ (G = [] ↔ ∀ f ∈ F.take i, holds l f = true)) ⟨[], [], same_upd hE, upd_same, rfl, (fun i a f e => by simp at e), (fun f hf => by cases hf), Nat.le_refl _, (by simp)⟩ (fun i H' _ ⟨_, _, h, _⟩ => h.seq (SqL.of (s2 _ _ hp.ls))) ?_ ?_⟩
      · rintro i v H4 H5 hi ⟨G, bs, s4, hE4, bl, hb, okG, gl, hG⟩ ⟨rfl, hx2⟩
        rw [List.length_map] at hi
        obtain ⟨a, ha, rfl⟩ := at_ref hx2
        have hf := List.getElem?_eq_getElem (l := F) (i := i) (by omega)
        generalize F[i]'(by omega) = f at hf
        have haf := s4 _ _ (s2 _ _ (hp.at_ i a f ha hf))
        have okf1 := okf f (List.mem_of_getElem? hf)
        refine ⟨rfl, _, rfl, _, rfl, l, a, f, rfl, haf, g, by rw [tl]; exact okf1, by omega, fun H6 s6 => ⟨_, rfl, ?_⟩⟩
        have hE6 := s6 _ _ hE4
        by_cases hh : holds l f = true
        · rw [hh]
          refine iteF ⟨G, bs, s4.trans s6, hE6, bl, fun i a f e1 e2 => ⟨(hb i a f e1 e2).1, s6 _ _ (hb i a f e1 e2).2⟩, okG, by omega, ?_⟩
          rw [hG, take_snoc hf]
          constructor
          · intro h f' hf'
            rcases List.mem_append.mp hf' with z | z
            · exact h f' z
            · rw [List.mem_singleton.mp z]; exact hh
          · exact fun h f' hf' => h f' (List.mem_append_left _ hf')
        · rw [Bool.eq_false_iff.mpr hh]
          have na : a ≠ E := fun e => by subst e; rw [hE4] at haf; cases haf
          refine iteT ⟨_, rfl, _, hE6, by rw [List.length_map]; exact small1000 (by omega), G ++ [f], bs ++ [a], fun b o hb2 => ?_, by rw [upd_same, List.map_append]; rfl, by rw [List.length_append, List.length_append, bl]; rfl, fun i' a' f' e1 e2 => ?_, fun f' hf' => ?_, by rw [List.length_append, List.length_singleton]; omega, ?_⟩
          · rw [upd_ne (ne_of_none hb2 hE)]; exact s6 _ _ (s4 _ _ hb2)
          · by_cases z : i' < bs.length
            · rw [List.getElem?_append_left z] at e1
              rw [List.getElem?_append_left (by omega)] at e2
              obtain ⟨z1, z2⟩ := hb i' a' f' e1 e2
              exact ⟨z1, by rw [upd_ne z1]; exact s6 _ _ z2⟩
            · rw [List.getElem?_append_right (by omega)] at e1
              rw [List.getElem?_append_right (by omega), ← bl] at e2
              cases y : i' - bs.length with
              | succ m => rw [y] at e1; simp at e1
              | zero =>
                rw [y] at e1 e2; cases e1; cases e2
                exact ⟨na, by rw [upd_ne na]; exact s6 _ _ haf⟩
          · rcases List.mem_append.mp hf' with z | z
            · exact okG f' z
            · rw [List.mem_singleton.mp z]; exact okf1
          · constructor
            · intro h; simp at h
            · intro h
              exact absurd (h f (by rw [take_snoc hf]; exact List.mem_append_right _ (List.mem_singleton.mpr rfl))) hh
      · rintro H4 ⟨G, bs, s4, hE4, bl, hb, okG, gl, hG⟩
        rw [List.length_map, al] at gl hG
        rw [List.take_length] at hG
        refine ⟨by decide, fun q hq => ?_⟩
        have sq := same_upd (o := HO.lst []) hq
        have fg : FsL (upd H4 q (.lst [])) E G bs := ⟨sq _ _ hE4, bl, fun i a f e1 e2 => sq _ _ (hb i a f e1 e2).2⟩
        refine ⟨_, _, fg.dp, .lst (SqL.of upd_same) .nil, shaped_facts okG (by omega) (by omega), rfl, _, rfl, ?_⟩
        rw [eqv_lnil]
        have hiff : (G.map fun f => PyData.tuple (fdL f)) = [] ↔ F.all (holds l) = true := by
          rw [List.map_eq_nil_iff, hG, List.all_eq_true]
        have s5 := (s2.trans s4).trans sq
        have hd5 := sq _ _ (s4 _ _ hd)
        refine ite2d (fun h => ?_) fun h => ?_
        · refine ⟨_, rfl, _, hd5, ?_, fun b o hb2 => ?_, ?_⟩
          · have := List.length_filter_le (fun l => F.all (holds l)) (ps.take j)
            rw [List.length_take] at this
            unfold psV
            rw [List.length_map]; exact small4k (by omega)
          · rw [upd_ne (ne_of_none hb2 hD)]; exact s5 _ _ hb2
          · rw [upd_same, take_snoc hl, List.filter_append, List.filter_cons, if_pos (hiff.mp h), List.filter_nil]
            unfold psV
            rw [List.map_append]; rfl
        · refine ⟨s5, ?_⟩
          rw [take_snoc hl, List.filter_append, List.filter_cons, if_neg (fun z => h (hiff.mpr z)), List.filter_nil, List.append_nil]
          exact hd5
    · rintro H2 ⟨s2, hd⟩
      have e : (psV ps).length = ps.length := by unfold psV; rw [List.length_map]
      rw [e, List.take_length] at hd
      exact k _ D s2 hD hd
end
end LP

namespace LP
open PySem L2 LT LG LQ LH LC LX
section
variable {P : Program} {w : World} {K : PySem.W.Frag} {mg : Str → Option Value} {base : Heap}
theorem stir_total {t c : Int} (h : 0 ≤ t) (h2 : t < M61) : 0 ≤ (t * 1000003 + c % M61 + 1) % M61 ∧ (t * 1000003 + c % M61 + 1) % M61 < M61 := ⟨Int.emod_nonneg _ (by decide), Int.emod_lt_of_pos _ (by decide)⟩
theorem ok__law_bag (e : Env P K mg) : FnOk P w K mg base CX0 1 e.a__law_bag e.d__law_bag ["script"] (sp__law_bag K) := by
  refine Fun.ok e.f__law_bag sc__law_bag (fun vs H Q E h => ?_) (fun cdv A outer s H vs Q E hr h => ?_)
  · obtain ⟨a, ns, rfl, _⟩ := h; rfl
  · obtain ⟨a, ns, rfl, hS, hl, k⟩ := h
    refine ⟨_, (pss_cons (ps_set (i := 1) sc__law_bag.nd rfl (by first | exact Or.inl rfl | exact Or.inr rfl) pe_int)
      (pss_cons (ps_for PassesOwn.never rfl (pi_list (pv 0)) (pg_name (i := 2) sc__law_bag.nd rfl (by first | exact Or.inl rfl | exact Or.inr rfl))
      (pss_one (ps_set (i := 1) sc__law_bag.nd rfl (by first | exact Or.inl rfl | exact Or.inr rfl) (pe_op op_mod (pe_op op_add (pe_op op_add (pe_op op_mul (pv 1) pe_int) (pe_op op_mod (pv 2) pe_int)) pe_int) pe_int))))
      (pss_one (ps_ret (pe_lst (pa_cons (pe_callTy LS.call_list (by rfl) e.n_list (by decide +kernel) (pa_cons (pv 0) pa_nil)) (pa_cons pe_int (pa_cons pe_int (pa_cons pe_int (pa_cons (pv 1) pa_nil)))))))))), ?_⟩
    refine ⟨_, rfl, a, rfl, ⟨_, hS⟩, for_it walk_list (fun i σ H1 => ∃ (t : Int) (v : Option V), 0 ≤ t ∧ t < M61 ∧ H1 = H ∧ σ = [some (.ref a), some (.int t), v])
      ⟨1, none, by decide, by decide, rfl, rfl⟩ (fun i σ H1 _ ⟨_, _, _, _, e1, _⟩ => by rw [e1]; exact hS) ?_ ?_⟩
    · rintro i x σ H1 H2 hi ⟨t, v, h0, h1, rfl, rfl⟩ ⟨rfl, hx⟩
      rw [List.getElem?_map] at hx
      cases q : ns[i]? with
      | none => rw [q] at hx; cases hx
      | some c =>
        rw [q] at hx; cases hx
        refine ⟨_, rfl, _, _, rfl, rfl, .inr ⟨by decide, by decide⟩, ?_⟩
        refine ⟨_, rfl, _, _, rfl, rfl, (by show (0 : Int) < M61; decide), _, _, rfl, rfl, _, _, rfl, rfl, _, _, rfl, rfl, (by show (0 : Int) < M61; decide), ?_⟩
        have z := stir_total (c := c) h0 h1
        exact ⟨_, _, z.1, z.2, rfl, rfl⟩
    · rintro σ H1 ⟨t, v, h0, h1, rfl, rfl⟩
      refine ⟨_, rfl, a, _, rfl, .inl hS, fun l hl' => ?_⟩
      refine ⟨_, rfl, (by show 5 ≤ sizeLine; decide), fun b hb => ?_⟩
      have hb0 := (same_upd hl').free hb
      have n1 : l ≠ b := ne_of_none upd_same hb
      refine k _ b l ((same_upd hl').trans (same_upd hb)) hb0 hl' ⟨⟨0, 0, 0, t, upd_same, by decide, by omega, by decide, by decide, h0, h1⟩, ?_, n1⟩
      rw [upd_ne n1, upd_same]
theorem ok__law_stir (e : Env P K mg) : FnOk P w K mg base CX0 1 e.a__law_stir e.d__law_stir ["number", "place"] (sp__law_stir) := by
  refine Fun.ok e.f__law_stir sc__law_stir (fun vs H Q E h => ?_) (fun cdv A outer s H vs Q E hr h => ?_)
  · obtain ⟨x, y, rfl, _⟩ := h; rfl
  · obtain ⟨x, y, rfl, h1, h2, h3, h4, k⟩ := h
    refine ⟨_, (pss_cons (ps_set (i := 2) sc__law_stir.nd rfl (by first | exact Or.inl rfl | exact Or.inr rfl) (pe_op op_mod (pe_op op_add (pe_op op_add (pe_op op_mul (pv 0) pe_int) (pe_op op_mul (pv 1) pe_int)) pe_int) pe_int))
      (pss_cons (ps_set (i := 3) sc__law_stir.nd rfl (by first | exact Or.inl rfl | exact Or.inr rfl) (pe_op op_mod (pe_op op_mul (pv 2) (pv 2)) pe_int))
      (pss_one (ps_ret (pe_op op_fdivW (pe_op op_mod (pe_op op_add (pe_op op_add (pe_op op_mul (pv 3) pe_int) (pe_op op_mul (pe_op op_mul (pv 1) (pv 1)) pe_int)) (pe_op op_fdivW (pv 2) pe_int)) pe_int) pe_int))))), ?_⟩
    refine ⟨_, rfl, _, _, rfl, rfl, .inr ⟨by decide, by decide⟩, _, rfl, _, _, rfl, rfl, .inr ⟨by decide, by decide⟩, _, _, rfl, rfl, _, _, rfl, rfl, _, _, rfl, rfl, (by show (0 : Int) < M61; decide), ?_⟩
    have o1 : 0 ≤ (x * 998244353 + y * 1000000007 + 5) % M61 := Int.emod_nonneg _ (by decide)
    have o2 : (x * 998244353 + y * 1000000007 + 5) % M61 < M61 := Int.emod_lt_of_pos _ (by decide)
    have m64 : M61 < 2 ^ 64 := by decide
    have m0 : -(2 ^ 64) < (0 : Int) := by decide
    refine ⟨_, rfl, _, rfl, _, _, rfl, rfl, .inl ⟨Int.lt_of_lt_of_le m0 o1, Int.lt_trans o2 m64⟩, _, _, rfl, rfl, (by show (0 : Int) < M61; decide), ?_⟩
    have y1 : -(2 ^ 64) < y := by omega
    have y2 : y < 2 ^ 64 := by omega
    refine ⟨_, rfl, _, _, rfl, rfl, .inr ⟨by decide, by decide⟩, _, rfl, _, rfl, _, _, rfl, rfl, .inl ⟨y1, y2⟩, _, _, rfl, rfl, .inr ⟨by decide, by decide⟩, _, _, rfl, rfl, _, rfl, _, _, rfl, rfl, ⟨by decide, by decide⟩, _, _, rfl, rfl, _, _, rfl, rfl, (by show (0 : Int) < 2305843009213693921; decide), _, _, rfl, rfl, ⟨by decide, by decide⟩, ?_⟩
    exact k _
theorem bag_get {K : PySem.W.Frag} {H : Hp} {b : Addr} {vs : List V} {j : Nat} {v : V} (h : H b = some (.lst vs)) (e : vs[j]? = some v) : ∃ (p : Addr) (xs : List V) (i : Int) (w : V), V.ref b = .ref p ∧ V.int j = .int i ∧ SqL K H p xs ∧ atI xs i = some w ∧ w = v := ⟨b, vs, j, v, rfl, rfl, SqL.of h, atI_nat e, rfl⟩
theorem ok__law_draw (e : Env P K mg) : FnOk P w K mg base CX0 2 e.a__law_draw e.d__law_draw ["bag", "bound"] (sp__law_draw) := by
  refine Fun.ok e.f__law_draw sc__law_draw (fun vs H Q E h => ?_) (fun cdv A outer s H vs Q E hr h => ?_)
  · obtain ⟨b, l, ns, d, n, rfl, _⟩ := h; rfl
  · obtain ⟨b, l, ns, d, n, rfl, G, hn, hn2, hd, hl, k⟩ := h
    refine ⟨_, (pss_cons (ps_if (pt_cmpR op_eq (pv 1) pe_int (nomark _))
        (pss_one (ps_ret pe_int))
        pss_nil)
      (pss_cons (ps_asg (pe_op op_add (pe_ix ix_list (pv 0) pe_int (fun _ _ => rfl)) pe_int) (pg_sub (pv 0) pe_int set_list))
      (pss_cons (ps_if (PW.pt (pw_and (pt_cmpR op_lt (pe_ix ix_list (pv 0) pe_int (fun _ _ => rfl)) pe_int (nomark _)) (pw_and1 (pt_cmpR op_eq (pe_ix ix_list (pv 0) pe_int (fun _ _ => rfl)) (pe_callB LS.call_len (by rfl) e.n_len PySem.boot_len (pa_cons (pe_ix ix_list (pv 0) pe_int (fun _ _ => rfl)) pa_nil)) (nomark _)))))
        (pss_one (ps_ret (pe_op op_mod (pe_call ((ok__law_stir e).mono (by decide)) hr rfl e.g__law_stir e.f__law_stir.kp e.b__law_stir .nil pass0 (pa_cons (pe_ix ix_list (pv 0) pe_int (fun _ _ => rfl)) (pa_cons (pe_ix ix_list (pv 0) pe_int (fun _ _ => rfl)) pa_nil))) (pv 1))))
        pss_nil)
      (pss_cons (ps_if (pt_cmpR op_lt (pe_ix ix_list (pv 0) pe_int (fun _ _ => rfl)) pe_int (nomark _))
        (pss_cons (ps_set (i := 2) sc__law_draw.nd rfl (by first | exact Or.inl rfl | exact Or.inr rfl) (pe_ix ix_list (pe_ix ix_list (pv 0) pe_int (fun _ _ => rfl)) (pe_ix ix_list (pv 0) pe_int (fun _ _ => rfl)) (fun _ _ => rfl)))
      (pss_cons (ps_asg (pe_op op_add (pe_ix ix_list (pv 0) pe_int (fun _ _ => rfl)) pe_int) (pg_sub (pv 0) pe_int set_list))
      (pss_cons (ps_if (pt_cmpR op_lt (pv 2) (pe_op op_pow pe_int pe_int) (nomark _))
        (pss_one (ps_ret (pe_op op_mod (pe_call ((ok__law_stir e).mono (by decide)) hr rfl e.g__law_stir e.f__law_stir.kp e.b__law_stir .nil pass0 (pa_cons (pe_op op_mod (pv 2) pe_int) (pa_cons (pe_ix ix_list (pv 0) pe_int (fun _ _ => rfl)) pa_nil))) (pv 1))))
        pss_nil)
      (pss_one (ps_asg (pe_op op_sub (pv 2) (pe_op op_pow pe_int pe_int)) (pg_sub (pv 0) pe_int set_list))))))
        pss_nil)
      (pss_cons (ps_set (i := 3) sc__law_draw.nd rfl (by first | exact Or.inl rfl | exact Or.inr rfl) (pe_op op_mod (pe_ix ix_list (pv 0) pe_int (fun _ _ => rfl)) (pv 1)))
      (pss_cons (ps_asg (pe_op op_fdivW (pe_ix ix_list (pv 0) pe_int (fun _ _ => rfl)) (pv 1)) (pg_sub (pv 0) pe_int set_list))
      (pss_one (ps_ret (pv 3))))))))), ?_⟩
    refine ⟨_, rfl, rfl, _, rfl, ite2d (fun h1 => ?_) fun h1 => ?_⟩
    · have e1 : n = 1 := V.int.inj h1
      exact k _ 0 (by decide) (by omega) (G.mono (by omega)) (Fr.refl _ _)
    · obtain ⟨⟨i, c, kk, t, hb, hi0, hi1, hk0, hk1, ht0, ht1⟩, hls, hne⟩ := id G
      refine ⟨_, rfl, b, _, _, _, rfl, rfl, SqL.of hb, rfl, _, _, rfl, rfl, _, rfl, b, _, _, 3, rfl, rfl, hb, rfl, ?_⟩
      have F : ∀ o, Fr H (upd H b o) b := fun o a x hx ha => by rw [upd_ne ha]; exact hx
      have hbb : ∀ o, upd H b o b = some o := fun o => upd_same
      have hll : ∀ o, upd H b o l = some (.lst (ns.map V.int)) := fun o => by rw [upd_ne hne]; exact hls
      have cl : ∀ c' : Int, Bag (upd H b (.lst [.ref l, .int i, .int c', .int (kk + 1), .int t])) b l ns (d + 1) := fun c' => ⟨⟨i, c', kk + 1, t, upd_same, hi0, hi1, by omega, by omega, ht0, ht1⟩, hll _, hne⟩
      have cl2 : ∀ (j c' : Int), 0 ≤ j → j ≤ ns.length → Bag (upd H b (.lst [.ref l, .int j, .int c', .int (kk + 1), .int t])) b l ns (d + 1) := fun j c' h0 h1 => ⟨⟨j, c', kk + 1, t, upd_same, h0, h1, by omega, by omega, ht0, ht1⟩, hll _, hne⟩
      have r0 : ∀ r : Int, 0 ≤ r % n := fun r => Int.emod_nonneg _ (by omega)
      have r1 : ∀ r : Int, r % n < n := fun r => Int.emod_lt_of_pos _ hn
      refine ⟨_, rfl, b, _, _, _, rfl, rfl, SqL.of upd_same, rfl, _, _, rfl, rfl, _, rfl, ite2d (fun hc => ?_) fun hc => ?_⟩
      · refine ⟨_, rfl, b, _, _, _, rfl, rfl, SqL.of upd_same, rfl, _, rfl, b, _, _, _, rfl, rfl, SqL.of upd_same, rfl, l, _, rfl, .inl (SqL.of (hll _)), rfl, _, rfl, ite2d (fun hi => ?_) fun hi => ?_⟩
        · refine ⟨_, rfl, b, _, _, _, rfl, rfl, SqL.of upd_same, rfl, _, rfl, b, _, _, _, rfl, rfl, SqL.of upd_same, rfl, t, kk + 1, rfl, ht0, ht1, by omega, by omega, fun r => ⟨_, rfl, _, _, rfl, rfl, hn, ?_⟩⟩
          exact k _ (r % n) (r0 r) (r1 r) (cl c) (F _)
        · refine ⟨_, rfl, b, _, _, _, rfl, rfl, SqL.of upd_same, rfl, _, _, rfl, rfl, _, rfl, iteD hc ?_⟩
          have hi2 : i ≠ ns.length := fun q => hi (by rw [q, List.length_map])
          have hi3 : i.toNat < ns.length := by omega
          refine ⟨_, rfl, b, _, _, _, rfl, rfl, SqL.of upd_same, rfl, _, rfl, b, _, _, _, rfl, rfl, SqL.of upd_same, rfl, _, _, _, _, rfl, rfl, SqL.of (hll _), at_of (j := i.toNat) (v := V.int ns[i.toNat]) (by omega) (by rw [List.getElem?_map, List.getElem?_eq_getElem hi3]; rfl), ?_⟩
          refine ⟨_, rfl, b, _, _, _, rfl, rfl, SqL.of upd_same, rfl, _, _, rfl, rfl, _, rfl, b, _, _, 1, rfl, rfl, upd_same, rfl, ?_⟩
          rw [upd_upd]
          generalize ns[i.toNat] = cell
          refine ⟨_, rfl, _, _, rfl, rfl, ⟨by decide, by decide, by decide⟩, _, _, rfl, rfl, _, rfl, ite2d (fun hq => ?_) fun hq => ?_⟩
          · refine ⟨_, rfl, _, _, rfl, rfl, (by show (0 : Int) < M61; decide), _, rfl, b, _, _, _, rfl, rfl, SqL.of upd_same, rfl, cell % M61, kk + 1, rfl, Int.emod_nonneg _ (by decide), Int.emod_lt_of_pos _ (by decide), by omega, by omega, fun r => ⟨_, rfl, _, _, rfl, rfl, hn, ?_⟩⟩
            exact k _ (r % n) (r0 r) (r1 r) (cl2 (i + 1) c (by omega) (by omega)) (F _)
          · refine ⟨_, rfl, _, _, rfl, rfl, ⟨by decide, by decide, by decide⟩, _, _, rfl, rfl, _, rfl, b, _, _, 2, rfl, rfl, upd_same, rfl, ?_⟩
            rw [upd_upd]
            refine ⟨_, rfl, b, _, _, _, rfl, rfl, SqL.of upd_same, rfl, _, rfl, _, _, rfl, rfl, hn, _, rfl, b, _, _, _, rfl, rfl, SqL.of upd_same, rfl, _, rfl, _, _, rfl, rfl, ⟨hn, hn2⟩, _, rfl, b, _, _, 2, rfl, rfl, upd_same, rfl, ?_⟩
            rw [upd_upd]
            exact ⟨_, rfl, k _ _ (r0 _) (r1 _) (cl2 (i + 1) _ (by omega) (by omega)) (F _)⟩
      · refine iteF ?_
        refine ⟨_, rfl, b, _, _, _, rfl, rfl, SqL.of upd_same, rfl, _, _, rfl, rfl, _, rfl, iteX hc ?_⟩
        refine ⟨_, rfl, b, _, _, _, rfl, rfl, SqL.of upd_same, rfl, _, rfl, _, _, rfl, rfl, hn, _, rfl, b, _, _, _, rfl, rfl, SqL.of upd_same, rfl, _, rfl, _, _, rfl, rfl, ⟨hn, hn2⟩, _, rfl, b, _, _, 2, rfl, rfl, upd_same, rfl, ?_⟩
        rw [upd_upd]
        exact ⟨_, rfl, k _ _ (r0 _) (r1 _) (cl _) (F _)⟩
end
end LP

namespace LP
open PySem L2 LT LG LQ LH LC LX
section
variable {P : Program} {w : World} {K : PySem.W.Frag} {mg : Str → Option Value} {base : Heap}
theorem Bag.upd {H : Hp} {b l D : Addr} {ns : List Int} {d : Nat} {o : HO} (g : Bag H b l ns d) (h1 : D ≠ b) (h2 : D ≠ l) : Bag (L2.upd H D o) b l ns d := by
  obtain ⟨⟨i, c, k, t, e1, e2⟩, ls, ne⟩ := g
  exact ⟨⟨i, c, k, t, by rw [upd_ne (Ne.symm h1)]; exact e1, e2⟩, by rw [upd_ne (Ne.symm h2)]; exact ls, ne⟩
theorem EA.sq {K : PySem.W.Frag} {H : Hp} {a : Addr} {xs : List V} (h : EA H a xs) : SqE K H a xs := h.elim (fun h => .inl (SqL.of h)) fun h => .inr (SqT.of h)
theorem EA.same {H H' : Hp} {a : Addr} {xs : List V} (h : EA H a xs) (s : Same H H') : EA H' a xs := h.imp (s _ _) (s _ _)
theorem EA.fr {H H' : Hp} {a b : Addr} {xs : List V} (h : EA H a xs) (s : Fr H H' b) (n : a ≠ b) : EA H' a xs := h.imp (fun h => s _ _ h n) fun h => s _ _ h n
theorem ok__law_either (e : Env P K mg) : FnOk P w K mg base CX0 3 e.a__law_either e.d__law_either ["bag", "items"] (sp__law_either) := by
  refine Fun.ok e.f__law_either sc__law_either (fun vs H Q E h => ?_) (fun cdv A outer s H vs Q E hr h => ?_)
  · obtain ⟨b, l, ns, d, p, xs, rfl, _⟩ := h; rfl
  · obtain ⟨b, l, ns, d, p, xs, rfl, G, hd, hl, hE, hpb, k⟩ := h
    refine ⟨_, (pss_one (ps_ret (pe_ix ix_list (pe_lst (pa_cons (pe_callTy LS.call_list (by rfl) e.n_list (by decide +kernel) (pa_cons (pv 1) pa_nil)) (pa_cons (pe_tupleOf (by rfl) e.n_tuple (pv 1)) pa_nil))) (pe_call ((ok__law_draw e).mono (by decide)) hr rfl e.g__law_draw e.f__law_draw.kp e.b__law_draw .nil pass0 (pa_cons (pv 0) (pa_cons pe_int pa_nil))) (fun _ _ => rfl)))), ?_⟩
    rcases hE with hS | hS
    · refine ⟨_, rfl, p, _, rfl, .inl (SqL.of hS), fun L hL => ?_⟩
      have sL := same_upd (o := HO.lst xs) hL
      refine ⟨_, rfl, .inl ⟨p, _, rfl, SqL.of (sL _ _ hS), fun q hq => ?_⟩⟩
      have sq := same_upd (o := HO.tup xs) hq
      refine ⟨(by show 2 ≤ sizeLine; decide), fun m hm => ?_⟩
      have sm := same_upd (o := HO.lst [.ref L, .ref q]) hm
      have G1 := ((G.same sL).same sq).same sm
      refine ⟨_, rfl, b, l, ns, d, 2, rfl, G1, by decide, by decide +kernel, by omega, hl, fun H4 r r0 r1 G4 F4 => ?_⟩
      have F : Fr H H4 b := (Fr.of ((sL.trans sq).trans sm)).trans F4
      have hm4 : H4 m = some (.lst [.ref L, .ref q]) := F4 _ _ upd_same (((G.same sL).same sq).ne_new hm)
      have hL4 := F4 _ _ (sm _ _ (sq _ _ upd_same)) (G.ne_new hL)
      have hq4 := F4 _ _ (sm _ _ upd_same) ((G.same sL).ne_new hq)
      obtain rfl | rfl : r = 0 ∨ r = 1 := by omega
      · exact rd_ix (j := 0) (SqL.of hm4) rfl rfl (k H4 L G4 F (G.ne_new hL) (.inl hL4))
      · exact rd_ix (j := 1) (SqL.of hm4) rfl rfl (k H4 q G4 F ((G.same sL).ne_new hq) (.inr hq4))
    · refine ⟨_, rfl, p, _, rfl, .inr (SqT.of hS), fun L hL => ?_⟩
      have sL := same_upd (o := HO.lst xs) hL
      refine ⟨_, rfl, .inr ⟨p, _, rfl, SqT.of (sL _ _ hS), ?_⟩⟩
      refine ⟨(by show 2 ≤ sizeLine; decide), fun m hm => ?_⟩
      have sm := same_upd (o := HO.lst [.ref L, .ref p]) hm
      have G1 := (G.same sL).same sm
      refine ⟨_, rfl, b, l, ns, d, 2, rfl, G1, by decide, by decide +kernel, by omega, hl, fun H4 r r0 r1 G4 F4 => ?_⟩
      have F : Fr H H4 b := (Fr.of (sL.trans sm)).trans F4
      have hm4 : H4 m = some (.lst [.ref L, .ref p]) := F4 _ _ upd_same ((G.same sL).ne_new hm)
      have hL4 := F4 _ _ (sm _ _ upd_same) (G.ne_new hL)
      have hq4 := F _ _ hS hpb
      obtain rfl | rfl : r = 0 ∨ r = 1 := by omega
      · exact rd_ix (j := 0) (SqL.of hm4) rfl rfl (k H4 L G4 F (G.ne_new hL) (.inl hL4))
      · exact rd_ix (j := 1) (SqL.of hm4) rfl rfl (k H4 p G4 F hpb (.inr hq4))
theorem fc_refs {f : Fact} {as : List Addr} : fcV f ≠ as.map V.ref := fun h => by
  unfold fcV at h
  cases as with
  | nil => cases h
  | cons a r => cases h
theorem ok__law_dressed (e : Env P K mg) : FnOk P w K mg base CX0 4 e.a__law_dressed e.d__law_dressed ["bag", "rows"] (sp__law_dressed) := by
  refine Fun.ok e.f__law_dressed sc__law_dressed (fun vs H Q E h => ?_) (fun cdv A outer s H vs Q E hr h => ?_)
  · obtain ⟨b, l, ns, d, p, F, as, rfl, _⟩ := h; rfl
  · obtain ⟨b, l, ns, d, p, F, as, rfl, G, hd, hl, fl, hp, fs, k⟩ := h
    have al := fs.len
    refine ⟨_, (pss_one (ps_ret (pe_call ((ok__law_either e).mono (by decide)) hr rfl e.g__law_either e.f__law_either.kp e.b__law_either .nil pass0 (pa_cons (pv 0) (pa_cons (pe_lc (own := [("one", 2)]) rfl sc__law_dressed.nd (pi_list (pv 1)) (blkOk_by (N := ["bag", "rows", "one"]) (sc := defScope s__law_dressed) (by decide +kernel)) (fun _ _ _ _ _ => (pg_name (i := 2) sc__law_dressed.nd rfl (by first | exact Or.inl rfl | exact Or.inr rfl))) (fun _ _ _ _ _ => pts_nil) (fun _ _ _ _ _ => (pe_call ((ok__law_either e).mono (by decide)) hr rfl e.g__law_either e.f__law_either.kp e.b__law_either .nil pass0 (pa_cons (pv 0) (pa_cons (pv 2) pa_nil))))) pa_nil))))), ?_⟩
    refine ⟨_, rfl, _, rfl, p, rfl, ⟨_, SqL.of hp⟩, fun D hD => lc_it walk_list (fun j H' => ∃ Us : List Addr, Us.length = j ∧ Bag H' b l ns (d + j) ∧ Fr H H' b ∧ H' D = some (.lst (Us.map V.ref)) ∧ ∀ (i : Nat) c f, Us[i]? = some c → F[i]? = some f → EA H' c (fcV f) ∧ c ≠ b)
      ⟨[], rfl, G.same (same_upd hD), Fr.of (same_upd hD), upd_same, fun i c f e => by simp at e⟩ (fun j H' _ ⟨_, _, _, s, _⟩ => SqL.of (s _ _ hp fs.nb)) ?_ ?_⟩
    · rintro j v H3 H4 hj ⟨Us, ul, G3, F3, hD3, hU⟩ ⟨rfl, hx⟩
      rw [List.length_map] at hj
      obtain ⟨c, hc, rfl⟩ := at_ref hx
      have hf := List.getElem?_eq_getElem (l := F) (i := j) (by omega)
      generalize F[j]'(by omega) = f at hf
      obtain ⟨hcf, hcb⟩ := fs.at_ j c f hc hf
      have nDb := G.ne_new hD
      refine ⟨rfl, _, rfl, _, rfl, b, l, ns, _, c, fcV f, rfl, G3, by omega, hl, hcf.fr F3 hcb, hcb, fun H5 q G5 F5 nq hq => ?_⟩
      have hD5 := F5 _ _ hD3 nDb
      have up : ∀ c f zs, EA H5 c (fcV f) → EA (upd H5 D (.lst zs)) c (fcV f) := fun c f zs h => by
        have : c ≠ D := fun e => by
          subst e
          rcases h with h | h
          · rw [hD5] at h; exact fc_refs (HO.lst.inj (Option.some.inj h)).symm
          · rw [hD5] at h; cases h
        exact h.imp (fun h => by rw [upd_ne this]; exact h) fun h => by rw [upd_ne this]; exact h
      refine ⟨_, hD5, by rw [List.length_map]; exact small1000 (by omega), Us ++ [q], by rw [List.length_append, ul]; rfl, ?_, ?_, by rw [upd_same, List.map_append]; rfl, fun i c' f' e6 e7 => ?_⟩
      · exact (G5.mono (by omega)).upd nDb (G.l_ne hD).symm
      · exact fun a o h n => by rw [upd_ne (ne_of_none h hD)]; exact F5 _ _ (F3 _ _ h n) n
      · by_cases z : i < Us.length
        · rw [List.getElem?_append_left z] at e6
          obtain ⟨z1, z2⟩ := hU i c' f' e6 e7
          exact ⟨up _ _ _ (z1.fr F5 z2), z2⟩
        · rw [List.getElem?_append_right (by omega)] at e6
          cases y : i - Us.length with
          | succ m => rw [y] at e6; simp at e6
          | zero =>
            rw [y] at e6; cases e6
            have : i = j := by omega
            subst this
            rw [hf] at e7; cases e7
            exact ⟨up _ _ _ hq, nq⟩
    · rintro H3 ⟨Us, ul, G3, F3, hD3, hU⟩
      rw [List.length_map] at ul G3
      have nDb := G.ne_new hD
      refine ⟨b, l, ns, _, D, Us.map V.ref, rfl, G3, by omega, hl, .inl hD3, nDb, fun H4 q G4 F4 nq hq => ?_⟩
      exact k H4 q Us (G4.mono (by omega)) (F3.trans F4) ⟨hq, nq, by omega, fun i a f e1 e2 => by
        obtain ⟨z1, z2⟩ := hU i a f e1 e2
        exact ⟨z1.fr F4 z2, z2⟩⟩
end
end LP

namespace LP
open PySem L2 LT LG LQ LH LC LX
section
variable {P : Program} {w : World} {K : PySem.W.Frag} {mg : Str → Option Value} {base : Heap}
theorem at_of {xs : List V} {j : Nat} {v : V} {z : Int} (hz : z = (j : Int)) (e : xs[j]? = some v) : atI xs z = some v := by
  subst hz
  unfold atI
  rw [ixN_at (List.getElem?_eq_some_iff.mp e).1]
  exact e
theorem log_nat {z : Int} {n : Nat} (e : z = (n : Int)) (h : n < 1024) : z.natAbs.log2 < 9000 := by subst e; exact log_small h
theorem ok__law_fact (e : Env P K mg) : FnOk P w K mg base CX0 3 e.a__law_fact e.d__law_fact ["bag", "count"] (sp__law_fact) := by
  refine Fun.ok e.f__law_fact sc__law_fact (fun vs H Q E h => ?_) (fun cdv A outer s H vs Q E hr h => ?_)
  · obtain ⟨b, l, ns, d, n, rfl, _⟩ := h; rfl
  · obtain ⟨b, l, ns, d, n, rfl, G, hd, hl, hn, k⟩ := h
    refine ⟨_, (pss_cons (ps_set (i := 2) sc__law_fact.nd rfl (by first | exact Or.inl rfl | exact Or.inr rfl) (pe_call ((ok__law_draw e).mono (by decide)) hr rfl e.g__law_draw e.f__law_draw.kp e.b__law_draw .nil pass0 (pa_cons (pv 0) (pa_cons pe_int pa_nil))))
      (pss_cons (ps_if (PW.pt (pw_or (pt_cmpR op_eq (pv 1) pe_int (nomark _)) (pw_or1 (pt_cmpR op_gt (pv 2) pe_int (nomark _)))))
        (pss_cons (ps_set (i := 3) sc__law_fact.nd rfl (by first | exact Or.inl rfl | exact Or.inr rfl) (pe_call ((ok__law_draw e).mono (by decide)) hr rfl e.g__law_draw e.f__law_draw.kp e.b__law_draw .nil pass0 (pa_cons (pv 0) (pa_cons (pe_op op_add (pe_op op_mul pe_int (pv 1)) pe_int) pa_nil))))
      (pss_cons (ps_set (i := 4) sc__law_fact.nd rfl (by first | exact Or.inl rfl | exact Or.inr rfl) (pe_ix ix_list (pe_lst (pa_cons (pe_call ((ok__law_draw e).mono (by decide)) hr rfl e.g__law_draw e.f__law_draw.kp e.b__law_draw .nil pass0 (pa_cons (pv 0) (pa_cons (pe_op op_add (pv 1) pe_int) pa_nil))) (pa_cons (pe_op op_mod (pv 3) pe_int) (pa_cons (pe_callB (LS.call_min2 rfl) (by rfl) e.n_min (by decide +kernel) (pa_cons (pv 1) (pa_cons (pe_op op_add (pe_op op_mod (pv 3) pe_int) (pe_op op_mul pe_int (pe_call ((ok__law_draw e).mono (by decide)) hr rfl e.g__law_draw e.f__law_draw.kp e.b__law_draw .nil pass0 (pa_cons (pv 0) (pa_cons pe_int pa_nil))))) pa_nil))) pa_nil)))) (pe_call ((ok__law_draw e).mono (by decide)) hr rfl e.g__law_draw e.f__law_draw.kp e.b__law_draw .nil pass0 (pa_cons (pv 0) (pa_cons pe_int pa_nil))) (fun _ _ => rfl)))
      (pss_one (ps_ret (pe_tup (pa_cons pe_str (pa_cons (pv 3) (pa_cons (pe_callB (LS.call_min2 rfl) (by rfl) e.n_min (by decide +kernel) (pa_cons (pv 4) (pa_cons (pv 1) pa_nil))) pa_nil))))))))
        pss_nil)
      (pss_one (ps_ret (pe_tup (pa_cons (pe_ix ix_list (pe_lst (pa_cons pe_str (pa_cons pe_str pa_nil))) (pv 2) (fun _ _ => rfl)) (pa_cons (pe_call ((ok__law_draw e).mono (by decide)) hr rfl e.g__law_draw e.f__law_draw.kp e.b__law_draw .nil pass0 (pa_cons (pv 0) (pa_cons (pv 1) pa_nil))) (pa_cons (pe_call ((ok__law_draw e).mono (by decide)) hr rfl e.g__law_draw e.f__law_draw.kp e.b__law_draw .nil pass0 (pa_cons (pv 0) (pa_cons (pv 1) pa_nil))) pa_nil)))))))), ?_⟩
    refine ⟨_, rfl, b, l, ns, d, 4, rfl, G, by decide, by decide +kernel, by omega, hl, fun H1 r r0 r1 G1 F1 => ?_⟩
    have A : ∀ (Hx : Hp) (q : Addr) (s mm : Int), 0 ≤ s → s < 2 * (n : Int) + 1 → 0 ≤ mm → Bag Hx b l ns (d + 6) → Fr H Hx b → Hx q = none → Q (.ref q) (upd Hx q (.tup [.str "out", .int s, .int (if (n : Int) < mm then (n : Int) else mm)])) := fun Hx q s mm s0 s1 m0 Gx Fx hq => by
      obtain ⟨s', rfl⟩ : ∃ s' : Nat, s = (s' : Int) := ⟨s.toNat, by omega⟩
      obtain ⟨m', e⟩ : ∃ m' : Nat, (if (n : Int) < mm then (n : Int) else mm) = (m' : Int) := by
        split
        · exact ⟨n, rfl⟩
        · exact ⟨mm.toNat, by omega⟩
      have hm : m' ≤ n := by
        split at e <;> omega
      rw [e]
      refine k _ q (.ou s' m') (Gx.same (same_upd hq)) (Fx.trans (Fr.of (same_upd hq))) (Gx.ne_new hq) upd_same ⟨by omega, hm⟩
    have body : ∀ (c : Prop), c → True := fun _ _ => trivial
    refine ⟨_, rfl, rfl, _, rfl, ite2d (fun h1 => ?_) fun h1 => ?_⟩
    · refine iteT ?_
      refine ⟨_, rfl, _, rfl, _, _, rfl, rfl, .inl ⟨by decide, by decide⟩, _, _, rfl, rfl, b, l, ns, _, 2 * (n : Int) + 1, rfl, G1, by omega, log_nat (n := 2 * n + 1) (by omega) (by omega), by omega, hl, fun H2 s s0 s1 G2 F2 => ?_⟩
      refine ⟨_, rfl, _, rfl, _, _, rfl, rfl, b, l, ns, _, (n : Int) + 1, rfl, G2, by omega, log_nat (n := n + 1) (by omega) (by omega), by omega, hl, fun H3 t t0 t1 G3 F3 => ?_⟩
      refine ⟨_, rfl, _, _, rfl, rfl, (by show (0 : Int) < 2; decide), ?_⟩
      refine ⟨_, rfl, _, rfl, _, _, rfl, rfl, (by show (0 : Int) < 2; decide), _, rfl, b, l, ns, _, 3, rfl, G3, by decide, by decide +kernel, by omega, hl, fun H4 u u0 u1 G4 F4 => ?_⟩
      refine ⟨_, _, rfl, rfl, .inl ⟨by decide, by decide⟩, _, _, rfl, rfl, _, _, rfl, (by show 3 ≤ sizeLine; decide), fun m hm => ?_⟩
      have sm := same_upd (o := HO.lst [V.int t, V.int (s % 2), V.int (if s % 2 + 2 * u < (n : Int) then s % 2 + 2 * u else (n : Int))]) hm
      refine ⟨_, rfl, b, l, ns, _, 3, rfl, G4.same sm, by decide, by decide +kernel, by omega, hl, fun H5 v v0 v1 G5 F5 => ?_⟩
      have hm5 := F5 _ _ upd_same (G4.ne_new hm)
      obtain ⟨mm, m0, hat⟩ : ∃ mm : Int, 0 ≤ mm ∧ atI [V.int t, V.int (s % 2), V.int (if s % 2 + 2 * u < (n : Int) then s % 2 + 2 * u else (n : Int))] v = some (.int mm) := by
        obtain rfl | rfl | rfl : v = 0 ∨ v = 1 ∨ v = 2 := by omega
        · exact ⟨t, t0, at_of (j := 0) rfl rfl⟩
        · exact ⟨s % 2, by omega, at_of (j := 1) rfl rfl⟩
        · exact ⟨_, by split <;> omega, at_of (j := 2) rfl rfl⟩
      refine ⟨m, _, _, _, rfl, rfl, SqL.of hm5, hat, ?_⟩
      exact ⟨_, rfl, _, rfl, _, rfl, _, _, rfl, (by show 3 ≤ sizeLine; decide), fun q hq => A H5 q s mm s0 s1 m0 (G5.mono (by omega)) ((((F1.trans F2).trans F3).trans F4).trans ((Fr.of sm).trans F5)) hq⟩
    · refine ⟨_, rfl, _, _, rfl, rfl, _, rfl, ite2d (fun h2 => ?_) fun h2 => ?_⟩
      · refine ⟨_, rfl, _, rfl, _, _, rfl, rfl, .inl ⟨by decide, by decide⟩, _, _, rfl, rfl, b, l, ns, _, 2 * (n : Int) + 1, rfl, G1, by omega, log_nat (n := 2 * n + 1) (by omega) (by omega), by omega, hl, fun H2 s s0 s1 G2 F2 => ?_⟩
        refine ⟨_, rfl, _, rfl, _, _, rfl, rfl, b, l, ns, _, (n : Int) + 1, rfl, G2, by omega, log_nat (n := n + 1) (by omega) (by omega), by omega, hl, fun H3 t t0 t1 G3 F3 => ?_⟩
        refine ⟨_, rfl, _, _, rfl, rfl, (by show (0 : Int) < 2; decide), ?_⟩
        refine ⟨_, rfl, _, rfl, _, _, rfl, rfl, (by show (0 : Int) < 2; decide), _, rfl, b, l, ns, _, 3, rfl, G3, by decide, by decide +kernel, by omega, hl, fun H4 u u0 u1 G4 F4 => ?_⟩
        refine ⟨_, _, rfl, rfl, .inl ⟨by decide, by decide⟩, _, _, rfl, rfl, _, _, rfl, (by show 3 ≤ sizeLine; decide), fun m hm => ?_⟩
        have sm := same_upd (o := HO.lst [V.int t, V.int (s % 2), V.int (if s % 2 + 2 * u < (n : Int) then s % 2 + 2 * u else (n : Int))]) hm
        refine ⟨_, rfl, b, l, ns, _, 3, rfl, G4.same sm, by decide, by decide +kernel, by omega, hl, fun H5 v v0 v1 G5 F5 => ?_⟩
        have hm5 := F5 _ _ upd_same (G4.ne_new hm)
        obtain ⟨mm, m0, hat⟩ : ∃ mm : Int, 0 ≤ mm ∧ atI [V.int t, V.int (s % 2), V.int (if s % 2 + 2 * u < (n : Int) then s % 2 + 2 * u else (n : Int))] v = some (.int mm) := by
          obtain rfl | rfl | rfl : v = 0 ∨ v = 1 ∨ v = 2 := by omega
          · exact ⟨t, t0, at_of (j := 0) rfl rfl⟩
          · exact ⟨s % 2, by omega, at_of (j := 1) rfl rfl⟩
          · exact ⟨_, by split <;> omega, at_of (j := 2) rfl rfl⟩
        refine ⟨m, _, _, _, rfl, rfl, SqL.of hm5, hat, ?_⟩
        exact ⟨_, rfl, _, rfl, _, rfl, _, _, rfl, (by show 3 ≤ sizeLine; decide), fun q hq => A H5 q s mm s0 s1 m0 (G5.mono (by omega)) ((((F1.trans F2).trans F3).trans F4).trans ((Fr.of sm).trans F5)) hq⟩
      · have hw : r = 0 ∨ r = 1 := by omega
        refine ⟨by show 2 ≤ sizeLine; decide, fun m hm => ?_⟩
        have sm := same_upd (o := HO.lst [V.str "before", V.str "after"]) hm
        obtain ⟨wd, hwd, hat⟩ : ∃ v, (v = V.str "before" ∨ v = V.str "after") ∧ atI [V.str "before", V.str "after"] r = some v := by
          rcases hw with rfl | rfl
          · exact ⟨_, .inl rfl, at_of (j := 0) rfl rfl⟩
          · exact ⟨_, .inr rfl, at_of (j := 1) rfl rfl⟩
        refine ⟨_, rfl, m, _, _, _, rfl, rfl, SqL.of upd_same, hat, ?_⟩
        have n0 : 0 < n := by
          rcases Nat.eq_zero_or_pos n with z | z
          · exact absurd (congrArg V.int (show (n : Int) = 0 by omega)) h1
          · exact z
        refine ⟨_, rfl, _, rfl, b, l, ns, _, (n : Int), rfl, G1.same sm, by omega, log_nat (n := n) rfl (by omega), by omega, hl, fun H2 s s0 s1 G2 F2 => ?_⟩
        refine ⟨_, rfl, _, rfl, b, l, ns, _, (n : Int), rfl, G2, by omega, log_nat (n := n) rfl (by omega), by omega, hl, fun H3 t t0 t1 G3 F3 => ?_⟩
        refine ⟨by show 3 ≤ sizeLine; decide, fun q hq => ?_⟩
        obtain ⟨s', rfl⟩ : ∃ s' : Nat, s = (s' : Int) := ⟨s.toNat, by omega⟩
        obtain ⟨t', rfl⟩ : ∃ t' : Nat, t = (t' : Int) := ⟨t.toNat, by omega⟩
        have FF : Fr H (upd H3 q (.tup [wd, .int (s' : Nat), .int (t' : Nat)])) b := (((F1.trans (Fr.of sm)).trans F2).trans F3).trans (Fr.of (same_upd hq))
        have GG := (G3.same (same_upd (o := .tup [wd, .int (s' : Nat), .int (t' : Nat)]) hq)).mono (d' := d + 6) (by omega)
        rcases hwd with rfl | rfl
        · exact k _ q (.bf s' t') GG FF (G3.ne_new hq) upd_same ⟨by omega, by omega⟩
        · exact k _ q (.af s' t') GG FF (G3.ne_new hq) upd_same ⟨by omega, by omega⟩
end
end LP

namespace LP
open PySem L2 LT LG LQ LH LC LX
section
variable {P : Program} {w : World} {K : PySem.W.Frag} {mg : Str → Option Value} {base : Heap}
theorem get_erase {α : Type} : ∀ {l : List α} {i : Nat} {x : α}, l[i]? = some x → (x :: l.eraseIdx i).Perm l
  | [], i, x, h => by simp at h
  | a :: r, 0, x, h => by
    have e : a = x := Option.some.inj h
    subst e; exact List.Perm.refl _
  | a :: r, i + 1, x, h => by
    have ih := get_erase (l := r) (i := i) (x := x) h
    exact (List.Perm.swap a x (r.eraseIdx i)).trans (ih.cons a)
theorem pop_perm {lf dn xs : List Int} {i : Nat} {x : Int} (h : (lf ++ dn).Perm xs) (hx : lf[i]? = some x) : (lf.eraseIdx i ++ (dn ++ [x])).Perm xs := by
  refine List.Perm.trans ?_ h
  have p : (x :: lf.eraseIdx i).Perm lf := get_erase hx
  have q : (lf.eraseIdx i ++ (dn ++ [x])).Perm (x :: (lf.eraseIdx i ++ dn)) := by
    rw [← List.append_assoc]
    exact List.perm_append_singleton _ _
  exact q.trans ((List.perm_append_right_iff dn).mpr p)
theorem ok__law_shuffled (e : Env P K mg) : FnOk P w K mg base CX0 3 e.a__law_shuffled e.d__law_shuffled ["bag", "items"] (sp__law_shuffled K) := by
  refine Fun.ok e.f__law_shuffled sc__law_shuffled (fun vs H Q E h => ?_) (fun cdv A outer s H vs Q E hr h => ?_)
  · obtain ⟨b, l, ns, d, p, xs, rfl, _⟩ := h; rfl
  · obtain ⟨b, l, ns, d, p, xs, rfl, G, hd, hl, hS, hx, hpb, k⟩ := h
    refine ⟨_, (pss_cons (ps_set (i := 2) sc__law_shuffled.nd rfl (by first | exact Or.inl rfl | exact Or.inr rfl) (pe_callTy LS.call_list (by rfl) e.n_list (by decide +kernel) (pa_cons (pv 1) pa_nil)))
      (pss_one (ps_ret (pe_lc (own := [("step", 3)]) rfl sc__law_shuffled.nd (pi_range1 (by rfl) e.n_range (pa_cons (pe_callB LS.call_len (by rfl) e.n_len PySem.boot_len (pa_cons (pv 1) pa_nil)) pa_nil)) (blkOk_by (N := ["bag", "items", "left", "step"]) (sc := defScope s__law_shuffled) (by decide +kernel)) (fun _ _ _ _ _ => (pg_name (i := 3) sc__law_shuffled.nd rfl (by first | exact Or.inl rfl | exact Or.inr rfl))) (fun _ _ _ _ _ => pts_nil) (fun _ _ _ _ _ => (show PE _ _ (tBM K "list" _ _ _) from pe_bm PySem.F.plainAttrs_list PySem.F.slot_list_pop PySem.F.type_list_pop mt_popAt (pv 2) (pa_cons (pe_call ((ok__law_draw e).mono (by decide)) hr rfl e.g__law_draw e.f__law_draw.kp e.b__law_draw .nil pass0 (pa_cons (pv 0) (pa_cons (pe_callB (show CallR _ _ (rLenS K) from LS.call_len) (by rfl) e.n_len PySem.boot_len (pa_cons (pv 2) pa_nil)) pa_nil))) pa_nil))))))), ?_⟩
    refine ⟨_, rfl, p, _, rfl, .inl hS, fun L hL => ?_⟩
    have sL := same_upd (o := HO.lst (xs.map V.int)) hL
    have nLb : L ≠ b := G.ne_new hL
    refine ⟨_, rfl, p, _, rfl, .inl (sL.seq hS), _, rfl, by rw [List.length_map]; omega, by rw [List.length_map]; omega, fun D hD => ?_⟩
    have sD := same_upd (o := HO.lst []) hD
    have nDb : D ≠ b := (G.same sL).ne_new hD
    have nLD : L ≠ D := ne_of_none upd_same hD
    refine lc_it walk_range (fun j H' => ∃ lf dn : List Int, (lf ++ dn).Perm xs ∧ dn.length = j ∧ Bag H' b l ns (d + j) ∧ Fr H H' b ∧ H' L = some (.lst (lf.map V.int)) ∧ H' D = some (.lst (dn.map V.int)))
      ⟨xs, [], by rw [List.append_nil], rfl, (G.same sL).same sD, Fr.of (sL.trans sD), sD _ _ upd_same, upd_same⟩ (fun _ _ _ _ => trivial) ?_ ?_
    · rintro j x H2 H3 hj ⟨lf, dn, pm, dl, G2, F2, hL2, hD2⟩ ⟨rfl, rfl⟩
      replace hj : j < (xs.map V.int).length := hj
      rw [List.length_map] at hj
      have hlen := pm.length_eq
      rw [List.length_append] at hlen
      refine ⟨rfl, _, rfl, .inl ⟨rfl, _, SqL.of hL2⟩, _, rfl, _, rfl, L, _, rfl, .inl (SqL.of hL2), b, l, ns, _, _, rfl, G2, by rw [List.length_map]; omega, by rw [List.length_map]; exact log_small (by omega), by omega, hl, fun H4 r r0 r1 G4 F4 => ?_⟩
      rw [List.length_map] at r1
      have hr : r.toNat < lf.length := by omega
      have hg := List.getElem?_eq_getElem hr
      have hL4 := F4 _ _ hL2 nLb
      have hD4 := F4 _ _ hD2 nDb
      refine ⟨L, _, r, r.toNat, .int lf[r.toNat], rfl, rfl, hL4, by omega, by omega, by rw [List.length_map]; exact seq_int r0 hr, int_at hg, _, (by rw [upd_ne nLD.symm]; exact hD4), by rw [List.length_map]; exact small1000 (by omega), ?_⟩
      have hLn : ∀ o, Fr H4 (upd H4 L o) L := fun o a x ha hne => by rw [upd_ne hne]; exact ha
      refine ⟨lf.eraseIdx r.toNat, dn ++ [lf[r.toNat]], pop_perm pm hg, by rw [List.length_append, dl]; rfl, ?_, ?_, ?_, ?_⟩
      · obtain ⟨⟨i, c, k, t, h1, h2⟩, ls, ne⟩ := G4
        have e1 : l ≠ L := fun q => by
          have := sL.free (show upd H L (.lst (xs.map V.int)) D = none from hD)
          rw [q] at ls
          have z := G.ls
          rw [q, hL] at z; cases z
        have e2 : l ≠ D := fun q => by
          have z := (G.same sL).ls
          rw [q, hD] at z; cases z
        exact ⟨⟨i, c, k, t, by rw [upd_ne nDb.symm, upd_ne nLb.symm]; exact h1, h2.1, h2.2.1, h2.2.2.1, by have := h2.2.2.2.1; omega, h2.2.2.2.2⟩, by rw [upd_ne e2, upd_ne e1]; exact ls, ne⟩
      · intro a o ha hne
        rw [upd_ne (ne_of_none (sL _ _ ha) hD), upd_ne (ne_of_none ha hL)]
        exact F4 _ _ (F2 _ _ ha hne) hne
      · rw [upd_ne nLD, upd_same, erase_map]
      · rw [upd_same, List.map_append]; rfl
    · rintro H2 ⟨lf, dn, pm, dl, G2, F2, hL2, hD2⟩
      replace dl : dn.length = (xs.map V.int).length := dl
      rw [List.length_map] at dl
      have hlen := pm.length_eq
      rw [List.length_append] at hlen
      have e : lf = [] := List.length_eq_zero_iff.mp (by omega)
      subst e
      exact k H2 D dn (by rw [← dl]; exact (by have z := G2; rw [show ((xs.map V.int).length : Int).toNat = dn.length by rw [List.length_map]; omega] at z; exact z)) F2 (sL.free hD) pm hD2
end
end LP

namespace LP
open PySem L2 LT LG LQ LH LC LX
section
variable {P : Program} {w : World} {K : PySem.W.Frag} {mg : Str → Option Value} {base : Heap}
def pl4 (w : Int) (j : Nat) : Int := if w = 0 then 0 + (j : Nat) else if w = 1 then 7 * (0 + (j : Nat)) + 3 else if w = 2 then 10 ^ 30 - (0 + (j : Nat)) else (0 + (j : Nat)) * 10 ^ 27 + (0 + (j : Nat))
theorem pl4_pl (w : Int) {n : Nat} (hn : n ≤ 200) : Pl ((List.range n).map (pl4 w)) := by
  have g : ∀ j, j < n → 0 ≤ pl4 w j ∧ pl4 w j ≤ G30 := fun j hj => by
    unfold pl4 G30
    split
    · omega
    · split
      · omega
      · split <;> omega
  refine ⟨?_, fun x hx => ?_, by simp [hn]⟩
  · unfold List.Nodup
    rw [List.pairwise_map]
    refine List.Pairwise.imp_of_mem (R := (· < ·)) (fun {a b} ha hb hab => ?_) List.pairwise_lt_range
    unfold pl4
    split
    · omega
    · split
      · omega
      · split <;> omega
  · obtain ⟨j, hj, rfl⟩ := List.mem_map.mp hx
    exact g j (List.mem_range.mp hj)
theorem pl4_snoc (w : Int) (j : Nat) : (List.range (j + 1)).map (pl4 w) = (List.range j).map (pl4 w) ++ [pl4 w j] := by
  rw [List.range_succ, List.map_append]; rfl
theorem ok__law_places (e : Env P K mg) : FnOk P w K mg base CX0 4 e.a__law_places e.d__law_places ["bag", "count"] (sp__law_places) := by
  refine Fun.ok e.f__law_places sc__law_places (fun vs H Q E h => ?_) (fun cdv A outer s H vs Q E hr h => ?_)
  · obtain ⟨b, l, ns, d, n, rfl, _⟩ := h; rfl
  · obtain ⟨b, l, ns, d, n, rfl, G, hd, hl, hn, k⟩ := h
    refine ⟨_, (pss_cons (ps_asg (pe_tup (pa_cons (pe_call ((ok__law_draw e).mono (by decide)) hr rfl e.g__law_draw e.f__law_draw.kp e.b__law_draw .nil pass0 (pa_cons (pv 0) (pa_cons pe_int pa_nil))) (pa_cons (pe_call ((ok__law_draw e).mono (by decide)) hr rfl e.g__law_draw e.f__law_draw.kp e.b__law_draw .nil pass0 (pa_cons (pv 0) (pa_cons pe_int pa_nil))) pa_nil))) (pg_tup (by rfl) (pgs_cons (pg_name (i := 2) sc__law_places.nd rfl (by first | exact Or.inl rfl | exact Or.inr rfl)) (pgs_cons (pg_name (i := 3) sc__law_places.nd rfl (by first | exact Or.inl rfl | exact Or.inr rfl)) pgs_nil))))
      (pss_cons (ps_setLc (i := 4) (own := [("k", 5)]) rfl sc__law_places.nd rfl rfl (sw_true rfl rfl rfl (by decide +kernel)) (pi_range1 (by rfl) e.n_range (pa_cons (pv 1) pa_nil)) (blkOk_by (N := ["bag", "count", "way", "order", "found", "k"]) (sc := defScope s__law_places) (by decide +kernel)) (fun _ _ _ _ _ => (pg_name (i := 5) sc__law_places.nd rfl (by first | exact Or.inl rfl | exact Or.inr rfl))) (fun _ _ _ _ _ => pts_nil) (fun _ _ _ _ _ => (pe_ix (show IxR _ (rIxL K) from ix_list) (pe_lst (pa_cons (pv 5) (pa_cons (pe_op op_add (pe_op op_mul pe_int (pv 5)) pe_int) (pa_cons (pe_op op_sub (pe_op op_pow pe_int pe_int) (pv 5)) (pa_cons (pe_op op_add (pe_op op_mul (pv 5) (pe_op op_pow pe_int pe_int)) (pv 5)) pa_nil))))) (pv 2) (fun _ _ => rfl))))
      (pss_cons (ps_if (pt_cmpR op_eq (pv 3) pe_int (nomark _))
        (pss_one (ps_ret (pe_callB cr_sortedE (by rfl) e.n_sorted (by decide +kernel) (pa_cons (pv 4) pa_nil))))
        pss_nil)
      (pss_one (ps_ret (pe_ifExp (pt_cmpR op_eq (pv 3) pe_int (nomark _)) (pe_revL (pe_callB cr_sortedE (by rfl) e.n_sorted (by decide +kernel) (pa_cons (pv 4) pa_nil))) (pe_call ((ok__law_shuffled e).mono (by decide)) hr rfl e.g__law_shuffled e.f__law_shuffled.kp e.b__law_shuffled .nil pass0 (pa_cons (pv 0) (pa_cons (pv 4) pa_nil))))))))), ?_⟩
    refine ⟨_, rfl, b, l, ns, d, 4, rfl, G, by decide, by decide +kernel, by omega, hl, fun H1 wy w0 w1 G1 F1 => ?_⟩
    refine ⟨_, rfl, b, l, ns, _, 4, rfl, G1, by decide, by decide +kernel, by omega, hl, fun H2 od o0 o1 G2 F2 => ?_⟩
    refine ⟨(by show 2 ≤ sizeLine; decide), fun tp htp => ?_⟩
    have st := same_upd (o := HO.tup [.int wy, .int od]) htp
    refine ⟨_, _, rfl, SqT.of upd_same, rfl, _, _, rfl, _, _, rfl, rfl, ?_⟩
    have G3 := G2.same st
    have F03 : Fr H _ b := (F1.trans F2).trans (Fr.of st)
    refine ⟨_, rfl, _, rfl, by omega, by omega, fun D hD => ?_⟩
    have nDb : D ≠ b := G3.ne_new hD
    have hD0 : H D = none := (F1.trans F2).free G.nb (st.free hD) G2.nb
    have pl := pl4_pl wy hn
    refine lc_it walk_range (fun j H' => Bag H' b l ns (d + 2) ∧ Fr H H' b ∧ H' D = some (.lst (((List.range j).map (pl4 wy)).map V.int))) ⟨G3.same (same_upd hD), F03.trans (Fr.of (same_upd hD)), upd_same⟩ (fun _ _ _ _ => trivial) ?_ ?_
    · rintro j x Hq H4 hj ⟨G4, F4, hD4⟩ ⟨rfl, rfl⟩
      replace hj : j < (n : Int).toNat := hj
      refine ⟨rfl, _, rfl, _, rfl, _, _, rfl, rfl, .inl ⟨by decide, by decide⟩, _, _, rfl, rfl, _, _, rfl, rfl, ⟨by decide, by decide, by decide⟩, _, rfl, _, _, rfl, rfl, _, rfl, _, _, rfl, rfl, ⟨by decide, by decide, by decide⟩, _, _, rfl, rfl, .inl ⟨by omega, by omega⟩, _, rfl, _, _, rfl, rfl, (by show 4 ≤ sizeLine; decide), fun q hq => ⟨_, rfl, ?_⟩⟩
      have sq := fun o => same_upd (o := o) hq
      have nqD : q ≠ D := (ne_of_none hD4 hq).symm
      have fin : ∀ v : Int, v = pl4 wy j → ∃ acc, (upd H4 q (.lst [V.int (0 + (j : Nat)), V.int (7 * (0 + (j : Nat)) + 3), V.int (10 ^ (30 : Int).toNat - (0 + (j : Nat))), V.int ((0 + (j : Nat)) * 10 ^ (27 : Int).toNat + (0 + (j : Nat)))])) D = some (.lst acc) ∧ acc.length < sizeLine ∧
          Bag (upd (upd H4 q (.lst [V.int (0 + (j : Nat)), V.int (7 * (0 + (j : Nat)) + 3), V.int (10 ^ (30 : Int).toNat - (0 + (j : Nat))), V.int ((0 + (j : Nat)) * 10 ^ (27 : Int).toNat + (0 + (j : Nat)))])) D (.lst (acc ++ [V.int v]))) b l ns (d + 2) ∧
          Fr H (upd (upd H4 q (.lst [V.int (0 + (j : Nat)), V.int (7 * (0 + (j : Nat)) + 3), V.int (10 ^ (30 : Int).toNat - (0 + (j : Nat))), V.int ((0 + (j : Nat)) * 10 ^ (27 : Int).toNat + (0 + (j : Nat)))])) D (.lst (acc ++ [V.int v]))) b ∧
          (upd (upd H4 q (.lst [V.int (0 + (j : Nat)), V.int (7 * (0 + (j : Nat)) + 3), V.int (10 ^ (30 : Int).toNat - (0 + (j : Nat))), V.int ((0 + (j : Nat)) * 10 ^ (27 : Int).toNat + (0 + (j : Nat)))])) D (.lst (acc ++ [V.int v]))) D = some (.lst (((List.range (j + 1)).map (pl4 wy)).map V.int)) := by
        intro v hv
        have G5 := G4.same (sq (.lst [V.int (0 + (j : Nat)), V.int (7 * (0 + (j : Nat)) + 3), V.int (10 ^ (30 : Int).toNat - (0 + (j : Nat))), V.int ((0 + (j : Nat)) * 10 ^ (27 : Int).toNat + (0 + (j : Nat)))]))
        refine ⟨_, (by rw [upd_ne nqD.symm]; exact hD4), by simp only [List.length_map, List.length_range]; exact small1000 (by omega), ?_, ?_, ?_⟩
        · obtain ⟨⟨i, c, kk, t, h1, h2⟩, ls, ne⟩ := G5
          have e2 : l ≠ D := fun z => by
            have y := G3.ls
            rw [z, hD] at y; cases y
          exact ⟨⟨i, c, kk, t, by rw [upd_ne nDb.symm]; exact h1, h2⟩, by rw [upd_ne e2]; exact ls, ne⟩
        · intro a o ha hne
          rw [upd_ne (ne_of_none ha hD0)]
          exact sq _ _ _ (F4 _ _ ha hne)
        · rw [upd_same, pl4_snoc, List.map_append, hv]; rfl
      obtain rfl | rfl | rfl | rfl : wy = 0 ∨ wy = 1 ∨ wy = 2 ∨ wy = 3 := by omega
      · exact rd_ix (j := 0) (SqL.of upd_same) rfl rfl (fin _ rfl)
      · exact rd_ix (j := 1) (SqL.of upd_same) rfl rfl (fin _ rfl)
      · exact rd_ix (j := 2) (SqL.of upd_same) rfl rfl (fin _ rfl)
      · exact rd_ix (j := 3) (SqL.of upd_same) rfl rfl (fin _ rfl)
    · rintro H4 ⟨G4, F4, hD4⟩
      have e : ((n : Int)).toNat = n := by omega
      rw [e] at hD4
      have hl2 : ((List.range n).map (pl4 wy)).length = n := by simp
      generalize (List.range n).map (pl4 wy) = xs at pl hD4 hl2
      refine ⟨_, rfl, rfl, _, rfl, ite2d (fun h1 => ?_) fun h1 => ?_⟩
      · refine ⟨_, rfl, D, xs, rfl, .inl (SqL.of hD4), fun ns' p p1 p2 np => ?_⟩
        have np0 : H p = none := F4.free G.nb np G4.nb
        exact k _ p ns' ((G4.same (same_upd np)).mono (by omega)) (F4.trans (Fr.of (same_upd np))) np0 (pl.perm p1) (by rw [p1.length_eq, hl2]) upd_same
      · refine ⟨_, rfl, rfl, _, rfl, ite2d (fun h2 => ?_) fun h2 => ?_⟩
        · refine ⟨_, rfl, D, xs, rfl, .inl (SqL.of hD4), fun ns' p p1 p2 np => ⟨p, _, rfl, SqL.of upd_same, fun q hq => ?_⟩⟩
          have sp := same_upd (o := HO.lst (ns'.map V.int)) np
          have nq0 : H q = none := F4.free G.nb (sp.free hq) G4.nb
          refine k _ q ns'.reverse (((G4.same sp).same (same_upd hq)).mono (by omega)) ((F4.trans (Fr.of sp)).trans (Fr.of (same_upd hq))) nq0 (pl.perm ((List.reverse_perm _).trans p1)) (by rw [List.length_reverse, p1.length_eq, hl2]) (by rw [upd_same, List.map_reverse])
        · refine ⟨_, rfl, _, rfl, b, l, ns, _, D, xs, rfl, G4, by omega, hl, SqL.of hD4, by omega, nDb, fun H5 q ys G5 F5 nq py hq => ?_⟩
          exact k _ q ys (G5.mono (by omega)) (F4.trans F5) (F4.free G.nb nq G4.nb) (pl.perm py) (by rw [py.length_eq, hl2]) hq
end
end LP

namespace LP
open PySem L2 LT LG LQ LH LC LX
section
variable {P : Program} {w : World} {K : PySem.W.Frag} {mg : Str → Option Value} {base : Heap}
theorem ok__law_filled (e : Env P K mg) : FnOk P w K mg base CX0 1 e.a__law_filled e.d__law_filled ["takes", "pattern"] (sp__law_filled K) := by
  refine Fun.ok e.f__law_filled sc__law_filled (fun vs H Q E h => ?_) (fun cdv A outer s H vs Q E hr h => ?_)
  · obtain ⟨a, ns, l, rfl, _⟩ := h; rfl
  · obtain ⟨a, ns, l, rfl, hS, hle, g, hn, k⟩ := h
    refine ⟨_, (pss_cons (ps_par3 (i := 2) (j := 3) (l := 4) (by rfl) sc__law_filled.nd rfl rfl rfl (by decide) (by decide) (by decide) rfl rfl rfl (pa_cons (pe_lst pa_nil) (pa_cons (pe_lst pa_nil) (pa_cons pe_int pa_nil))) (by rfl))
      (pss_cons (ps_for PassesOwn.never rfl (pi_str (pv 1)) (pg_name (i := 5) sc__law_filled.nd rfl (by first | exact Or.inl rfl | exact Or.inr rfl))
      (pss_one (ps_if (pt_cmpR op_eq (pv 5) pe_str (nomark _))
        (pss_cons (ps_expr (pe_bm PySem.F.plainAttrs_list PySem.F.slot_list_append PySem.F.type_list_append mt_append (pv 2) (pa_cons (pe_ix ix_list (pv 0) (pv 4) (fun _ _ => rfl)) pa_nil)))
      (pss_one (ps_set (i := 4) sc__law_filled.nd rfl (by first | exact Or.inl rfl | exact Or.inr rfl) (pe_op op_add (pv 4) pe_int))))
        (pss_cons (ps_expr (pe_bm PySem.F.plainAttrs_list PySem.F.slot_list_append PySem.F.type_list_append mt_append (pv 3) (pa_cons (pe_callB (cr_min rfl) (by rfl) e.n_min (by decide +kernel) (pa_cons (pv 2) pa_nil)) pa_nil)))
      (pss_one (ps_expr (pe_bm PySem.F.plainAttrs_list PySem.F.slot_list_remove PySem.F.type_list_remove mt_remove (pv 2) (pa_cons (pe_callB (cr_min rfl) (by rfl) e.n_min (by decide +kernel) (pa_cons (pv 2) pa_nil)) pa_nil))))))))
      (pss_one (ps_ret (pv 3))))), ?_⟩
    refine ⟨by decide, fun gp hg => ⟨by decide, fun fp hf => ⟨_, _, _, rfl, ?_⟩⟩⟩
    have sg := same_upd (o := HO.lst []) hg
    have sf := same_upd (o := HO.lst []) hf
    have hf0 : H fp = none := sg.free hf
    have ngf : gp ≠ fp := ne_of_none upd_same hf
    refine ⟨_, rfl, _, rfl, for_it walk_str (fun i σ H2 => ∃ v5 : Option V, Same H H2 ∧ H2 gp = some (.lst ((run ns (l.take i)).gaps.map V.int)) ∧ H2 fp = some (.lst ((run ns (l.take i)).fills.map V.int)) ∧
        σ = [some (.ref a), some (.str (pstr l)), some (.ref gp), some (.ref fp), some (.int (tks (l.take i) : Nat)), v5])
      ⟨none, sg.trans sf, sf _ _ upd_same, upd_same, rfl⟩ (fun _ _ _ _ _ => trivial) ?_ ?_⟩
    · rintro i x σ H2 H3 hi ⟨v5, s2, h2, f2, rfl⟩ ⟨rfl, c, hc, rfl⟩
      obtain ⟨bb, hb, rfl⟩ := pstr_at hc
      have hil : i < l.length := (List.getElem?_eq_some_iff.mp hb).1
      obtain ⟨r1, r2, r3⟩ := run_ok g.1 (Nat.le_of_eq hn) i (by omega)
      have htk := tks_take l (i + 1)
      have hfk := fls_take l (i + 1)
      have hgl := g.2
      have hpl := r3.length_eq
      rw [List.length_append, List.length_take, r2] at hpl
      have kg : ∀ {H4 : Hp} {o : HO}, Same H H4 → Same H (upd H4 gp o) := fun s b u hb => by rw [upd_ne (ne_of_none hb hg)]; exact s b u hb
      have kf : ∀ {H4 : Hp} {o : HO}, Same H H4 → Same H (upd H4 fp o) := fun s b u hb => by rw [upd_ne (ne_of_none hb hf0)]; exact s b u hb
      cases bb with
      | true =>
        rw [take_snoc hb, tks_t] at htk
        have hx := List.getElem?_eq_getElem (l := ns) (i := tks (l.take i)) (by omega)
        generalize ns[tks (l.take i)]'(by omega) = y at hx
        have e1 : run ns (l.take (i + 1)) = ⟨(run ns (l.take i)).at_ + 1, (run ns (l.take i)).gaps ++ [y], (run ns (l.take i)).fills⟩ := by
          rw [take_snoc hb, run_snoc]
          show (⟨_, _ ++ (ns[(run ns (l.take i)).at_]?).toList, _⟩ : Sh) = _
          rw [r1, hx]; rfl
        refine ⟨_, rfl, rfl, _, rfl, iteD vsT ?_⟩
        refine ⟨_, rfl, .inl ⟨rfl, _, SqL.of h2⟩, _, rfl, _, rfl, rd_ix (s2.seq hS) (int_at hx) rfl ⟨gp, _, _, rfl, rfl, h2, by rw [List.length_map]; exact small1000 (by omega), ?_⟩⟩
        refine ⟨_, rfl, _, _, rfl, rfl, some (.str ⟨#[sgn true]⟩), kg s2, ?_, ?_, ?_⟩
        · rw [upd_same, e1, List.map_append]; rfl
        · rw [upd_ne ngf.symm, e1]; exact f2
        · rw [take_snoc hb, tks_t]; rfl
      | false =>
        have hpr := g.1 (i + 1)
        rw [take_snoc hb, fls_f] at hfk
        rw [take_snoc hb, fls_f, tks_f] at hpr
        have htk2 := tks_take l i
        have e1 : run ns (l.take (i + 1)) = ⟨(run ns (l.take i)).at_, (run ns (l.take i)).gaps.erase (mn (run ns (l.take i)).gaps), (run ns (l.take i)).fills ++ [mn (run ns (l.take i)).gaps]⟩ := by
          rw [take_snoc hb, run_snoc]; rfl
        have hpos : 0 < (run ns (l.take i)).gaps.length := by omega
        generalize hG : (run ns (l.take i)).gaps = gs at *
        have hne : gs ≠ [] := fun e => by rw [e] at hpos; simp at hpos
        have hmem := (mn_ok hne).1
        refine ⟨_, rfl, rfl, _, rfl, iteX vsR ?_⟩
        refine ⟨_, rfl, .inl ⟨rfl, _, SqL.of f2⟩, _, rfl, gp, gs, rfl, SqL.of h2, by first | exact hpos | exact hne, fun m q1 q2 => ?_⟩
        have em : m = mn gs := mn_eq q1 q2
        subst em
        refine ⟨fp, _, _, rfl, rfl, f2, by rw [List.length_map, r2]; exact small1000 (by omega), ?_⟩
        have h3 : (upd H3 fp (.lst ((run ns (l.take i)).fills.map V.int ++ [V.int (mn gs)]))) gp = some (.lst (gs.map V.int)) := by rw [upd_ne ngf]; exact h2
        refine ⟨_, rfl, .inl ⟨rfl, _, SqL.of h3⟩, _, rfl, gp, gs, rfl, SqL.of h3, by first | exact hpos | exact hne, fun m q3 q4 => ?_⟩
        have em : m = mn gs := mn_eq q3 q4
        subst em
        refine ⟨gp, gs, _, gs.idxOf (mn gs), rfl, rfl, h3, idx_get hmem, fun j hj => idx_before hj, some (.str ⟨#[sgn false]⟩), kg (kf s2), ?_, ?_, ?_⟩
        · rw [upd_same, e1, List.erase_eq_eraseIdx_of_idxOf rfl]
        · rw [upd_ne ngf.symm, upd_same, e1, List.map_append]; rfl
        · rw [take_snoc hb, tks_f]; rfl
    · rintro σ H2 ⟨v5, s2, h2, f2, rfl⟩
      rw [pstr_size, List.take_length] at f2
      exact ⟨_, rfl, k H2 fp s2 hf0 f2⟩
end
end LP

namespace LP
open PySem L2 LT LG LQ LH LC LX
section
variable {P : Program} {w : World} {K : PySem.W.Frag} {mg : Str → Option Value} {base : Heap}
def rowV (t : Pat) : List V := [.str (pstr t), .int (((tks t : Nat) : Int) - (fls t : Nat))]
structure RowsP (H : Hp) (as : List Addr) (ts : List Pat) (i n : Nat) : Prop where
  len : as.length = ts.length
  at_ : ∀ (k : Nat) a t, as[k]? = some a → ts[k]? = some t → H a = some (.tup (rowV t))
  ok : ∀ t ∈ ts, t.length = i ∧ Pre t ∧ tks t ≤ n
theorem RowsP.kept {H H' : Hp} {as : List Addr} {ts : List Pat} {i n : Nat} (r : RowsP H as ts i n) (s : ∀ a xs, H a = some (.tup xs) → H' a = some (.tup xs)) : RowsP H' as ts i n := ⟨r.len, fun k a t h1 h2 => s _ _ (r.at_ k a t h1 h2), r.ok⟩
theorem RowsP.snoc {H : Hp} {as : List Addr} {ts : List Pat} {i n : Nat} {a : Addr} {t : Pat} (r : RowsP H as ts i n) (h : H a = some (.tup (rowV t))) (h2 : t.length = i ∧ Pre t ∧ tks t ≤ n) : RowsP H (as ++ [a]) (ts ++ [t]) i n := by
  have hl := r.len
  refine ⟨by rw [List.length_append, List.length_append, hl]; rfl, fun k b u e1 e2 => ?_, fun u hu => ?_⟩
  · by_cases c : k < as.length
    · rw [List.getElem?_append_left c] at e1
      rw [List.getElem?_append_left (by omega)] at e2
      exact r.at_ k b u e1 e2
    · rw [List.getElem?_append_right (by omega)] at e1
      rw [List.getElem?_append_right (by omega), ← hl] at e2
      cases z : k - as.length with
      | zero => rw [z] at e1 e2; cases e1; cases e2; exact h
      | succ m => rw [z] at e1; simp at e1
  · rcases List.mem_append.mp hu with hu | hu
    · exact r.ok u hu
    · rw [List.mem_singleton] at hu; subst hu; exact h2
theorem pow8 {i : Nat} (h : i ≤ 10) : 2 ^ i ≤ 1024 := Nat.le_trans (Nat.pow_le_pow_right (by decide) h) (by decide)
theorem ok__law_all_patterns (e : Env P K mg) : FnOk P w K mg base CX0 1 e.a__law_all_patterns e.d__law_all_patterns ["count"] (sp__law_all_patterns) := by
  refine Fun.ok e.f__law_all_patterns sc__law_all_patterns (fun vs H Q E h => ?_) (fun cdv A outer s H vs Q E hr h => ?_)
  · obtain ⟨n, rfl, _⟩ := h; rfl
  · obtain ⟨n, rfl, hn, k⟩ := h
    refine ⟨_, (pss_cons (ps_set (i := 1) sc__law_all_patterns.nd rfl (by first | exact Or.inl rfl | exact Or.inr rfl) (pe_lst (pa_cons (pe_tup (pa_cons pe_str (pa_cons pe_int pa_nil))) pa_nil)))
      (pss_cons (ps_for PassesOwn.never rfl (pi_range1 (by rfl) e.n_range (pa_cons (pe_op op_mul pe_int (pv 0)) pa_nil)) (pg_name (i := 2) sc__law_all_patterns.nd rfl (by first | exact Or.inl rfl | exact Or.inr rfl))
      (pss_cons (ps_set (i := 3) sc__law_all_patterns.nd rfl (by first | exact Or.inl rfl | exact Or.inr rfl) (pe_lst pa_nil))
      (pss_cons (ps_for PassesOwn.never rfl (pi_list (pv 1)) (pg_tup (by rfl) (pgs_cons (pg_name (i := 4) sc__law_all_patterns.nd rfl (by first | exact Or.inl rfl | exact Or.inr rfl)) (pgs_cons (pg_name (i := 5) sc__law_all_patterns.nd rfl (by first | exact Or.inl rfl | exact Or.inr rfl)) pgs_nil)))
      (pss_cons (ps_if (pt_cmpR op_lt (pe_m1 PySem.F.slot_str_count PySem.F.type_str_count mt_count (pv 4) pe_str) (pv 0) (nomark _))
        (pss_one (ps_expr (pe_bm PySem.F.plainAttrs_list PySem.F.slot_list_append PySem.F.type_list_append mt_append (pv 3) (pa_cons (pe_tup (pa_cons (pe_op LS.op_addS (pv 4) pe_str) (pa_cons (pe_op op_add (pv 5) pe_int) pa_nil))) pa_nil))))
        pss_nil)
      (pss_one (ps_if (pt_cmpR op_gt (pv 5) pe_int (nomark _))
        (pss_one (ps_expr (pe_bm PySem.F.plainAttrs_list PySem.F.slot_list_append PySem.F.type_list_append mt_append (pv 3) (pa_cons (pe_tup (pa_cons (pe_op LS.op_addS (pv 4) pe_str) (pa_cons (pe_op op_sub (pv 5) pe_int) pa_nil))) pa_nil))))
        pss_nil))))
      (pss_one (ps_set (i := 1) sc__law_all_patterns.nd rfl (by first | exact Or.inl rfl | exact Or.inr rfl) (pv 3))))))
      (pss_one (ps_ret (pe_lc (own := [("word", 4), ("out", 5)]) rfl sc__law_all_patterns.nd (pi_list (pv 1)) (blkOk_by (N := ["count", "found", "step", "longer", "word", "out"]) (sc := defScope s__law_all_patterns) (by decide +kernel)) (fun _ _ _ _ _ => (show PG _ _ (gTup K 2 _) from pg_tup (by rfl) (pgs_cons (pg_name (i := 4) sc__law_all_patterns.nd rfl (by first | exact Or.inl rfl | exact Or.inr rfl)) (pgs_cons (pg_name (i := 5) sc__law_all_patterns.nd rfl (by first | exact Or.inl rfl | exact Or.inr rfl)) pgs_nil)))) (fun _ _ _ _ _ => pts_nil) (fun _ _ _ _ _ => (pv 4))))))), ?_⟩
    refine ⟨(by show 2 ≤ sizeLine; decide), fun a0 h0 => ⟨(by show 1 ≤ sizeLine; decide), fun f0 hf0 => ?_⟩⟩
    have s0 := same_upd (o := HO.tup [V.str "", .int 0]) h0
    have s1 := same_upd (o := HO.lst [V.ref a0]) hf0
    have row0 : (upd (upd H a0 (.tup [V.str "", .int 0])) f0 (.lst [V.ref a0])) a0 = some (.tup (rowV [])) := by
      rw [s1 _ _ upd_same]
      unfold rowV
      rw [pstr_nil]; rfl
    refine ⟨_, rfl, _, _, rfl, rfl, .inl ⟨by decide, by decide⟩, _, rfl, by omega, by omega, for_it walk_range (fun i σ H1 => ∃ (f : Addr) (as : List Addr) (ts : List Pat) (v2 v3 v4 v5 : Option V), σ = [some (.int n), some (.ref f), v2, v3, v4, v5] ∧ Same H H1 ∧ H f = none ∧ H1 f = some (.lst (as.map V.ref)) ∧ RowsP H1 as ts i n ∧ as.length ≤ 2 ^ i ∧ (∀ t : Pat, t.length = i → Pre t → tks t ≤ n → t ∈ ts))
      ⟨f0, [a0], [[]], none, none, none, none, rfl, s0.trans s1, s0.free hf0, upd_same, ⟨rfl, fun k a t e1 e2 => by
        cases k with
        | zero => cases e1; cases e2; exact row0
        | succ m => simp at e1, fun t ht => by
          rw [List.mem_singleton] at ht; subst ht; exact ⟨rfl, Pre.nil, Nat.zero_le _⟩⟩, Nat.le_refl 1, fun t tl _ _ => by rw [List.eq_nil_of_length_eq_zero tl]; exact List.mem_singleton.mpr rfl⟩ (fun _ _ _ _ _ => trivial) ?_ ?_⟩
    · rintro i x σ Hq H2 hi ⟨f, as, ts, v2, v3, v4, v5, rfl, s2, hf00, hf, ra, hal, hall⟩ ⟨rfl, rfl⟩
      replace hi : i < (2 * (n : Int)).toNat := hi
      have hp8 := pow8 (i := i) (by omega)
      refine ⟨by decide, fun L hL => ?_⟩
      have sL := same_upd (o := HO.lst []) hL
      refine ⟨_, rfl, f, rfl, ⟨_, SqL.of (sL _ _ hf)⟩, for_it walk_list (fun j σ H3 => ∃ (bs : List Addr) (us : List Pat) (v4 v5 : Option V), σ = [some (.int n), some (.ref f), some (.int (0 + (i : Nat))), some (.ref L), v4, v5] ∧ Same H2 H3 ∧ H3 L = some (.lst (bs.map V.ref)) ∧ RowsP H3 bs us (i + 1) n ∧ bs.length ≤ 2 * j ∧ (∀ t ∈ ts.take j, ∀ c, Pre (t ++ [c]) → tks (t ++ [c]) ≤ n → t ++ [c] ∈ us))
        ⟨[], [], v4, v5, rfl, sL, upd_same, ⟨rfl, fun k a t e1 e2 => by simp at e1, fun t ht => by cases ht⟩, Nat.zero_le _, fun t ht => by simp at ht⟩ (fun j σ H3 _ ⟨_, _, _, _, _, s3, _⟩ => s3.seq (SqL.of hf)) ?_ ?_⟩
      · rintro j x σ Hr H3 hj ⟨bs, us, v4', v5', rfl, s3, hL3, rb, hbl, hal2⟩ ⟨rfl, hx⟩
        rw [List.length_map] at hj
        obtain ⟨a, ha, rfl⟩ := at_ref hx
        have ht := List.getElem?_eq_getElem (l := ts) (i := j) (by rw [← ra.len]; exact hj)
        generalize ts[j]'(by rw [← ra.len]; exact hj) = t at ht
        have hta := s3 _ _ (ra.at_ j a t ha ht)
        obtain ⟨t1, t2, t3⟩ := ra.ok t (List.mem_of_getElem? ht)
        have nxt : ∀ us2 : List Pat, (∀ u ∈ us, u ∈ us2) → (Pre (t ++ [true]) → tks (t ++ [true]) ≤ n → t ++ [true] ∈ us2) → (Pre (t ++ [false]) → tks (t ++ [false]) ≤ n → t ++ [false] ∈ us2) → ∀ t' ∈ ts.take (j + 1), ∀ c, Pre (t' ++ [c]) → tks (t' ++ [c]) ≤ n → t' ++ [c] ∈ us2 := by
          intro us2 h0 h1 h2 t' ht' c p q
          rw [take_snoc ht] at ht'
          rcases List.mem_append.mp ht' with z | z
          · exact h0 _ (hal2 t' z c p q)
          · rw [List.mem_singleton] at z; subst z
            cases c with
            | true => exact h1 p q
            | false => exact h2 p q
        have noT : ¬ ((tks t : Nat) : Int) < (n : Nat) → ∀ us2 : List Pat, Pre (t ++ [true]) → tks (t ++ [true]) ≤ n → t ++ [true] ∈ us2 := fun z us2 p q => by
          rw [tks_t] at q; omega
        have noR : ¬ ((tks t : Nat) : Int) - (fls t : Nat) > 0 → ∀ us2 : List Pat, Pre (t ++ [false]) → tks (t ++ [false]) ≤ n → t ++ [false] ∈ us2 := fun z us2 p q => by
          have := p.all
          rw [tks_f, fls_f] at this; omega
        have tl := len_pat t
        have tp := t2.all
        refine ⟨_, _, rfl, SqT.of hta, rfl, _, _, rfl, _, _, rfl, rfl, ?_⟩
        have sz : (pstr t).length + (1 : Nat) ≤ sizeLine := by
          show (pstr t).cps.size + 1 ≤ sizeLine
          rw [pstr_size]; exact Nat.le_of_lt (small4k (by omega))
        have add : ∀ (H4 : Hp) (bs : List Addr) (us : List Pat) (u : Pat) (xs : List V), Same H2 H4 → H4 L = some (.lst (bs.map V.ref)) → RowsP H4 bs us (i + 1) n → xs = rowV u → (u.length = i + 1 ∧ Pre u ∧ tks u ≤ n) → ∀ q, H4 q = none →
            Same H2 (upd (upd H4 q (.tup xs)) L (.lst (bs.map V.ref ++ [V.ref q]))) ∧ (upd (upd H4 q (.tup xs)) L (.lst (bs.map V.ref ++ [V.ref q]))) L = some (.lst ((bs ++ [q]).map V.ref)) ∧ RowsP (upd (upd H4 q (.tup xs)) L (.lst (bs.map V.ref ++ [V.ref q]))) (bs ++ [q]) (us ++ [u]) (i + 1) n := by
          rintro H4 bs us u xs s4 hL4 rb4 rfl hu q hq
          have sq := same_upd (o := HO.tup (rowV u)) hq
          have nqL : q ≠ L := fun e => by subst e; rw [hL4] at hq; cases hq
          have kept : ∀ a xs, (upd H4 q (.tup (rowV u))) a = some (.tup xs) → (upd (upd H4 q (.tup (rowV u))) L (.lst (bs.map V.ref ++ [V.ref q]))) a = some (.tup xs) := fun a xs h => by
            rw [upd_ne (fun e => by subst e; rw [sq _ _ hL4] at h; cases h)]; exact h
          refine ⟨fun b o hb => ?_, by rw [upd_same, List.map_append]; rfl, ((rb4.kept fun a xs h => sq _ _ h).kept kept).snoc (kept _ _ upd_same) hu⟩
          rw [upd_ne (ne_of_none hb hL)]
          exact sq _ _ (s4 _ _ hb)
        have eT : [V.str (pstr t ++ ("T" : Str)), V.int (((tks t : Nat) : Int) - (fls t : Nat) + 1)] = rowV (t ++ [true]) := by
          have e : ((tks t + 1 : Nat) : Int) - (fls t : Nat) = ((tks t : Nat) : Int) - (fls t : Nat) + 1 := by omega
          unfold rowV; rw [pstr_T, tks_t, fls_t, e]
        have eR : [V.str (pstr t ++ ("R" : Str)), V.int (((tks t : Nat) : Int) - (fls t : Nat) - 1)] = rowV (t ++ [false]) := by
          have e : ((tks t : Nat) : Int) - ((fls t + 1 : Nat) : Int) = ((tks t : Nat) : Int) - (fls t : Nat) - 1 := by omega
          unfold rowV; rw [pstr_R, tks_f, fls_f, e]
        refine ⟨_, rfl, ⟨_, rfl⟩, _, _, rfl, rfl, _, rfl, _, _, rfl, rfl, _, rfl, ite2d (fun h1 => ?_) fun h1 => ?_⟩
        · rw [count_T] at h1
          replace h1 : ((tks t : Nat) : Int) < (n : Nat) := h1
          refine ⟨_, rfl, .inl ⟨rfl, _, SqL.of hL3⟩, _, rfl, _, _, rfl, rfl, sz, _, rfl, _, _, rfl, rfl, (by show 2 ≤ sizeLine; decide), fun q hq => ⟨L, _, _, rfl, rfl, same_upd hq _ _ hL3, by rw [List.length_map]; exact small4k (by omega), ?_⟩⟩
          obtain ⟨z1, z2, z3⟩ := add H3 bs us (t ++ [true]) _ s3 hL3 rb eT ⟨by rw [List.length_append, t1]; rfl, t2.snoc (by rw [tks_t, fls_t]; omega), by rw [tks_t]; omega⟩ q hq
          refine ⟨_, rfl, _, _, rfl, rfl, _, rfl, ite2d (fun h2 => ?_) fun h2 => ?_⟩
          · refine ⟨_, rfl, .inl ⟨rfl, _, SqL.of z2⟩, _, rfl, _, _, rfl, rfl, sz, _, rfl, _, _, rfl, rfl, (by show 2 ≤ sizeLine; decide), fun q2 hq2 => ⟨L, _, _, rfl, rfl, same_upd hq2 _ _ z2, by rw [List.length_map, List.length_append]; exact small4k (by show bs.length + 1 ≤ 4000; omega), ?_⟩⟩
            obtain ⟨y1, y2, y3⟩ := add _ (bs ++ [q]) (us ++ [t ++ [true]]) (t ++ [false]) _ z1 z2 z3 eR ⟨by rw [List.length_append, t1]; rfl, t2.snoc (by rw [tks_f, fls_f]; omega), by rw [tks_f]; omega⟩ q2 hq2
            exact ⟨bs ++ [q] ++ [q2], us ++ [t ++ [true]] ++ [t ++ [false]], _, _, rfl, y1, y2, y3, by simp only [List.length_append, List.length_cons, List.length_nil]; omega, nxt _ (fun u hu => by simp [hu]) (fun _ _ => by simp) (fun _ _ => by simp)⟩
          · exact ⟨bs ++ [q], us ++ [t ++ [true]], _, _, rfl, z1, z2, z3, by simp only [List.length_append, List.length_cons, List.length_nil]; omega, nxt _ (fun u hu => by simp [hu]) (fun _ _ => by simp) (noR h2 _)⟩
        · refine ⟨_, rfl, _, _, rfl, rfl, _, rfl, ite2d (fun h2 => ?_) fun h2 => ?_⟩
          · refine ⟨_, rfl, .inl ⟨rfl, _, SqL.of hL3⟩, _, rfl, _, _, rfl, rfl, sz, _, rfl, _, _, rfl, rfl, (by show 2 ≤ sizeLine; decide), fun q2 hq2 => ⟨L, _, _, rfl, rfl, same_upd hq2 _ _ hL3, by rw [List.length_map]; exact small4k (by omega), ?_⟩⟩
            obtain ⟨y1, y2, y3⟩ := add H3 bs us (t ++ [false]) _ s3 hL3 rb eR ⟨by rw [List.length_append, t1]; rfl, t2.snoc (by rw [tks_f, fls_f]; omega), by rw [tks_f]; omega⟩ q2 hq2
            exact ⟨bs ++ [q2], us ++ [t ++ [false]], _, _, rfl, y1, y2, y3, by simp only [List.length_append, List.length_cons, List.length_nil]; omega, nxt _ (fun u hu => by simp [hu]) (noT (by rw [count_T] at h1; exact h1) _) (fun _ _ => by simp)⟩
          · exact ⟨bs, us, _, _, rfl, s3, hL3, rb, by omega, nxt _ (fun u hu => hu) (noT (by rw [count_T] at h1; exact h1) _) (noR h2 _)⟩
      · rintro σ H3 ⟨bs, us, v4', v5', rfl, s3, hL3, rb, hbl, hal2⟩
        rw [List.length_map] at hbl
        exact ⟨_, rfl, L, bs, us, some (.int (0 + (i : Nat))), some (.ref L), v4', v5', rfl, s2.trans s3, s2.free hL, hL3, rb, by rw [Nat.pow_succ]; omega, fun u ul up un => by
          have une : u ≠ [] := fun z => by rw [z] at ul; simp at ul
          have ed := List.dropLast_concat_getLast une
          have pd : Pre u.dropLast := fun m => by
            have := up (min m i)
            rw [List.dropLast_eq_take, List.take_take, ul, Nat.add_sub_cancel]; exact this
          have nd2 : tks u.dropLast ≤ n := by
            have : tks u = tks u.dropLast + tks [u.getLast une] := by
              show u.count true = u.dropLast.count true + [u.getLast une].count true
              rw [← List.count_append, ed]
            omega
          have hm := hall u.dropLast (by rw [List.length_dropLast, ul]; rfl) pd nd2
          have := hal2 u.dropLast (by rw [List.length_map] ; rw [List.take_of_length_le (by rw [ra.len]; exact Nat.le_refl _)]; exact hm) (u.getLast une) (by rw [ed]; exact up) (by rw [ed]; exact un)
          rwa [ed] at this⟩
    · rintro σ H1 ⟨f, as, ts, v2, v3, v4, v5, rfl, s2, hf00, hf, ra, hal, hall⟩
      have e8 : (2 * (n : Int)).toNat = 2 * n := by omega
      rw [e8] at ra hal hall
      have hp8 := pow8 (i := 2 * n) (by omega)
      refine ⟨_, rfl, f, rfl, ⟨_, SqL.of hf⟩, fun D hD => lc_it walk_list (fun j H4 => Same H1 H4 ∧ H4 D = some (.lst (((ts.take j).map fun t => V.str (pstr t))))) ⟨same_upd hD, upd_same⟩ (fun j H4 _ h => h.1.seq (SqL.of hf)) ?_ ?_⟩
      · rintro j x Hr H4 hj ⟨s4, hD4⟩ ⟨rfl, hx⟩
        rw [List.length_map] at hj
        obtain ⟨a, ha, rfl⟩ := at_ref hx
        have ht := List.getElem?_eq_getElem (l := ts) (i := j) (by rw [← ra.len]; exact hj)
        generalize ts[j]'(by rw [← ra.len]; exact hj) = t at ht
        have hta := s4 _ _ (ra.at_ j a t ha ht)
        refine ⟨_, _, rfl, SqT.of hta, rfl, _, _, rfl, _, _, rfl, rfl, rfl, _, rfl, _, hD4, ?_, ?_, ?_⟩
        · rw [List.length_map, List.length_take]; exact small4k (by omega)
        · intro b o hb; rw [upd_ne (ne_of_none hb hD)]; exact s4 _ _ hb
        · rw [upd_same, take_snoc ht, List.map_append]; rfl
      · rintro H4 ⟨s4, hD4⟩
        rw [List.length_map, List.take_of_length_le (by rw [ra.len]; exact Nat.le_refl _)] at hD4
        refine k H4 D ts (s2.trans s4) (s2.free hD) (fun t => ⟨fun ht => ?_, fun ⟨g, e⟩ => hall t ?_ g.1 (by omega)⟩) (by have := ra.len; omega) hD4
        · obtain ⟨t1, t2, t3⟩ := ra.ok t ht
          have tl := len_pat t
          have tp := t2.all
          exact ⟨⟨t2, by omega⟩, by omega⟩
        · have tl := len_pat t
          have := g.2
          omega
end
end LP

namespace LP
open PySem L2 LT LG LQ LH LC LX
section
variable {P : Program} {w : World} {K : PySem.W.Frag} {mg : Str → Option Value} {base : Heap}
theorem eqvAll_int2 : ∀ l m : List Int, PyData.eqvAll (l.map PyData.int) (m.map PyData.int) = decide (l = m)
  | [], [] => by simp [PyData.eqvAll]
  | [], _ :: _ => by simp [PyData.eqvAll]
  | _ :: _, [] => by simp [PyData.eqvAll]
  | a :: r, b :: t => by
    simp only [List.map_cons, PyData.eqvAll, eqvAll_int2 r t]
    by_cases h : a = b <;> by_cases h' : r = t <;> simp [PyData.eqv, h, h']
theorem eqv_int2 (l m : List Int) : PyData.eqv (.list (l.map PyData.int)) (.list (m.map PyData.int)) = decide (l = m) := by
  simp only [PyData.eqv]; exact eqvAll_int2 l m
theorem log_4k {z : Int} {n : Nat} (e : z = (n : Int)) (h : n ≤ 4000) : z.natAbs.log2 < 9000 := by
  subst e
  rw [Int.natAbs_natCast]
  by_cases h0 : n = 0
  · subst h0; decide
  · exact Nat.lt_trans ((Nat.log2_lt h0).mpr (show n < 2 ^ 12 from Nat.lt_of_le_of_lt h (by decide))) (by decide)
theorem good_ex (n : Nat) : ∃ t : Pat, Good t ∧ tks t = n := by
  have h : ∀ k, k ≤ n → ∃ t : Pat, Pre t ∧ tks t = n ∧ fls t = k := by
    intro k
    induction k with
    | zero =>
      intro _
      refine ⟨[] ++ List.replicate n true, Pre.nil.reps n, ?_, ?_⟩
      · show List.count true ([] ++ List.replicate n true) = n
        simp
      · show List.count false ([] ++ List.replicate n true) = 0
        rw [List.nil_append, List.count_replicate]; rfl
    | succ k ih =>
      intro hk
      obtain ⟨t, h1, h2, h3⟩ := ih (by omega)
      exact ⟨t ++ [false], h1.snoc (by rw [tks_f, fls_f]; omega), by rw [tks_f]; exact h2, by rw [fls_f, h3]⟩
  obtain ⟨t, h1, h2, h3⟩ := h n (Nat.le_refl _)
  exact ⟨t, ⟨h1, by omega⟩, h2⟩
theorem ok__law_few (e : Env P K mg) : FnOk P w K mg base CX0 5 e.a__law_few e.d__law_few ["bag", "most"] (sp__law_few) := by
  refine Fun.ok e.f__law_few sc__law_few (fun vs H Q E h => ?_) (fun cdv A outer s H vs Q E hr h => ?_)
  · obtain ⟨b, l, ns, d, rfl, _⟩ := h; rfl
  · obtain ⟨b, l, ns, d, rfl, G, hd, hl, k⟩ := h
    refine ⟨_, (pss_cons (ps_set (i := 2) sc__law_few.nd rfl (by first | exact Or.inl rfl | exact Or.inr rfl) (pe_call ((ok__law_draw e).mono (by decide)) hr rfl e.g__law_draw e.f__law_draw.kp e.b__law_draw .nil pass0 (pa_cons (pv 0) (pa_cons (pe_op op_add (pv 1) pe_int) pa_nil))))
      (pss_cons (ps_asg (pe_tup (pa_cons (pe_call ((ok__law_places e).mono (by decide)) hr rfl e.g__law_places e.f__law_places.kp e.b__law_places .nil pass0 (pa_cons (pv 0) (pa_cons (pv 2) pa_nil))) (pa_cons (pe_call ((ok__law_all_patterns e).mono (by decide)) hr rfl e.g__law_all_patterns e.f__law_all_patterns.kp e.b__law_all_patterns .nil pass0 (pa_cons (pv 2) pa_nil)) pa_nil))) (pg_tup (by rfl) (pgs_cons (pg_name (i := 3) sc__law_few.nd rfl (by first | exact Or.inl rfl | exact Or.inr rfl)) (pgs_cons (pg_name (i := 4) sc__law_few.nd rfl (by first | exact Or.inl rfl | exact Or.inr rfl)) pgs_nil))))
      (pss_cons (ps_set (i := 5) sc__law_few.nd rfl (by first | exact Or.inl rfl | exact Or.inr rfl) (pe_call ((ok__law_filled e).mono (by decide)) hr rfl e.g__law_filled e.f__law_filled.kp e.b__law_filled .nil pass0 (pa_cons (pv 3) (pa_cons (pe_ix ix_list (pv 4) (pe_call ((ok__law_draw e).mono (by decide)) hr rfl e.g__law_draw e.f__law_draw.kp e.b__law_draw .nil pass0 (pa_cons (pv 0) (pa_cons (pe_callB LS.call_len (by rfl) e.n_len PySem.boot_len (pa_cons (pv 4) pa_nil)) pa_nil))) (fun _ _ => rfl)) pa_nil))))
      (pss_one (ps_ret (pe_tup (pa_cons (pv 3) (pa_cons (pv 5) (pa_cons (pe_lc (own := [("pattern", 6)]) rfl sc__law_few.nd (pi_list (pv 4)) (blkOk_by (N := ["bag", "most", "count", "takes", "every", "fills", "pattern"]) (sc := defScope s__law_few) (by decide +kernel)) (fun _ _ _ _ _ => (pg_name (i := 6) sc__law_few.nd rfl (by first | exact Or.inl rfl | exact Or.inr rfl))) (fun _ _ _ _ _ => pts_one (pt_cmpR (show OpR _ _ (rEqD K) from (op_eqD hr.units)) (pe_call ((ok__law_filled e).mono (by decide)) hr rfl e.g__law_filled e.f__law_filled.kp e.b__law_filled .nil pass0 (pa_cons (pv 3) (pa_cons (pv 6) pa_nil))) (pv 5) (nomark _))) (fun _ _ _ _ _ => (pv 6))) pa_nil))))))))), ?_⟩
    refine ⟨_, rfl, _, rfl, _, _, rfl, rfl, b, l, ns, d, 6, rfl, G, by decide, by decide +kernel, by omega, hl, fun H1 r r0 r1 G1 F1 => ?_⟩
    obtain ⟨n, rfl⟩ : ∃ n : Nat, r = (n : Int) := ⟨r.toNat, by omega⟩
    have hn : n ≤ 5 := by omega
    refine ⟨_, rfl, _, rfl, b, l, ns, _, n, rfl, G1, by omega, hl, by omega, fun H2 x tk G2 F2 nx pl tl hx => ?_⟩
    refine ⟨_, rfl, n, rfl, hn, fun H3 z ps s3 nz hps psl hz => ?_⟩
    have nxb : x ≠ b := G1.ne_new nx
    have nzb : z ≠ b := G2.ne_new nz
    refine ⟨(by show 2 ≤ sizeLine; decide), fun t ht => ?_⟩
    have st := same_upd (o := HO.tup [V.ref x, V.ref z]) ht
    refine ⟨_, _, rfl, SqT.of upd_same, rfl, _, _, rfl, _, _, rfl, rfl, ?_⟩
    have hx3 := st _ _ (s3 _ _ hx)
    have hz3 := st _ _ hz
    have G3 := (G2.same s3).same st
    have F3 := (F1.trans F2).trans (Fr.of (s3.trans st))
    generalize upd H3 t (.tup [V.ref x, V.ref z]) = H4 at hx3 hz3 G3 F3
    have psn : ps ≠ [] := fun e => by
      obtain ⟨t, h1, h2⟩ := good_ex n
      have := (hps t).mpr ⟨h1, h2⟩
      rw [e] at this; cases this
    have pl0 : 0 < ps.length := List.length_pos_iff.mpr psn
    have pvl : (psV ps).length = ps.length := by unfold psV; rw [List.length_map]
    refine ⟨_, rfl, _, rfl, _, rfl, _, rfl, z, _, rfl, .inl (SqL.of hz3), b, l, ns, _, (psV ps).length, rfl, G3, by rw [pvl]; omega, log_4k (n := ps.length) (by rw [pvl]) (by omega), by omega, hl, fun H5 u u0 u1 G5 F5 => ?_⟩
    obtain ⟨v, rfl⟩ : ∃ v : Nat, u = (v : Int) := ⟨u.toNat, by omega⟩
    have vl : v < ps.length := by rw [pvl] at u1; omega
    have hl0 := List.getElem?_eq_getElem (l := ps) vl
    generalize ps[v]'vl = l0 at hl0
    obtain ⟨g0, t0⟩ := (hps l0).mp (List.mem_of_getElem? hl0)
    have hx5 := F5 _ _ hx3 nxb
    have hz5 := F5 _ _ hz3 nzb
    refine ⟨z, _, _, _, rfl, rfl, SqL.of hz5, at_of (j := v) rfl (by unfold psV; rw [List.getElem?_map, hl0]; rfl), ?_⟩
    refine ⟨x, tk, l0, rfl, SqL.of hx5, by omega, g0, by omega, fun H6 y s6 ny hy => ?_⟩
    have hx6 := s6 _ _ hx5
    have hz6 := s6 _ _ hz5
    refine ⟨_, rfl, _, rfl, ?_⟩
    refine ⟨_, rfl, z, rfl, ⟨_, SqL.of hz6⟩, fun D hD => lc_it walk_list (fun j H' => Same H6 H' ∧ H' D = some (.lst (psV ((ps.take j).filter fun l => decide (fillsOf tk l = fillsOf tk l0))))) ⟨same_upd hD, upd_same⟩ (fun j H' _ h => h.1.seq (SqL.of hz6)) ?_ ?_⟩
    · rintro j v H7 H8 hj ⟨s7, hd⟩ ⟨rfl, hvx⟩
      obtain ⟨l1, hl1, rfl⟩ := psV_at hvx
      obtain ⟨g1, t1⟩ := (hps l1).mp (List.mem_of_getElem? hl1)
      refine ⟨rfl, _, rfl, _, rfl, x, tk, l1, rfl, SqL.of (s7 _ _ hx6), by omega, g1, by omega, fun H9 c s9 nc hc => ?_⟩
      have s10 := s7.trans s9
      refine ⟨_, rfl, _, _, .lst (SqL.of hc) (dp_ints _), .lst (SqL.of (s10 _ _ hy)) (dp_ints _), shaped_ints _, shaped_ints _, _, rfl, ?_⟩
      rw [eqv_int2]
      have hd9 := s9 _ _ hd
      refine ite2d (fun h => ?_) fun h => ?_
      · refine ⟨_, rfl, _, hd9, ?_, fun b o hb2 => ?_, ?_⟩
        · have := List.length_filter_le (fun l => decide (fillsOf tk l = fillsOf tk l0)) (ps.take j)
          rw [List.length_take] at this
          unfold psV
          rw [List.length_map]; exact small4k (by omega)
        · rw [upd_ne (ne_of_none hb2 hD)]; exact s10 _ _ hb2
        · rw [upd_same, take_snoc hl1, List.filter_append, List.filter_cons, if_pos (decide_eq_true h), List.filter_nil]
          unfold psV
          rw [List.map_append]; rfl
      · refine ⟨s10, ?_⟩
        rw [take_snoc hl1, List.filter_append, List.filter_cons, if_neg (by rw [decide_eq_false h]; exact Bool.false_ne_true), List.filter_nil, List.append_nil]
        exact hd9
    · rintro H7 ⟨s7, hd⟩
      rw [pvl, List.take_length] at hd
      refine ⟨(by show 3 ≤ sizeLine; decide), fun q hq => ?_⟩
      have sq := same_upd (o := HO.tup [V.ref x, V.ref y, V.ref D]) hq
      have s8 := (s6.trans s7).trans sq
      have nDb : D ≠ b := (G5.same s6).ne_new hD
      refine k _ q x y D tk (fillsOf tk l0) _ ((G5.same s8).mono (by omega)) ((F3.trans F5).trans (Fr.of s8)) upd_same (sq _ _ (s7 _ _ hx6)) (sq _ _ (s7 _ _ hy)) (sq _ _ hd) nxb (G5.ne_new ny) nDb pl (by omega) ⟨pl.nd, fills_perm g0 (by omega), fun l => ?_, fun e => ?_⟩ ?_
      · rw [List.mem_filter, hps]
        constructor
        · rintro ⟨⟨a1, a2⟩, a3⟩; exact ⟨a1, by omega, of_decide_eq_true a3⟩
        · rintro ⟨a1, a2, a3⟩; exact ⟨⟨a1, by omega⟩, decide_eq_true a3⟩
      · have : l0 ∈ ps.filter fun l => decide (fillsOf tk l = fillsOf tk l0) := List.mem_filter.mpr ⟨List.mem_of_getElem? hl0, decide_eq_true rfl⟩
        rw [e] at this; cases this
      · exact Nat.le_trans (List.length_filter_le _ _) psl
end
end LP

namespace LP
open PySem L2 LT LG LQ LH LC LX LR
local macro_rules | `(tactic| array_mem_dec) => `(tactic| first
  | assumption
  | ((with_reducible apply LS.hp_s); assumption; array_mem_dec)
  | ((with_reducible apply LS.hp_f); assumption; array_mem_dec; array_mem_dec)
  | ((with_reducible apply LS.hp_t); assumption; array_mem_dec; array_mem_dec)
  | ((with_reducible apply LS.hp_l); assumption; array_mem_dec; array_mem_dec)
  | ((with_reducible apply LS.sq_o); array_mem_dec)
  | ((with_reducible apply LS.sq_s); assumption; array_mem_dec)
  | ((with_reducible apply LS.sq_f); assumption; array_mem_dec; array_mem_dec)
  | ((with_reducible apply LS.sq_t); assumption; array_mem_dec; array_mem_dec)
  | ((with_reducible apply LS.sq_l); assumption; array_mem_dec; array_mem_dec)
  | ((with_reducible apply LS.tu_o); array_mem_dec)
  | ((with_reducible apply LS.tu_s); assumption; array_mem_dec)
  | ((with_reducible apply LS.tu_f); assumption; array_mem_dec; array_mem_dec)
  | ((with_reducible apply LS.tu_t); assumption; array_mem_dec; array_mem_dec)
  | ((with_reducible apply LS.tu_l); assumption; array_mem_dec; array_mem_dec)
  | ((with_reducible apply LS.se_l); array_mem_dec)
  | ((with_reducible apply LS.se_t); array_mem_dec)
  | ((with_reducible apply LS.se_s); assumption; array_mem_dec)
  | ((with_reducible apply LS.se_f); assumption; array_mem_dec; array_mem_dec)
  | ((with_reducible apply LS.se_tt); assumption; array_mem_dec; array_mem_dec)
  | ((with_reducible exact Same.refl _))
  | ((with_reducible apply LS.sm_s); assumption; array_mem_dec)
  | ((with_reducible apply LS.sm_f); assumption; array_mem_dec; array_mem_dec)
  | ((with_reducible exact Fr.refl _ _))
  | ((with_reducible apply LS.fr_b); assumption; array_mem_dec)
  | ((with_reducible apply LS.fr_s); assumption; array_mem_dec)
  | ((with_reducible apply LS.fr_n); assumption; array_mem_dec; array_mem_dec)
  | ((with_reducible apply LS.fr_t); assumption; array_mem_dec)
  | ((with_reducible apply LS.no_s); assumption; array_mem_dec)
  | ((with_reducible apply LS.no_f); assumption; array_mem_dec; array_mem_dec)
  | ((with_reducible apply LS.no_t); assumption; array_mem_dec)
  | ((with_reducible apply LS.no_l); assumption; assumption)
  | ((with_reducible apply Ne.symm); assumption)
  | ((with_reducible apply LS.ne_a); assumption; array_mem_dec)
  | ((with_reducible apply LS.ne_b); assumption; array_mem_dec)
  | ((with_reducible apply LS.ne_ap); assumption)
  | ((with_reducible apply LS.ne_il); assumption; array_mem_dec)
  | ((with_reducible apply LS.ne_li); assumption; array_mem_dec)
  | ((with_reducible apply LS.ne_lt); assumption; assumption)
  | ((with_reducible apply LS.ne_tl); assumption; assumption)
  | ((with_reducible apply LS.ne_rl); assumption; array_mem_dec)
  | ((with_reducible apply LS.rl_t); assumption)
  | ((with_reducible apply LS.rl_s); assumption; array_mem_dec)
  | ((with_reducible apply LS.rl_f); assumption; array_mem_dec; array_mem_dec)
  | ((with_reducible apply LS.rl_l); assumption; array_mem_dec; array_mem_dec)
  | ((with_reducible apply LS.ap_new); assumption; assumption; array_mem_dec)
  | ((with_reducible apply LS.ap_t); assumption; array_mem_dec; array_mem_dec)
  | ((with_reducible apply LS.ap_s); assumption; array_mem_dec; array_mem_dec)
  | ((with_reducible apply LS.ap_f); assumption; array_mem_dec; array_mem_dec; array_mem_dec)
  | ((with_reducible apply LS.ap_l); assumption; array_mem_dec; array_mem_dec; array_mem_dec)
  | (with_reducible apply LS.ni_nil)
  | ((with_reducible apply LS.ni_cons); array_mem_dec; array_mem_dec)
  | (with_reducible apply LS.trk_nil)
  | ((with_reducible apply LS.trk_cons); array_mem_dec; array_mem_dec)
  | (with_reducible apply LS.al_nil)
  | ((with_reducible apply LS.al_cons); array_mem_dec; array_mem_dec)
  | (with_reducible apply LS.mem_hd)
  | ((with_reducible apply LS.mem_tl); array_mem_dec)
  | ((with_reducible apply LS.fl_refl); array_mem_dec)
  | ((with_reducible apply LS.fl_l); assumption; array_mem_dec)
  | ((with_reducible apply LS.fl_lm); assumption; array_mem_dec; array_mem_dec)
  | (with_reducible apply LS.sub_nil)
  | ((with_reducible apply LS.sub_cons); array_mem_dec; array_mem_dec)
  | ((with_reducible apply LS.fl_s); assumption; array_mem_dec)
  | ((with_reducible apply LS.fl_m); assumption; array_mem_dec; array_mem_dec; array_mem_dec)
  | ((with_reducible apply LS.fl_n); assumption; array_mem_dec; array_mem_dec; array_mem_dec)
  | ((with_reducible apply LS.rt_refl); array_mem_dec)
  | ((with_reducible apply LS.rt_t); assumption; array_mem_dec)
  | ((with_reducible apply LS.rt_s); assumption; array_mem_dec)
  | ((with_reducible apply LS.rt_f); assumption; array_mem_dec; array_mem_dec; array_mem_dec)
  | ((with_reducible apply LS.sz); (first | decide | (simp only [List.length_append, List.length_map, List.length_cons, List.length_nil, List.length_replicate]; omega)))
  | ((with_reducible apply LS.szl); (first | decide | (simp only [List.length_append, List.length_map, List.length_cons, List.length_nil, List.length_replicate]; omega))))
local macro_rules | `(tactic| array_get_dec) => `(tactic| first
  | ((with_reducible apply LS.var); exact rfl)
  | (with_reducible apply LS.con)
  | (with_reducible apply LS.op)
  | (with_reducible apply LS.ri0)
  | (with_reducible apply LS.tseq)
  | (with_reducible apply LS.tasg)
  | (with_reducible apply LS.gname)
  | (with_reducible apply LS.tcons)
  | (with_reducible apply LS.tnil)
  | (with_reducible apply LS.tcb)
  | (with_reducible apply LS.tcall)
  | (with_reducible apply LS.ttest)
  | (with_reducible apply LS.k_b)
  | (with_reducible apply LS.tb)
  | (with_reducible apply LS.tifs)
  | (with_reducible apply LS.ift)
  | (with_reducible apply LS.iff_)
  | (with_reducible apply LS.ifnt)
  | (with_reducible apply LS.ifnf)
  | (with_reducible apply LS.tnext)
  | (with_reducible apply LS.tdrop)
  | (with_reducible apply LS.tret)
  | (with_reducible apply LS.tretn)
  | (with_reducible apply LS.un)
  | (with_reducible apply LS.ru)
  | (with_reducible apply LS.tyes)
  | (with_reducible apply LS.tand)
  | (with_reducible apply LS.tor)
  | (with_reducible apply LS.tnot)
  | (with_reducible apply LS.tif)
  | (with_reducible apply LS.tandv)
  | (with_reducible apply LS.k_av)
  | (with_reducible apply LS.torv)
  | (with_reducible apply LS.k_ov)
  | (with_reducible apply LS.tnotv)
  | (with_reducible apply LS.k_nv)
  | (with_reducible apply LS.tchain)
  | (with_reducible apply LS.k_ch)
  | (with_reducible apply LS.req_i)
  | (with_reducible apply LS.rne_i)
  | (with_reducible apply LS.req_s)
  | (with_reducible apply LS.rne_s)
  | (with_reducible apply LS.req_b)
  | (with_reducible apply LS.rne_b)
  | ((with_reducible apply LS.rin_i); array_mem_dec)
  | ((with_reducible apply LS.rni_i); array_mem_dec)
  | ((with_reducible apply LS.rlen_li); array_mem_dec)
  | ((with_reducible apply LS.rlen_ls); array_mem_dec)
  | ((with_reducible apply LS.rlen_l); array_mem_dec)
  | ((with_reducible apply LS.rlen_Ei); array_mem_dec)
  | ((with_reducible apply LS.rlen_E); array_mem_dec)
  | ((with_reducible apply LS.rlen_t); array_mem_dec)
  | ((with_reducible apply LS.rixl); array_mem_dec; exact rfl)
  | ((with_reducible apply LS.rixt); array_mem_dec; exact rfl)
  | (with_reducible apply LS.isi_int_int)
  | (with_reducible apply LS.isi_int_bool)
  | (with_reducible apply LS.isi_int_str)
  | (with_reducible apply LS.isi_str_int)
  | (with_reducible apply LS.isi_str_bool)
  | (with_reducible apply LS.isi_str_str)
  | (with_reducible apply LS.isi_bool_int)
  | (with_reducible apply LS.isi_bool_bool)
  | (with_reducible apply LS.isi_bool_str)
  | (with_reducible apply LS.isi_non_int)
  | (with_reducible apply LS.isi_non_bool)
  | (with_reducible apply LS.isi_non_str)
  | ((with_reducible apply LS.isi_list_int); array_mem_dec)
  | ((with_reducible apply LS.isi_list_bool); array_mem_dec)
  | ((with_reducible apply LS.isi_list_str); array_mem_dec)
  | ((with_reducible apply LS.isi_list_list); array_mem_dec)
  | ((with_reducible apply LS.isi_list_tuple); array_mem_dec)
  | ((with_reducible apply LS.isi_tuple_int); array_mem_dec)
  | ((with_reducible apply LS.isi_tuple_bool); array_mem_dec)
  | ((with_reducible apply LS.isi_tuple_str); array_mem_dec)
  | ((with_reducible apply LS.isi_tuple_list); array_mem_dec)
  | ((with_reducible apply LS.isi_tuple_tuple); array_mem_dec)
  | ((with_reducible apply LS.isiT_i); array_mem_dec)
  | ((with_reducible apply LS.isiT_s); array_mem_dec)
  | ((with_reducible apply LS.isiT_E); array_mem_dec; array_mem_dec)
  | (with_reducible apply LS.tfld)
  | ((with_reducible apply LS.k_fl); array_mem_dec; assumption; assumption; exact rfl)
  | (with_reducible apply LS.tmeth)
  | ((with_reducible apply LS.k_me); array_mem_dec; exact rfl)
  | (with_reducible apply LS.tmake)
  | (with_reducible apply LS.tsfld)
  | (with_reducible apply LS.tprop)
  | ((with_reducible apply LS.k_pr); array_mem_dec)
  | ((with_reducible apply LS.rlen_own); array_mem_dec)
  | (with_reducible apply LS.rabs)
  | (with_reducible apply LS.rmin2)
  | (with_reducible apply LS.rmax2)
  | (with_reducible apply LS.tsl)
  | (with_reducible apply LS.tthen)
  | (with_reducible apply LS.tstep)
  | (with_reducible apply LS.tnop)
  | (with_reducible apply LS.tpart)
  | (with_reducible apply LS.k_part)
  | (with_reducible apply LS.ttup)
  | (with_reducible apply LS.tlst)
  | (with_reducible apply LS.tbm)
  | (with_reducible apply LS.tbm0)
  | ((with_reducible apply LS.ty_l); array_mem_dec)
  | (with_reducible apply LS.tpar)
  | (with_reducible apply LS.tfor)
  | (with_reducible apply LS.tlc)
  | (with_reducible apply LS.ilist)
  | ((with_reducible apply LS.k_il); array_mem_dec)
  | (with_reducible apply LS.itup)
  | ((with_reducible apply LS.k_it); array_mem_dec)
  | (with_reducible apply LS.istr)
  | (with_reducible apply LS.k_is)
  | (with_reducible apply LS.irng1)
  | ((with_reducible apply LS.k_r1n); omega)
  | ((with_reducible apply LS.k_r1); (first | omega | decide); (first | omega | decide))
  | (with_reducible apply LS.irng2)
  | ((with_reducible apply LS.k_r2); (first | omega | decide); (first | omega | decide); (first | omega | decide); (first | omega | decide))
  | (with_reducible apply LS.ienum)
  | ((with_reducible apply LS.k_en); array_mem_dec)
  | (with_reducible apply LS.izip)
  | ((with_reducible apply LS.k_zip); array_mem_dec; array_mem_dec)
  | (with_reducible apply LS.tlstrg)
  | (with_reducible apply LS.trg1)
  | (with_reducible apply LS.k_g1)
  | (with_reducible apply LS.risn_i)
  | (with_reducible apply LS.risn_s)
  | (with_reducible apply LS.risn_n)
  | (with_reducible apply LS.rnotn_i)
  | (with_reducible apply LS.rnotn_n)
  | (with_reducible apply LS.rint_b)
  | (with_reducible apply LS.rint_i)
  | (with_reducible apply LS.tm0)
  | (with_reducible apply LS.tm1)
  | (with_reducible apply LS.is_str)
  | (with_reducible apply LS.ex_s0)
  | (with_reducible apply LS.ex_int_b)
  | (with_reducible apply LS.k_par)
  | (with_reducible apply LS.tpar3)
  | (with_reducible apply LS.k_par3)
  | ((with_reducible apply LS.taug); exact rfl)
  | (with_reducible apply LS.ipi)
  | ((with_reducible apply LS.gtup); array_mem_dec; exact rfl)
  | ((with_reducible apply LS.gunl); array_mem_dec; exact rfl)
  | (with_reducible apply LS.gnil)
  | (with_reducible apply LS.gcons)
  | (with_reducible apply LS.gsub)
  | ((with_reducible apply LS.ri); first | omega | decide | assumption | exact ⟨by decide, by decide, by decide⟩ | exact .inl ⟨by decide, by decide⟩ | exact .inr ⟨by decide, by decide⟩ | exact .inl ⟨by omega, by omega⟩ | exact .inr ⟨by omega, by omega⟩)
  | (with_reducible apply LS.ex_ss)
  | (with_reducible apply LS.ex_s1)
  | (with_reducible apply LS.ex_i1)
  | (with_reducible apply LS.and_rfl)
  | (with_reducible apply LS.and_tr)
  | (with_reducible apply LS.is_non))
local macro_rules | `(tactic| array_get_dec) => `(tactic| first
  | (with_reducible apply LS.tcalle)
  | (with_reducible apply LS.tcalls))
local macro_rules | `(tactic| array_get_dec) => `(tactic| first
  | (with_reducible apply LS.mks)
  | (with_reducible apply LS.rnotn_rr)
  | (with_reducible apply LS.risn_rr)
  | (with_reducible apply LS.txf))
local macro_rules | `(tactic| array_get_dec) => `(tactic| first
  | (with_reducible apply LS.trg2)
  | (with_reducible apply LS.k_g2))

section
variable {P : Program} {w : World} {K : PySem.W.Frag} {mg : Str → Option Value} {base : Heap}

def sp__law_times : Sp := fun vs H Q _ => ∃ l : Pat, vs = [.str (pstr l)] ∧ fls l ≤ 200 ∧ ∀ (H' : Hp) (p : Addr), Same H H' → H p = none → H' p = some (.lst (natV (times l))) → Q (.ref p) H'
theorem ok__law_times (e : Env P K mg) : FnOk P w K mg base CX0 1 e.a__law_times e.d__law_times ["pattern"] (sp__law_times) := by
  refine Fun.ok e.f__law_times sc__law_times (fun vs H Q E h => ?_) (fun cdv A outer s H vs Q E hr h => ?_)
  · obtain ⟨l, rfl, _⟩ := h; rfl
  · obtain ⟨l, rfl, hle, k⟩ := h
    refine ⟨_, (pss_cons (ps_par (i := 1) (j := 2) (by rfl) sc__law_times.nd rfl rfl (by decide) rfl rfl (pa_cons (pe_lst pa_nil) (pa_cons pe_int pa_nil)) (by rfl))
      (pss_cons (ps_for PassesOwn.never rfl (pi_str (pv 0)) (pg_name (i := 3) sc__law_times.nd rfl (by first | exact Or.inl rfl | exact Or.inr rfl))
      (pss_one (ps_if (pt_cmpR op_eq (pv 3) pe_str (nomark _))
        (pss_one (ps_set (i := 2) sc__law_times.nd rfl (by first | exact Or.inl rfl | exact Or.inr rfl) (pe_op op_add (pv 2) pe_int)))
        (pss_one (ps_expr (pe_bm PySem.F.plainAttrs_list PySem.F.slot_list_append PySem.F.type_list_append mt_append (pv 1) (pa_cons (pv 2) pa_nil)))))))
      (pss_one (ps_ret (pv 1))))), ?_⟩
    refine ⟨by decide, fun p hp => ⟨_, _, rfl, ?_⟩⟩
    refine ⟨_, rfl, _, rfl, for_it walk_str (fun i σ H1 => Same H H1 ∧ H1 p = some (.lst (natV (times (l.take i)))) ∧ ∃ v3 : Option V, σ = [some (.str (pstr l)), some (.ref p), some (.int (tks (l.take i) : Nat)), v3]) ⟨same_upd hp, upd_same, none, rfl⟩ (fun _ _ _ _ _ => trivial) ?_ ?_⟩
    · rintro i x σ H1 H2 hi ⟨s1, h1, v3, rfl⟩ ⟨rfl, c, hc, rfl⟩
      obtain ⟨b, hb, rfl⟩ := pstr_at hc
      cases b with
      | true =>
        refine ⟨_, rfl, rfl, _, rfl, iteD vsT ?_⟩
        refine ⟨_, rfl, _, _, rfl, rfl, s1, ?_, some (.str ⟨#[sgn true]⟩), ?_⟩
        · rw [take_snoc hb, times_t]; exact h1
        · rw [take_snoc hb, tks_t]; rfl
      | false =>
        refine ⟨_, rfl, rfl, _, rfl, iteX vsR ?_⟩
        have hl : (times (l.take i)).length ≤ 200 := by rw [times_len]; have := fls_take l i; omega
        refine ⟨_, rfl, .inl ⟨rfl, _, SqL.of h1⟩, _, rfl, p, _, _, rfl, rfl, h1, by unfold natV; rw [List.length_map]; exact small1000 (by omega), ?_, ?_, some (.str ⟨#[sgn false]⟩), ?_⟩
        · intro b o hb; rw [upd_ne (ne_of_none hb hp)]; exact s1 _ _ hb
        · rw [upd_same, take_snoc hb, times_f]; unfold natV; rw [List.map_append]; rfl
        · rw [take_snoc hb, tks_f]; rfl
    · rintro σ H1 ⟨s1, h1, v3, rfl⟩
      rw [pstr_size, List.take_length] at h1
      exact ⟨_, rfl, k _ p s1 hp h1⟩
def sp__law_told (K : PySem.W.Frag) : Sp := fun vs H Q _ => ∃ (a b p : Addr) (tk fs : List Int) (F : List Fact) (as : List Addr) (j : Nat), vs = [.ref a, .ref b, .ref p, .int j] ∧ Is K H a tk ∧ Is K H b fs ∧ Pl tk ∧ fs.Perm tk ∧ NoObs tk fs ∧ FsE K H p F as ∧ (∀ f ∈ F, f.ok tk.length) ∧ F.length ≤ 400 ∧ j < tk.length ∧
  (metB tk fs (F.map (lim tk.length)) = true → ∀ (H' : Hp) (q : Addr), Same H H' → H' q = some (.tup [.int (nbL tk fs F j : Nat), .int (nbH tk fs F j : Nat)]) → Q (.ref q) H') ∧
  (metB tk fs (F.map (lim tk.length)) = false → ∀ (H' : Hp) (q : Addr) (v : V) (r : List Nat), Same H H' → Conf F.length (One tk fs F) (Two tk F) r → RsAt H' v r → H' q = some (.tup [.str "no", v]) → Q (.ref q) H')
theorem ok__law_told (e : Env P K mg) : FnOk P w K mg base CX0 11 e.a__law_told e.d__law_told ["takes", "fills", "facts", "fill"] (sp__law_told K) := by
  refine Fun.ok e.f__law_told sc__law_told (fun vs H Q E h => ?_) (fun cdv A outer s H vs Q E hr h => ?_)
  · obtain ⟨a, b, p, tk, fs, F, as, j, rfl, _⟩ := h; rfl
  · obtain ⟨a, b, p, tk, fs, F, as, j, rfl, hE, hF, pl, pf, no, fe, ok, hl, hj, k1, k2⟩ := h
    refine ⟨_, (pss_one (ps_try_as (i := 4) rfl rfl sc__law_told.nd rfl rfl ⟨rfl, by decide, .inl e.g_Contradiction⟩ takes0 (fun W pn xe tk hpo => (pss_one (ps_ret (pe_callS ((okx_time_range e).mono (by decide)) hr rfl e.g_time_range e.f_time_range.kp e.b_time_range (fun σ => passAt tk σ) (pa_cons (pv 0) (pa_cons (pv 1) (pa_cons (pv 2) (pa_cons (pv 3) pa_nil)))))))) (fun a oe cls d pn hz hf => (pss_one (ps_ret (pe_tup (pa_cons pe_str (pa_cons (pe_xf e.xf_Contradiction e.su_Contradiction.noF hz hf (pv 4)) pa_nil)))))))), ?_⟩
    repeat array_get_dec
    refine ⟨a, b, p, tk, fs, F, as, j, rfl, hE, hF, pl, pf, no, fe, ok, hl, hj, fun hm H1 q s1 hq => ?_, fun hm H1 v r d s1 c rs nd hd => ?_⟩
    · repeat array_get_dec
      exact k1 hm H1 q s1 hq
    · refine ⟨true, e.te_Contradiction_Contradiction, fun _ x nx => ?_, fun z => nomatch z⟩
      repeat array_get_dec
      refine LS.k_xf hd rfl ?_
      repeat array_get_dec
      refine LS.k_tup (by show 2 ≤ sizeLine; decide) fun z H2 nz s2 hz => ?_
      exact k2 hm H2 z v r (s1.trans s2) c (rs.same s2) hz
end
end LP

namespace LP
open PySem L2 LT LG LQ LH LC LX LR
local macro_rules | `(tactic| array_mem_dec) => `(tactic| first
  | assumption
  | ((with_reducible apply LS.hp_s); assumption; array_mem_dec)
  | ((with_reducible apply LS.hp_f); assumption; array_mem_dec; array_mem_dec)
  | ((with_reducible apply LS.hp_t); assumption; array_mem_dec; array_mem_dec)
  | ((with_reducible apply LS.hp_l); assumption; array_mem_dec; array_mem_dec)
  | ((with_reducible apply LS.sq_o); array_mem_dec)
  | ((with_reducible apply LS.sq_s); assumption; array_mem_dec)
  | ((with_reducible apply LS.sq_f); assumption; array_mem_dec; array_mem_dec)
  | ((with_reducible apply LS.sq_t); assumption; array_mem_dec; array_mem_dec)
  | ((with_reducible apply LS.sq_l); assumption; array_mem_dec; array_mem_dec)
  | ((with_reducible apply LS.tu_o); array_mem_dec)
  | ((with_reducible apply LS.tu_s); assumption; array_mem_dec)
  | ((with_reducible apply LS.tu_f); assumption; array_mem_dec; array_mem_dec)
  | ((with_reducible apply LS.tu_t); assumption; array_mem_dec; array_mem_dec)
  | ((with_reducible apply LS.tu_l); assumption; array_mem_dec; array_mem_dec)
  | ((with_reducible apply LS.se_l); array_mem_dec)
  | ((with_reducible apply LS.se_t); array_mem_dec)
  | ((with_reducible apply LS.se_s); assumption; array_mem_dec)
  | ((with_reducible apply LS.se_f); assumption; array_mem_dec; array_mem_dec)
  | ((with_reducible apply LS.se_tt); assumption; array_mem_dec; array_mem_dec)
  | ((with_reducible exact Same.refl _))
  | ((with_reducible apply LS.sm_s); assumption; array_mem_dec)
  | ((with_reducible apply LS.sm_f); assumption; array_mem_dec; array_mem_dec)
  | ((with_reducible exact Fr.refl _ _))
  | ((with_reducible apply LS.fr_b); assumption; array_mem_dec)
  | ((with_reducible apply LS.fr_s); assumption; array_mem_dec)
  | ((with_reducible apply LS.fr_n); assumption; array_mem_dec; array_mem_dec)
  | ((with_reducible apply LS.fr_t); assumption; array_mem_dec)
  | ((with_reducible apply LS.no_s); assumption; array_mem_dec)
  | ((with_reducible apply LS.no_f); assumption; array_mem_dec; array_mem_dec)
  | ((with_reducible apply LS.no_t); assumption; array_mem_dec)
  | ((with_reducible apply LS.no_l); assumption; assumption)
  | ((with_reducible apply Ne.symm); assumption)
  | ((with_reducible apply LS.ne_a); assumption; array_mem_dec)
  | ((with_reducible apply LS.ne_b); assumption; array_mem_dec)
  | ((with_reducible apply LS.ne_ap); assumption)
  | ((with_reducible apply LS.ne_il); assumption; array_mem_dec)
  | ((with_reducible apply LS.ne_li); assumption; array_mem_dec)
  | ((with_reducible apply LS.ne_lt); assumption; assumption)
  | ((with_reducible apply LS.ne_tl); assumption; assumption)
  | ((with_reducible apply LS.ne_rl); assumption; array_mem_dec)
  | ((with_reducible apply LS.rl_t); assumption)
  | ((with_reducible apply LS.rl_s); assumption; array_mem_dec)
  | ((with_reducible apply LS.rl_f); assumption; array_mem_dec; array_mem_dec)
  | ((with_reducible apply LS.rl_l); assumption; array_mem_dec; array_mem_dec)
  | ((with_reducible apply LS.ap_new); assumption; assumption; array_mem_dec)
  | ((with_reducible apply LS.ap_t); assumption; array_mem_dec; array_mem_dec)
  | ((with_reducible apply LS.ap_s); assumption; array_mem_dec; array_mem_dec)
  | ((with_reducible apply LS.ap_f); assumption; array_mem_dec; array_mem_dec; array_mem_dec)
  | ((with_reducible apply LS.ap_l); assumption; array_mem_dec; array_mem_dec; array_mem_dec)
  | (with_reducible apply LS.ni_nil)
  | ((with_reducible apply LS.ni_cons); array_mem_dec; array_mem_dec)
  | (with_reducible apply LS.trk_nil)
  | ((with_reducible apply LS.trk_cons); array_mem_dec; array_mem_dec)
  | (with_reducible apply LS.al_nil)
  | ((with_reducible apply LS.al_cons); array_mem_dec; array_mem_dec)
  | (with_reducible apply LS.mem_hd)
  | ((with_reducible apply LS.mem_tl); array_mem_dec)
  | ((with_reducible apply LS.fl_refl); array_mem_dec)
  | ((with_reducible apply LS.fl_l); assumption; array_mem_dec)
  | ((with_reducible apply LS.fl_lm); assumption; array_mem_dec; array_mem_dec)
  | (with_reducible apply LS.sub_nil)
  | ((with_reducible apply LS.sub_cons); array_mem_dec; array_mem_dec)
  | ((with_reducible apply LS.fl_s); assumption; array_mem_dec)
  | ((with_reducible apply LS.fl_m); assumption; array_mem_dec; array_mem_dec; array_mem_dec)
  | ((with_reducible apply LS.fl_n); assumption; array_mem_dec; array_mem_dec; array_mem_dec)
  | ((with_reducible apply LS.rt_refl); array_mem_dec)
  | ((with_reducible apply LS.rt_t); assumption; array_mem_dec)
  | ((with_reducible apply LS.rt_s); assumption; array_mem_dec)
  | ((with_reducible apply LS.rt_f); assumption; array_mem_dec; array_mem_dec; array_mem_dec)
  | ((with_reducible apply LS.sz); (first | decide | (simp only [List.length_append, List.length_map, List.length_cons, List.length_nil, List.length_replicate]; omega)))
  | ((with_reducible apply LS.szl); (first | decide | (simp only [List.length_append, List.length_map, List.length_cons, List.length_nil, List.length_replicate]; omega))))
local macro_rules | `(tactic| array_get_dec) => `(tactic| first
  | ((with_reducible apply LS.var); exact rfl)
  | (with_reducible apply LS.con)
  | (with_reducible apply LS.op)
  | (with_reducible apply LS.ri0)
  | (with_reducible apply LS.tseq)
  | (with_reducible apply LS.tasg)
  | (with_reducible apply LS.gname)
  | (with_reducible apply LS.tcons)
  | (with_reducible apply LS.tnil)
  | (with_reducible apply LS.tcb)
  | (with_reducible apply LS.tcall)
  | (with_reducible apply LS.ttest)
  | (with_reducible apply LS.k_b)
  | (with_reducible apply LS.tb)
  | (with_reducible apply LS.tifs)
  | (with_reducible apply LS.ift)
  | (with_reducible apply LS.iff_)
  | (with_reducible apply LS.ifnt)
  | (with_reducible apply LS.ifnf)
  | (with_reducible apply LS.tnext)
  | (with_reducible apply LS.tdrop)
  | (with_reducible apply LS.tret)
  | (with_reducible apply LS.tretn)
  | (with_reducible apply LS.un)
  | (with_reducible apply LS.ru)
  | (with_reducible apply LS.tyes)
  | (with_reducible apply LS.tand)
  | (with_reducible apply LS.tor)
  | (with_reducible apply LS.tnot)
  | (with_reducible apply LS.tif)
  | (with_reducible apply LS.tandv)
  | (with_reducible apply LS.k_av)
  | (with_reducible apply LS.torv)
  | (with_reducible apply LS.k_ov)
  | (with_reducible apply LS.tnotv)
  | (with_reducible apply LS.k_nv)
  | (with_reducible apply LS.tchain)
  | (with_reducible apply LS.k_ch)
  | (with_reducible apply LS.req_i)
  | (with_reducible apply LS.rne_i)
  | (with_reducible apply LS.req_s)
  | (with_reducible apply LS.rne_s)
  | (with_reducible apply LS.req_b)
  | (with_reducible apply LS.rne_b)
  | ((with_reducible apply LS.rin_i); array_mem_dec)
  | ((with_reducible apply LS.rni_i); array_mem_dec)
  | ((with_reducible apply LS.rlen_li); array_mem_dec)
  | ((with_reducible apply LS.rlen_ls); array_mem_dec)
  | ((with_reducible apply LS.rlen_l); array_mem_dec)
  | ((with_reducible apply LS.rlen_Ei); array_mem_dec)
  | ((with_reducible apply LS.rlen_E); array_mem_dec)
  | ((with_reducible apply LS.rlen_t); array_mem_dec)
  | ((with_reducible apply LS.rixl); array_mem_dec; exact rfl)
  | ((with_reducible apply LS.rixt); array_mem_dec; exact rfl)
  | (with_reducible apply LS.isi_int_int)
  | (with_reducible apply LS.isi_int_bool)
  | (with_reducible apply LS.isi_int_str)
  | (with_reducible apply LS.isi_str_int)
  | (with_reducible apply LS.isi_str_bool)
  | (with_reducible apply LS.isi_str_str)
  | (with_reducible apply LS.isi_bool_int)
  | (with_reducible apply LS.isi_bool_bool)
  | (with_reducible apply LS.isi_bool_str)
  | (with_reducible apply LS.isi_non_int)
  | (with_reducible apply LS.isi_non_bool)
  | (with_reducible apply LS.isi_non_str)
  | ((with_reducible apply LS.isi_list_int); array_mem_dec)
  | ((with_reducible apply LS.isi_list_bool); array_mem_dec)
  | ((with_reducible apply LS.isi_list_str); array_mem_dec)
  | ((with_reducible apply LS.isi_list_list); array_mem_dec)
  | ((with_reducible apply LS.isi_list_tuple); array_mem_dec)
  | ((with_reducible apply LS.isi_tuple_int); array_mem_dec)
  | ((with_reducible apply LS.isi_tuple_bool); array_mem_dec)
  | ((with_reducible apply LS.isi_tuple_str); array_mem_dec)
  | ((with_reducible apply LS.isi_tuple_list); array_mem_dec)
  | ((with_reducible apply LS.isi_tuple_tuple); array_mem_dec)
  | ((with_reducible apply LS.isiT_i); array_mem_dec)
  | ((with_reducible apply LS.isiT_s); array_mem_dec)
  | ((with_reducible apply LS.isiT_E); array_mem_dec; array_mem_dec)
  | (with_reducible apply LS.tfld)
  | ((with_reducible apply LS.k_fl); array_mem_dec; assumption; assumption; exact rfl)
  | (with_reducible apply LS.tmeth)
  | ((with_reducible apply LS.k_me); array_mem_dec; exact rfl)
  | (with_reducible apply LS.tmake)
  | (with_reducible apply LS.tsfld)
  | (with_reducible apply LS.tprop)
  | ((with_reducible apply LS.k_pr); array_mem_dec)
  | ((with_reducible apply LS.rlen_own); array_mem_dec)
  | (with_reducible apply LS.rabs)
  | (with_reducible apply LS.rmin2)
  | (with_reducible apply LS.rmax2)
  | (with_reducible apply LS.tsl)
  | (with_reducible apply LS.tthen)
  | (with_reducible apply LS.tstep)
  | (with_reducible apply LS.tnop)
  | (with_reducible apply LS.tpart)
  | (with_reducible apply LS.k_part)
  | (with_reducible apply LS.ttup)
  | (with_reducible apply LS.tlst)
  | (with_reducible apply LS.tbm)
  | (with_reducible apply LS.tbm0)
  | ((with_reducible apply LS.ty_l); array_mem_dec)
  | (with_reducible apply LS.tpar)
  | (with_reducible apply LS.tfor)
  | (with_reducible apply LS.tlc)
  | (with_reducible apply LS.ilist)
  | ((with_reducible apply LS.k_il); array_mem_dec)
  | (with_reducible apply LS.itup)
  | ((with_reducible apply LS.k_it); array_mem_dec)
  | (with_reducible apply LS.istr)
  | (with_reducible apply LS.k_is)
  | (with_reducible apply LS.irng1)
  | ((with_reducible apply LS.k_r1n); omega)
  | ((with_reducible apply LS.k_r1); (first | omega | decide); (first | omega | decide))
  | (with_reducible apply LS.irng2)
  | ((with_reducible apply LS.k_r2); (first | omega | decide); (first | omega | decide); (first | omega | decide); (first | omega | decide))
  | (with_reducible apply LS.ienum)
  | ((with_reducible apply LS.k_en); array_mem_dec)
  | (with_reducible apply LS.izip)
  | ((with_reducible apply LS.k_zip); array_mem_dec; array_mem_dec)
  | (with_reducible apply LS.tlstrg)
  | (with_reducible apply LS.trg1)
  | (with_reducible apply LS.k_g1)
  | (with_reducible apply LS.risn_i)
  | (with_reducible apply LS.risn_s)
  | (with_reducible apply LS.risn_n)
  | (with_reducible apply LS.rnotn_i)
  | (with_reducible apply LS.rnotn_n)
  | (with_reducible apply LS.rint_b)
  | (with_reducible apply LS.rint_i)
  | (with_reducible apply LS.tm0)
  | (with_reducible apply LS.tm1)
  | (with_reducible apply LS.is_str)
  | (with_reducible apply LS.ex_s0)
  | (with_reducible apply LS.ex_int_b)
  | (with_reducible apply LS.k_par)
  | (with_reducible apply LS.tpar3)
  | (with_reducible apply LS.k_par3)
  | ((with_reducible apply LS.taug); exact rfl)
  | (with_reducible apply LS.ipi)
  | ((with_reducible apply LS.gtup); array_mem_dec; exact rfl)
  | ((with_reducible apply LS.gunl); array_mem_dec; exact rfl)
  | (with_reducible apply LS.gnil)
  | (with_reducible apply LS.gcons)
  | (with_reducible apply LS.gsub)
  | ((with_reducible apply LS.ri); first | omega | decide | assumption | exact ⟨by decide, by decide, by decide⟩ | exact .inl ⟨by decide, by decide⟩ | exact .inr ⟨by decide, by decide⟩ | exact .inl ⟨by omega, by omega⟩ | exact .inr ⟨by omega, by omega⟩)
  | (with_reducible apply LS.ex_ss)
  | (with_reducible apply LS.ex_s1)
  | (with_reducible apply LS.ex_i1)
  | (with_reducible apply LS.and_rfl)
  | (with_reducible apply LS.and_tr)
  | (with_reducible apply LS.is_non))
local macro_rules | `(tactic| array_get_dec) => `(tactic| first
  | (with_reducible apply LS.tcalle)
  | (with_reducible apply LS.tcalls))
local macro_rules | `(tactic| array_get_dec) => `(tactic| first
  | (with_reducible apply LS.mks)
  | (with_reducible apply LS.rnotn_rr)
  | (with_reducible apply LS.risn_rr)
  | (with_reducible apply LS.txf))
local macro_rules | `(tactic| array_get_dec) => `(tactic| first
  | (with_reducible apply LS.trg2)
  | (with_reducible apply LS.k_g2))

section
variable {P : Program} {w : World} {K : PySem.W.Frag} {mg : Str → Option Value} {base : Heap}

open LG
def sq' (t : Bool) (xs : List V) : HO := if t = true then .tup xs else .lst xs
def dt' (t : Bool) (ds : List PyData) : PyData := if t = true then .tuple ds else .list ds
def isT (H : Hp) (a : Addr) : Bool := match H a with
  | some (.tup _) => true
  | _ => false
theorem EA.sq' {H : Hp} {a : Addr} {xs : List V} (h : EA H a xs) : H a = some (LP.sq' (isT H a) xs) := by
  rcases h with h | h
  · have : isT H a = false := by unfold isT; rw [h]
    rw [this]; exact h
  · have : isT H a = true := by unfold isT; rw [h]
    rw [this]; exact h
theorem dp_dt {K : PySem.W.Frag} {H : Hp} {a : Addr} {t : Bool} {xs : List V} {ds : List PyData} (h : H a = some (sq' t xs)) (d : DpAll K H xs ds) : Dp K H (.ref a) (dt' t ds) := by
  cases t with
  | true => exact .tup (SqT.of h) d
  | false => exact .lst (SqL.of h) d
theorem sm_dt {t : Bool} {k w : Nat} {l : List PyData} (h : ∀ d ∈ l, Sm d k w) : Sm (dt' t l) (k + 1) ((w + 1) * l.length) := by
  cases t with
  | true => exact Sm.tup h
  | false => exact Sm.list h
theorem sm_ints {tk : List Int} (pl : Pl tk) : ∀ d ∈ tk.map PyData.int, Sm d 0 121 := fun d hd => by
  obtain ⟨x, hx, rfl⟩ := List.mem_map.mp hd
  obtain ⟨h0, h1⟩ := pl.rg x hx
  exact Sm.int (Nat.lt_of_le_of_lt (show x.natAbs ≤ 10 ^ 30 by unfold G30 at h1; omega) (by decide))
def natD (r : List Nat) : List PyData := r.map fun t : Nat => .int t
theorem dp_nat {K : PySem.W.Frag} {H : Hp} : ∀ r : List Nat, DpAll K H (natV r) (natD r)
  | [] => .nil
  | a :: r => .cons (.int _) (dp_nat r)
theorem conf_lt {m : Nat} {p1 : Nat → Prop} {p2 : Nat → Nat → Prop} {r : List Nat} (h : Conf m p1 p2 r) : (∀ t ∈ r, t < m) ∧ r.length ≤ 2 := by
  obtain ⟨h⟩ := h
  rcases h with ⟨rfl, _⟩ | ⟨x, rfl, h, _⟩ | ⟨x, y, rfl, _, h1, h2, _⟩
  · exact ⟨(fun t h => by cases h), Nat.zero_le _⟩
  · exact ⟨(fun t ht => by rw [List.mem_singleton.mp ht]; exact h), Nat.le_succ 1⟩
  · refine ⟨fun t ht => ?_, Nat.le_refl _⟩
    rcases List.mem_cons.mp ht with rfl | ht
    · omega
    · rw [List.mem_singleton.mp ht]; exact h2
theorem sm_nat {m : Nat} {p1 : Nat → Prop} {p2 : Nat → Nat → Prop} {r : List Nat} (h : Conf m p1 p2 r) (hm : m ≤ 400) : ∀ d ∈ natD r, Sm d 0 121 := fun d hd => by
  obtain ⟨t, ht, rfl⟩ := List.mem_map.mp hd
  have := (conf_lt h).1 t ht
  exact Sm.int (by rw [Int.natAbs_natCast]; exact Nat.lt_of_le_of_lt (show t ≤ 400 by omega) (by decide))
theorem sm_nat_w {m : Nat} {p1 : Nat → Prop} {p2 : Nat → Nat → Prop} {r : List Nat} (h : Conf m p1 p2 r) : (121 + 1) * (natD r).length ≤ 200000 := by
  have := (conf_lt h).2
  unfold natD
  rw [List.length_map]; omega
def psD (ps : List Pat) : List PyData := ps.map fun t => .str (pstr t)
theorem dp_ps {K : PySem.W.Frag} {H : Hp} : ∀ ps : List Pat, DpAll K H (psV ps) (psD ps)
  | [] => .nil
  | a :: r => .cons (.str _) (dp_ps r)
theorem strOk_pat (l : Pat) : PyData.strOk (pstr l) = true := by
  unfold PyData.strOk
  show ((l.map sgn).toArray).all (fun x => decide (x < 1114112)) = true
  rw [List.all_toArray, List.all_eq_true]
  intro x hx
  obtain ⟨b, _, rfl⟩ := List.mem_map.mp hx
  cases b <;> decide
theorem shaped_ps (ps : List Pat) (h : ∀ t ∈ ps, t.length ≤ 10) : SeqAt.shaped (.list (psD ps)) = true := by
  have h1 : PyData.canLayAll0 (psD ps) = true := by
    unfold psD
    induction ps with
    | nil => rfl
    | cons a r ih =>
      simp only [List.map_cons, PyData.canLayAll0, Bool.and_eq_true]
      exact ⟨by simp [PyData.canLay0, strOk_pat a], ih fun t ht => h t (List.mem_cons_of_mem _ ht)⟩
  have h2 : PyData.depthAll (psD ps) = 0 := by
    clear h1
    unfold psD
    induction ps with
    | nil => rfl
    | cons a r ih =>
      have := ih fun t ht => h t (List.mem_cons_of_mem _ ht)
      simp [PyData.depthAll, PyData.depth]
      exact this
  simp [SeqAt.shaped, PyData.canLay0, PyData.depth, h1, h2]
/-- the numbers from lo to hi -/
def rgI (lo hi : Nat) : List Int := (List.range (hi + 1 - lo)).map fun k => ((lo + k : Nat) : Int)
theorem rgI_sorted (lo hi : Nat) : (rgI lo hi).Pairwise (· < ·) := by
  unfold rgI
  rw [List.pairwise_map]
  exact List.pairwise_lt_range.imp fun h => by omega
theorem mem_rgI {lo hi : Nat} {x : Int} : x ∈ rgI lo hi ↔ (lo : Int) ≤ x ∧ x ≤ hi := by
  unfold rgI
  rw [List.mem_map]
  constructor
  · rintro ⟨k, hk, rfl⟩
    have := List.mem_range.mp hk
    omega
  · rintro ⟨h1, h2⟩
    exact ⟨x.toNat - lo, List.mem_range.mpr (by omega), by omega⟩
theorem lt_unique : ∀ {xs ys : List Int}, xs.Pairwise (· < ·) → ys.Pairwise (· < ·) → (∀ k, k ∈ xs ↔ k ∈ ys) → xs = ys
  | [], [], _, _, _ => rfl
  | [], y :: ys, _, _, h => absurd ((h y).mpr (List.mem_cons_self ..)) (by simp)
  | x :: xs, [], _, _, h => absurd ((h x).mp (List.mem_cons_self ..)) (by simp)
  | x :: xs, y :: ys, h1, h2, h => by
    have a1 := List.pairwise_cons.mp h1
    have a2 := List.pairwise_cons.mp h2
    have e : x = y := by
      have m1 : x = y ∨ y < x := by
        rcases List.mem_cons.mp ((h x).mp (List.mem_cons_self ..)) with q | q
        · exact .inl q
        · exact .inr (a2.1 x q)
      have m2 : y = x ∨ x < y := by
        rcases List.mem_cons.mp ((h y).mpr (List.mem_cons_self ..)) with q | q
        · exact .inl q
        · exact .inr (a1.1 y q)
      omega
    subst e
    rw [lt_unique a1.2 a2.2 fun k => ?_]
    have q := h k
    constructor
    · intro hk
      rcases List.mem_cons.mp (q.mp (List.mem_cons_of_mem _ hk)) with z | z
      · have := a1.1 k hk; omega
      · exact z
    · intro hk
      rcases List.mem_cons.mp (q.mpr (List.mem_cons_of_mem _ hk)) with z | z
      · have := a2.1 k hk; omega
      · exact z
theorem rgV_rgI (lo hi : Nat) : rgV (lo : Int) ((hi : Int) + 1) = (rgI lo hi).map V.int := by
  unfold rgV rgI
  rw [List.map_map, show (((hi : Int) + 1) - (lo : Int)).toNat = hi + 1 - lo by omega]
  refine List.map_congr_left fun k _ => ?_
  show V.int ((lo : Int) + (k : Int)) = V.int ((lo + k : Nat) : Int)
  congr 1
theorem rgI_first {lo hi : Nat} (h : lo ≤ hi) : ((rgI lo hi).map V.int)[0]? = some (.int (lo : Nat)) := by
  unfold rgI
  rw [List.map_map, List.getElem?_map, List.getElem?_range (by omega)]
  rfl
theorem rgI_last {lo hi : Nat} (h : lo ≤ hi) : atI ((rgI lo hi).map V.int) (-1) = some (.int (hi : Nat)) := by
  have hl : ((rgI lo hi).map V.int).length = hi - lo + 1 := by unfold rgI; rw [List.length_map, List.length_map, List.length_range]; omega
  have : ixN ((rgI lo hi).map V.int).length (-1) = some (hi - lo) := by
    rw [hl]
    unfold ixN
    rw [if_neg (by omega), if_pos (by omega)]
    congr 1; omega
  unfold atI
  rw [this, Option.bind_some]
  unfold rgI
  rw [List.map_map, List.getElem?_map, List.getElem?_range (by omega)]
  show some (V.int ((lo + (hi - lo) : Nat) : Int)) = _
  rw [show lo + (hi - lo) = hi by omega]
/-- the patterns that satisfy all facts -/
abbrev fitL (ps : List Pat) (F : List Fact) : List Pat := ps.filter fun l => F.all (holds l)
def tj (j : Nat) (l : Pat) : Int := (((times l)[j]?.getD 0 : Nat) : Int)
def sp__law_due : Sp := fun vs H Q _ => ∃ (s p : Addr) (n j : Nat) (ps : List Pat) (F : List Fact) (as : List Addr) (lo hi : Nat), vs = [.ref s, .ref p, .int j] ∧ H s = some (.lst (psV ps)) ∧ FsL H p F as ∧ (∀ t ∈ ps, Good t ∧ tks t = n) ∧ (∀ f ∈ F, f.ok n) ∧ n ≤ 5 ∧ ps.length ≤ 1024 ∧ F.length ≤ 6 ∧ j < n ∧
  (fitL ps F ≠ [] → lo ≤ hi ∧ ∀ u : Nat, (∃ l ∈ fitL ps F, (times l)[j]? = some u) ↔ lo ≤ u ∧ u ≤ hi) ∧
  (fitL ps F = [] → ∀ (H' : Hp) (q : Addr) (v : V) (r : List Nat), Same H H' → Conf F.length (OneP ps F) (TwoP ps F) r → RsAt H' v r → H' q = some (.tup [.str "no", v]) → Q (.ref q) H') ∧
  (fitL ps F ≠ [] → ∀ (H' : Hp) (q : Addr), Same H H' → H' q = some (.tup [.int (lo : Nat), .int (hi : Nat)]) → Q (.ref q) H')
theorem ok__law_due (e : Env P K mg) : FnOk P w K mg base CX0 5 e.a__law_due e.d__law_due ["some", "facts", "fill"] (sp__law_due) := by
  refine Fun.ok e.f__law_due sc__law_due (fun vs H Q E h => ?_) (fun cdv A outer s H vs Q E hr h => ?_)
  · obtain ⟨s, p, n, j, ps, F, as, lo, hi, rfl, _⟩ := h; rfl
  · obtain ⟨s, p, n, j, ps, F, as, lo, hi, rfl, hs, fsl, okp, okf, hn, pl, fl, hj, hG, k1, k2⟩ := h
    refine ⟨_, (pss_cons (ps_set (i := 3) sc__law_due.nd rfl (by first | exact Or.inl rfl | exact Or.inr rfl) (pe_call ((ok__law_fitting e).mono (by decide)) hr rfl e.g__law_fitting e.f__law_fitting.kp e.b__law_fitting .nil pass0 (pa_cons (pv 0) (pa_cons (pv 1) pa_nil))))
      (pss_cons (ps_if (pt_cmpR (op_eqD hr.units) (pv 3) (pe_lst pa_nil) (nomark _))
        (pss_one (ps_ret (pe_tup (pa_cons pe_str (pa_cons (pe_call ((ok__law_conflict e).mono (by decide)) hr rfl e.g__law_conflict e.f__law_conflict.kp e.b__law_conflict .nil pass0 (pa_cons (pv 0) (pa_cons (pv 1) pa_nil))) pa_nil)))))
        pss_nil)
      (pss_cons (ps_set (i := 4) sc__law_due.nd rfl (by first | exact Or.inl rfl | exact Or.inr rfl) (pe_callB (cr_sortedSet rfl) (by rfl) e.n_sorted (by decide +kernel) (pa_cons (LX.pe_setL (by rfl) e.n_set (pe_lc (own := [("pattern", 5)]) rfl sc__law_due.nd (pi_list (pv 3)) (blkOk_by (N := ["some", "facts", "fill", "good", "times_here", "pattern"]) (sc := defScope s__law_due) (by decide +kernel)) (fun _ _ _ _ _ => (pg_name (i := 5) sc__law_due.nd rfl (by first | exact Or.inl rfl | exact Or.inr rfl))) (fun _ _ _ _ _ => pts_nil) (fun _ _ _ _ _ => (pe_ix (show IxR _ (rIxL K) from ix_list) (pe_call ((ok__law_times e).mono (by decide)) hr rfl e.g__law_times e.f__law_times.kp e.b__law_times .nil pass0 (pa_cons (pv 5) pa_nil)) (pv 2) (fun _ _ => rfl))))) pa_nil)))
      (pss_cons (ps_if (pt_cmpR (op_neD hr.units) (pv 4) (pe_listRg rfl (by rfl) e.n_list (prg_2 (by rfl) e.n_range (pe_ix ix_list (pv 4) pe_int (fun _ _ => rfl)) (pe_op op_add (pe_ix ix_list (pv 4) (pe_un un_neg pe_int) (fun _ _ => rfl)) pe_int))) (nomark _))
        (pss_one (ps_ret pe_str))
        pss_nil)
      (pss_one (ps_ret (pe_tup (pa_cons (pe_ix ix_list (pv 4) pe_int (fun _ _ => rfl)) (pa_cons (pe_ix ix_list (pv 4) (pe_un un_neg pe_int) (fun _ _ => rfl)) pa_nil))))))))), ?_⟩
    repeat array_get_dec
    refine ⟨s, p, n, ps, F, as, rfl, hs, fsl, okp, okf, hn, pl, fl, fun H1 q s1 nq hq => ?_⟩
    have okG : ∀ t ∈ fitL ps F, Good t ∧ tks t = n := fun t ht => okp t (List.mem_filter.mp ht).1
    have hlen : ∀ t ∈ fitL ps F, t.length ≤ 10 := fun t ht => by
      obtain ⟨g1, g2⟩ := okG t ht
      have := len_pat t
      have := g1.2
      omega
    have gl : (fitL ps F).length ≤ 1024 := Nat.le_trans (List.length_filter_le _ _) pl
    have hq : H1 q = some (.lst (psV (fitL ps F))) := hq
    repeat array_get_dec
    refine LS.k_lst (by array_mem_dec) fun e0 H_e0 n_e0 s_e0 h_e0 => ?_
    repeat array_get_dec
    refine LS.reqd (.lst (SqL.of (s_e0 _ _ hq)) (dp_ps _)) (.lst (SqL.of h_e0) .nil) (shaped_ps _ hlen) rfl ?_
    rw [eqv_lnil]
    have eG : (psD (fitL ps F) = []) ↔ fitL ps F = [] := by unfold psD; rw [List.map_eq_nil_iff]
    have t1 := s1.trans s_e0
    have hq0 := s_e0 _ _ hq
    clear hq s1 s_e0 h_e0 n_e0
    by_cases hg : fitL ps F = []
    · rw [decide_eq_true (eG.mpr hg)]
      repeat array_get_dec
      refine ⟨s, p, n, ps, F, as, rfl, t1 _ _ hs, fsl.same t1, okp, okf, hn, pl, fl, fun H2 v r s2 c rs => ?_⟩
      repeat array_get_dec
      refine LS.k_tup (by show 2 ≤ sizeLine; decide) fun z H3 nz s3 hz => ?_
      exact k1 hg H3 z v r ((t1.trans s2).trans s3) c (rs.same s3) hz
    · rw [decide_eq_false fun z => hg (eG.mp z)]
      obtain ⟨lh, hU⟩ := hG hg
      repeat array_get_dec
      generalize hGe : fitL ps F = G at *
      unfold LX.tSetL
      repeat array_get_dec
      refine LS.comp (walk_list (xs := psV G)) (fun D i acc H' => Same H_e0 H' ∧ acc = ((G.take i).map (tj j)).map V.int) (fun D H' nD s' hD => ⟨s', rfl⟩) (fun D i acc H' hi nD hD h => SqL.of (h.1 _ _ hq0)) ?_ ?_
      · rintro D i acc x H2 H3 nD hi hl2 hD ⟨s2, rfl⟩ ⟨rfl, hx⟩
        obtain ⟨l, hl, rfl⟩ := psV_at hx
        obtain ⟨g1, g2⟩ := okG l (List.mem_of_getElem? hl)
        refine ⟨rfl, ?_⟩
        repeat array_get_dec
        have hjl : j < (times l).length := by rw [times_len]; show j < fls l; rw [g1.2]; omega
        obtain ⟨t, ht⟩ : ∃ t, (times l)[j]? = some t := ⟨_, List.getElem?_eq_getElem hjl⟩
        refine ⟨l, rfl, by show fls l ≤ 200; rw [g1.2]; omega, fun H4 r s4 nr hr => ?_⟩
        repeat array_get_dec
        refine LS.rixl_n (j := j) (v := .int (t : Nat)) (SqL.of hr) (by unfold natV; rw [List.getElem?_map, ht]; rfl) rfl ?_
        refine LS.k_lc (s4 _ _ hD) hl2 (by have : (psV G).length = G.length := List.length_map ..; omega) fun H5 F5 hD5 => ⟨fun b o hb => F5 _ _ (s4 _ _ (s2 _ _ hb)) (ne_of_none hb nD), ?_⟩
        rw [List.take_add_one, hl]
        unfold tj
        rw [Option.toList_some, List.map_append, List.map_append, List.map_singleton, List.map_singleton, ht]
        rfl
      · rintro D acc H2 nD hD hl2 ⟨s2, rfl⟩
        have el : (psV G).length = G.length := List.length_map ..
        rw [el, List.take_length] at hD
        have tjN : ∀ x ∈ G.map (tj j), 0 ≤ x ∧ x < (6 : Nat) := fun x hx => by
          obtain ⟨l, hl, rfl⟩ := List.mem_map.mp hx
          obtain ⟨g1, g2⟩ := okG l hl
          have hjl : j < (times l).length := by rw [times_len]; show j < fls l; rw [g1.2]; omega
          have ht := List.getElem?_eq_getElem hjl
          have := ((times_all g1.1).1 _ _ ht).2
          unfold tj
          rw [ht, Option.getD_some]
          omega
        have tjM : ∀ x : Int, x ∈ G.map (tj j) ↔ x ∈ rgI lo hi := fun x => by
          rw [mem_rgI, List.mem_map]
          constructor
          · rintro ⟨l, hl, rfl⟩
            obtain ⟨g1, g2⟩ := okG l hl
            have hjl : j < (times l).length := by rw [times_len]; show j < fls l; rw [g1.2]; omega
            have ht := List.getElem?_eq_getElem hjl
            have := (hU _).mp ⟨l, hl, ht⟩
            unfold tj
            rw [ht, Option.getD_some]
            omega
          · rintro ⟨h1, h2⟩
            obtain ⟨l, hl, ht⟩ := (hU x.toNat).mpr (by omega)
            exact ⟨l, hl, by unfold tj; rw [ht, Option.getD_some]; omega⟩
        refine ⟨D, _, rfl, SqL.of hD, by rw [List.length_map]; omega, fun c m H3 nc s3 hc hm => ?_⟩
        have m6 := hm 6 tjN
        repeat array_get_dec
        refine ⟨c, _, m, rfl, hc, by omega, fun out p hs hm2 hl3 np => ?_⟩
        obtain rfl : out = rgI lo hi := lt_unique hs (rgI_sorted lo hi) fun k => by
          rw [hm2 k, ← tjM k]; exact decide_eq_true_iff
        have hp4 : (upd H3 p (.lst ((rgI lo hi).map V.int))) p = some (.lst ((rgI lo hi).map V.int)) := upd_same
        have t4 := ((t1.trans s2).trans s3).trans (same_upd (o := HO.lst ((rgI lo hi).map V.int)) np)
        generalize upd H3 p (.lst ((rgI lo hi).map V.int)) = H4 at hp4 t4
        repeat array_get_dec
        refine LS.rixl_n (j := 0) (SqL.of hp4) (rgI_first lh) rfl ?_
        repeat array_get_dec
        refine LS.rixl (SqL.of hp4) (rgI_last lh) ?_
        repeat array_get_dec
        have hi5 : hi ≤ 5 := by
          obtain ⟨l, hl, ht⟩ := (hU hi).mpr ⟨lh, Nat.le_refl _⟩
          have := ((times_all (okG l hl).1.1).1 _ _ ht).2
          have := (okG l hl).2
          omega
        refine LS.k_lr2 (RgOk.of_le (by omega) (by omega) (by omega) (by omega)) fun r H5 nr s5 hr => ?_
        rw [rgV_rgI] at hr
        refine LS.rne_il (SqL.of (s5 _ _ hp4)) (SqL.of hr) ?_
        rw [decide_eq_true rfl]
        have hp5 := s5 _ _ hp4
        repeat array_get_dec
        refine LS.rixl_n (j := 0) (SqL.of hp5) (rgI_first lh) rfl ?_
        repeat array_get_dec
        refine LS.rixl (SqL.of hp5) (rgI_last lh) ?_
        repeat array_get_dec
        refine LS.k_tup (by show 2 ≤ sizeLine; decide) fun z H6 nz s6 hz => ?_
        exact k2 hg H6 z ((t4.trans s5).trans s6) hz
end
end LP

namespace LP
open PySem L2 LT LG LQ LH LC LX LR
local macro_rules | `(tactic| array_mem_dec) => `(tactic| first
  | assumption
  | ((with_reducible apply LS.hp_s); assumption; array_mem_dec)
  | ((with_reducible apply LS.hp_f); assumption; array_mem_dec; array_mem_dec)
  | ((with_reducible apply LS.hp_t); assumption; array_mem_dec; array_mem_dec)
  | ((with_reducible apply LS.hp_l); assumption; array_mem_dec; array_mem_dec)
  | ((with_reducible apply LS.sq_o); array_mem_dec)
  | ((with_reducible apply LS.sq_s); assumption; array_mem_dec)
  | ((with_reducible apply LS.sq_f); assumption; array_mem_dec; array_mem_dec)
  | ((with_reducible apply LS.sq_t); assumption; array_mem_dec; array_mem_dec)
  | ((with_reducible apply LS.sq_l); assumption; array_mem_dec; array_mem_dec)
  | ((with_reducible apply LS.tu_o); array_mem_dec)
  | ((with_reducible apply LS.tu_s); assumption; array_mem_dec)
  | ((with_reducible apply LS.tu_f); assumption; array_mem_dec; array_mem_dec)
  | ((with_reducible apply LS.tu_t); assumption; array_mem_dec; array_mem_dec)
  | ((with_reducible apply LS.tu_l); assumption; array_mem_dec; array_mem_dec)
  | ((with_reducible apply LS.se_l); array_mem_dec)
  | ((with_reducible apply LS.se_t); array_mem_dec)
  | ((with_reducible apply LS.se_s); assumption; array_mem_dec)
  | ((with_reducible apply LS.se_f); assumption; array_mem_dec; array_mem_dec)
  | ((with_reducible apply LS.se_tt); assumption; array_mem_dec; array_mem_dec)
  | ((with_reducible exact Same.refl _))
  | ((with_reducible apply LS.sm_s); assumption; array_mem_dec)
  | ((with_reducible apply LS.sm_f); assumption; array_mem_dec; array_mem_dec)
  | ((with_reducible exact Fr.refl _ _))
  | ((with_reducible apply LS.fr_b); assumption; array_mem_dec)
  | ((with_reducible apply LS.fr_s); assumption; array_mem_dec)
  | ((with_reducible apply LS.fr_n); assumption; array_mem_dec; array_mem_dec)
  | ((with_reducible apply LS.fr_t); assumption; array_mem_dec)
  | ((with_reducible apply LS.no_s); assumption; array_mem_dec)
  | ((with_reducible apply LS.no_f); assumption; array_mem_dec; array_mem_dec)
  | ((with_reducible apply LS.no_t); assumption; array_mem_dec)
  | ((with_reducible apply LS.no_l); assumption; assumption)
  | ((with_reducible apply Ne.symm); assumption)
  | ((with_reducible apply LS.ne_a); assumption; array_mem_dec)
  | ((with_reducible apply LS.ne_b); assumption; array_mem_dec)
  | ((with_reducible apply LS.ne_ap); assumption)
  | ((with_reducible apply LS.ne_il); assumption; array_mem_dec)
  | ((with_reducible apply LS.ne_li); assumption; array_mem_dec)
  | ((with_reducible apply LS.ne_lt); assumption; assumption)
  | ((with_reducible apply LS.ne_tl); assumption; assumption)
  | ((with_reducible apply LS.ne_rl); assumption; array_mem_dec)
  | ((with_reducible apply LS.rl_t); assumption)
  | ((with_reducible apply LS.rl_s); assumption; array_mem_dec)
  | ((with_reducible apply LS.rl_f); assumption; array_mem_dec; array_mem_dec)
  | ((with_reducible apply LS.rl_l); assumption; array_mem_dec; array_mem_dec)
  | ((with_reducible apply LS.ap_new); assumption; assumption; array_mem_dec)
  | ((with_reducible apply LS.ap_t); assumption; array_mem_dec; array_mem_dec)
  | ((with_reducible apply LS.ap_s); assumption; array_mem_dec; array_mem_dec)
  | ((with_reducible apply LS.ap_f); assumption; array_mem_dec; array_mem_dec; array_mem_dec)
  | ((with_reducible apply LS.ap_l); assumption; array_mem_dec; array_mem_dec; array_mem_dec)
  | (with_reducible apply LS.ni_nil)
  | ((with_reducible apply LS.ni_cons); array_mem_dec; array_mem_dec)
  | (with_reducible apply LS.trk_nil)
  | ((with_reducible apply LS.trk_cons); array_mem_dec; array_mem_dec)
  | (with_reducible apply LS.al_nil)
  | ((with_reducible apply LS.al_cons); array_mem_dec; array_mem_dec)
  | (with_reducible apply LS.mem_hd)
  | ((with_reducible apply LS.mem_tl); array_mem_dec)
  | ((with_reducible apply LS.fl_refl); array_mem_dec)
  | ((with_reducible apply LS.fl_l); assumption; array_mem_dec)
  | ((with_reducible apply LS.fl_lm); assumption; array_mem_dec; array_mem_dec)
  | (with_reducible apply LS.sub_nil)
  | ((with_reducible apply LS.sub_cons); array_mem_dec; array_mem_dec)
  | ((with_reducible apply LS.fl_s); assumption; array_mem_dec)
  | ((with_reducible apply LS.fl_m); assumption; array_mem_dec; array_mem_dec; array_mem_dec)
  | ((with_reducible apply LS.fl_n); assumption; array_mem_dec; array_mem_dec; array_mem_dec)
  | ((with_reducible apply LS.rt_refl); array_mem_dec)
  | ((with_reducible apply LS.rt_t); assumption; array_mem_dec)
  | ((with_reducible apply LS.rt_s); assumption; array_mem_dec)
  | ((with_reducible apply LS.rt_f); assumption; array_mem_dec; array_mem_dec; array_mem_dec)
  | ((with_reducible apply LS.sz); (first | decide | (simp only [List.length_append, List.length_map, List.length_cons, List.length_nil, List.length_replicate]; omega)))
  | ((with_reducible apply LS.szl); (first | decide | (simp only [List.length_append, List.length_map, List.length_cons, List.length_nil, List.length_replicate]; omega))))
local macro_rules | `(tactic| array_get_dec) => `(tactic| first
  | ((with_reducible apply LS.var); exact rfl)
  | (with_reducible apply LS.con)
  | (with_reducible apply LS.op)
  | (with_reducible apply LS.ri0)
  | (with_reducible apply LS.tseq)
  | (with_reducible apply LS.tasg)
  | (with_reducible apply LS.gname)
  | (with_reducible apply LS.tcons)
  | (with_reducible apply LS.tnil)
  | (with_reducible apply LS.tcb)
  | (with_reducible apply LS.tcall)
  | (with_reducible apply LS.ttest)
  | (with_reducible apply LS.k_b)
  | (with_reducible apply LS.tb)
  | (with_reducible apply LS.tifs)
  | (with_reducible apply LS.ift)
  | (with_reducible apply LS.iff_)
  | (with_reducible apply LS.ifnt)
  | (with_reducible apply LS.ifnf)
  | (with_reducible apply LS.tnext)
  | (with_reducible apply LS.tdrop)
  | (with_reducible apply LS.tret)
  | (with_reducible apply LS.tretn)
  | (with_reducible apply LS.un)
  | (with_reducible apply LS.ru)
  | (with_reducible apply LS.tyes)
  | (with_reducible apply LS.tand)
  | (with_reducible apply LS.tor)
  | (with_reducible apply LS.tnot)
  | (with_reducible apply LS.tif)
  | (with_reducible apply LS.tandv)
  | (with_reducible apply LS.k_av)
  | (with_reducible apply LS.torv)
  | (with_reducible apply LS.k_ov)
  | (with_reducible apply LS.tnotv)
  | (with_reducible apply LS.k_nv)
  | (with_reducible apply LS.tchain)
  | (with_reducible apply LS.k_ch)
  | (with_reducible apply LS.req_i)
  | (with_reducible apply LS.rne_i)
  | (with_reducible apply LS.req_s)
  | (with_reducible apply LS.rne_s)
  | (with_reducible apply LS.req_b)
  | (with_reducible apply LS.rne_b)
  | ((with_reducible apply LS.rin_i); array_mem_dec)
  | ((with_reducible apply LS.rni_i); array_mem_dec)
  | ((with_reducible apply LS.rlen_li); array_mem_dec)
  | ((with_reducible apply LS.rlen_ls); array_mem_dec)
  | ((with_reducible apply LS.rlen_l); array_mem_dec)
  | ((with_reducible apply LS.rlen_Ei); array_mem_dec)
  | ((with_reducible apply LS.rlen_E); array_mem_dec)
  | ((with_reducible apply LS.rlen_t); array_mem_dec)
  | ((with_reducible apply LS.rixl); array_mem_dec; exact rfl)
  | ((with_reducible apply LS.rixt); array_mem_dec; exact rfl)
  | (with_reducible apply LS.isi_int_int)
  | (with_reducible apply LS.isi_int_bool)
  | (with_reducible apply LS.isi_int_str)
  | (with_reducible apply LS.isi_str_int)
  | (with_reducible apply LS.isi_str_bool)
  | (with_reducible apply LS.isi_str_str)
  | (with_reducible apply LS.isi_bool_int)
  | (with_reducible apply LS.isi_bool_bool)
  | (with_reducible apply LS.isi_bool_str)
  | (with_reducible apply LS.isi_non_int)
  | (with_reducible apply LS.isi_non_bool)
  | (with_reducible apply LS.isi_non_str)
  | ((with_reducible apply LS.isi_list_int); array_mem_dec)
  | ((with_reducible apply LS.isi_list_bool); array_mem_dec)
  | ((with_reducible apply LS.isi_list_str); array_mem_dec)
  | ((with_reducible apply LS.isi_list_list); array_mem_dec)
  | ((with_reducible apply LS.isi_list_tuple); array_mem_dec)
  | ((with_reducible apply LS.isi_tuple_int); array_mem_dec)
  | ((with_reducible apply LS.isi_tuple_bool); array_mem_dec)
  | ((with_reducible apply LS.isi_tuple_str); array_mem_dec)
  | ((with_reducible apply LS.isi_tuple_list); array_mem_dec)
  | ((with_reducible apply LS.isi_tuple_tuple); array_mem_dec)
  | ((with_reducible apply LS.isiT_i); array_mem_dec)
  | ((with_reducible apply LS.isiT_s); array_mem_dec)
  | ((with_reducible apply LS.isiT_E); array_mem_dec; array_mem_dec)
  | (with_reducible apply LS.tfld)
  | ((with_reducible apply LS.k_fl); array_mem_dec; assumption; assumption; exact rfl)
  | (with_reducible apply LS.tmeth)
  | ((with_reducible apply LS.k_me); array_mem_dec; exact rfl)
  | (with_reducible apply LS.tmake)
  | (with_reducible apply LS.tsfld)
  | (with_reducible apply LS.tprop)
  | ((with_reducible apply LS.k_pr); array_mem_dec)
  | ((with_reducible apply LS.rlen_own); array_mem_dec)
  | (with_reducible apply LS.rabs)
  | (with_reducible apply LS.rmin2)
  | (with_reducible apply LS.rmax2)
  | (with_reducible apply LS.tsl)
  | (with_reducible apply LS.tthen)
  | (with_reducible apply LS.tstep)
  | (with_reducible apply LS.tnop)
  | (with_reducible apply LS.tpart)
  | (with_reducible apply LS.k_part)
  | (with_reducible apply LS.ttup)
  | (with_reducible apply LS.tlst)
  | (with_reducible apply LS.tbm)
  | (with_reducible apply LS.tbm0)
  | ((with_reducible apply LS.ty_l); array_mem_dec)
  | (with_reducible apply LS.tpar)
  | (with_reducible apply LS.tfor)
  | (with_reducible apply LS.tlc)
  | (with_reducible apply LS.ilist)
  | ((with_reducible apply LS.k_il); array_mem_dec)
  | (with_reducible apply LS.itup)
  | ((with_reducible apply LS.k_it); array_mem_dec)
  | (with_reducible apply LS.istr)
  | (with_reducible apply LS.k_is)
  | (with_reducible apply LS.irng1)
  | ((with_reducible apply LS.k_r1n); omega)
  | ((with_reducible apply LS.k_r1); (first | omega | decide); (first | omega | decide))
  | (with_reducible apply LS.irng2)
  | ((with_reducible apply LS.k_r2); (first | omega | decide); (first | omega | decide); (first | omega | decide); (first | omega | decide))
  | (with_reducible apply LS.ienum)
  | ((with_reducible apply LS.k_en); array_mem_dec)
  | (with_reducible apply LS.izip)
  | ((with_reducible apply LS.k_zip); array_mem_dec; array_mem_dec)
  | (with_reducible apply LS.tlstrg)
  | (with_reducible apply LS.trg1)
  | (with_reducible apply LS.k_g1)
  | (with_reducible apply LS.risn_i)
  | (with_reducible apply LS.risn_s)
  | (with_reducible apply LS.risn_n)
  | (with_reducible apply LS.rnotn_i)
  | (with_reducible apply LS.rnotn_n)
  | (with_reducible apply LS.rint_b)
  | (with_reducible apply LS.rint_i)
  | (with_reducible apply LS.tm0)
  | (with_reducible apply LS.tm1)
  | (with_reducible apply LS.is_str)
  | (with_reducible apply LS.ex_s0)
  | (with_reducible apply LS.ex_int_b)
  | (with_reducible apply LS.k_par)
  | (with_reducible apply LS.tpar3)
  | (with_reducible apply LS.k_par3)
  | ((with_reducible apply LS.taug); exact rfl)
  | (with_reducible apply LS.ipi)
  | ((with_reducible apply LS.gtup); array_mem_dec; exact rfl)
  | ((with_reducible apply LS.gunl); array_mem_dec; exact rfl)
  | (with_reducible apply LS.gnil)
  | (with_reducible apply LS.gcons)
  | (with_reducible apply LS.gsub)
  | ((with_reducible apply LS.ri); first | omega | decide | assumption | exact ⟨by decide, by decide, by decide⟩ | exact .inl ⟨by decide, by decide⟩ | exact .inr ⟨by decide, by decide⟩ | exact .inl ⟨by omega, by omega⟩ | exact .inr ⟨by omega, by omega⟩)
  | (with_reducible apply LS.ex_ss)
  | (with_reducible apply LS.ex_s1)
  | (with_reducible apply LS.ex_i1)
  | (with_reducible apply LS.and_rfl)
  | (with_reducible apply LS.and_tr)
  | (with_reducible apply LS.is_non))
local macro_rules | `(tactic| array_get_dec) => `(tactic| first
  | (with_reducible apply LS.tcalle)
  | (with_reducible apply LS.tcalls))
local macro_rules | `(tactic| array_get_dec) => `(tactic| first
  | (with_reducible apply LS.mks)
  | (with_reducible apply LS.rnotn_rr)
  | (with_reducible apply LS.risn_rr)
  | (with_reducible apply LS.txf))
local macro_rules | `(tactic| array_get_dec) => `(tactic| first
  | (with_reducible apply LS.trg2)
  | (with_reducible apply LS.k_g2))

section
variable {P : Program} {w : World} {K : PySem.W.Frag} {mg : Str → Option Value} {base : Heap}

def rdat (r : List Nat) : PyData := if r = [] then .none else .tuple (natD r)
theorem rs_dp {K : PySem.W.Frag} {H : Hp} {v : V} {r : List Nat} (h : RsAt H v r) : Dp K H v (rdat r) := by
  rcases h with ⟨h1, rfl⟩ | ⟨h1, a, rfl, ha⟩
  · unfold rdat; rw [if_pos h1]; exact .non
  · unfold rdat; rw [if_neg h1]; exact .tup (SqT.of ha) (dp_nat r)
theorem sm_rdat {m : Nat} {p1 : Nat → Prop} {p2 : Nat → Nat → Prop} {r : List Nat} (h : Conf m p1 p2 r) (hm : m ≤ 400) : Sm (rdat r) 1 200000 := by
  unfold rdat
  by_cases z : r = []
  · rw [if_pos z]; exact Sm.non.mono (by decide) (by decide)
  · rw [if_neg z]; exact (Sm.tup (sm_nat h hm)).mono (by decide) (sm_nat_w h)
theorem mem_fitL {ps : List Pat} {F : List Fact} {l : Pat} : l ∈ fitL ps F ↔ l ∈ ps ∧ ∀ f ∈ F, holds l f = true := by
  unfold fitL; rw [List.mem_filter, List.all_eq_true]
theorem metB_iff {tk fs : List Int} {Ls : List Lim} : metB tk fs Ls = true ↔ ∀ j, j < fs.length → nlo (lo tk fs) Ls j ≤ nhi (hi tk fs) Ls j := by
  unfold metB
  rw [List.all_eq_true]
  constructor
  · intro h j hj
    exact of_decide_eq_true (h _ (List.mem_of_getElem? (nb_get hj)))
  · intro h z hz
    obtain ⟨j, hj⟩ := List.mem_iff_getElem?.mp hz
    have hl := (List.getElem?_eq_some_iff.mp hj).1
    rw [nb_len] at hl
    rw [nb_get hl] at hj
    cases hj
    exact decide_eq_true (h j hl)
theorem ev_met {tk fs : List Int} {ps : List Pat} {F : List Fact} (ev : Every tk fs ps) (ok : ∀ f ∈ F, f.ok tk.length) : metB tk fs (F.map (lim tk.length)) = true ↔ fitL ps F ≠ [] := by
  rw [metB_iff, ev.perm.length_eq, ← ev.sat_iff ok]
  constructor
  · rintro ⟨l, hl, h⟩ e
    have : l ∈ fitL ps F := mem_fitL.mpr ⟨hl, h⟩
    rw [e] at this; cases this
  · intro h
    obtain ⟨l, hl⟩ := List.exists_mem_of_ne_nil _ h
    exact ⟨l, mem_fitL.mp hl⟩
theorem ev_rg {tk fs : List Int} {ps : List Pat} {F : List Fact} (ev : Every tk fs ps) (ok : ∀ f ∈ F, f.ok tk.length) {j : Nat} (hj : j < tk.length) (h : fitL ps F ≠ []) :
    nbL tk fs F j ≤ nbH tk fs F j ∧ ∀ u : Nat, (∃ l ∈ fitL ps F, (times l)[j]? = some u) ↔ nbL tk fs F j ≤ u ∧ u ≤ nbH tk fs F j := by
  have sat := (metB_iff.mp ((ev_met ev ok).mpr h))
  rw [ev.perm.length_eq] at sat
  refine ⟨sat j hj, fun u => ⟨fun ⟨l, hl, e⟩ => ?_, fun ⟨h1, h2⟩ => ?_⟩⟩
  · obtain ⟨hl, hh⟩ := mem_fitL.mp hl
    obtain ⟨_, _, bd⟩ := (ev.fit ok hl).mp hh
    exact bd j u e
  · obtain ⟨ts, ht, e⟩ := fits_at (ev.bd.mn _) sat hj h1 h2
    obtain ⟨l, hl, rfl, hh⟩ := ev.of_fit ok ht
    exact ⟨l, mem_fitL.mpr ⟨hl, hh⟩, e⟩
/-- what both sides answer of a fill -/
def ansD (tk fs : List Int) (F : List Fact) (j : Nat) (r : List Nat) : PyData :=
  if metB tk fs (F.map (lim tk.length)) = true then .tuple [.int (nbL tk fs F j : Nat), .int (nbH tk fs F j : Nat)] else .tuple [.str "no", rdat r]
theorem nbH_le {tk fs : List Int} {ps : List Pat} {F : List Fact} (ev : Every tk fs ps) (ok : ∀ f ∈ F, f.ok tk.length) {j : Nat} (hj : j < tk.length) (h : metB tk fs (F.map (lim tk.length)) = true) : nbL tk fs F j ≤ tk.length ∧ nbH tk fs F j ≤ tk.length := by
  obtain ⟨h1, h2⟩ := ev_rg ev ok hj ((ev_met ev ok).mp h)
  obtain ⟨l, hl, e⟩ := (h2 _).mpr ⟨h1, Nat.le_refl _⟩
  obtain ⟨g, hn, _⟩ := (ev.mem l).mp (mem_fitL.mp hl).1
  have := ((times_all g.1).1 _ _ e).2
  omega
theorem sm_ans {tk fs : List Int} {ps : List Pat} {F : List Fact} (ev : Every tk fs ps) (ok : ∀ f ∈ F, f.ok tk.length) {j : Nat} (hj : j < tk.length) (tl : tk.length ≤ 5) {m : Nat} {p1 : Nat → Prop} {p2 : Nat → Nat → Prop} {r : List Nat} (c : metB tk fs (F.map (lim tk.length)) = false → Conf m p1 p2 r) (hm : m ≤ 400) : Sm (ansD tk fs F j r) 2 ((90000 + 1) * 2) := by
  unfold ansD
  cases q : metB tk fs (F.map (lim tk.length)) with
  | true =>
    rw [if_pos rfl]
    obtain ⟨h1, h2⟩ := nbH_le ev ok hj q
    refine (Sm.tup (k := 1) (w := 90000) (l := [_, _]) fun d hd => ?_)
    rcases List.mem_cons.mp hd with rfl | hd
    · exact (LS.sm_small (by rw [Int.natAbs_natCast]; omega)).mono (by decide) (by decide)
    · rw [List.mem_singleton.mp hd]
      exact (LS.sm_small (by rw [Int.natAbs_natCast]; omega)).mono (by decide) (by decide)
  | false =>
    rw [if_neg (by decide)]
    refine (Sm.tup (k := 1) (w := 90000) (l := [_, _]) fun d hd => ?_)
    rcases List.mem_cons.mp hd with rfl | hd
    · exact ⟨by decide +kernel, by decide +kernel, by decide +kernel, by decide +kernel, by decide +kernel⟩
    · rw [List.mem_singleton.mp hd]
      unfold rdat
      by_cases z : r = []
      · rw [if_pos z]; exact Sm.non.mono (by decide) (by decide)
      · rw [if_neg z]
        refine (Sm.tup (sm_nat (c q) hm)).mono (by decide) ?_
        have := (conf_lt (c q)).2
        unfold natD
        rw [List.length_map]; omega
end
end LP

namespace LP
open PySem L2 LT LG LQ LH LC LX LR
local macro_rules | `(tactic| array_mem_dec) => `(tactic| first
  | assumption
  | ((with_reducible apply LS.hp_s); assumption; array_mem_dec)
  | ((with_reducible apply LS.hp_f); assumption; array_mem_dec; array_mem_dec)
  | ((with_reducible apply LS.hp_t); assumption; array_mem_dec; array_mem_dec)
  | ((with_reducible apply LS.hp_l); assumption; array_mem_dec; array_mem_dec)
  | ((with_reducible apply LS.sq_o); array_mem_dec)
  | ((with_reducible apply LS.sq_s); assumption; array_mem_dec)
  | ((with_reducible apply LS.sq_f); assumption; array_mem_dec; array_mem_dec)
  | ((with_reducible apply LS.sq_t); assumption; array_mem_dec; array_mem_dec)
  | ((with_reducible apply LS.sq_l); assumption; array_mem_dec; array_mem_dec)
  | ((with_reducible apply LS.tu_o); array_mem_dec)
  | ((with_reducible apply LS.tu_s); assumption; array_mem_dec)
  | ((with_reducible apply LS.tu_f); assumption; array_mem_dec; array_mem_dec)
  | ((with_reducible apply LS.tu_t); assumption; array_mem_dec; array_mem_dec)
  | ((with_reducible apply LS.tu_l); assumption; array_mem_dec; array_mem_dec)
  | ((with_reducible apply LS.se_l); array_mem_dec)
  | ((with_reducible apply LS.se_t); array_mem_dec)
  | ((with_reducible apply LS.se_s); assumption; array_mem_dec)
  | ((with_reducible apply LS.se_f); assumption; array_mem_dec; array_mem_dec)
  | ((with_reducible apply LS.se_tt); assumption; array_mem_dec; array_mem_dec)
  | ((with_reducible exact Same.refl _))
  | ((with_reducible apply LS.sm_s); assumption; array_mem_dec)
  | ((with_reducible apply LS.sm_f); assumption; array_mem_dec; array_mem_dec)
  | ((with_reducible exact Fr.refl _ _))
  | ((with_reducible apply LS.fr_b); assumption; array_mem_dec)
  | ((with_reducible apply LS.fr_s); assumption; array_mem_dec)
  | ((with_reducible apply LS.fr_n); assumption; array_mem_dec; array_mem_dec)
  | ((with_reducible apply LS.fr_t); assumption; array_mem_dec)
  | ((with_reducible apply LS.no_s); assumption; array_mem_dec)
  | ((with_reducible apply LS.no_f); assumption; array_mem_dec; array_mem_dec)
  | ((with_reducible apply LS.no_t); assumption; array_mem_dec)
  | ((with_reducible apply LS.no_l); assumption; assumption)
  | ((with_reducible apply Ne.symm); assumption)
  | ((with_reducible apply LS.ne_a); assumption; array_mem_dec)
  | ((with_reducible apply LS.ne_b); assumption; array_mem_dec)
  | ((with_reducible apply LS.ne_ap); assumption)
  | ((with_reducible apply LS.ne_il); assumption; array_mem_dec)
  | ((with_reducible apply LS.ne_li); assumption; array_mem_dec)
  | ((with_reducible apply LS.ne_lt); assumption; assumption)
  | ((with_reducible apply LS.ne_tl); assumption; assumption)
  | ((with_reducible apply LS.ne_rl); assumption; array_mem_dec)
  | ((with_reducible apply LS.rl_t); assumption)
  | ((with_reducible apply LS.rl_s); assumption; array_mem_dec)
  | ((with_reducible apply LS.rl_f); assumption; array_mem_dec; array_mem_dec)
  | ((with_reducible apply LS.rl_l); assumption; array_mem_dec; array_mem_dec)
  | ((with_reducible apply LS.ap_new); assumption; assumption; array_mem_dec)
  | ((with_reducible apply LS.ap_t); assumption; array_mem_dec; array_mem_dec)
  | ((with_reducible apply LS.ap_s); assumption; array_mem_dec; array_mem_dec)
  | ((with_reducible apply LS.ap_f); assumption; array_mem_dec; array_mem_dec; array_mem_dec)
  | ((with_reducible apply LS.ap_l); assumption; array_mem_dec; array_mem_dec; array_mem_dec)
  | (with_reducible apply LS.ni_nil)
  | ((with_reducible apply LS.ni_cons); array_mem_dec; array_mem_dec)
  | (with_reducible apply LS.trk_nil)
  | ((with_reducible apply LS.trk_cons); array_mem_dec; array_mem_dec)
  | (with_reducible apply LS.al_nil)
  | ((with_reducible apply LS.al_cons); array_mem_dec; array_mem_dec)
  | (with_reducible apply LS.mem_hd)
  | ((with_reducible apply LS.mem_tl); array_mem_dec)
  | ((with_reducible apply LS.fl_refl); array_mem_dec)
  | ((with_reducible apply LS.fl_l); assumption; array_mem_dec)
  | ((with_reducible apply LS.fl_lm); assumption; array_mem_dec; array_mem_dec)
  | (with_reducible apply LS.sub_nil)
  | ((with_reducible apply LS.sub_cons); array_mem_dec; array_mem_dec)
  | ((with_reducible apply LS.fl_s); assumption; array_mem_dec)
  | ((with_reducible apply LS.fl_m); assumption; array_mem_dec; array_mem_dec; array_mem_dec)
  | ((with_reducible apply LS.fl_n); assumption; array_mem_dec; array_mem_dec; array_mem_dec)
  | ((with_reducible apply LS.rt_refl); array_mem_dec)
  | ((with_reducible apply LS.rt_t); assumption; array_mem_dec)
  | ((with_reducible apply LS.rt_s); assumption; array_mem_dec)
  | ((with_reducible apply LS.rt_f); assumption; array_mem_dec; array_mem_dec; array_mem_dec)
  | ((with_reducible apply LS.sz); (first | decide | (simp only [List.length_append, List.length_map, List.length_cons, List.length_nil, List.length_replicate]; omega)))
  | ((with_reducible apply LS.szl); (first | decide | (simp only [List.length_append, List.length_map, List.length_cons, List.length_nil, List.length_replicate]; omega))))
local macro_rules | `(tactic| array_get_dec) => `(tactic| first
  | ((with_reducible apply LS.var); exact rfl)
  | (with_reducible apply LS.con)
  | (with_reducible apply LS.op)
  | (with_reducible apply LS.ri0)
  | (with_reducible apply LS.tseq)
  | (with_reducible apply LS.tasg)
  | (with_reducible apply LS.gname)
  | (with_reducible apply LS.tcons)
  | (with_reducible apply LS.tnil)
  | (with_reducible apply LS.tcb)
  | (with_reducible apply LS.tcall)
  | (with_reducible apply LS.ttest)
  | (with_reducible apply LS.k_b)
  | (with_reducible apply LS.tb)
  | (with_reducible apply LS.tifs)
  | (with_reducible apply LS.ift)
  | (with_reducible apply LS.iff_)
  | (with_reducible apply LS.ifnt)
  | (with_reducible apply LS.ifnf)
  | (with_reducible apply LS.tnext)
  | (with_reducible apply LS.tdrop)
  | (with_reducible apply LS.tret)
  | (with_reducible apply LS.tretn)
  | (with_reducible apply LS.un)
  | (with_reducible apply LS.ru)
  | (with_reducible apply LS.tyes)
  | (with_reducible apply LS.tand)
  | (with_reducible apply LS.tor)
  | (with_reducible apply LS.tnot)
  | (with_reducible apply LS.tif)
  | (with_reducible apply LS.tandv)
  | (with_reducible apply LS.k_av)
  | (with_reducible apply LS.torv)
  | (with_reducible apply LS.k_ov)
  | (with_reducible apply LS.tnotv)
  | (with_reducible apply LS.k_nv)
  | (with_reducible apply LS.tchain)
  | (with_reducible apply LS.k_ch)
  | (with_reducible apply LS.req_i)
  | (with_reducible apply LS.rne_i)
  | (with_reducible apply LS.req_s)
  | (with_reducible apply LS.rne_s)
  | (with_reducible apply LS.req_b)
  | (with_reducible apply LS.rne_b)
  | ((with_reducible apply LS.rin_i); array_mem_dec)
  | ((with_reducible apply LS.rni_i); array_mem_dec)
  | ((with_reducible apply LS.rlen_li); array_mem_dec)
  | ((with_reducible apply LS.rlen_ls); array_mem_dec)
  | ((with_reducible apply LS.rlen_l); array_mem_dec)
  | ((with_reducible apply LS.rlen_Ei); array_mem_dec)
  | ((with_reducible apply LS.rlen_E); array_mem_dec)
  | ((with_reducible apply LS.rlen_t); array_mem_dec)
  | ((with_reducible apply LS.rixl); array_mem_dec; exact rfl)
  | ((with_reducible apply LS.rixt); array_mem_dec; exact rfl)
  | (with_reducible apply LS.isi_int_int)
  | (with_reducible apply LS.isi_int_bool)
  | (with_reducible apply LS.isi_int_str)
  | (with_reducible apply LS.isi_str_int)
  | (with_reducible apply LS.isi_str_bool)
  | (with_reducible apply LS.isi_str_str)
  | (with_reducible apply LS.isi_bool_int)
  | (with_reducible apply LS.isi_bool_bool)
  | (with_reducible apply LS.isi_bool_str)
  | (with_reducible apply LS.isi_non_int)
  | (with_reducible apply LS.isi_non_bool)
  | (with_reducible apply LS.isi_non_str)
  | ((with_reducible apply LS.isi_list_int); array_mem_dec)
  | ((with_reducible apply LS.isi_list_bool); array_mem_dec)
  | ((with_reducible apply LS.isi_list_str); array_mem_dec)
  | ((with_reducible apply LS.isi_list_list); array_mem_dec)
  | ((with_reducible apply LS.isi_list_tuple); array_mem_dec)
  | ((with_reducible apply LS.isi_tuple_int); array_mem_dec)
  | ((with_reducible apply LS.isi_tuple_bool); array_mem_dec)
  | ((with_reducible apply LS.isi_tuple_str); array_mem_dec)
  | ((with_reducible apply LS.isi_tuple_list); array_mem_dec)
  | ((with_reducible apply LS.isi_tuple_tuple); array_mem_dec)
  | ((with_reducible apply LS.isiT_i); array_mem_dec)
  | ((with_reducible apply LS.isiT_s); array_mem_dec)
  | ((with_reducible apply LS.isiT_E); array_mem_dec; array_mem_dec)
  | (with_reducible apply LS.tfld)
  | ((with_reducible apply LS.k_fl); array_mem_dec; assumption; assumption; exact rfl)
  | (with_reducible apply LS.tmeth)
  | ((with_reducible apply LS.k_me); array_mem_dec; exact rfl)
  | (with_reducible apply LS.tmake)
  | (with_reducible apply LS.tsfld)
  | (with_reducible apply LS.tprop)
  | ((with_reducible apply LS.k_pr); array_mem_dec)
  | ((with_reducible apply LS.rlen_own); array_mem_dec)
  | (with_reducible apply LS.rabs)
  | (with_reducible apply LS.rmin2)
  | (with_reducible apply LS.rmax2)
  | (with_reducible apply LS.tsl)
  | (with_reducible apply LS.tthen)
  | (with_reducible apply LS.tstep)
  | (with_reducible apply LS.tnop)
  | (with_reducible apply LS.tpart)
  | (with_reducible apply LS.k_part)
  | (with_reducible apply LS.ttup)
  | (with_reducible apply LS.tlst)
  | (with_reducible apply LS.tbm)
  | (with_reducible apply LS.tbm0)
  | ((with_reducible apply LS.ty_l); array_mem_dec)
  | (with_reducible apply LS.tpar)
  | (with_reducible apply LS.tfor)
  | (with_reducible apply LS.tlc)
  | (with_reducible apply LS.ilist)
  | ((with_reducible apply LS.k_il); array_mem_dec)
  | (with_reducible apply LS.itup)
  | ((with_reducible apply LS.k_it); array_mem_dec)
  | (with_reducible apply LS.istr)
  | (with_reducible apply LS.k_is)
  | (with_reducible apply LS.irng1)
  | ((with_reducible apply LS.k_r1n); omega)
  | ((with_reducible apply LS.k_r1); (first | omega | decide); (first | omega | decide))
  | (with_reducible apply LS.irng2)
  | ((with_reducible apply LS.k_r2); (first | omega | decide); (first | omega | decide); (first | omega | decide); (first | omega | decide))
  | (with_reducible apply LS.ienum)
  | ((with_reducible apply LS.k_en); array_mem_dec)
  | (with_reducible apply LS.izip)
  | ((with_reducible apply LS.k_zip); array_mem_dec; array_mem_dec)
  | (with_reducible apply LS.tlstrg)
  | (with_reducible apply LS.trg1)
  | (with_reducible apply LS.k_g1)
  | (with_reducible apply LS.risn_i)
  | (with_reducible apply LS.risn_s)
  | (with_reducible apply LS.risn_n)
  | (with_reducible apply LS.rnotn_i)
  | (with_reducible apply LS.rnotn_n)
  | (with_reducible apply LS.rint_b)
  | (with_reducible apply LS.rint_i)
  | (with_reducible apply LS.tm0)
  | (with_reducible apply LS.tm1)
  | (with_reducible apply LS.is_str)
  | (with_reducible apply LS.ex_s0)
  | (with_reducible apply LS.ex_int_b)
  | (with_reducible apply LS.k_par)
  | (with_reducible apply LS.tpar3)
  | (with_reducible apply LS.k_par3)
  | ((with_reducible apply LS.taug); exact rfl)
  | (with_reducible apply LS.ipi)
  | ((with_reducible apply LS.gtup); array_mem_dec; exact rfl)
  | ((with_reducible apply LS.gunl); array_mem_dec; exact rfl)
  | (with_reducible apply LS.gnil)
  | (with_reducible apply LS.gcons)
  | (with_reducible apply LS.gsub)
  | ((with_reducible apply LS.ri); first | omega | decide | assumption | exact ⟨by decide, by decide, by decide⟩ | exact .inl ⟨by decide, by decide⟩ | exact .inr ⟨by decide, by decide⟩ | exact .inl ⟨by omega, by omega⟩ | exact .inr ⟨by omega, by omega⟩)
  | (with_reducible apply LS.ex_ss)
  | (with_reducible apply LS.ex_s1)
  | (with_reducible apply LS.ex_i1)
  | (with_reducible apply LS.and_rfl)
  | (with_reducible apply LS.and_tr)
  | (with_reducible apply LS.is_non))
local macro_rules | `(tactic| array_get_dec) => `(tactic| first
  | (with_reducible apply LS.tcalle)
  | (with_reducible apply LS.tcalls))
local macro_rules | `(tactic| array_get_dec) => `(tactic| first
  | (with_reducible apply LS.mks)
  | (with_reducible apply LS.rnotn_rr)
  | (with_reducible apply LS.risn_rr)
  | (with_reducible apply LS.txf))
local macro_rules | `(tactic| array_get_dec) => `(tactic| first
  | (with_reducible apply LS.trg2)
  | (with_reducible apply LS.k_g2))

section
variable {P : Program} {w : World} {K : PySem.W.Frag} {mg : Str → Option Value} {base : Heap}

def sp__law_right : Sp := fun vs H Q _ => ∃ (b l : Addr) (ns : List Int) (d : Nat) (x y s p : Addr) (tk fs : List Int) (ps : List Pat) (F : List Fact) (as : List Addr), vs = [.ref b, .ref x, .ref y, .ref s, .ref p] ∧ Bag H b l ns d ∧ d < 800000 ∧ ns.length ≤ 63 ∧
  H x = some (.lst (tk.map V.int)) ∧ H y = some (.lst (fs.map V.int)) ∧ H s = some (.lst (psV ps)) ∧ x ≠ b ∧ y ≠ b ∧ s ≠ b ∧ p ≠ b ∧ FsL H p F as ∧ (∀ a ∈ as, a ≠ b) ∧ Pl tk ∧ tk.length ≤ 5 ∧ Every tk fs ps ∧ ps.length ≤ 1024 ∧ (∀ f ∈ F, f.ok tk.length) ∧ F.length ≤ 6 ∧
  ∀ H' : Hp, Bag H' b l ns (d + 403) → Fr H H' b → Q (.bl true) H'
theorem ok__law_right (e : Env P K mg) : LG.FnG P w K mg base CX0 12 e.a__law_right e.d__law_right ["bag", "takes", "fills", "some", "facts"] (sp__law_right) := by
  refine LG.okG e.f__law_right sc__law_right (fun vs H Q E h => ?_) (fun cdv A outer s H vs Q E hgd hr h => ?_)
  · obtain ⟨b, l, ns, d, x, y, s, p, tk, fs, ps, F, as, rfl, _⟩ := h; rfl
  · obtain ⟨b, l, ns, d, x, y, s, p, tk, fs, ps, F, as, rfl, G, hd, hl, hx, hy, hs, nxb, nyb, nsb, npb, fsl, nas, pl, tl, ev, psl, okf, fl, k⟩ := h
    have al := fsl.len
    refine ⟨_, (pss_cons (ps_set (i := 5) sc__law_right.nd rfl (by first | exact Or.inl rfl | exact Or.inr rfl) (pe_lst (pa_cons (pe_call ((ok__law_either e).mono (by decide)) hr rfl e.g__law_either e.f__law_either.kp e.b__law_either .nil pass0 (pa_cons (pv 0) (pa_cons (pv 1) pa_nil))) (pa_cons (pe_call ((ok__law_either e).mono (by decide)) hr rfl e.g__law_either e.f__law_either.kp e.b__law_either .nil pass0 (pa_cons (pv 0) (pa_cons (pv 2) pa_nil))) (pa_cons (pe_call ((ok__law_dressed e).mono (by decide)) hr rfl e.g__law_dressed e.f__law_dressed.kp e.b__law_dressed .nil pass0 (pa_cons (pv 0) (pa_cons (pv 4) pa_nil))) pa_nil)))))
      (pss_cons (ps_set (i := 6) sc__law_right.nd rfl (by first | exact Or.inl rfl | exact Or.inr rfl) (pe_callB (LX.call_reprN hgd (u66 hr)) (by rfl) e.n_repr (by decide +kernel) (pa_cons (pv 5) pa_nil)))
      (pss_cons (ps_for PassesOwn.never rfl (pi_range1 (by rfl) e.n_range (pa_cons (pe_callB LS.call_len (by rfl) e.n_len PySem.boot_len (pa_cons (pv 1) pa_nil)) pa_nil)) (pg_name (i := 7) sc__law_right.nd rfl (by first | exact Or.inl rfl | exact Or.inr rfl))
      (pss_one (ps_if (pt_cmpR op_ne (pe_callB (LX.call_reprN hgd (u66 hr)) (by rfl) e.n_repr (by decide +kernel) (pa_cons (pe_call ((ok__law_told e).mono (by decide)) hr rfl e.g__law_told e.f__law_told.kp e.b__law_told .nil pass0 (pa_cons (pe_ix ix_list (pv 5) pe_int (fun _ _ => rfl)) (pa_cons (pe_ix ix_list (pv 5) pe_int (fun _ _ => rfl)) (pa_cons (pe_ix ix_list (pv 5) pe_int (fun _ _ => rfl)) (pa_cons (pv 7) pa_nil))))) pa_nil)) (pe_callB (LX.call_reprN hgd (u66 hr)) (by rfl) e.n_repr (by decide +kernel) (pa_cons (pe_call ((ok__law_due e).mono (by decide)) hr rfl e.g__law_due e.f__law_due.kp e.b__law_due .nil pass0 (pa_cons (pv 3) (pa_cons (pv 4) (pa_cons (pv 7) pa_nil)))) pa_nil)) (nomark _))
        (pss_one (ps_ret pe_bl))
        pss_nil)))
      (pss_one (ps_ret (pe_cmpR op_eq (pe_callB (LX.call_reprN hgd (u66 hr)) (by rfl) e.n_repr (by decide +kernel) (pa_cons (pv 5) pa_nil)) (pv 6) (nomark _))))))), ?_⟩
    refine ⟨_, rfl, _, rfl, b, l, ns, d, x, _, rfl, G, by omega, hl, .inl hx, nxb, fun H1 q1 G1 F1 n1 e1 => ?_⟩
    refine ⟨_, rfl, _, rfl, b, l, ns, _, y, _, rfl, G1, by omega, hl, .inl (F1 _ _ hy nyb), nyb, fun H2 q2 G2 F2 n2 e2 => ?_⟩
    have F02 := F1.trans F2
    have fsl2 : FsL H2 p F as := ⟨F02 _ _ fsl.ls npb, al, fun i a f h1 h2 => F02 _ _ (fsl.at_ i a f h1 h2) (nas a (List.mem_of_getElem? h1))⟩
    refine ⟨_, rfl, _, rfl, b, l, ns, _, p, F, as, rfl, G2, by omega, hl, by omega, fsl2.ls, ⟨.inl fsl2.ls, npb, al, fun i a f h1 h2 => ⟨.inr (fsl2.at_ i a f h1 h2), nas a (List.mem_of_getElem? h1)⟩⟩, fun H3 q3 Us G3 F3 fs3 => ?_⟩
    have F03 := F02.trans F3
    have e1' := (e1.fr F2 n1).fr F3 n1
    have e2' := e2.fr F3 n2
    refine ⟨(by show 3 ≤ sizeLine; decide), fun pa hpa => ?_⟩
    have spa := same_upd (o := HO.lst [.ref q1, .ref q2, .ref q3]) hpa
    have hpa4 : (upd H3 pa (.lst [.ref q1, .ref q2, .ref q3])) pa = some (.lst [.ref q1, .ref q2, .ref q3]) := upd_same
    have e1'' := e1'.same spa
    have e2'' := e2'.same spa
    have e3'' := fs3.sq.same spa
    have e4'' : ∀ (i : Nat) a f, Us[i]? = some a → F[i]? = some f → EA (upd H3 pa (.lst [.ref q1, .ref q2, .ref q3])) a (fcV f) := fun i a f h1 h2 => (fs3.at_ i a f h1 h2).1.same spa
    have G4 := G3.same spa
    have F04 := F03.trans (Fr.of spa)
    generalize upd H3 pa (.lst [.ref q1, .ref q2, .ref q3]) = H4 at hpa4 e1'' e2'' e3'' e4'' G4 F04
    have ul := fs3.len
    obtain ⟨D, hD⟩ : ∃ D, D = PyData.list [dt' (isT H4 q1) (tk.map .int), dt' (isT H4 q2) (fs.map .int), dt' (isT H4 q3) ((Us.zip F).map fun z => dt' (isT H4 z.1) (fdL z.2))] := ⟨_, rfl⟩
    have dpass : ∀ H', Same H4 H' → Dp K H' (.ref pa) D := fun H' sm => by
      subst hD
      refine .lst (SqL.of (sm _ _ hpa4)) (.cons (dp_dt (sm _ _ e1''.sq') (dp_ints _)) (.cons (dp_dt (sm _ _ e2''.sq') (dp_ints _)) (.cons (dp_dt (sm _ _ e3''.sq') ?_) .nil)))
      refine dpAll_of (by rw [List.length_map, List.length_map, List.length_zip, ul, Nat.min_self]) fun i v d h1 h2 => ?_
      obtain ⟨a, ha, rfl⟩ := at_ref h1
      rw [List.getElem?_map] at h2
      have hf := List.getElem?_eq_getElem (l := F) (i := i) (by have := (List.getElem?_eq_some_iff.mp ha).1; omega)
      have hz : (Us.zip F)[i]? = some (a, F[i]'(by have := (List.getElem?_eq_some_iff.mp ha).1; omega)) := List.getElem?_zip_eq_some.mpr ⟨ha, hf⟩
      rw [hz] at h2
      cases h2
      exact dp_dt (sm _ _ (e4'' i a _ ha hf).sq') (dp_fdL _)
    have smD : Sm D 3 ((4000 + 1) * 3) := by
      subst hD
      refine (Sm.list (k := 2) (w := 4000) fun d hd => ?_)
      have fl0 := ev.perm.length_eq
      rcases List.mem_cons.mp hd with rfl | hd
      · exact (sm_dt (sm_ints pl)).mono (by decide) (by rw [List.length_map]; omega)
      · rcases List.mem_cons.mp hd with rfl | hd
        · exact (sm_dt (sm_ints (pl.perm ev.perm))).mono (by decide) (by rw [List.length_map]; omega)
        · rw [List.mem_singleton.mp hd]
          refine (sm_dt (k := 1) (w := 603) fun d hd => ?_).mono (by decide) (by rw [List.length_map, List.length_zip]; omega)
          obtain ⟨z, hz, rfl⟩ := List.mem_map.mp hd
          exact (sm_dt (sm_fdL (okf z.2 (List.of_mem_zip hz).2) (by omega))).mono (by decide) (by show (200 + 1) * 3 ≤ 603; decide)
    have fsl4 : FsL H4 p F as := ⟨F04 _ _ fsl.ls npb, al, fun i a f h1 h2 => F04 _ _ (fsl.at_ i a f h1 h2) (nas a (List.mem_of_getElem? h1))⟩
    have okp : ∀ t ∈ ps, Good t ∧ tks t = tk.length := fun t ht => ⟨((ev.mem t).mp ht).1, ((ev.mem t).mp ht).2.1⟩
    have hs4 := F04 _ _ hs nsb
    have hy4 := F04 _ _ hy nyb
    have hx4 := F04 _ _ hx nxb
    have noobs := ev.noObs
    clear hD e1' e2' hpa fs3 fsl2 F1 F2 F3 G1 G2 G3 F02 F03 spa e1 e2 hx hy hs
    repeat array_get_dec
    refine LS.rrepr (dpass _ (Same.refl _)) smD (by decide) (by decide) ?_
    repeat array_get_dec
    refine LS.for_ walk_range (fun i σ H2 => ∃ v7 : Option V, Same H4 H2 ∧ σ = [some (.ref b), some (.ref x), some (.ref y), some (.ref s), some (.ref p), some (.ref pa), some (.str D.shown), v7]) ⟨_, Same.refl _, rfl⟩ (fun _ _ _ _ _ => trivial) ?_ ?_
    · rintro j jv σ H5 H6 hj ⟨v7, s5, rfl⟩ ⟨rfl, rfl⟩
      have hj5 : j < tk.length := by have : (tk.map V.int).length = tk.length := List.length_map ..; omega
      have hpa5 := s5 _ _ hpa4
      repeat array_get_dec
      have ej : V.int (0 + (j : Nat)) = .int (j : Nat) := by rw [Int.zero_add]
      have fsl5 := fsl4.same s5
      have hs5 := s5 _ _ hs4
      refine ⟨q1, q2, q3, tk, fs, F, Us, j, congrArg (fun z => [V.ref q1, V.ref q2, V.ref q3, z]) ej, (e1''.same s5).sq, (e2''.same s5).sq, pl, ev.perm, noobs, ⟨(e3''.same s5).sq, ul, fun i a f h1 h2 => ((e4'' i a f h1 h2).same s5).sq⟩, okf, by omega, hj5, fun hm H6 q s6 hq => ?_, fun hm H6 q v r s6 c rs hq => ?_⟩
      · have hg := (ev_met ev okf).mp hm
        repeat array_get_dec
        refine LS.rrepr (K := K) (d := ansD tk fs F j []) (by unfold ansD; rw [if_pos hm]; exact .tup (SqT.of hq) (.cons (.int _) (.cons (.int _) .nil))) (sm_ans (m := 0) (p1 := fun _ => True) (p2 := fun _ _ => True) ev okf hj5 tl (fun z => by rw [hm] at z; cases z) (by decide)) (by decide) (by decide) ?_
        repeat array_get_dec
        refine ⟨s, p, tk.length, j, ps, F, as, nbL tk fs F j, nbH tk fs F j, congrArg (fun z => [V.ref s, V.ref p, z]) ej, s6 _ _ hs5, fsl5.same s6, okp, okf, tl, psl, fl, hj5, fun z => ev_rg ev okf hj5 z, fun z => absurd z hg, fun _ H7 q' s7 hq' => ?_⟩
        repeat array_get_dec
        refine LS.rrepr (K := K) (d := ansD tk fs F j []) (by unfold ansD; rw [if_pos hm]; exact .tup (SqT.of hq') (.cons (.int _) (.cons (.int _) .nil))) (sm_ans (m := 0) (p1 := fun _ => True) (p2 := fun _ _ => True) ev okf hj5 tl (fun z => by rw [hm] at z; cases z) (by decide)) (by decide) (by decide) ?_
        refine LS.rne_same rfl ?_
        repeat array_get_dec
        exact ⟨_, (s5.trans s6).trans s7, rfl⟩
      · have hg : fitL ps F = [] := Classical.byContradiction fun z => by rw [(ev_met ev okf).mpr z] at hm; cases hm
        have hmn : ¬ metB tk fs (F.map (lim tk.length)) = true := fun z => by rw [hm] at z; cases z
        repeat array_get_dec
        refine LS.rrepr (K := K) (d := ansD tk fs F j r) (by unfold ansD; rw [if_neg hmn]; exact .tup (SqT.of hq) (.cons (.str _) (.cons (rs_dp rs) .nil))) (sm_ans ev okf hj5 tl (fun _ => c) (by omega)) (by decide) (by decide) ?_
        repeat array_get_dec
        refine ⟨s, p, tk.length, j, ps, F, as, nbL tk fs F j, nbH tk fs F j, congrArg (fun z => [V.ref s, V.ref p, z]) ej, s6 _ _ hs5, fsl5.same s6, okp, okf, tl, psl, fl, hj5, fun z => ev_rg ev okf hj5 z, fun _ H7 q' v' r' s7 c' rs' hq' => ?_, fun z => absurd hg z⟩
        obtain rfl : r = r' := ev.conf okf c c'
        repeat array_get_dec
        refine LS.rrepr (K := K) (d := ansD tk fs F j r) (by unfold ansD; rw [if_neg hmn]; exact .tup (SqT.of hq') (.cons (.str _) (.cons (rs_dp rs') .nil))) (sm_ans ev okf hj5 tl (fun _ => c) (by omega)) (by decide) (by decide) ?_
        refine LS.rne_same rfl ?_
        repeat array_get_dec
        exact ⟨_, (s5.trans s6).trans s7, rfl⟩
    · rintro σ H5 ⟨v7, s5, rfl⟩
      repeat array_get_dec
      refine LS.rrepr (dpass _ s5) smD (by decide) (by decide) ?_
      repeat array_get_dec
      rw [decide_eq_true rfl]
      exact k H5 ((G4.same s5).mono (by omega)) (F04.trans (Fr.of s5))
end
end LP

namespace LP
open PySem L2 LT LG LQ LH LC LX LR
local macro_rules | `(tactic| array_mem_dec) => `(tactic| first
  | assumption
  | ((with_reducible apply LS.hp_s); assumption; array_mem_dec)
  | ((with_reducible apply LS.hp_f); assumption; array_mem_dec; array_mem_dec)
  | ((with_reducible apply LS.hp_t); assumption; array_mem_dec; array_mem_dec)
  | ((with_reducible apply LS.hp_l); assumption; array_mem_dec; array_mem_dec)
  | ((with_reducible apply LS.sq_o); array_mem_dec)
  | ((with_reducible apply LS.sq_s); assumption; array_mem_dec)
  | ((with_reducible apply LS.sq_f); assumption; array_mem_dec; array_mem_dec)
  | ((with_reducible apply LS.sq_t); assumption; array_mem_dec; array_mem_dec)
  | ((with_reducible apply LS.sq_l); assumption; array_mem_dec; array_mem_dec)
  | ((with_reducible apply LS.tu_o); array_mem_dec)
  | ((with_reducible apply LS.tu_s); assumption; array_mem_dec)
  | ((with_reducible apply LS.tu_f); assumption; array_mem_dec; array_mem_dec)
  | ((with_reducible apply LS.tu_t); assumption; array_mem_dec; array_mem_dec)
  | ((with_reducible apply LS.tu_l); assumption; array_mem_dec; array_mem_dec)
  | ((with_reducible apply LS.se_l); array_mem_dec)
  | ((with_reducible apply LS.se_t); array_mem_dec)
  | ((with_reducible apply LS.se_s); assumption; array_mem_dec)
  | ((with_reducible apply LS.se_f); assumption; array_mem_dec; array_mem_dec)
  | ((with_reducible apply LS.se_tt); assumption; array_mem_dec; array_mem_dec)
  | ((with_reducible exact Same.refl _))
  | ((with_reducible apply LS.sm_s); assumption; array_mem_dec)
  | ((with_reducible apply LS.sm_f); assumption; array_mem_dec; array_mem_dec)
  | ((with_reducible exact Fr.refl _ _))
  | ((with_reducible apply LS.fr_b); assumption; array_mem_dec)
  | ((with_reducible apply LS.fr_s); assumption; array_mem_dec)
  | ((with_reducible apply LS.fr_n); assumption; array_mem_dec; array_mem_dec)
  | ((with_reducible apply LS.fr_t); assumption; array_mem_dec)
  | ((with_reducible apply LS.no_s); assumption; array_mem_dec)
  | ((with_reducible apply LS.no_f); assumption; array_mem_dec; array_mem_dec)
  | ((with_reducible apply LS.no_t); assumption; array_mem_dec)
  | ((with_reducible apply LS.no_l); assumption; assumption)
  | ((with_reducible apply Ne.symm); assumption)
  | ((with_reducible apply LS.ne_a); assumption; array_mem_dec)
  | ((with_reducible apply LS.ne_b); assumption; array_mem_dec)
  | ((with_reducible apply LS.ne_ap); assumption)
  | ((with_reducible apply LS.ne_il); assumption; array_mem_dec)
  | ((with_reducible apply LS.ne_li); assumption; array_mem_dec)
  | ((with_reducible apply LS.ne_lt); assumption; assumption)
  | ((with_reducible apply LS.ne_tl); assumption; assumption)
  | ((with_reducible apply LS.ne_rl); assumption; array_mem_dec)
  | ((with_reducible apply LS.rl_t); assumption)
  | ((with_reducible apply LS.rl_s); assumption; array_mem_dec)
  | ((with_reducible apply LS.rl_f); assumption; array_mem_dec; array_mem_dec)
  | ((with_reducible apply LS.rl_l); assumption; array_mem_dec; array_mem_dec)
  | ((with_reducible apply LS.ap_new); assumption; assumption; array_mem_dec)
  | ((with_reducible apply LS.ap_t); assumption; array_mem_dec; array_mem_dec)
  | ((with_reducible apply LS.ap_s); assumption; array_mem_dec; array_mem_dec)
  | ((with_reducible apply LS.ap_f); assumption; array_mem_dec; array_mem_dec; array_mem_dec)
  | ((with_reducible apply LS.ap_l); assumption; array_mem_dec; array_mem_dec; array_mem_dec)
  | (with_reducible apply LS.ni_nil)
  | ((with_reducible apply LS.ni_cons); array_mem_dec; array_mem_dec)
  | (with_reducible apply LS.trk_nil)
  | ((with_reducible apply LS.trk_cons); array_mem_dec; array_mem_dec)
  | (with_reducible apply LS.al_nil)
  | ((with_reducible apply LS.al_cons); array_mem_dec; array_mem_dec)
  | (with_reducible apply LS.mem_hd)
  | ((with_reducible apply LS.mem_tl); array_mem_dec)
  | ((with_reducible apply LS.fl_refl); array_mem_dec)
  | ((with_reducible apply LS.fl_l); assumption; array_mem_dec)
  | ((with_reducible apply LS.fl_lm); assumption; array_mem_dec; array_mem_dec)
  | (with_reducible apply LS.sub_nil)
  | ((with_reducible apply LS.sub_cons); array_mem_dec; array_mem_dec)
  | ((with_reducible apply LS.fl_s); assumption; array_mem_dec)
  | ((with_reducible apply LS.fl_m); assumption; array_mem_dec; array_mem_dec; array_mem_dec)
  | ((with_reducible apply LS.fl_n); assumption; array_mem_dec; array_mem_dec; array_mem_dec)
  | ((with_reducible apply LS.rt_refl); array_mem_dec)
  | ((with_reducible apply LS.rt_t); assumption; array_mem_dec)
  | ((with_reducible apply LS.rt_s); assumption; array_mem_dec)
  | ((with_reducible apply LS.rt_f); assumption; array_mem_dec; array_mem_dec; array_mem_dec)
  | ((with_reducible apply LS.sz); (first | decide | (simp only [List.length_append, List.length_map, List.length_cons, List.length_nil, List.length_replicate]; omega)))
  | ((with_reducible apply LS.szl); (first | decide | (simp only [List.length_append, List.length_map, List.length_cons, List.length_nil, List.length_replicate]; omega))))
local macro_rules | `(tactic| array_get_dec) => `(tactic| first
  | ((with_reducible apply LS.var); exact rfl)
  | (with_reducible apply LS.con)
  | (with_reducible apply LS.op)
  | (with_reducible apply LS.ri0)
  | (with_reducible apply LS.tseq)
  | (with_reducible apply LS.tasg)
  | (with_reducible apply LS.gname)
  | (with_reducible apply LS.tcons)
  | (with_reducible apply LS.tnil)
  | (with_reducible apply LS.tcb)
  | (with_reducible apply LS.tcall)
  | (with_reducible apply LS.ttest)
  | (with_reducible apply LS.k_b)
  | (with_reducible apply LS.tb)
  | (with_reducible apply LS.tifs)
  | (with_reducible apply LS.ift)
  | (with_reducible apply LS.iff_)
  | (with_reducible apply LS.ifnt)
  | (with_reducible apply LS.ifnf)
  | (with_reducible apply LS.tnext)
  | (with_reducible apply LS.tdrop)
  | (with_reducible apply LS.tret)
  | (with_reducible apply LS.tretn)
  | (with_reducible apply LS.un)
  | (with_reducible apply LS.ru)
  | (with_reducible apply LS.tyes)
  | (with_reducible apply LS.tand)
  | (with_reducible apply LS.tor)
  | (with_reducible apply LS.tnot)
  | (with_reducible apply LS.tif)
  | (with_reducible apply LS.tandv)
  | (with_reducible apply LS.k_av)
  | (with_reducible apply LS.torv)
  | (with_reducible apply LS.k_ov)
  | (with_reducible apply LS.tnotv)
  | (with_reducible apply LS.k_nv)
  | (with_reducible apply LS.tchain)
  | (with_reducible apply LS.k_ch)
  | (with_reducible apply LS.req_i)
  | (with_reducible apply LS.rne_i)
  | (with_reducible apply LS.req_s)
  | (with_reducible apply LS.rne_s)
  | (with_reducible apply LS.req_b)
  | (with_reducible apply LS.rne_b)
  | ((with_reducible apply LS.rin_i); array_mem_dec)
  | ((with_reducible apply LS.rni_i); array_mem_dec)
  | ((with_reducible apply LS.rlen_li); array_mem_dec)
  | ((with_reducible apply LS.rlen_ls); array_mem_dec)
  | ((with_reducible apply LS.rlen_l); array_mem_dec)
  | ((with_reducible apply LS.rlen_Ei); array_mem_dec)
  | ((with_reducible apply LS.rlen_E); array_mem_dec)
  | ((with_reducible apply LS.rlen_t); array_mem_dec)
  | ((with_reducible apply LS.rixl); array_mem_dec; exact rfl)
  | ((with_reducible apply LS.rixt); array_mem_dec; exact rfl)
  | (with_reducible apply LS.isi_int_int)
  | (with_reducible apply LS.isi_int_bool)
  | (with_reducible apply LS.isi_int_str)
  | (with_reducible apply LS.isi_str_int)
  | (with_reducible apply LS.isi_str_bool)
  | (with_reducible apply LS.isi_str_str)
  | (with_reducible apply LS.isi_bool_int)
  | (with_reducible apply LS.isi_bool_bool)
  | (with_reducible apply LS.isi_bool_str)
  | (with_reducible apply LS.isi_non_int)
  | (with_reducible apply LS.isi_non_bool)
  | (with_reducible apply LS.isi_non_str)
  | ((with_reducible apply LS.isi_list_int); array_mem_dec)
  | ((with_reducible apply LS.isi_list_bool); array_mem_dec)
  | ((with_reducible apply LS.isi_list_str); array_mem_dec)
  | ((with_reducible apply LS.isi_list_list); array_mem_dec)
  | ((with_reducible apply LS.isi_list_tuple); array_mem_dec)
  | ((with_reducible apply LS.isi_tuple_int); array_mem_dec)
  | ((with_reducible apply LS.isi_tuple_bool); array_mem_dec)
  | ((with_reducible apply LS.isi_tuple_str); array_mem_dec)
  | ((with_reducible apply LS.isi_tuple_list); array_mem_dec)
  | ((with_reducible apply LS.isi_tuple_tuple); array_mem_dec)
  | ((with_reducible apply LS.isiT_i); array_mem_dec)
  | ((with_reducible apply LS.isiT_s); array_mem_dec)
  | ((with_reducible apply LS.isiT_E); array_mem_dec; array_mem_dec)
  | (with_reducible apply LS.tfld)
  | ((with_reducible apply LS.k_fl); array_mem_dec; assumption; assumption; exact rfl)
  | (with_reducible apply LS.tmeth)
  | ((with_reducible apply LS.k_me); array_mem_dec; exact rfl)
  | (with_reducible apply LS.tmake)
  | (with_reducible apply LS.tsfld)
  | (with_reducible apply LS.tprop)
  | ((with_reducible apply LS.k_pr); array_mem_dec)
  | ((with_reducible apply LS.rlen_own); array_mem_dec)
  | (with_reducible apply LS.rabs)
  | (with_reducible apply LS.rmin2)
  | (with_reducible apply LS.rmax2)
  | (with_reducible apply LS.tsl)
  | (with_reducible apply LS.tthen)
  | (with_reducible apply LS.tstep)
  | (with_reducible apply LS.tnop)
  | (with_reducible apply LS.tpart)
  | (with_reducible apply LS.k_part)
  | (with_reducible apply LS.ttup)
  | (with_reducible apply LS.tlst)
  | (with_reducible apply LS.tbm)
  | (with_reducible apply LS.tbm0)
  | ((with_reducible apply LS.ty_l); array_mem_dec)
  | (with_reducible apply LS.tpar)
  | (with_reducible apply LS.tfor)
  | (with_reducible apply LS.tlc)
  | (with_reducible apply LS.ilist)
  | ((with_reducible apply LS.k_il); array_mem_dec)
  | (with_reducible apply LS.itup)
  | ((with_reducible apply LS.k_it); array_mem_dec)
  | (with_reducible apply LS.istr)
  | (with_reducible apply LS.k_is)
  | (with_reducible apply LS.irng1)
  | ((with_reducible apply LS.k_r1n); omega)
  | ((with_reducible apply LS.k_r1); (first | omega | decide); (first | omega | decide))
  | (with_reducible apply LS.irng2)
  | ((with_reducible apply LS.k_r2); (first | omega | decide); (first | omega | decide); (first | omega | decide); (first | omega | decide))
  | (with_reducible apply LS.ienum)
  | ((with_reducible apply LS.k_en); array_mem_dec)
  | (with_reducible apply LS.izip)
  | ((with_reducible apply LS.k_zip); array_mem_dec; array_mem_dec)
  | (with_reducible apply LS.tlstrg)
  | (with_reducible apply LS.trg1)
  | (with_reducible apply LS.k_g1)
  | (with_reducible apply LS.risn_i)
  | (with_reducible apply LS.risn_s)
  | (with_reducible apply LS.risn_n)
  | (with_reducible apply LS.rnotn_i)
  | (with_reducible apply LS.rnotn_n)
  | (with_reducible apply LS.rint_b)
  | (with_reducible apply LS.rint_i)
  | (with_reducible apply LS.tm0)
  | (with_reducible apply LS.tm1)
  | (with_reducible apply LS.is_str)
  | (with_reducible apply LS.ex_s0)
  | (with_reducible apply LS.ex_int_b)
  | (with_reducible apply LS.k_par)
  | (with_reducible apply LS.tpar3)
  | (with_reducible apply LS.k_par3)
  | ((with_reducible apply LS.taug); exact rfl)
  | (with_reducible apply LS.ipi)
  | ((with_reducible apply LS.gtup); array_mem_dec; exact rfl)
  | ((with_reducible apply LS.gunl); array_mem_dec; exact rfl)
  | (with_reducible apply LS.gnil)
  | (with_reducible apply LS.gcons)
  | (with_reducible apply LS.gsub)
  | ((with_reducible apply LS.ri); first | omega | decide | assumption | exact ⟨by decide, by decide, by decide⟩ | exact .inl ⟨by decide, by decide⟩ | exact .inr ⟨by decide, by decide⟩ | exact .inl ⟨by omega, by omega⟩ | exact .inr ⟨by omega, by omega⟩)
  | (with_reducible apply LS.ex_ss)
  | (with_reducible apply LS.ex_s1)
  | (with_reducible apply LS.ex_i1)
  | (with_reducible apply LS.and_rfl)
  | (with_reducible apply LS.and_tr)
  | (with_reducible apply LS.is_non))
local macro_rules | `(tactic| array_get_dec) => `(tactic| first
  | (with_reducible apply LS.tcalle)
  | (with_reducible apply LS.tcalls))
local macro_rules | `(tactic| array_get_dec) => `(tactic| first
  | (with_reducible apply LS.mks)
  | (with_reducible apply LS.rnotn_rr)
  | (with_reducible apply LS.risn_rr)
  | (with_reducible apply LS.txf))
local macro_rules | `(tactic| array_get_dec) => `(tactic| first
  | (with_reducible apply LS.trg2)
  | (with_reducible apply LS.k_g2))

section
variable {P : Program} {w : World} {K : PySem.W.Frag} {mg : Str → Option Value} {base : Heap}

def sp_narrow_if_consistent : Sp := fun vs H Q _ => ∃ (x y : Addr) (tk fs : List Int) (Ls : List Lim) (Ts Us : List Addr), vs = [.ref x, .ref y] ∧ Prs H x (bnds tk fs) Ts ∧ LmL H y Ls Us ∧ Ls.length ≤ 400 ∧ fs.length ≤ 200 ∧ (∀ L ∈ Ls, LimOk fs.length L ∧ L.1.length ≤ 1 ∧ L.2.length ≤ 1) ∧ fs.Perm tk ∧ metB tk fs Ls = true ∧
  (∀ (H' : Hp) (p : Addr) (Xs : List Addr), Same H H' → Prs H' p (nb tk fs Ls) Xs → Q (.ref p) H')
def spF_find_contradiction : Sp := fun _ _ _ _ => False
theorem ok_narrow_if_consistent (e : Env P K mg) : FnOk P w K mg base CX0 3 e.a_narrow_if_consistent e.d_narrow_if_consistent ["bounds", "all_limits"] (sp_narrow_if_consistent) := by
  refine Fun.ok e.f_narrow_if_consistent sc_narrow_if_consistent (fun vs H Q E h => ?_) (fun cdv A outer s H vs Q E hr h => ?_)
  · obtain ⟨x, y, tk, fs, Ls, Ts, Us, rfl, _⟩ := h; rfl
  · obtain ⟨x, y, tk, fs, Ls, Ts, Us, rfl, hx, hy, hl, fl, ok, pf, hm, k1⟩ := h
    refine ⟨_, (pss_cons (ps_set (i := 2) sc_narrow_if_consistent.nd rfl (by first | exact Or.inl rfl | exact Or.inr rfl) (pe_call ((ok_narrow e).mono (by decide)) hr rfl e.g_narrow e.f_narrow.kp e.b_narrow .nil pass0 (pa_cons (pv 0) (pa_cons (pv 1) pa_nil))))
      (pss_cons (ps_if (pt_not (pt_val (pe_call ((ok_can_be_met e).mono (by decide)) hr rfl e.g_can_be_met e.f_can_be_met.kp e.b_can_be_met .nil pass0 (pa_cons (pv 2) pa_nil))))
        (pss_one ps_never)
        pss_nil)
      (pss_one (ps_ret (pv 2))))), ?_⟩
    repeat array_get_dec
    refine ⟨x, y, tk, fs, Ls, Ts, Us, rfl, hx, hy, hl, fl, fun L hL => (ok L hL).1, pf, fun H1 p Xs s1 hp => ?_⟩
    repeat array_get_dec
    refine ⟨p, _, Xs, rfl, hp, by rw [nb_len]; exact fl, fun H2 s2 => ?_⟩
    have s12 := s1.trans s2
    rw [show (nb tk fs Ls).all (fun z => decide (z.1 ≤ z.2)) = true from hm]
    repeat array_get_dec
    exact k1 H2 p Xs s12 (hp.same s2)
def sp_time_range (K : PySem.W.Frag) : Sp := fun vs H Q _ => ∃ (a b p : Addr) (tk fs : List Int) (F : List Fact) (as : List Addr) (j : Nat), vs = [.ref a, .ref b, .ref p, .int j] ∧ Is K H a tk ∧ Is K H b fs ∧ Pl tk ∧ fs.Perm tk ∧ NoObs tk fs ∧ FsE K H p F as ∧ (∀ f ∈ F, f.ok tk.length) ∧ F.length ≤ 400 ∧ j < tk.length ∧ metB tk fs (F.map (lim tk.length)) = true ∧
  (∀ (H' : Hp) (q : Addr), Same H H' → H' q = some (.tup [.int (nbL tk fs F j : Nat), .int (nbH tk fs F j : Nat)]) → Q (.ref q) H')
theorem ok_time_range (e : Env P K mg) : FnOk P w K mg base CX0 10 e.a_time_range e.d_time_range ["takes", "fills", "facts", "fill"] (sp_time_range K) := by
  refine Fun.ok e.f_time_range sc_time_range (fun vs H Q E h => ?_) (fun cdv A outer s H vs Q E hr h => ?_)
  · obtain ⟨a, b, p, tk, fs, F, as, j, rfl, _⟩ := h; rfl
  · obtain ⟨a, b, p, tk, fs, F, as, j, rfl, hE, hF, pl, pf, no, fe, ok, hl, hj, hm, k1⟩ := h
    have fl := pf.length_eq
    have le := pl.le
    refine ⟨_, (pss_cons (ps_asg (pe_call ((ok_read_facts e).mono (by decide)) hr rfl e.g_read_facts e.f_read_facts.kp e.b_read_facts .nil pass0 (pa_cons (pv 0) (pa_cons (pv 1) (pa_cons (pv 2) pa_nil)))) (pg_tup (by rfl) (pgs_cons (pg_name (i := 4) sc_time_range.nd rfl (by first | exact Or.inl rfl | exact Or.inr rfl)) (pgs_cons (pg_name (i := 5) sc_time_range.nd rfl (by first | exact Or.inl rfl | exact Or.inr rfl)) pgs_nil))))
      (pss_cons (ps_expr (pe_call ((ok_check_number e).mono (by decide)) hr rfl e.g_check_number e.f_check_number.kp e.b_check_number .nil pass0 (pa_cons (pv 3) (pa_cons (pe_callB LS.call_len (by rfl) e.n_len PySem.boot_len (pa_cons (pv 4) pa_nil)) pa_nil))))
      (pss_one (ps_ret (pe_ix ix_list (pe_call ((ok_narrow_if_consistent e).mono (by decide)) hr rfl e.g_narrow_if_consistent e.f_narrow_if_consistent.kp e.b_narrow_if_consistent .nil pass0 (pa_cons (pv 4) (pa_cons (pv 5) pa_nil))) (pv 3) (fun _ _ => rfl)))))), ?_⟩
    repeat array_get_dec
    refine ⟨a, b, p, tk, fs, F, as, rfl, hE, hF, pl, pf, no, fe, ok, hl, fun H1 q x y Ts Us s1 hq hx hy => ?_⟩
    have xl := hx.ls
    have tl : (Ts.map V.ref).length = tk.length := by rw [List.length_map, hx.len, bnds_len, fl]
    repeat array_get_dec
    rw [tl]
    refine ⟨j, _, rfl, by omega, by omega, ?_⟩
    repeat array_get_dec
    refine ⟨x, y, tk, fs, F.map (lim tk.length), Ts, Us, rfl, hx, hy, by rw [List.length_map]; exact hl, by omega, fun L hL => ?_, pf, hm, fun H2 p2 Xs s2 hp2 => ?_⟩
    · obtain ⟨f, hf, rfl⟩ := List.mem_map.mp hL
      rw [fl]
      exact ⟨lim_ok (ok f hf), lim_le tk.length f⟩
    · obtain ⟨X, hX⟩ : ∃ X, Xs[j]? = some X := ⟨_, List.getElem?_eq_getElem (by rw [hp2.len, nb_len]; omega)⟩
      have hq2 := hp2.at_ j X _ hX (nb_get (by omega))
      repeat array_get_dec
      refine LS.rixl_n (j := j) (v := .ref X) (SqL.of hp2.ls) (by rw [List.getElem?_map, hX]; rfl) rfl ?_
      exact k1 H2 X (s1.trans s2) hq2
end
end LP

namespace LP
open PySem L2 LT LG LQ LH LC LX LR
local macro_rules | `(tactic| array_mem_dec) => `(tactic| first
  | assumption
  | ((with_reducible apply LS.hp_s); assumption; array_mem_dec)
  | ((with_reducible apply LS.hp_f); assumption; array_mem_dec; array_mem_dec)
  | ((with_reducible apply LS.hp_t); assumption; array_mem_dec; array_mem_dec)
  | ((with_reducible apply LS.hp_l); assumption; array_mem_dec; array_mem_dec)
  | ((with_reducible apply LS.sq_o); array_mem_dec)
  | ((with_reducible apply LS.sq_s); assumption; array_mem_dec)
  | ((with_reducible apply LS.sq_f); assumption; array_mem_dec; array_mem_dec)
  | ((with_reducible apply LS.sq_t); assumption; array_mem_dec; array_mem_dec)
  | ((with_reducible apply LS.sq_l); assumption; array_mem_dec; array_mem_dec)
  | ((with_reducible apply LS.tu_o); array_mem_dec)
  | ((with_reducible apply LS.tu_s); assumption; array_mem_dec)
  | ((with_reducible apply LS.tu_f); assumption; array_mem_dec; array_mem_dec)
  | ((with_reducible apply LS.tu_t); assumption; array_mem_dec; array_mem_dec)
  | ((with_reducible apply LS.tu_l); assumption; array_mem_dec; array_mem_dec)
  | ((with_reducible apply LS.se_l); array_mem_dec)
  | ((with_reducible apply LS.se_t); array_mem_dec)
  | ((with_reducible apply LS.se_s); assumption; array_mem_dec)
  | ((with_reducible apply LS.se_f); assumption; array_mem_dec; array_mem_dec)
  | ((with_reducible apply LS.se_tt); assumption; array_mem_dec; array_mem_dec)
  | ((with_reducible exact Same.refl _))
  | ((with_reducible apply LS.sm_s); assumption; array_mem_dec)
  | ((with_reducible apply LS.sm_f); assumption; array_mem_dec; array_mem_dec)
  | ((with_reducible exact Fr.refl _ _))
  | ((with_reducible apply LS.fr_b); assumption; array_mem_dec)
  | ((with_reducible apply LS.fr_s); assumption; array_mem_dec)
  | ((with_reducible apply LS.fr_n); assumption; array_mem_dec; array_mem_dec)
  | ((with_reducible apply LS.fr_t); assumption; array_mem_dec)
  | ((with_reducible apply LS.no_s); assumption; array_mem_dec)
  | ((with_reducible apply LS.no_f); assumption; array_mem_dec; array_mem_dec)
  | ((with_reducible apply LS.no_t); assumption; array_mem_dec)
  | ((with_reducible apply LS.no_l); assumption; assumption)
  | ((with_reducible apply Ne.symm); assumption)
  | ((with_reducible apply LS.ne_a); assumption; array_mem_dec)
  | ((with_reducible apply LS.ne_b); assumption; array_mem_dec)
  | ((with_reducible apply LS.ne_ap); assumption)
  | ((with_reducible apply LS.ne_il); assumption; array_mem_dec)
  | ((with_reducible apply LS.ne_li); assumption; array_mem_dec)
  | ((with_reducible apply LS.ne_lt); assumption; assumption)
  | ((with_reducible apply LS.ne_tl); assumption; assumption)
  | ((with_reducible apply LS.ne_rl); assumption; array_mem_dec)
  | ((with_reducible apply LS.rl_t); assumption)
  | ((with_reducible apply LS.rl_s); assumption; array_mem_dec)
  | ((with_reducible apply LS.rl_f); assumption; array_mem_dec; array_mem_dec)
  | ((with_reducible apply LS.rl_l); assumption; array_mem_dec; array_mem_dec)
  | ((with_reducible apply LS.ap_new); assumption; assumption; array_mem_dec)
  | ((with_reducible apply LS.ap_t); assumption; array_mem_dec; array_mem_dec)
  | ((with_reducible apply LS.ap_s); assumption; array_mem_dec; array_mem_dec)
  | ((with_reducible apply LS.ap_f); assumption; array_mem_dec; array_mem_dec; array_mem_dec)
  | ((with_reducible apply LS.ap_l); assumption; array_mem_dec; array_mem_dec; array_mem_dec)
  | (with_reducible apply LS.ni_nil)
  | ((with_reducible apply LS.ni_cons); array_mem_dec; array_mem_dec)
  | (with_reducible apply LS.trk_nil)
  | ((with_reducible apply LS.trk_cons); array_mem_dec; array_mem_dec)
  | (with_reducible apply LS.al_nil)
  | ((with_reducible apply LS.al_cons); array_mem_dec; array_mem_dec)
  | (with_reducible apply LS.mem_hd)
  | ((with_reducible apply LS.mem_tl); array_mem_dec)
  | ((with_reducible apply LS.fl_refl); array_mem_dec)
  | ((with_reducible apply LS.fl_l); assumption; array_mem_dec)
  | ((with_reducible apply LS.fl_lm); assumption; array_mem_dec; array_mem_dec)
  | (with_reducible apply LS.sub_nil)
  | ((with_reducible apply LS.sub_cons); array_mem_dec; array_mem_dec)
  | ((with_reducible apply LS.fl_s); assumption; array_mem_dec)
  | ((with_reducible apply LS.fl_m); assumption; array_mem_dec; array_mem_dec; array_mem_dec)
  | ((with_reducible apply LS.fl_n); assumption; array_mem_dec; array_mem_dec; array_mem_dec)
  | ((with_reducible apply LS.rt_refl); array_mem_dec)
  | ((with_reducible apply LS.rt_t); assumption; array_mem_dec)
  | ((with_reducible apply LS.rt_s); assumption; array_mem_dec)
  | ((with_reducible apply LS.rt_f); assumption; array_mem_dec; array_mem_dec; array_mem_dec)
  | ((with_reducible apply LS.sz); (first | decide | (simp only [List.length_append, List.length_map, List.length_cons, List.length_nil, List.length_replicate]; omega)))
  | ((with_reducible apply LS.szl); (first | decide | (simp only [List.length_append, List.length_map, List.length_cons, List.length_nil, List.length_replicate]; omega))))
local macro_rules | `(tactic| array_get_dec) => `(tactic| first
  | ((with_reducible apply LS.var); exact rfl)
  | (with_reducible apply LS.con)
  | (with_reducible apply LS.op)
  | (with_reducible apply LS.ri0)
  | (with_reducible apply LS.tseq)
  | (with_reducible apply LS.tasg)
  | (with_reducible apply LS.gname)
  | (with_reducible apply LS.tcons)
  | (with_reducible apply LS.tnil)
  | (with_reducible apply LS.tcb)
  | (with_reducible apply LS.tcall)
  | (with_reducible apply LS.ttest)
  | (with_reducible apply LS.k_b)
  | (with_reducible apply LS.tb)
  | (with_reducible apply LS.tifs)
  | (with_reducible apply LS.ift)
  | (with_reducible apply LS.iff_)
  | (with_reducible apply LS.ifnt)
  | (with_reducible apply LS.ifnf)
  | (with_reducible apply LS.tnext)
  | (with_reducible apply LS.tdrop)
  | (with_reducible apply LS.tret)
  | (with_reducible apply LS.tretn)
  | (with_reducible apply LS.un)
  | (with_reducible apply LS.ru)
  | (with_reducible apply LS.tyes)
  | (with_reducible apply LS.tand)
  | (with_reducible apply LS.tor)
  | (with_reducible apply LS.tnot)
  | (with_reducible apply LS.tif)
  | (with_reducible apply LS.tandv)
  | (with_reducible apply LS.k_av)
  | (with_reducible apply LS.torv)
  | (with_reducible apply LS.k_ov)
  | (with_reducible apply LS.tnotv)
  | (with_reducible apply LS.k_nv)
  | (with_reducible apply LS.tchain)
  | (with_reducible apply LS.k_ch)
  | (with_reducible apply LS.req_i)
  | (with_reducible apply LS.rne_i)
  | (with_reducible apply LS.req_s)
  | (with_reducible apply LS.rne_s)
  | (with_reducible apply LS.req_b)
  | (with_reducible apply LS.rne_b)
  | ((with_reducible apply LS.rin_i); array_mem_dec)
  | ((with_reducible apply LS.rni_i); array_mem_dec)
  | ((with_reducible apply LS.rlen_li); array_mem_dec)
  | ((with_reducible apply LS.rlen_ls); array_mem_dec)
  | ((with_reducible apply LS.rlen_l); array_mem_dec)
  | ((with_reducible apply LS.rlen_Ei); array_mem_dec)
  | ((with_reducible apply LS.rlen_E); array_mem_dec)
  | ((with_reducible apply LS.rlen_t); array_mem_dec)
  | ((with_reducible apply LS.rixl); array_mem_dec; exact rfl)
  | ((with_reducible apply LS.rixt); array_mem_dec; exact rfl)
  | (with_reducible apply LS.isi_int_int)
  | (with_reducible apply LS.isi_int_bool)
  | (with_reducible apply LS.isi_int_str)
  | (with_reducible apply LS.isi_str_int)
  | (with_reducible apply LS.isi_str_bool)
  | (with_reducible apply LS.isi_str_str)
  | (with_reducible apply LS.isi_bool_int)
  | (with_reducible apply LS.isi_bool_bool)
  | (with_reducible apply LS.isi_bool_str)
  | (with_reducible apply LS.isi_non_int)
  | (with_reducible apply LS.isi_non_bool)
  | (with_reducible apply LS.isi_non_str)
  | ((with_reducible apply LS.isi_list_int); array_mem_dec)
  | ((with_reducible apply LS.isi_list_bool); array_mem_dec)
  | ((with_reducible apply LS.isi_list_str); array_mem_dec)
  | ((with_reducible apply LS.isi_list_list); array_mem_dec)
  | ((with_reducible apply LS.isi_list_tuple); array_mem_dec)
  | ((with_reducible apply LS.isi_tuple_int); array_mem_dec)
  | ((with_reducible apply LS.isi_tuple_bool); array_mem_dec)
  | ((with_reducible apply LS.isi_tuple_str); array_mem_dec)
  | ((with_reducible apply LS.isi_tuple_list); array_mem_dec)
  | ((with_reducible apply LS.isi_tuple_tuple); array_mem_dec)
  | ((with_reducible apply LS.isiT_i); array_mem_dec)
  | ((with_reducible apply LS.isiT_s); array_mem_dec)
  | ((with_reducible apply LS.isiT_E); array_mem_dec; array_mem_dec)
  | (with_reducible apply LS.tfld)
  | ((with_reducible apply LS.k_fl); array_mem_dec; assumption; assumption; exact rfl)
  | (with_reducible apply LS.tmeth)
  | ((with_reducible apply LS.k_me); array_mem_dec; exact rfl)
  | (with_reducible apply LS.tmake)
  | (with_reducible apply LS.tsfld)
  | (with_reducible apply LS.tprop)
  | ((with_reducible apply LS.k_pr); array_mem_dec)
  | ((with_reducible apply LS.rlen_own); array_mem_dec)
  | (with_reducible apply LS.rabs)
  | (with_reducible apply LS.rmin2)
  | (with_reducible apply LS.rmax2)
  | (with_reducible apply LS.tsl)
  | (with_reducible apply LS.tthen)
  | (with_reducible apply LS.tstep)
  | (with_reducible apply LS.tnop)
  | (with_reducible apply LS.tpart)
  | (with_reducible apply LS.k_part)
  | (with_reducible apply LS.ttup)
  | (with_reducible apply LS.tlst)
  | (with_reducible apply LS.tbm)
  | (with_reducible apply LS.tbm0)
  | ((with_reducible apply LS.ty_l); array_mem_dec)
  | (with_reducible apply LS.tpar)
  | (with_reducible apply LS.tfor)
  | (with_reducible apply LS.tlc)
  | (with_reducible apply LS.ilist)
  | ((with_reducible apply LS.k_il); array_mem_dec)
  | (with_reducible apply LS.itup)
  | ((with_reducible apply LS.k_it); array_mem_dec)
  | (with_reducible apply LS.istr)
  | (with_reducible apply LS.k_is)
  | (with_reducible apply LS.irng1)
  | ((with_reducible apply LS.k_r1n); omega)
  | ((with_reducible apply LS.k_r1); (first | omega | decide); (first | omega | decide))
  | (with_reducible apply LS.irng2)
  | ((with_reducible apply LS.k_r2); (first | omega | decide); (first | omega | decide); (first | omega | decide); (first | omega | decide))
  | (with_reducible apply LS.ienum)
  | ((with_reducible apply LS.k_en); array_mem_dec)
  | (with_reducible apply LS.izip)
  | ((with_reducible apply LS.k_zip); array_mem_dec; array_mem_dec)
  | (with_reducible apply LS.tlstrg)
  | (with_reducible apply LS.trg1)
  | (with_reducible apply LS.k_g1)
  | (with_reducible apply LS.risn_i)
  | (with_reducible apply LS.risn_s)
  | (with_reducible apply LS.risn_n)
  | (with_reducible apply LS.rnotn_i)
  | (with_reducible apply LS.rnotn_n)
  | (with_reducible apply LS.rint_b)
  | (with_reducible apply LS.rint_i)
  | (with_reducible apply LS.tm0)
  | (with_reducible apply LS.tm1)
  | (with_reducible apply LS.is_str)
  | (with_reducible apply LS.ex_s0)
  | (with_reducible apply LS.ex_int_b)
  | (with_reducible apply LS.k_par)
  | (with_reducible apply LS.tpar3)
  | (with_reducible apply LS.k_par3)
  | ((with_reducible apply LS.taug); exact rfl)
  | (with_reducible apply LS.ipi)
  | ((with_reducible apply LS.gtup); array_mem_dec; exact rfl)
  | ((with_reducible apply LS.gunl); array_mem_dec; exact rfl)
  | (with_reducible apply LS.gnil)
  | (with_reducible apply LS.gcons)
  | (with_reducible apply LS.gsub)
  | ((with_reducible apply LS.ri); first | omega | decide | assumption | exact ⟨by decide, by decide, by decide⟩ | exact .inl ⟨by decide, by decide⟩ | exact .inr ⟨by decide, by decide⟩ | exact .inl ⟨by omega, by omega⟩ | exact .inr ⟨by omega, by omega⟩)
  | (with_reducible apply LS.ex_ss)
  | (with_reducible apply LS.ex_s1)
  | (with_reducible apply LS.ex_i1)
  | (with_reducible apply LS.and_rfl)
  | (with_reducible apply LS.and_tr)
  | (with_reducible apply LS.is_non))
local macro_rules | `(tactic| array_get_dec) => `(tactic| first
  | (with_reducible apply LS.tcalle)
  | (with_reducible apply LS.tcalls))
local macro_rules | `(tactic| array_get_dec) => `(tactic| first
  | (with_reducible apply LS.mks)
  | (with_reducible apply LS.rnotn_rr)
  | (with_reducible apply LS.risn_rr)
  | (with_reducible apply LS.txf))
local macro_rules | `(tactic| array_get_dec) => `(tactic| first
  | (with_reducible apply LS.trg2)
  | (with_reducible apply LS.k_g2))

section
variable {P : Program} {w : World} {K : PySem.W.Frag} {mg : Str → Option Value} {base : Heap}

theorem at_erase {α : Type} {l : List α} {k i : Nat} : (l.eraseIdx k)[i]? = if i < k then l[i]? else l[i + 1]? := List.getElem?_eraseIdx ..
theorem Bag.frD {H H' : Hp} {b l D : Addr} {ns : List Int} {d : Nat} (g : Bag H b l ns d) (f : Fr H H' D) (h1 : D ≠ b) (h2 : D ≠ l) : Bag H' b l ns d := by
  obtain ⟨⟨i, c, k, t, e1, e2⟩, ls, ne⟩ := g
  exact ⟨⟨i, c, k, t, f _ _ e1 (Ne.symm h1), e2⟩, f _ _ ls (Ne.symm h2), ne⟩
theorem ok_law (e : Env P K mg) : LG.FnG P w K mg base CX0 13 e.a_law e.d_law ["script"] (sp_law K) := by
  refine LG.okG e.f_law sc_law (fun vs H Q E h => ?_) (fun cdv A outer s H vs Q E hgd hr h => ?_)
  · obtain ⟨a, ns, rfl, _⟩ := h; rfl
  · obtain ⟨a, ns, rfl, hS, hl, k⟩ := h
    refine ⟨_, (pss_cons (ps_set (i := 1) sc_law.nd rfl (by first | exact Or.inl rfl | exact Or.inr rfl) (pe_call ((ok__law_bag e).mono (by decide)) hr rfl e.g__law_bag e.f__law_bag.kp e.b__law_bag .nil pass0 (pa_cons (pv 0) pa_nil)))
      (pss_cons (ps_for PassesOwn.never rfl (pi_range1 (by rfl) e.n_range (pa_cons (pe_op op_add pe_int (pe_callB (LS.call_min2 rfl) (by rfl) e.n_min (by decide +kernel) (pa_cons pe_int (pa_cons (pe_callB LS.call_len (by rfl) e.n_len PySem.boot_len (pa_cons (pv 0) pa_nil)) pa_nil)))) pa_nil)) (pg_name (i := 2) sc_law.nd rfl (by first | exact Or.inl rfl | exact Or.inr rfl))
      (pss_cons (ps_asg (pe_call ((ok__law_few e).mono (by decide)) hr rfl e.g__law_few e.f__law_few.kp e.b__law_few .nil pass0 (pa_cons (pv 1) (pa_cons pe_int pa_nil))) (pg_tup (by rfl) (pgs_cons (pg_name (i := 3) sc_law.nd rfl (by first | exact Or.inl rfl | exact Or.inr rfl)) (pgs_cons (pg_name (i := 4) sc_law.nd rfl (by first | exact Or.inl rfl | exact Or.inr rfl)) (pgs_cons (pg_name (i := 5) sc_law.nd rfl (by first | exact Or.inl rfl | exact Or.inr rfl)) pgs_nil)))))
      (pss_one (ps_for PassesOwn.never rfl (pi_range1 (by rfl) e.n_range (pa_cons pe_int pa_nil)) (pg_name (i := 6) sc_law.nd rfl (by first | exact Or.inl rfl | exact Or.inr rfl))
      (pss_cons (ps_setLc (i := 7) (own := [("number", 9)]) rfl sc_law.nd rfl rfl (sw_true rfl rfl rfl (by decide +kernel)) (pi_range1 (by rfl) e.n_range (pa_cons (pe_call ((ok__law_draw e).mono (by decide)) hr rfl e.g__law_draw e.f__law_draw.kp e.b__law_draw .nil pass0 (pa_cons (pv 1) (pa_cons pe_int pa_nil))) pa_nil)) (blkOk_by (N := ["script", "bag", "turn", "takes", "fills", "some", "step", "facts", "fill", "number"]) (sc := defScope s_law) (by decide +kernel)) (fun _ _ _ _ _ => (pg_name (i := 9) sc_law.nd rfl (by first | exact Or.inl rfl | exact Or.inr rfl))) (fun _ _ _ _ _ => pts_nil) (fun _ _ _ _ _ => (pe_call ((ok__law_fact e).mono (by decide)) hr rfl e.g__law_fact e.f__law_fact.kp e.b__law_fact .nil pass0 (pa_cons (pv 1) (pa_cons (pe_callB (show CallR _ _ (rLenS K) from LS.call_len) (by rfl) e.n_len PySem.boot_len (pa_cons (pv 3) pa_nil)) pa_nil)))))
      (pss_cons (ps_if (pt_not (pt_val (pe_callG ((ok__law_right e).up (by decide)) hgd hr rfl e.g__law_right e.f__law_right.kp e.b__law_right .nil pass0 (pa_cons (pv 1) (pa_cons (pv 3) (pa_cons (pv 4) (pa_cons (pv 5) (pa_cons (pv 7) pa_nil))))))))
        (pss_one (ps_ret pe_bl))
        pss_nil)
      (pss_one (ps_while PassesOwn.never (PW.pt (pw_and (pt_cmpR (op_neD hr.units) (pv 7) (pe_lst pa_nil) (nomark _)) (pw_and1 (pt_cmpR (op_neD hr.units) (pv 3) (pe_lst pa_nil) (nomark _)))))
      (pss_cons (ps_expr (pe_bm PySem.F.plainAttrs_list PySem.F.slot_list_pop PySem.F.type_list_pop mt_popAt (pv 7) (pa_cons pe_int pa_nil)))
      (pss_cons (ps_set (i := 8) sc_law.nd rfl (by first | exact Or.inl rfl | exact Or.inr rfl) (pe_call ((ok__law_draw e).mono (by decide)) hr rfl e.g__law_draw e.f__law_draw.kp e.b__law_draw .nil pass0 (pa_cons (pv 1) (pa_cons (pe_callB LS.call_len (by rfl) e.n_len PySem.boot_len (pa_cons (pv 3) pa_nil)) pa_nil))))
      (pss_one (ps_if (pt_cmpR (op_neD hr.units) (pe_call ((ok__law_told e).mono (by decide)) hr rfl e.g__law_told e.f__law_told.kp e.b__law_told .nil pass0 (pa_cons (pv 3) (pa_cons (pv 4) (pa_cons (pv 7) (pa_cons (pv 8) pa_nil))))) (pe_call ((ok__law_due e).mono (by decide)) hr rfl e.g__law_due e.f__law_due.kp e.b__law_due .nil pass0 (pa_cons (pv 5) (pa_cons (pv 7) (pa_cons (pv 8) pa_nil)))) (nomark _))
        (pss_one (ps_ret pe_bl))
        pss_nil))))))))))))
      (pss_cons (ps_if (pt_cmpR (op_neD hr.units) (pe_call ((ok_time_range e).mono (by decide)) hr rfl e.g_time_range e.f_time_range.kp e.b_time_range .nil pass0 (pa_cons (pe_lst (pa_cons pe_int pa_nil)) (pa_cons (pe_lst (pa_cons pe_int pa_nil)) (pa_cons (pe_lst pa_nil) (pa_cons pe_int pa_nil))))) (pe_tup (pa_cons pe_int (pa_cons pe_int pa_nil))) (nomark _))
        (pss_one (ps_ret pe_bl))
        pss_nil)
      (pss_one (ps_ret (pe_cmpR (op_eqD hr.units) (pe_call ((ok_time_range e).mono (by decide)) hr rfl e.g_time_range e.f_time_range.kp e.b_time_range .nil pass0 (pa_cons (pe_lst (pa_cons pe_int (pa_cons pe_int (pa_cons pe_int (pa_cons pe_int pa_nil))))) (pa_cons (pe_lst (pa_cons pe_int (pa_cons pe_int (pa_cons pe_int (pa_cons pe_int pa_nil))))) (pa_cons (pe_lst (pa_cons (pe_tup (pa_cons pe_str (pa_cons pe_int (pa_cons pe_int pa_nil)))) pa_nil)) (pa_cons pe_int pa_nil))))) (pe_tup (pa_cons pe_int (pa_cons pe_int pa_nil))) (nomark _))))))), ?_⟩
    refine ⟨_, rfl, a, ns, rfl, hS, hl, fun H1 b l s1 nb nl G1 => ?_⟩
    refine ⟨_, rfl, a, _, rfl, .inl (s1.seq hS), _, _, rfl, _, _, rfl, rfl, _, rfl, ?_⟩
    obtain ⟨c, ec, hc⟩ : ∃ c : Nat, (if ((ns.map V.int).length : Int) < 8 then ((ns.map V.int).length : Int) else 8) = (c : Int) ∧ c ≤ 8 := by
      by_cases h : ((ns.map V.int).length : Int) < 8
      · exact ⟨(ns.map V.int).length, if_pos h, by omega⟩
      · exact ⟨8, if_neg h, by omega⟩
    rw [ec]
    refine ⟨by omega, by omega, for_it walk_range (fun i σ H2 => ∃ v2 v3 v4 v5 v6 v7 v8 v9 : Option V, σ = [some (.ref a), some (.ref b), v2, v3, v4, v5, v6, v7, v8, v9] ∧ Bag H2 b l ns (5000 * i))
      ⟨none, none, none, none, none, none, none, none, rfl, G1⟩ (fun _ _ _ _ _ => trivial) ?_ ?_⟩
    · rintro i tv σ Hq H2 hi ⟨v2, v3, v4, v5, v6, v7, v8, v9, rfl, G2⟩ ⟨rfl, rfl⟩
      have hi12 : i < 12 := by omega
      refine ⟨_, rfl, b, l, ns, _, rfl, G2, by omega, hl, fun H3 q x y z tk fs ps G3 F3 hq hx hy hz nx ny nz pl tl ev psl => ?_⟩
      refine ⟨_, _, rfl, SqT.of hq, rfl, _, _, rfl, _, _, rfl, _, _, rfl, rfl, ?_⟩
      refine ⟨_, rfl, by decide, by decide, for_it walk_range (fun j σ H' => ∃ v6 v7 v8 v9 : Option V, σ = [some (.ref a), some (.ref b), some (.int (0 + (i : Nat))), some (.ref x), some (.ref y), some (.ref z), v6, v7, v8, v9] ∧ Bag H' b l ns (5000 * i + 204 + 500 * j) ∧ Fr H3 H' b)
        ⟨v6, v7, v8, v9, rfl, G3, Fr.refl _ _⟩ (fun _ _ _ _ _ => trivial) ?_ ?_⟩
      · rintro j sv σ Hr H4 hj ⟨v6, v7, v8, v9, rfl, G4, F4⟩ ⟨rfl, rfl⟩
        replace hj : j < (6 : Int).toNat := hj
        have hj8 : j < 6 := hj
        refine ⟨_, rfl, b, l, ns, _, 5, rfl, G4, by decide, by decide +kernel, by omega, hl, fun H5 u u0 u1 G5 F5 => ?_⟩
        refine ⟨_, rfl, by omega, by omega, fun D hD => lc_it walk_range (fun m H' => ∃ (F : List Fact) (as : List Addr), as.length = m ∧ F.length = m ∧ Bag H' b l ns (5000 * i + 204 + 500 * j + 1 + 6 * m) ∧ Fr H5 H' b ∧ H' D = some (.lst (as.map V.ref)) ∧ (∀ (i : Nat) a f, as[i]? = some a → F[i]? = some f → H' a = some (.tup (fcV f))) ∧ (∀ a ∈ as, a ≠ b) ∧ ∀ f ∈ F, f.ok tk.length)
          ⟨[], [], rfl, rfl, (G5.same (same_upd hD)).mono (by omega), Fr.of (same_upd hD), upd_same, (fun i a f e => by simp at e), (fun a h => by cases h), (fun f h => by cases h)⟩ (fun _ _ _ _ => trivial) ?_ ?_⟩
        · rintro m mv H6 H7 hm ⟨F, as, al, fl, G6, F6, hD6, hF, nas, okf⟩ ⟨rfl, rfl⟩
          have hm6 : m < 4 := by omega
          have nDb : D ≠ b := G5.ne_new hD
          have hx6 := F6 _ _ (F5 _ _ (F4 _ _ hx nx) nx) nx
          have e : (tk.map V.int).length = tk.length := List.length_map ..
          refine ⟨rfl, _, rfl, _, rfl, x, _, rfl, .inl (SqL.of hx6), b, l, ns, _, (tk.map V.int).length, rfl, G6, by omega, hl, by omega, fun H8 q f G8 F8 nq hq8 okf8 => ?_⟩
          have hD8 := F8 _ _ hD6 nDb
          have nqD : q ≠ D := fun e => by subst e; rw [hq8] at hD8; cases hD8
          refine ⟨_, hD8, by rw [List.length_map]; exact small1000 (by omega), F ++ [f], as ++ [q], by rw [List.length_append, al]; rfl, by rw [List.length_append, fl]; rfl, (G8.mono (by omega)).upd nDb (G5.l_ne hD).symm, fun c o h n => by rw [upd_ne (ne_of_none h hD)]; exact F8 _ _ (F6 _ _ h n) n, by rw [upd_same, List.map_append]; rfl, fun i' a' f' e1 e2 => ?_, fun a' h => ?_, fun f' h => ?_⟩
          · by_cases zz : i' < as.length
            · rw [List.getElem?_append_left zz] at e1
              rw [List.getElem?_append_left (by omega)] at e2
              have h8 := F8 _ _ (hF i' a' f' e1 e2) (nas a' (List.mem_of_getElem? e1))
              rw [upd_ne (fun e => by subst e; rw [hD8] at h8; cases h8)]; exact h8
            · rw [List.getElem?_append_right (by omega)] at e1
              rw [List.getElem?_append_right (by omega), fl, ← al] at e2
              cases yy : i' - as.length with
              | succ m => rw [yy] at e1; simp at e1
              | zero =>
                rw [yy] at e1 e2; cases e1; cases e2
                rw [upd_ne nqD]; exact hq8
          · rcases List.mem_append.mp h with zz | zz
            · exact nas a' zz
            · rw [List.mem_singleton.mp zz]; exact nq
          · rcases List.mem_append.mp h with zz | zz
            · exact okf f' zz
            · rw [List.mem_singleton.mp zz, ← e]; exact okf8
        · rintro H6 ⟨F, as, al, fl, G6, F6, hD6, hF, nas, okf⟩
          have hu6 : (u - 0).toNat ≤ 4 := by omega
          have nDb : D ≠ b := G5.ne_new hD
          have F06 := (F4.trans F5).trans F6
          refine ⟨_, rfl, _, rfl, _, rfl, _, rfl, _, rfl, b, l, ns, _, x, y, z, D, tk, fs, ps, F, as, rfl, G6, by omega, hl, F06 _ _ hx nx, F06 _ _ hy ny, F06 _ _ hz nz, nx, ny, nz, nDb, ⟨hD6, by omega, hF⟩, nas, pl, tl, ev, psl, okf, by omega, fun H7 G7 F7 => ⟨true, rfl, iteNB rfl ?_⟩⟩
          repeat array_get_dec
          refine LS.while_ (fun m σ H' => ∃ (F : List Fact) (as : List Addr) (v8' : Option V), F.length = m ∧ F.length ≤ 4 ∧ σ = [some (.ref a), some (.ref b), some (.int (0 + (i : Nat))), some (.ref x), some (.ref y), some (.ref z), some (.int (0 + (j : Nat))), some (.ref D), v8', v9] ∧ Bag H' b l ns (5000 * i + 204 + 500 * j + 470 - F.length) ∧ Fr H3 H' b ∧ FsL H' D F as ∧ (∀ a ∈ as, a ≠ b) ∧ ∀ f ∈ F, f.ok tk.length) F.length
            ⟨F, as, _, rfl, by omega, rfl, G7.mono (by omega), F06.trans F7, ⟨F7 _ _ hD6 nDb, by omega, fun i a f h1 h2 => F7 _ _ (hF i a f h1 h2) (nas a (List.mem_of_getElem? h1))⟩, nas, okf⟩ ?_
          clear hF nas okf G7 F7 G6 F6 hD6 F06 al fl
          rintro m σ H8 ⟨F, as, v8', rfl, fl6, rfl, G8, F8, fsl, nas, okf⟩
          have al := fsl.len
          have hn200 : tk.length ≤ 200 := by omega
          repeat array_get_dec
          refine LS.k_lst (by array_mem_dec) fun e0 H_e0 n_e0 s_e0 h_e0 => ?_
          repeat array_get_dec
          refine LS.rned (fsl.same s_e0).dp (.lst (SqL.of h_e0) .nil) (shaped_facts okf hn200 (by omega)) rfl ?_
          rw [eqv_lnil]
          have fsl9 := fsl.same s_e0
          have G9 := G8.same s_e0
          have F9 := F8.trans (Fr.of s_e0)
          have nDb : D ≠ b := G5.ne_new hD
          by_cases hF0 : F = []
          · have h0 : (F.map fun f => PyData.tuple (fdL f)) = [] := by rw [hF0]; rfl
            rw [decide_eq_true h0]
            repeat array_get_dec
            exact ⟨_, _, _, _, rfl, G9.mono (by omega), F9⟩
          · have h0 : ¬ (F.map fun f => PyData.tuple (fdL f)) = [] := fun q => hF0 (List.map_eq_nil_iff.mp q)
            have fpos : 0 < F.length := List.length_pos_iff.mpr hF0
            rw [decide_eq_false h0]
            clear h_e0 s_e0 n_e0 G8 F8 fsl
            repeat array_get_dec
            refine LS.k_lst (by array_mem_dec) fun e1 H_e1 n_e1 s_e1 h_e1 => ?_
            repeat array_get_dec
            have hx8 := F9 _ _ hx nx
            refine LS.rne_il (y := []) (SqL.of (s_e1 _ _ hx8)) (SqL.of h_e1) ?_
            have fsl10 := fsl9.same s_e1
            have G10 := G9.same s_e1
            have F10 := F9.trans (Fr.of s_e1)
            clear h_e1 s_e1 n_e1 G9 F9 fsl9 hx8
            by_cases ht0 : tk = []
            · rw [decide_eq_true ht0]
              repeat array_get_dec
              exact ⟨_, _, _, _, rfl, G10.mono (by omega), F10⟩
            · rw [decide_eq_false ht0]
              have tpos : 0 < tk.length := List.length_pos_iff.mpr ht0
              repeat array_get_dec
              refine LS.k_wt ?_
              have ha0 := List.getElem?_eq_getElem (l := as) (i := 0) (by omega)
              generalize as[0]'(by omega) = a0 at ha0
              have hD10 := fsl10.ls
              repeat array_get_dec
              refine LS.rpopi (k := 0) hD10 (by omega) (by omega) (seq_int (by omega) (by rw [List.length_map]; omega)) (by rw [List.getElem?_map, ha0]; rfl) fun H11 f11 h11 => ?_
              have er := erase_map V.ref as 0
              have G11 : Bag H11 b l ns (5000 * i + 204 + 500 * j + 470 - F.length) := G10.frD f11 nDb (G5.l_ne hD).symm
              have F11 : Fr H3 H11 b := fun c o h n => f11 _ _ (F10 _ _ h n) (ne_of_none (F5 _ _ (F4 _ _ h n) n) hD)
              have fsl11 : FsL H11 D (F.eraseIdx 0) (as.eraseIdx 0) := by
                refine ⟨by rw [h11, er], by rw [List.length_eraseIdx_of_lt (by omega), List.length_eraseIdx_of_lt (by omega), al], fun i' a' f' e1 e2 => ?_⟩
                rw [at_erase, if_neg (Nat.not_lt_zero _)] at e1 e2
                have h10 := fsl10.at_ _ _ _ e1 e2
                exact f11 _ _ h10 (fun e => by subst e; rw [hD10] at h10; cases h10)
              have okf' : ∀ f ∈ F.eraseIdx 0, f.ok tk.length := fun f hf => okf f (List.mem_of_mem_eraseIdx hf)
              have nas' : ∀ a ∈ as.eraseIdx 0, a ≠ b := fun a ha => nas a (List.mem_of_mem_eraseIdx ha)
              have fl' : (F.eraseIdx 0).length = F.length - 1 := List.length_eraseIdx_of_lt (by omega)
              have okp : ∀ t ∈ ps, Good t ∧ tks t = tk.length := fun t ht => ⟨((ev.mem t).mp ht).1, ((ev.mem t).mp ht).2.1⟩
              generalize F.eraseIdx 0 = F' at *
              generalize as.eraseIdx 0 = as' at *
              clear G10 F10 fsl10 hD10
              repeat array_get_dec
              refine ⟨b, l, ns, _, tk.length, rfl, G11, by omega, log_4k (n := tk.length) rfl (by omega), by omega, hl, fun H12 u2 u20 u21 G12 F12 => ?_⟩
              obtain ⟨kk, rfl⟩ : ∃ kk : Nat, u2 = (kk : Int) := ⟨u2.toNat, by omega⟩
              have hk : kk < tk.length := by omega
              have fsl12 : FsL H12 D F' as' := ⟨F12 _ _ fsl11.ls nDb, fsl11.len, fun i a f h1 h2 => F12 _ _ (fsl11.at_ i a f h1 h2) (nas' a (List.mem_of_getElem? h1))⟩
              have F3' := F11.trans F12
              have hz12 := F3' _ _ hz nz
              repeat array_get_dec
              refine ⟨x, y, D, tk, fs, F', as', kk, rfl, .inl (SqL.of (F3' _ _ hx nx)), .inl (SqL.of (F3' _ _ hy ny)), pl, ev.perm, ev.noObs, ⟨.inl (SqL.of fsl12.ls), fsl12.len, fun i a f h1 h2 => .inr (SqT.of (fsl12.at_ i a f h1 h2))⟩, okf', by omega, hk, fun hm H13 q s13 hq => ?_, fun hm H13 q v r s13 c rs hq => ?_⟩
              · have hg := (ev_met ev okf').mp hm
                have sa := (sm_ans (r := []) (m := 0) (p1 := fun _ => True) (p2 := fun _ _ => True) ev okf' hk tl (fun z => by rw [hm] at z; cases z) (by decide)).ok (by decide) (by decide)
                repeat array_get_dec
                refine ⟨z, D, tk.length, kk, ps, F', as', nbL tk fs F' kk, nbH tk fs F' kk, rfl, s13 _ _ hz12, fsl12.same s13, okp, okf', tl, psl, by omega, hk, fun z => ev_rg ev okf' hk z, fun z => absurd z hg, fun _ H14 q' s14 hq' => ?_⟩
                refine LS.rned (d := ansD tk fs F' kk []) (e := ansD tk fs F' kk []) (by unfold ansD; rw [if_pos hm]; exact .tup (SqT.of (s14 _ _ hq)) (.cons (.int _) (.cons (.int _) .nil))) (by unfold ansD; rw [if_pos hm]; exact .tup (SqT.of hq') (.cons (.int _) (.cons (.int _) .nil))) sa.2.1 sa.2.1 ?_
                rw [SeqAt.eqv_refl _ (SeqAt.canLay_of_shaped sa.2.1)]
                repeat array_get_dec
                exact ⟨F'.length, by omega, F', as', _, rfl, by omega, rfl, ((G12.same (s13.trans s14)).mono (by omega)), F3'.trans (Fr.of (s13.trans s14)), fsl12.same (s13.trans s14), nas', okf'⟩
              · have hg : fitL ps F' = [] := Classical.byContradiction fun z => by rw [(ev_met ev okf').mpr z] at hm; cases hm
                have hmn : ¬ metB tk fs (F'.map (lim tk.length)) = true := fun z => by rw [hm] at z; cases z
                have sa := (sm_ans (j := kk) ev okf' hk tl (fun _ => c) (by omega)).ok (by decide) (by decide)
                repeat array_get_dec
                refine ⟨z, D, tk.length, kk, ps, F', as', nbL tk fs F' kk, nbH tk fs F' kk, rfl, s13 _ _ hz12, fsl12.same s13, okp, okf', tl, psl, by omega, hk, fun z => ev_rg ev okf' hk z, fun _ H14 q' v' r' s14 c' rs' hq' => ?_, fun z => absurd hg z⟩
                obtain rfl : r = r' := ev.conf okf' c c'
                refine LS.rned (d := ansD tk fs F' kk r) (e := ansD tk fs F' kk r) (by unfold ansD; rw [if_neg hmn]; exact .tup (SqT.of (s14 _ _ hq)) (.cons (.str _) (.cons (rs_dp (rs.same s14)) .nil))) (by unfold ansD; rw [if_neg hmn]; exact .tup (SqT.of hq') (.cons (.str _) (.cons (rs_dp rs') .nil))) sa.2.1 sa.2.1 ?_
                rw [SeqAt.eqv_refl _ (SeqAt.canLay_of_shaped sa.2.1)]
                repeat array_get_dec
                exact ⟨F'.length, by omega, F', as', _, rfl, by omega, rfl, ((G12.same (s13.trans s14)).mono (by omega)), F3'.trans (Fr.of (s13.trans s14)), fsl12.same (s13.trans s14), nas', okf'⟩
      · rintro σ H4 ⟨v6, v7, v8, v9, rfl, G4, F4⟩
        exact ⟨_, _, _, _, _, _, _, _, rfl, G4.mono (by omega)⟩
    · rintro σ H2 ⟨v2, v3, v4, v5, v6, v7, v8, v9, rfl, G2⟩
      have P0 : Pl [0] := ⟨by decide, (fun x h => by rw [List.mem_singleton.mp h]; decide), by decide⟩
      have N0 : NoObs [0] [0] := (pair_ok (tk := [0]) (l := [true, false]) (by decide) ⟨(Pre.nil.snoc (b := true) (by decide)).snoc (b := false) (by decide), by decide⟩ (by decide)).2.1
      have P4 : Pl [2, 0, 3, 1] := ⟨by decide, (fun x h => by simp only [List.mem_cons, List.not_mem_nil, or_false] at h; rcases h with rfl | rfl | rfl | rfl <;> decide), by decide⟩
      have N4 : NoObs [2, 0, 3, 1] [0, 2, 1, 3] := (pair_ok (tk := [2, 0, 3, 1]) (l := [true, true, false, false, true, true, false, false]) (by decide) ⟨((((((((Pre.nil.snoc (b := true) (by decide)).snoc (b := true) (by decide)).snoc (b := false) (by decide)).snoc (b := false) (by decide)).snoc (b := true) (by decide)).snoc (b := true) (by decide)).snoc (b := false) (by decide)).snoc (b := false) (by decide)), by decide⟩ (by decide)).2.1
      clear G2 G1 s1 hS
      have M0 : metB [0] [0] (([] : List Fact).map (lim ([0] : List Int).length)) = true := by decide +kernel
      have M4 : metB [2, 0, 3, 1] [0, 2, 1, 3] ([Fact.ou 4 2].map (lim ([2, 0, 3, 1] : List Int).length)) = true := by decide +kernel
      repeat array_get_dec
      refine LS.k_lst (by array_mem_dec) fun p1 H_p1 n_p1 s_p1 h_p1 => ?_
      repeat array_get_dec
      repeat array_get_dec
      refine LS.k_lst (by array_mem_dec) fun p2 H_p2 n_p2 s_p2 h_p2 => ?_
      repeat array_get_dec
      repeat array_get_dec
      refine LS.k_lst (by array_mem_dec) fun p3 H_p3 n_p3 s_p3 h_p3 => ?_
      repeat array_get_dec
      repeat array_get_dec
      refine ⟨p1, p2, p3, [0], [0], [], [], 0, rfl, .inl (SqL.of (s_p3 _ _ (s_p2 _ _ h_p1))), .inl (SqL.of (s_p3 _ _ h_p2)), P0, .refl _, N0, ⟨.inl (SqL.of h_p3), rfl, fun i a f e => by simp at e⟩, (fun f h => by cases h), by decide, by decide, M0, fun H3 q1 s3 hq1 => ?_⟩
      rw [show nbL [0] [0] [] 0 = 1 by decide +kernel, show nbH [0] [0] [] 0 = 1 by decide +kernel] at hq1
      repeat array_get_dec
      refine LS.k_tup (by show 2 ≤ sizeLine; decide) fun q2 H4 nq2 s4 hq2 => ?_
      refine LS.rned (.tup (SqT.of (s4 _ _ hq1)) (.cons (.int _) (.cons (.int _) .nil))) (.tup (SqT.of hq2) (.cons (.int _) (.cons (.int _) .nil))) rfl rfl ?_
      rw [show PyData.eqv (.tuple [.int ((1 : Nat) : Int), .int ((1 : Nat) : Int)]) (.tuple [.int 1, .int 1]) = true by decide +kernel]
      clear s_p1 s_p2 s_p3 h_p1 h_p2 h_p3 n_p1 n_p2 n_p3 hq1 s3 hq2 s4 nq2
      repeat array_get_dec
      refine LS.k_lst (by array_mem_dec) fun p4 H_p4 n_p4 s_p4 h_p4 => ?_
      repeat array_get_dec
      repeat array_get_dec
      refine LS.k_lst (by array_mem_dec) fun p5 H_p5 n_p5 s_p5 h_p5 => ?_
      repeat array_get_dec
      repeat array_get_dec
      refine LS.k_tup (by show 3 ≤ sizeLine; decide) fun t H5 nt s5 ht => ?_
      repeat array_get_dec
      refine LS.k_lst (by array_mem_dec) fun p6 H_p6 n_p6 s_p6 h_p6 => ?_
      repeat array_get_dec
      repeat array_get_dec
      have ok4 : ∀ f ∈ [Fact.ou 4 2], f.ok ([2, 0, 3, 1] : List Int).length := fun f hf => by rw [List.mem_singleton.mp hf]; exact ⟨by decide, by decide⟩
      refine ⟨p4, p5, p6, [2, 0, 3, 1], [0, 2, 1, 3], [.ou 4 2], [t], 1, rfl, .inl (SqL.of (s_p6 _ _ (s5 _ _ (s_p5 _ _ h_p4)))), .inl (SqL.of (s_p6 _ _ (s5 _ _ h_p5))), P4, by decide, N4, ⟨.inl (SqL.of h_p6), rfl, fun i a f e1 e2 => ?_⟩, ok4, by decide, by decide, M4, fun H6 q3 s6 hq3 => ?_⟩
      · cases i with
        | zero => cases e1; cases e2; exact .inr (SqT.of (s_p6 _ _ ht))
        | succ m => simp at e1
      rw [show nbL [2, 0, 3, 1] [0, 2, 1, 3] [Fact.ou 4 2] 1 = 3 by decide +kernel, show nbH [2, 0, 3, 1] [0, 2, 1, 3] [Fact.ou 4 2] 1 = 3 by decide +kernel] at hq3
      repeat array_get_dec
      refine LS.k_tup (by show 2 ≤ sizeLine; decide) fun q4 H7 nq4 s7 hq4 => ?_
      refine LS.reqd (.tup (SqT.of (s7 _ _ hq3)) (.cons (.int _) (.cons (.int _) .nil))) (.tup (SqT.of hq4) (.cons (.int _) (.cons (.int _) .nil))) rfl rfl ?_
      rw [show PyData.eqv (.tuple [.int ((3 : Nat) : Int), .int ((3 : Nat) : Int)]) (.tuple [.int 3, .int 3]) = true by decide +kernel]
      exact k _
end
end LP

namespace LP
open PySem L2 LT LG LQ LH LC LX
set_option maxHeartbeats 4000000 in
theorem all_mk {l : PySem.W.OpenLaw} {w : World} {K : PySem.W.Frag} {h : Heap} {mg : Str → Option Value} {fa : Addr} (X : K.In h) (G : h.Ns mainGlobals mg) (hfa : mg "law" = some (.ref fa))
    {t_MOST_PLACES : Tok}
    {t_GREATEST_PLACE : Tok}
    {t_MOST_FACTS : Tok}
    {C_Contradiction : Addr}
    {I_Contradiction sS_Contradiction sN_Contradiction scc_Contradiction sda_Contradiction : Addr} {snm_Contradiction sq_Contradiction sfl_Contradiction : Str} {sbs_Contradiction ssb_Contradiction : List Value} {ssn_Contradiction : List Str} {sab_Contradiction : Bool} {sco_Contradiction : Option Bool} {sdd_Contradiction sod_Contradiction san_Contradiction sod2_Contradiction sod3_Contradiction : Option Addr} {sm0_Contradiction sm1_Contradiction sm2_Contradiction sm3_Contradiction sm5_Contradiction : Option Value} {soc_Contradiction sdc_Contradiction spm_Contradiction sct_Contradiction soc2_Contradiction soc3_Contradiction : Value} {ssl_Contradiction ss2_Contradiction ss3_Contradiction : Array (Option Value)} {svs_Contradiction : Array Value} {stf_Contradiction : Tok}
    {a_is_whole : Addr} {od_is_whole an_is_whole : Option Addr} {sl_is_whole : Array (Option Value)} {oc_is_whole kV_is_whole dc_is_whole pm_is_whole cd_is_whole ct_is_whole : Value}
    {a_is_listed : Addr} {od_is_listed an_is_listed : Option Addr} {sl_is_listed : Array (Option Value)} {oc_is_listed kV_is_listed dc_is_listed pm_is_listed cd_is_listed ct_is_listed : Value}
    {a_is_number : Addr} {od_is_number an_is_number : Option Addr} {sl_is_number : Array (Option Value)} {oc_is_number kV_is_number dc_is_number pm_is_number cd_is_number ct_is_number : Value}
    {a_is_place : Addr} {od_is_place an_is_place : Option Addr} {sl_is_place : Array (Option Value)} {oc_is_place kV_is_place dc_is_place pm_is_place cd_is_place ct_is_place : Value}
    {a_is_place_list : Addr} {od_is_place_list an_is_place_list : Option Addr} {sl_is_place_list : Array (Option Value)} {oc_is_place_list kV_is_place_list dc_is_place_list pm_is_place_list cd_is_place_list ct_is_place_list : Value}
    {a_check_places : Addr} {od_check_places an_check_places : Option Addr} {sl_check_places : Array (Option Value)} {oc_check_places kV_check_places dc_check_places pm_check_places cd_check_places ct_check_places : Value}
    {a_check_same_places : Addr} {od_check_same_places an_check_same_places : Option Addr} {sl_check_same_places : Array (Option Value)} {oc_check_same_places kV_check_same_places dc_check_same_places pm_check_same_places cd_check_same_places ct_check_same_places : Value}
    {a_check_pair : Addr} {od_check_pair an_check_pair : Option Addr} {sl_check_pair : Array (Option Value)} {oc_check_pair kV_check_pair dc_check_pair pm_check_pair cd_check_pair ct_check_pair : Value}
    {a_numbers_by_place : Addr} {od_numbers_by_place an_numbers_by_place : Option Addr} {sl_numbers_by_place : Array (Option Value)} {oc_numbers_by_place kV_numbers_by_place dc_numbers_by_place pm_numbers_by_place cd_numbers_by_place ct_numbers_by_place : Value}
    {a_is_two : Addr} {od_is_two an_is_two : Option Addr} {sl_is_two : Array (Option Value)} {oc_is_two kV_is_two dc_is_two pm_is_two cd_is_two ct_is_two : Value}
    {a_is_three : Addr} {od_is_three an_is_three : Option Addr} {sl_is_three : Array (Option Value)} {oc_is_three kV_is_three dc_is_three pm_is_three cd_is_three ct_is_three : Value}
    {a_first_two : Addr} {od_first_two an_first_two : Option Addr} {sl_first_two : Array (Option Value)} {oc_first_two kV_first_two dc_first_two pm_first_two cd_first_two ct_first_two : Value}
    {a_last_fill_between : Addr} {od_last_fill_between an_last_fill_between : Option Addr} {sl_last_fill_between : Array (Option Value)} {oc_last_fill_between kV_last_fill_between dc_last_fill_between pm_last_fill_between cd_last_fill_between ct_last_fill_between : Value}
    {a_first_three : Addr} {od_first_three an_first_three : Option Addr} {sl_first_three : Array (Option Value)} {oc_first_three kV_first_three dc_first_three pm_first_three cd_first_three ct_first_three : Value}
    {a_obstruction : Addr} {od_obstruction an_obstruction : Option Addr} {sl_obstruction : Array (Option Value)} {oc_obstruction kV_obstruction dc_obstruction pm_obstruction cd_obstruction ct_obstruction : Value}
    {a_least_times : Addr} {od_least_times an_least_times : Option Addr} {sl_least_times : Array (Option Value)} {oc_least_times kV_least_times dc_least_times pm_least_times cd_least_times ct_least_times : Value}
    {a_most_times : Addr} {od_most_times an_most_times : Option Addr} {sl_most_times : Array (Option Value)} {oc_most_times kV_most_times dc_most_times pm_most_times cd_most_times ct_most_times : Value}
    {a_check_possible : Addr} {od_check_possible an_check_possible : Option Addr} {sl_check_possible : Array (Option Value)} {oc_check_possible kV_check_possible dc_check_possible pm_check_possible cd_check_possible ct_check_possible : Value}
    {a_time_bounds : Addr} {od_time_bounds an_time_bounds : Option Addr} {sl_time_bounds : Array (Option Value)} {oc_time_bounds kV_time_bounds dc_time_bounds pm_time_bounds cd_time_bounds ct_time_bounds : Value}
    {a_is_fact : Addr} {od_is_fact an_is_fact : Option Addr} {sl_is_fact : Array (Option Value)} {oc_is_fact kV_is_fact dc_is_fact pm_is_fact cd_is_fact ct_is_fact : Value}
    {a_check_facts : Addr} {od_check_facts an_check_facts : Option Addr} {sl_check_facts : Array (Option Value)} {oc_check_facts kV_check_facts dc_check_facts pm_check_facts cd_check_facts ct_check_facts : Value}
    {a_limits_of_out : Addr} {od_limits_of_out an_limits_of_out : Option Addr} {sl_limits_of_out : Array (Option Value)} {oc_limits_of_out kV_limits_of_out dc_limits_of_out pm_limits_of_out cd_limits_of_out ct_limits_of_out : Value}
    {a_limits_of : Addr} {od_limits_of an_limits_of : Option Addr} {sl_limits_of : Array (Option Value)} {oc_limits_of kV_limits_of dc_limits_of pm_limits_of cd_limits_of ct_limits_of : Value}
    {a_read_facts : Addr} {od_read_facts an_read_facts : Option Addr} {sl_read_facts : Array (Option Value)} {oc_read_facts kV_read_facts dc_read_facts pm_read_facts cd_read_facts ct_read_facts : Value}
    {a_contradicts_pair : Addr} {od_contradicts_pair an_contradicts_pair : Option Addr} {sl_contradicts_pair : Array (Option Value)} {oc_contradicts_pair kV_contradicts_pair dc_contradicts_pair pm_contradicts_pair cd_contradicts_pair ct_contradicts_pair : Value}
    {a_puts_behind : Addr} {od_puts_behind an_puts_behind : Option Addr} {sl_puts_behind : Array (Option Value)} {oc_puts_behind kV_puts_behind dc_puts_behind pm_puts_behind cd_puts_behind ct_puts_behind : Value}
    {a_find_contradiction : Addr} {od_find_contradiction an_find_contradiction : Option Addr} {sl_find_contradiction : Array (Option Value)} {oc_find_contradiction kV_find_contradiction dc_find_contradiction pm_find_contradiction cd_find_contradiction ct_find_contradiction : Value}
    {a_check_number : Addr} {od_check_number an_check_number : Option Addr} {sl_check_number : Array (Option Value)} {oc_check_number kV_check_number dc_check_number pm_check_number cd_check_number ct_check_number : Value}
    {a_narrow : Addr} {od_narrow an_narrow : Option Addr} {sl_narrow : Array (Option Value)} {oc_narrow kV_narrow dc_narrow pm_narrow cd_narrow ct_narrow : Value}
    {a_can_be_met : Addr} {od_can_be_met an_can_be_met : Option Addr} {sl_can_be_met : Array (Option Value)} {oc_can_be_met kV_can_be_met dc_can_be_met pm_can_be_met cd_can_be_met ct_can_be_met : Value}
    {a_narrow_if_consistent : Addr} {od_narrow_if_consistent an_narrow_if_consistent : Option Addr} {sl_narrow_if_consistent : Array (Option Value)} {oc_narrow_if_consistent kV_narrow_if_consistent dc_narrow_if_consistent pm_narrow_if_consistent cd_narrow_if_consistent ct_narrow_if_consistent : Value}
    {a_time_range : Addr} {od_time_range an_time_range : Option Addr} {sl_time_range : Array (Option Value)} {oc_time_range kV_time_range dc_time_range pm_time_range cd_time_range ct_time_range : Value}
    {a__law_bag : Addr} {od__law_bag an__law_bag : Option Addr} {sl__law_bag : Array (Option Value)} {oc__law_bag kV__law_bag dc__law_bag pm__law_bag cd__law_bag ct__law_bag : Value}
    {a__law_stir : Addr} {od__law_stir an__law_stir : Option Addr} {sl__law_stir : Array (Option Value)} {oc__law_stir kV__law_stir dc__law_stir pm__law_stir cd__law_stir ct__law_stir : Value}
    {a__law_draw : Addr} {od__law_draw an__law_draw : Option Addr} {sl__law_draw : Array (Option Value)} {oc__law_draw kV__law_draw dc__law_draw pm__law_draw cd__law_draw ct__law_draw : Value}
    {a__law_shuffled : Addr} {od__law_shuffled an__law_shuffled : Option Addr} {sl__law_shuffled : Array (Option Value)} {oc__law_shuffled kV__law_shuffled dc__law_shuffled pm__law_shuffled cd__law_shuffled ct__law_shuffled : Value}
    {a__law_either : Addr} {od__law_either an__law_either : Option Addr} {sl__law_either : Array (Option Value)} {oc__law_either kV__law_either dc__law_either pm__law_either cd__law_either ct__law_either : Value}
    {a__law_dressed : Addr} {od__law_dressed an__law_dressed : Option Addr} {sl__law_dressed : Array (Option Value)} {oc__law_dressed kV__law_dressed dc__law_dressed pm__law_dressed cd__law_dressed ct__law_dressed : Value}
    {a__law_places : Addr} {od__law_places an__law_places : Option Addr} {sl__law_places : Array (Option Value)} {oc__law_places kV__law_places dc__law_places pm__law_places cd__law_places ct__law_places : Value}
    {a__law_filled : Addr} {od__law_filled an__law_filled : Option Addr} {sl__law_filled : Array (Option Value)} {oc__law_filled kV__law_filled dc__law_filled pm__law_filled cd__law_filled ct__law_filled : Value}
    {a__law_all_patterns : Addr} {od__law_all_patterns an__law_all_patterns : Option Addr} {sl__law_all_patterns : Array (Option Value)} {oc__law_all_patterns kV__law_all_patterns dc__law_all_patterns pm__law_all_patterns cd__law_all_patterns ct__law_all_patterns : Value}
    {a__law_few : Addr} {od__law_few an__law_few : Option Addr} {sl__law_few : Array (Option Value)} {oc__law_few kV__law_few dc__law_few pm__law_few cd__law_few ct__law_few : Value}
    {a__law_fact : Addr} {od__law_fact an__law_fact : Option Addr} {sl__law_fact : Array (Option Value)} {oc__law_fact kV__law_fact dc__law_fact pm__law_fact cd__law_fact ct__law_fact : Value}
    {a__law_holds : Addr} {od__law_holds an__law_holds : Option Addr} {sl__law_holds : Array (Option Value)} {oc__law_holds kV__law_holds dc__law_holds pm__law_holds cd__law_holds ct__law_holds : Value}
    {a__law_conflict : Addr} {od__law_conflict an__law_conflict : Option Addr} {sl__law_conflict : Array (Option Value)} {oc__law_conflict kV__law_conflict dc__law_conflict pm__law_conflict cd__law_conflict ct__law_conflict : Value}
    {a__law_fitting : Addr} {od__law_fitting an__law_fitting : Option Addr} {sl__law_fitting : Array (Option Value)} {oc__law_fitting kV__law_fitting dc__law_fitting pm__law_fitting cd__law_fitting ct__law_fitting : Value}
    {a__law_times : Addr} {od__law_times an__law_times : Option Addr} {sl__law_times : Array (Option Value)} {oc__law_times kV__law_times dc__law_times pm__law_times cd__law_times ct__law_times : Value}
    {a__law_told : Addr} {od__law_told an__law_told : Option Addr} {sl__law_told : Array (Option Value)} {oc__law_told kV__law_told dc__law_told pm__law_told cd__law_told ct__law_told : Value}
    {a__law_due : Addr} {od__law_due an__law_due : Option Addr} {sl__law_due : Array (Option Value)} {oc__law_due kV__law_due dc__law_due pm__law_due cd__law_due ct__law_due : Value}
    {a__law_right : Addr} {od__law_right an__law_right : Option Addr} {sl__law_right : Array (Option Value)} {oc__law_right kV__law_right dc__law_right pm__law_right cd__law_right ct__law_right : Value}
    {a_law : Addr} {od_law an_law : Option Addr} {sl_law : Array (Option Value)} {oc_law kV_law dc_law pm_law cd_law ct_law : Value}
    (z_len : PySem.W.nsIn K mainGlobals "len" = some none)
    (z_range : PySem.W.nsIn K mainGlobals "range" = some none)
    (z_list : PySem.W.nsIn K mainGlobals "list" = some none)
    (z_tuple : PySem.W.nsIn K mainGlobals "tuple" = some none)
    (z_int : PySem.W.nsIn K mainGlobals "int" = some none)
    (z_bool : PySem.W.nsIn K mainGlobals "bool" = some none)
    (z_str : PySem.W.nsIn K mainGlobals "str" = some none)
    (z_isinstance : PySem.W.nsIn K mainGlobals "isinstance" = some none)
    (z_min : PySem.W.nsIn K mainGlobals "min" = some none)
    (z_max : PySem.W.nsIn K mainGlobals "max" = some none)
    (z_sorted : PySem.W.nsIn K mainGlobals "sorted" = some none)
    (z_set : PySem.W.nsIn K mainGlobals "set" = some none)
    (z_all : PySem.W.nsIn K mainGlobals "all" = some none)
    (z_any : PySem.W.nsIn K mainGlobals "any" = some none)
    (z_repr : PySem.W.nsIn K mainGlobals "repr" = some none)
    (z_enumerate : PySem.W.nsIn K mainGlobals "enumerate" = some none)
    (z_zip : PySem.W.nsIn K mainGlobals "zip" = some none)
    (z_reversed : PySem.W.nsIn K mainGlobals "reversed" = some none)
    (z_super : PySem.W.nsIn K mainGlobals "super" = some none)
    (z_MOST_PLACES : PySem.W.nsIn K mainGlobals "MOST_PLACES" = some (some (.int 200 t_MOST_PLACES)))
    (z_GREATEST_PLACE : PySem.W.nsIn K mainGlobals "GREATEST_PLACE" = some (some (.int 1000000000000000000000000000000 t_GREATEST_PLACE)))
    (z_MOST_FACTS : PySem.W.nsIn K mainGlobals "MOST_FACTS" = some (some (.int 400 t_MOST_FACTS)))
    (z_combinations : PySem.W.nsIn K mainGlobals "combinations" = some (some (.type "itertools.combinations")))
    (z_Contradiction : PySem.W.nsIn K mainGlobals "Contradiction" = some (some (.ref C_Contradiction)))
    (sL_Contradiction : K.lookup C_Contradiction = some (PySem.excClassObj snm_Contradiction sq_Contradiction C_Contradiction sN_Contradiction sbs_Contradiction [.ref sS_Contradiction, .type "ValueError", .type "Exception", .type "BaseException", .type "object"] true ssn_Contradiction ssb_Contradiction sab_Contradiction sco_Contradiction sdd_Contradiction sm0_Contradiction sm1_Contradiction sm2_Contradiction sm3_Contradiction sm5_Contradiction "ValueError.__new__"))
    (sa_Contradiction : PySem.W.findIn K (.ref C_Contradiction) "__setattr__" = some (some (.builtin "object.__setattr__")))
    (sn_Contradiction : PySem.W.findIn K (.ref C_Contradiction) "indices" = some none)
    (si_Contradiction : PySem.W.findIn K (.ref C_Contradiction) "__init__" = some (some (.ref I_Contradiction)))
    (st_Contradiction : PySem.W.typeIn K (.ref I_Contradiction) = some (.type "function"))
    (sk_Contradiction : PySem.W.keepIn K (.ref C_Contradiction) = true)
    (sx_Contradiction : PySem.W.subIn K (.ref C_Contradiction) (.type "BaseException") = some true)
    (sv_Contradiction : PySem.W.subIn K (.ref C_Contradiction) (.type "ValueError") = some true)
    (sty_Contradiction : PySem.W.typeIn K (.ref C_Contradiction) = some (.type "type"))
    (sm_Contradiction : PySem.W.mroIn K C_Contradiction (.ref C_Contradiction) = some true)
    (so_Contradiction : PySem.W.nsIn K PySem.cStatics "thirdparty.any" = some none)
    (ss_Contradiction : PySem.W.ks_superIn K C_Contradiction C_Contradiction "__init__" = some (some (.builtin "ValueError.__init__")))
    (sf_Contradiction : K.lookup I_Contradiction = some ⟨soc_Contradiction, sod_Contradiction, .func (PySem.W.ksFn "__init__" "Contradiction.__init__" (PySem.SupX.iA "indices" ⟨20, 17, 20, 21⟩ ⟨20, 23, 20, 30⟩) (PySem.SupX.iB "indices" "the facts are inconsistent" ⟨21, 8, 21, 13⟩ ⟨21, 8, 21, 15⟩ ⟨21, 8, 21, 24⟩ ⟨21, 25, 21, 53⟩ ⟨21, 8, 21, 54⟩ ⟨21, 8, 21, 54⟩ ⟨22, 8, 22, 12⟩ ⟨22, 8, 22, 20⟩ ⟨22, 23, 22, 30⟩ ⟨22, 8, 22, 30⟩) (PySem.SupX.iS "indices") .none .none sdc_Contradiction spm_Contradiction san_Contradiction (.ref sda_Contradiction) sct_Contradiction scc_Contradiction), ssl_Contradiction⟩)
    (sc_Contradiction : PySem.W.codeIn K (.ref sda_Contradiction) "Contradiction.__init__" = true)
    (scc2_Contradiction : K.lookup scc_Contradiction = some ⟨soc2_Contradiction, sod2_Contradiction, .cell (some (.ref C_Contradiction)), ss2_Contradiction⟩)
    (sda2_Contradiction : K.lookup sda_Contradiction = some ⟨soc3_Contradiction, sod3_Contradiction, .fields svs_Contradiction, ss3_Contradiction⟩)
    (svs2_Contradiction : svs_Contradiction[2]? = some (.str sfl_Contradiction stf_Contradiction))
    (sfi_Contradiction : ((l.prog.main.file : Str) == sfl_Contradiction) = true)
    (sto_Contradiction : (l.prog.main.scope.names.lookup ("super" : Str)).isSome = false)
    (sga_Contradiction : PySem.W.findIn K (.ref C_Contradiction) "__getattribute__" = some (some (.builtin "BaseException.__getattribute__")))
    (sgg_Contradiction : PySem.W.findIn K (.ref C_Contradiction) "__getattr__" = some none)
    (shd_Contradiction : PySem.W.hasDictIn K C_Contradiction = true)
    (xb_Contradiction : PySem.W.subIn K (.ref C_Contradiction) (.type "BaseException") = some true)
    (xc_Contradiction : PySem.W.isClsIn K C_Contradiction = true)
    (xt_Contradiction : PySem.W.typeIn K (.ref C_Contradiction) = some (.type "type"))
    (xm_Contradiction_Contradiction : PySem.W.subIn K (.ref C_Contradiction) (.ref C_Contradiction) = some true)
    (z_is_whole : PySem.W.nsIn K mainGlobals "is_whole" = some (some (.ref a_is_whole)))
    (l_is_whole : K.lookup a_is_whole = some ⟨oc_is_whole, od_is_whole, .func (PySem.W.fnOf "is_whole" "is_whole" (defArgs s_is_whole) (defBody s_is_whole) (defScope s_is_whole) .none kV_is_whole dc_is_whole pm_is_whole an_is_whole cd_is_whole ct_is_whole), sl_is_whole⟩)
    (c_is_whole : PySem.W.codeIn K cd_is_whole "is_whole" = true)
    (k_is_whole : PySem.W.keepIn K (.ref a_is_whole) = true)
    (z_is_listed : PySem.W.nsIn K mainGlobals "is_listed" = some (some (.ref a_is_listed)))
    (l_is_listed : K.lookup a_is_listed = some ⟨oc_is_listed, od_is_listed, .func (PySem.W.fnOf "is_listed" "is_listed" (defArgs s_is_listed) (defBody s_is_listed) (defScope s_is_listed) .none kV_is_listed dc_is_listed pm_is_listed an_is_listed cd_is_listed ct_is_listed), sl_is_listed⟩)
    (c_is_listed : PySem.W.codeIn K cd_is_listed "is_listed" = true)
    (k_is_listed : PySem.W.keepIn K (.ref a_is_listed) = true)
    (z_is_number : PySem.W.nsIn K mainGlobals "is_number" = some (some (.ref a_is_number)))
    (l_is_number : K.lookup a_is_number = some ⟨oc_is_number, od_is_number, .func (PySem.W.fnOf "is_number" "is_number" (defArgs s_is_number) (defBody s_is_number) (defScope s_is_number) .none kV_is_number dc_is_number pm_is_number an_is_number cd_is_number ct_is_number), sl_is_number⟩)
    (c_is_number : PySem.W.codeIn K cd_is_number "is_number" = true)
    (k_is_number : PySem.W.keepIn K (.ref a_is_number) = true)
    (z_is_place : PySem.W.nsIn K mainGlobals "is_place" = some (some (.ref a_is_place)))
    (l_is_place : K.lookup a_is_place = some ⟨oc_is_place, od_is_place, .func (PySem.W.fnOf "is_place" "is_place" (defArgs s_is_place) (defBody s_is_place) (defScope s_is_place) .none kV_is_place dc_is_place pm_is_place an_is_place cd_is_place ct_is_place), sl_is_place⟩)
    (c_is_place : PySem.W.codeIn K cd_is_place "is_place" = true)
    (k_is_place : PySem.W.keepIn K (.ref a_is_place) = true)
    (z_is_place_list : PySem.W.nsIn K mainGlobals "is_place_list" = some (some (.ref a_is_place_list)))
    (l_is_place_list : K.lookup a_is_place_list = some ⟨oc_is_place_list, od_is_place_list, .func (PySem.W.fnOf "is_place_list" "is_place_list" (defArgs s_is_place_list) (defBody s_is_place_list) (defScope s_is_place_list) .none kV_is_place_list dc_is_place_list pm_is_place_list an_is_place_list cd_is_place_list ct_is_place_list), sl_is_place_list⟩)
    (c_is_place_list : PySem.W.codeIn K cd_is_place_list "is_place_list" = true)
    (k_is_place_list : PySem.W.keepIn K (.ref a_is_place_list) = true)
    (z_check_places : PySem.W.nsIn K mainGlobals "check_places" = some (some (.ref a_check_places)))
    (l_check_places : K.lookup a_check_places = some ⟨oc_check_places, od_check_places, .func (PySem.W.fnOf "check_places" "check_places" (defArgs s_check_places) (defBody s_check_places) (defScope s_check_places) .none kV_check_places dc_check_places pm_check_places an_check_places cd_check_places ct_check_places), sl_check_places⟩)
    (c_check_places : PySem.W.codeIn K cd_check_places "check_places" = true)
    (k_check_places : PySem.W.keepIn K (.ref a_check_places) = true)
    (z_check_same_places : PySem.W.nsIn K mainGlobals "check_same_places" = some (some (.ref a_check_same_places)))
    (l_check_same_places : K.lookup a_check_same_places = some ⟨oc_check_same_places, od_check_same_places, .func (PySem.W.fnOf "check_same_places" "check_same_places" (defArgs s_check_same_places) (defBody s_check_same_places) (defScope s_check_same_places) .none kV_check_same_places dc_check_same_places pm_check_same_places an_check_same_places cd_check_same_places ct_check_same_places), sl_check_same_places⟩)
    (c_check_same_places : PySem.W.codeIn K cd_check_same_places "check_same_places" = true)
    (k_check_same_places : PySem.W.keepIn K (.ref a_check_same_places) = true)
    (z_check_pair : PySem.W.nsIn K mainGlobals "check_pair" = some (some (.ref a_check_pair)))
    (l_check_pair : K.lookup a_check_pair = some ⟨oc_check_pair, od_check_pair, .func (PySem.W.fnOf "check_pair" "check_pair" (defArgs s_check_pair) (defBody s_check_pair) (defScope s_check_pair) .none kV_check_pair dc_check_pair pm_check_pair an_check_pair cd_check_pair ct_check_pair), sl_check_pair⟩)
    (c_check_pair : PySem.W.codeIn K cd_check_pair "check_pair" = true)
    (k_check_pair : PySem.W.keepIn K (.ref a_check_pair) = true)
    (z_numbers_by_place : PySem.W.nsIn K mainGlobals "numbers_by_place" = some (some (.ref a_numbers_by_place)))
    (l_numbers_by_place : K.lookup a_numbers_by_place = some ⟨oc_numbers_by_place, od_numbers_by_place, .func (PySem.W.fnOf "numbers_by_place" "numbers_by_place" (defArgs s_numbers_by_place) (defBody s_numbers_by_place) (defScope s_numbers_by_place) .none kV_numbers_by_place dc_numbers_by_place pm_numbers_by_place an_numbers_by_place cd_numbers_by_place ct_numbers_by_place), sl_numbers_by_place⟩)
    (c_numbers_by_place : PySem.W.codeIn K cd_numbers_by_place "numbers_by_place" = true)
    (k_numbers_by_place : PySem.W.keepIn K (.ref a_numbers_by_place) = true)
    (z_is_two : PySem.W.nsIn K mainGlobals "is_two" = some (some (.ref a_is_two)))
    (l_is_two : K.lookup a_is_two = some ⟨oc_is_two, od_is_two, .func (PySem.W.fnOf "is_two" "is_two" (defArgs s_is_two) (defBody s_is_two) (defScope s_is_two) .none kV_is_two dc_is_two pm_is_two an_is_two cd_is_two ct_is_two), sl_is_two⟩)
    (c_is_two : PySem.W.codeIn K cd_is_two "is_two" = true)
    (k_is_two : PySem.W.keepIn K (.ref a_is_two) = true)
    (z_is_three : PySem.W.nsIn K mainGlobals "is_three" = some (some (.ref a_is_three)))
    (l_is_three : K.lookup a_is_three = some ⟨oc_is_three, od_is_three, .func (PySem.W.fnOf "is_three" "is_three" (defArgs s_is_three) (defBody s_is_three) (defScope s_is_three) .none kV_is_three dc_is_three pm_is_three an_is_three cd_is_three ct_is_three), sl_is_three⟩)
    (c_is_three : PySem.W.codeIn K cd_is_three "is_three" = true)
    (k_is_three : PySem.W.keepIn K (.ref a_is_three) = true)
    (z_first_two : PySem.W.nsIn K mainGlobals "first_two" = some (some (.ref a_first_two)))
    (l_first_two : K.lookup a_first_two = some ⟨oc_first_two, od_first_two, .func (PySem.W.fnOf "first_two" "first_two" (defArgs s_first_two) (defBody s_first_two) (defScope s_first_two) .none kV_first_two dc_first_two pm_first_two an_first_two cd_first_two ct_first_two), sl_first_two⟩)
    (c_first_two : PySem.W.codeIn K cd_first_two "first_two" = true)
    (k_first_two : PySem.W.keepIn K (.ref a_first_two) = true)
    (z_last_fill_between : PySem.W.nsIn K mainGlobals "last_fill_between" = some (some (.ref a_last_fill_between)))
    (l_last_fill_between : K.lookup a_last_fill_between = some ⟨oc_last_fill_between, od_last_fill_between, .func (PySem.W.fnOf "last_fill_between" "last_fill_between" (defArgs s_last_fill_between) (defBody s_last_fill_between) (defScope s_last_fill_between) .none kV_last_fill_between dc_last_fill_between pm_last_fill_between an_last_fill_between cd_last_fill_between ct_last_fill_between), sl_last_fill_between⟩)
    (c_last_fill_between : PySem.W.codeIn K cd_last_fill_between "last_fill_between" = true)
    (k_last_fill_between : PySem.W.keepIn K (.ref a_last_fill_between) = true)
    (z_first_three : PySem.W.nsIn K mainGlobals "first_three" = some (some (.ref a_first_three)))
    (l_first_three : K.lookup a_first_three = some ⟨oc_first_three, od_first_three, .func (PySem.W.fnOf "first_three" "first_three" (defArgs s_first_three) (defBody s_first_three) (defScope s_first_three) .none kV_first_three dc_first_three pm_first_three an_first_three cd_first_three ct_first_three), sl_first_three⟩)
    (c_first_three : PySem.W.codeIn K cd_first_three "first_three" = true)
    (k_first_three : PySem.W.keepIn K (.ref a_first_three) = true)
    (z_obstruction : PySem.W.nsIn K mainGlobals "obstruction" = some (some (.ref a_obstruction)))
    (l_obstruction : K.lookup a_obstruction = some ⟨oc_obstruction, od_obstruction, .func (PySem.W.fnOf "obstruction" "obstruction" (defArgs s_obstruction) (defBody s_obstruction) (defScope s_obstruction) .none kV_obstruction dc_obstruction pm_obstruction an_obstruction cd_obstruction ct_obstruction), sl_obstruction⟩)
    (c_obstruction : PySem.W.codeIn K cd_obstruction "obstruction" = true)
    (k_obstruction : PySem.W.keepIn K (.ref a_obstruction) = true)
    (z_least_times : PySem.W.nsIn K mainGlobals "least_times" = some (some (.ref a_least_times)))
    (l_least_times : K.lookup a_least_times = some ⟨oc_least_times, od_least_times, .func (PySem.W.fnOf "least_times" "least_times" (defArgs s_least_times) (defBody s_least_times) (defScope s_least_times) .none kV_least_times dc_least_times pm_least_times an_least_times cd_least_times ct_least_times), sl_least_times⟩)
    (c_least_times : PySem.W.codeIn K cd_least_times "least_times" = true)
    (k_least_times : PySem.W.keepIn K (.ref a_least_times) = true)
    (z_most_times : PySem.W.nsIn K mainGlobals "most_times" = some (some (.ref a_most_times)))
    (l_most_times : K.lookup a_most_times = some ⟨oc_most_times, od_most_times, .func (PySem.W.fnOf "most_times" "most_times" (defArgs s_most_times) (defBody s_most_times) (defScope s_most_times) .none kV_most_times dc_most_times pm_most_times an_most_times cd_most_times ct_most_times), sl_most_times⟩)
    (c_most_times : PySem.W.codeIn K cd_most_times "most_times" = true)
    (k_most_times : PySem.W.keepIn K (.ref a_most_times) = true)
    (z_check_possible : PySem.W.nsIn K mainGlobals "check_possible" = some (some (.ref a_check_possible)))
    (l_check_possible : K.lookup a_check_possible = some ⟨oc_check_possible, od_check_possible, .func (PySem.W.fnOf "check_possible" "check_possible" (defArgs s_check_possible) (defBody s_check_possible) (defScope s_check_possible) .none kV_check_possible dc_check_possible pm_check_possible an_check_possible cd_check_possible ct_check_possible), sl_check_possible⟩)
    (c_check_possible : PySem.W.codeIn K cd_check_possible "check_possible" = true)
    (k_check_possible : PySem.W.keepIn K (.ref a_check_possible) = true)
    (z_time_bounds : PySem.W.nsIn K mainGlobals "time_bounds" = some (some (.ref a_time_bounds)))
    (l_time_bounds : K.lookup a_time_bounds = some ⟨oc_time_bounds, od_time_bounds, .func (PySem.W.fnOf "time_bounds" "time_bounds" (defArgs s_time_bounds) (defBody s_time_bounds) (defScope s_time_bounds) .none kV_time_bounds dc_time_bounds pm_time_bounds an_time_bounds cd_time_bounds ct_time_bounds), sl_time_bounds⟩)
    (c_time_bounds : PySem.W.codeIn K cd_time_bounds "time_bounds" = true)
    (k_time_bounds : PySem.W.keepIn K (.ref a_time_bounds) = true)
    (z_is_fact : PySem.W.nsIn K mainGlobals "is_fact" = some (some (.ref a_is_fact)))
    (l_is_fact : K.lookup a_is_fact = some ⟨oc_is_fact, od_is_fact, .func (PySem.W.fnOf "is_fact" "is_fact" (defArgs s_is_fact) (defBody s_is_fact) (defScope s_is_fact) .none kV_is_fact dc_is_fact pm_is_fact an_is_fact cd_is_fact ct_is_fact), sl_is_fact⟩)
    (c_is_fact : PySem.W.codeIn K cd_is_fact "is_fact" = true)
    (k_is_fact : PySem.W.keepIn K (.ref a_is_fact) = true)
    (z_check_facts : PySem.W.nsIn K mainGlobals "check_facts" = some (some (.ref a_check_facts)))
    (l_check_facts : K.lookup a_check_facts = some ⟨oc_check_facts, od_check_facts, .func (PySem.W.fnOf "check_facts" "check_facts" (defArgs s_check_facts) (defBody s_check_facts) (defScope s_check_facts) .none kV_check_facts dc_check_facts pm_check_facts an_check_facts cd_check_facts ct_check_facts), sl_check_facts⟩)
    (c_check_facts : PySem.W.codeIn K cd_check_facts "check_facts" = true)
    (k_check_facts : PySem.W.keepIn K (.ref a_check_facts) = true)
    (z_limits_of_out : PySem.W.nsIn K mainGlobals "limits_of_out" = some (some (.ref a_limits_of_out)))
    (l_limits_of_out : K.lookup a_limits_of_out = some ⟨oc_limits_of_out, od_limits_of_out, .func (PySem.W.fnOf "limits_of_out" "limits_of_out" (defArgs s_limits_of_out) (defBody s_limits_of_out) (defScope s_limits_of_out) .none kV_limits_of_out dc_limits_of_out pm_limits_of_out an_limits_of_out cd_limits_of_out ct_limits_of_out), sl_limits_of_out⟩)
    (c_limits_of_out : PySem.W.codeIn K cd_limits_of_out "limits_of_out" = true)
    (k_limits_of_out : PySem.W.keepIn K (.ref a_limits_of_out) = true)
    (z_limits_of : PySem.W.nsIn K mainGlobals "limits_of" = some (some (.ref a_limits_of)))
    (l_limits_of : K.lookup a_limits_of = some ⟨oc_limits_of, od_limits_of, .func (PySem.W.fnOf "limits_of" "limits_of" (defArgs s_limits_of) (defBody s_limits_of) (defScope s_limits_of) .none kV_limits_of dc_limits_of pm_limits_of an_limits_of cd_limits_of ct_limits_of), sl_limits_of⟩)
    (c_limits_of : PySem.W.codeIn K cd_limits_of "limits_of" = true)
    (k_limits_of : PySem.W.keepIn K (.ref a_limits_of) = true)
    (z_read_facts : PySem.W.nsIn K mainGlobals "read_facts" = some (some (.ref a_read_facts)))
    (l_read_facts : K.lookup a_read_facts = some ⟨oc_read_facts, od_read_facts, .func (PySem.W.fnOf "read_facts" "read_facts" (defArgs s_read_facts) (defBody s_read_facts) (defScope s_read_facts) .none kV_read_facts dc_read_facts pm_read_facts an_read_facts cd_read_facts ct_read_facts), sl_read_facts⟩)
    (c_read_facts : PySem.W.codeIn K cd_read_facts "read_facts" = true)
    (k_read_facts : PySem.W.keepIn K (.ref a_read_facts) = true)
    (z_contradicts_pair : PySem.W.nsIn K mainGlobals "contradicts_pair" = some (some (.ref a_contradicts_pair)))
    (l_contradicts_pair : K.lookup a_contradicts_pair = some ⟨oc_contradicts_pair, od_contradicts_pair, .func (PySem.W.fnOf "contradicts_pair" "contradicts_pair" (defArgs s_contradicts_pair) (defBody s_contradicts_pair) (defScope s_contradicts_pair) .none kV_contradicts_pair dc_contradicts_pair pm_contradicts_pair an_contradicts_pair cd_contradicts_pair ct_contradicts_pair), sl_contradicts_pair⟩)
    (c_contradicts_pair : PySem.W.codeIn K cd_contradicts_pair "contradicts_pair" = true)
    (k_contradicts_pair : PySem.W.keepIn K (.ref a_contradicts_pair) = true)
    (z_puts_behind : PySem.W.nsIn K mainGlobals "puts_behind" = some (some (.ref a_puts_behind)))
    (l_puts_behind : K.lookup a_puts_behind = some ⟨oc_puts_behind, od_puts_behind, .func (PySem.W.fnOf "puts_behind" "puts_behind" (defArgs s_puts_behind) (defBody s_puts_behind) (defScope s_puts_behind) .none kV_puts_behind dc_puts_behind pm_puts_behind an_puts_behind cd_puts_behind ct_puts_behind), sl_puts_behind⟩)
    (c_puts_behind : PySem.W.codeIn K cd_puts_behind "puts_behind" = true)
    (k_puts_behind : PySem.W.keepIn K (.ref a_puts_behind) = true)
    (z_find_contradiction : PySem.W.nsIn K mainGlobals "find_contradiction" = some (some (.ref a_find_contradiction)))
    (l_find_contradiction : K.lookup a_find_contradiction = some ⟨oc_find_contradiction, od_find_contradiction, .func (PySem.W.fnOf "find_contradiction" "find_contradiction" (defArgs s_find_contradiction) (defBody s_find_contradiction) (defScope s_find_contradiction) .none kV_find_contradiction dc_find_contradiction pm_find_contradiction an_find_contradiction cd_find_contradiction ct_find_contradiction), sl_find_contradiction⟩)
    (c_find_contradiction : PySem.W.codeIn K cd_find_contradiction "find_contradiction" = true)
    (k_find_contradiction : PySem.W.keepIn K (.ref a_find_contradiction) = true)
    (z_check_number : PySem.W.nsIn K mainGlobals "check_number" = some (some (.ref a_check_number)))
    (l_check_number : K.lookup a_check_number = some ⟨oc_check_number, od_check_number, .func (PySem.W.fnOf "check_number" "check_number" (defArgs s_check_number) (defBody s_check_number) (defScope s_check_number) .none kV_check_number dc_check_number pm_check_number an_check_number cd_check_number ct_check_number), sl_check_number⟩)
    (c_check_number : PySem.W.codeIn K cd_check_number "check_number" = true)
    (k_check_number : PySem.W.keepIn K (.ref a_check_number) = true)
    (z_narrow : PySem.W.nsIn K mainGlobals "narrow" = some (some (.ref a_narrow)))
    (l_narrow : K.lookup a_narrow = some ⟨oc_narrow, od_narrow, .func (PySem.W.fnOf "narrow" "narrow" (defArgs s_narrow) (defBody s_narrow) (defScope s_narrow) .none kV_narrow dc_narrow pm_narrow an_narrow cd_narrow ct_narrow), sl_narrow⟩)
    (c_narrow : PySem.W.codeIn K cd_narrow "narrow" = true)
    (k_narrow : PySem.W.keepIn K (.ref a_narrow) = true)
    (z_can_be_met : PySem.W.nsIn K mainGlobals "can_be_met" = some (some (.ref a_can_be_met)))
    (l_can_be_met : K.lookup a_can_be_met = some ⟨oc_can_be_met, od_can_be_met, .func (PySem.W.fnOf "can_be_met" "can_be_met" (defArgs s_can_be_met) (defBody s_can_be_met) (defScope s_can_be_met) .none kV_can_be_met dc_can_be_met pm_can_be_met an_can_be_met cd_can_be_met ct_can_be_met), sl_can_be_met⟩)
    (c_can_be_met : PySem.W.codeIn K cd_can_be_met "can_be_met" = true)
    (k_can_be_met : PySem.W.keepIn K (.ref a_can_be_met) = true)
    (z_narrow_if_consistent : PySem.W.nsIn K mainGlobals "narrow_if_consistent" = some (some (.ref a_narrow_if_consistent)))
    (l_narrow_if_consistent : K.lookup a_narrow_if_consistent = some ⟨oc_narrow_if_consistent, od_narrow_if_consistent, .func (PySem.W.fnOf "narrow_if_consistent" "narrow_if_consistent" (defArgs s_narrow_if_consistent) (defBody s_narrow_if_consistent) (defScope s_narrow_if_consistent) .none kV_narrow_if_consistent dc_narrow_if_consistent pm_narrow_if_consistent an_narrow_if_consistent cd_narrow_if_consistent ct_narrow_if_consistent), sl_narrow_if_consistent⟩)
    (c_narrow_if_consistent : PySem.W.codeIn K cd_narrow_if_consistent "narrow_if_consistent" = true)
    (k_narrow_if_consistent : PySem.W.keepIn K (.ref a_narrow_if_consistent) = true)
    (z_time_range : PySem.W.nsIn K mainGlobals "time_range" = some (some (.ref a_time_range)))
    (l_time_range : K.lookup a_time_range = some ⟨oc_time_range, od_time_range, .func (PySem.W.fnOf "time_range" "time_range" (defArgs s_time_range) (defBody s_time_range) (defScope s_time_range) .none kV_time_range dc_time_range pm_time_range an_time_range cd_time_range ct_time_range), sl_time_range⟩)
    (c_time_range : PySem.W.codeIn K cd_time_range "time_range" = true)
    (k_time_range : PySem.W.keepIn K (.ref a_time_range) = true)
    (z__law_bag : PySem.W.nsIn K mainGlobals "_law_bag" = some (some (.ref a__law_bag)))
    (l__law_bag : K.lookup a__law_bag = some ⟨oc__law_bag, od__law_bag, .func (PySem.W.fnOf "_law_bag" "_law_bag" (defArgs s__law_bag) (defBody s__law_bag) (defScope s__law_bag) .none kV__law_bag dc__law_bag pm__law_bag an__law_bag cd__law_bag ct__law_bag), sl__law_bag⟩)
    (c__law_bag : PySem.W.codeIn K cd__law_bag "_law_bag" = true)
    (k__law_bag : PySem.W.keepIn K (.ref a__law_bag) = true)
    (z__law_stir : PySem.W.nsIn K mainGlobals "_law_stir" = some (some (.ref a__law_stir)))
    (l__law_stir : K.lookup a__law_stir = some ⟨oc__law_stir, od__law_stir, .func (PySem.W.fnOf "_law_stir" "_law_stir" (defArgs s__law_stir) (defBody s__law_stir) (defScope s__law_stir) .none kV__law_stir dc__law_stir pm__law_stir an__law_stir cd__law_stir ct__law_stir), sl__law_stir⟩)
    (c__law_stir : PySem.W.codeIn K cd__law_stir "_law_stir" = true)
    (k__law_stir : PySem.W.keepIn K (.ref a__law_stir) = true)
    (z__law_draw : PySem.W.nsIn K mainGlobals "_law_draw" = some (some (.ref a__law_draw)))
    (l__law_draw : K.lookup a__law_draw = some ⟨oc__law_draw, od__law_draw, .func (PySem.W.fnOf "_law_draw" "_law_draw" (defArgs s__law_draw) (defBody s__law_draw) (defScope s__law_draw) .none kV__law_draw dc__law_draw pm__law_draw an__law_draw cd__law_draw ct__law_draw), sl__law_draw⟩)
    (c__law_draw : PySem.W.codeIn K cd__law_draw "_law_draw" = true)
    (k__law_draw : PySem.W.keepIn K (.ref a__law_draw) = true)
    (z__law_shuffled : PySem.W.nsIn K mainGlobals "_law_shuffled" = some (some (.ref a__law_shuffled)))
    (l__law_shuffled : K.lookup a__law_shuffled = some ⟨oc__law_shuffled, od__law_shuffled, .func (PySem.W.fnOf "_law_shuffled" "_law_shuffled" (defArgs s__law_shuffled) (defBody s__law_shuffled) (defScope s__law_shuffled) .none kV__law_shuffled dc__law_shuffled pm__law_shuffled an__law_shuffled cd__law_shuffled ct__law_shuffled), sl__law_shuffled⟩)
    (c__law_shuffled : PySem.W.codeIn K cd__law_shuffled "_law_shuffled" = true)
    (k__law_shuffled : PySem.W.keepIn K (.ref a__law_shuffled) = true)
    (z__law_either : PySem.W.nsIn K mainGlobals "_law_either" = some (some (.ref a__law_either)))
    (l__law_either : K.lookup a__law_either = some ⟨oc__law_either, od__law_either, .func (PySem.W.fnOf "_law_either" "_law_either" (defArgs s__law_either) (defBody s__law_either) (defScope s__law_either) .none kV__law_either dc__law_either pm__law_either an__law_either cd__law_either ct__law_either), sl__law_either⟩)
    (c__law_either : PySem.W.codeIn K cd__law_either "_law_either" = true)
    (k__law_either : PySem.W.keepIn K (.ref a__law_either) = true)
    (z__law_dressed : PySem.W.nsIn K mainGlobals "_law_dressed" = some (some (.ref a__law_dressed)))
    (l__law_dressed : K.lookup a__law_dressed = some ⟨oc__law_dressed, od__law_dressed, .func (PySem.W.fnOf "_law_dressed" "_law_dressed" (defArgs s__law_dressed) (defBody s__law_dressed) (defScope s__law_dressed) .none kV__law_dressed dc__law_dressed pm__law_dressed an__law_dressed cd__law_dressed ct__law_dressed), sl__law_dressed⟩)
    (c__law_dressed : PySem.W.codeIn K cd__law_dressed "_law_dressed" = true)
    (k__law_dressed : PySem.W.keepIn K (.ref a__law_dressed) = true)
    (z__law_places : PySem.W.nsIn K mainGlobals "_law_places" = some (some (.ref a__law_places)))
    (l__law_places : K.lookup a__law_places = some ⟨oc__law_places, od__law_places, .func (PySem.W.fnOf "_law_places" "_law_places" (defArgs s__law_places) (defBody s__law_places) (defScope s__law_places) .none kV__law_places dc__law_places pm__law_places an__law_places cd__law_places ct__law_places), sl__law_places⟩)
    (c__law_places : PySem.W.codeIn K cd__law_places "_law_places" = true)
    (k__law_places : PySem.W.keepIn K (.ref a__law_places) = true)
    (z__law_filled : PySem.W.nsIn K mainGlobals "_law_filled" = some (some (.ref a__law_filled)))
    (l__law_filled : K.lookup a__law_filled = some ⟨oc__law_filled, od__law_filled, .func (PySem.W.fnOf "_law_filled" "_law_filled" (defArgs s__law_filled) (defBody s__law_filled) (defScope s__law_filled) .none kV__law_filled dc__law_filled pm__law_filled an__law_filled cd__law_filled ct__law_filled), sl__law_filled⟩)
    (c__law_filled : PySem.W.codeIn K cd__law_filled "_law_filled" = true)
    (k__law_filled : PySem.W.keepIn K (.ref a__law_filled) = true)
    (z__law_all_patterns : PySem.W.nsIn K mainGlobals "_law_all_patterns" = some (some (.ref a__law_all_patterns)))
    (l__law_all_patterns : K.lookup a__law_all_patterns = some ⟨oc__law_all_patterns, od__law_all_patterns, .func (PySem.W.fnOf "_law_all_patterns" "_law_all_patterns" (defArgs s__law_all_patterns) (defBody s__law_all_patterns) (defScope s__law_all_patterns) .none kV__law_all_patterns dc__law_all_patterns pm__law_all_patterns an__law_all_patterns cd__law_all_patterns ct__law_all_patterns), sl__law_all_patterns⟩)
    (c__law_all_patterns : PySem.W.codeIn K cd__law_all_patterns "_law_all_patterns" = true)
    (k__law_all_patterns : PySem.W.keepIn K (.ref a__law_all_patterns) = true)
    (z__law_few : PySem.W.nsIn K mainGlobals "_law_few" = some (some (.ref a__law_few)))
    (l__law_few : K.lookup a__law_few = some ⟨oc__law_few, od__law_few, .func (PySem.W.fnOf "_law_few" "_law_few" (defArgs s__law_few) (defBody s__law_few) (defScope s__law_few) .none kV__law_few dc__law_few pm__law_few an__law_few cd__law_few ct__law_few), sl__law_few⟩)
    (c__law_few : PySem.W.codeIn K cd__law_few "_law_few" = true)
    (k__law_few : PySem.W.keepIn K (.ref a__law_few) = true)
    (z__law_fact : PySem.W.nsIn K mainGlobals "_law_fact" = some (some (.ref a__law_fact)))
    (l__law_fact : K.lookup a__law_fact = some ⟨oc__law_fact, od__law_fact, .func (PySem.W.fnOf "_law_fact" "_law_fact" (defArgs s__law_fact) (defBody s__law_fact) (defScope s__law_fact) .none kV__law_fact dc__law_fact pm__law_fact an__law_fact cd__law_fact ct__law_fact), sl__law_fact⟩)
    (c__law_fact : PySem.W.codeIn K cd__law_fact "_law_fact" = true)
    (k__law_fact : PySem.W.keepIn K (.ref a__law_fact) = true)
    (z__law_holds : PySem.W.nsIn K mainGlobals "_law_holds" = some (some (.ref a__law_holds)))
    (l__law_holds : K.lookup a__law_holds = some ⟨oc__law_holds, od__law_holds, .func (PySem.W.fnOf "_law_holds" "_law_holds" (defArgs s__law_holds) (defBody s__law_holds) (defScope s__law_holds) .none kV__law_holds dc__law_holds pm__law_holds an__law_holds cd__law_holds ct__law_holds), sl__law_holds⟩)
    (c__law_holds : PySem.W.codeIn K cd__law_holds "_law_holds" = true)
    (k__law_holds : PySem.W.keepIn K (.ref a__law_holds) = true)
    (z__law_conflict : PySem.W.nsIn K mainGlobals "_law_conflict" = some (some (.ref a__law_conflict)))
    (l__law_conflict : K.lookup a__law_conflict = some ⟨oc__law_conflict, od__law_conflict, .func (PySem.W.fnOf "_law_conflict" "_law_conflict" (defArgs s__law_conflict) (defBody s__law_conflict) (defScope s__law_conflict) .none kV__law_conflict dc__law_conflict pm__law_conflict an__law_conflict cd__law_conflict ct__law_conflict), sl__law_conflict⟩)
    (c__law_conflict : PySem.W.codeIn K cd__law_conflict "_law_conflict" = true)
    (k__law_conflict : PySem.W.keepIn K (.ref a__law_conflict) = true)
    (z__law_fitting : PySem.W.nsIn K mainGlobals "_law_fitting" = some (some (.ref a__law_fitting)))
    (l__law_fitting : K.lookup a__law_fitting = some ⟨oc__law_fitting, od__law_fitting, .func (PySem.W.fnOf "_law_fitting" "_law_fitting" (defArgs s__law_fitting) (defBody s__law_fitting) (defScope s__law_fitting) .none kV__law_fitting dc__law_fitting pm__law_fitting an__law_fitting cd__law_fitting ct__law_fitting), sl__law_fitting⟩)
    (c__law_fitting : PySem.W.codeIn K cd__law_fitting "_law_fitting" = true)
    (k__law_fitting : PySem.W.keepIn K (.ref a__law_fitting) = true)
    (z__law_times : PySem.W.nsIn K mainGlobals "_law_times" = some (some (.ref a__law_times)))
    (l__law_times : K.lookup a__law_times = some ⟨oc__law_times, od__law_times, .func (PySem.W.fnOf "_law_times" "_law_times" (defArgs s__law_times) (defBody s__law_times) (defScope s__law_times) .none kV__law_times dc__law_times pm__law_times an__law_times cd__law_times ct__law_times), sl__law_times⟩)
    (c__law_times : PySem.W.codeIn K cd__law_times "_law_times" = true)
    (k__law_times : PySem.W.keepIn K (.ref a__law_times) = true)
    (z__law_told : PySem.W.nsIn K mainGlobals "_law_told" = some (some (.ref a__law_told)))
    (l__law_told : K.lookup a__law_told = some ⟨oc__law_told, od__law_told, .func (PySem.W.fnOf "_law_told" "_law_told" (defArgs s__law_told) (defBody s__law_told) (defScope s__law_told) .none kV__law_told dc__law_told pm__law_told an__law_told cd__law_told ct__law_told), sl__law_told⟩)
    (c__law_told : PySem.W.codeIn K cd__law_told "_law_told" = true)
    (k__law_told : PySem.W.keepIn K (.ref a__law_told) = true)
    (z__law_due : PySem.W.nsIn K mainGlobals "_law_due" = some (some (.ref a__law_due)))
    (l__law_due : K.lookup a__law_due = some ⟨oc__law_due, od__law_due, .func (PySem.W.fnOf "_law_due" "_law_due" (defArgs s__law_due) (defBody s__law_due) (defScope s__law_due) .none kV__law_due dc__law_due pm__law_due an__law_due cd__law_due ct__law_due), sl__law_due⟩)
    (c__law_due : PySem.W.codeIn K cd__law_due "_law_due" = true)
    (k__law_due : PySem.W.keepIn K (.ref a__law_due) = true)
    (z__law_right : PySem.W.nsIn K mainGlobals "_law_right" = some (some (.ref a__law_right)))
    (l__law_right : K.lookup a__law_right = some ⟨oc__law_right, od__law_right, .func (PySem.W.fnOf "_law_right" "_law_right" (defArgs s__law_right) (defBody s__law_right) (defScope s__law_right) .none kV__law_right dc__law_right pm__law_right an__law_right cd__law_right ct__law_right), sl__law_right⟩)
    (c__law_right : PySem.W.codeIn K cd__law_right "_law_right" = true)
    (k__law_right : PySem.W.keepIn K (.ref a__law_right) = true)
    (z_law : PySem.W.nsIn K mainGlobals "law" = some (some (.ref a_law)))
    (l_law : K.lookup a_law = some ⟨oc_law, od_law, .func (PySem.W.fnOf "law" "law" (defArgs s_law) (defBody s_law) (defScope s_law) .none kV_law dc_law pm_law an_law cd_law ct_law), sl_law⟩)
    (c_law : PySem.W.codeIn K cd_law "law" = true)
    (k_law : PySem.W.keepIn K (.ref a_law) = true) :
    ∃ fd : FuncData, (∀ (s : Shared) (v : Value), BindsTo s fd ⟨[v], []⟩ [("script", v)]) ∧ ∀ base : Heap, K.In base → base.Ns mainGlobals mg → LG.FnG l.prog w K mg base CX0 13 fa fd ["script"] (sp_law K) := by
  have e0 := hfa.symm.trans (PySem.W.mg_of X G z_law)
  cases e0
  have F_is_whole := fun_mk (st := s_is_whole) l_is_whole c_is_whole k_is_whole
  have B_is_whole := F_is_whole.binds (ps := ["value"]) fun _ _ _ _ _ _ us hl => match us, hl with | [_], _ => rfl
  have F_is_listed := fun_mk (st := s_is_listed) l_is_listed c_is_listed k_is_listed
  have B_is_listed := F_is_listed.binds (ps := ["value"]) fun _ _ _ _ _ _ us hl => match us, hl with | [_], _ => rfl
  have F_is_number := fun_mk (st := s_is_number) l_is_number c_is_number k_is_number
  have B_is_number := F_is_number.binds (ps := ["value", "count"]) fun _ _ _ _ _ _ us hl => match us, hl with | [_, _], _ => rfl
  have F_is_place := fun_mk (st := s_is_place) l_is_place c_is_place k_is_place
  have B_is_place := F_is_place.binds (ps := ["value"]) fun _ _ _ _ _ _ us hl => match us, hl with | [_], _ => rfl
  have F_is_place_list := fun_mk (st := s_is_place_list) l_is_place_list c_is_place_list k_is_place_list
  have B_is_place_list := F_is_place_list.binds (ps := ["value"]) fun _ _ _ _ _ _ us hl => match us, hl with | [_], _ => rfl
  have F_check_places := fun_mk (st := s_check_places) l_check_places c_check_places k_check_places
  have B_check_places := F_check_places.binds (ps := ["value"]) fun _ _ _ _ _ _ us hl => match us, hl with | [_], _ => rfl
  have F_check_same_places := fun_mk (st := s_check_same_places) l_check_same_places c_check_same_places k_check_same_places
  have B_check_same_places := F_check_same_places.binds (ps := ["first", "second"]) fun _ _ _ _ _ _ us hl => match us, hl with | [_, _], _ => rfl
  have F_check_pair := fun_mk (st := s_check_pair) l_check_pair c_check_pair k_check_pair
  have B_check_pair := F_check_pair.binds (ps := ["takes", "fills"]) fun _ _ _ _ _ _ us hl => match us, hl with | [_, _], _ => rfl
  have F_numbers_by_place := fun_mk (st := s_numbers_by_place) l_numbers_by_place c_numbers_by_place k_numbers_by_place
  have B_numbers_by_place := F_numbers_by_place.binds (ps := ["places"]) fun _ _ _ _ _ _ us hl => match us, hl with | [_], _ => rfl
  have F_is_two := fun_mk (st := s_is_two) l_is_two c_is_two k_is_two
  have B_is_two := F_is_two.binds (ps := ["taken", "filled", "a", "b"]) fun _ _ _ _ _ _ us hl => match us, hl with | [_, _, _, _], _ => rfl
  have F_is_three := fun_mk (st := s_is_three) l_is_three c_is_three k_is_three
  have B_is_three := F_is_three.binds (ps := ["taken", "filled", "a", "b", "c"]) fun _ _ _ _ _ _ us hl => match us, hl with | [_, _, _, _, _], _ => rfl
  have F_first_two := fun_mk (st := s_first_two) l_first_two c_first_two k_first_two
  have B_first_two := F_first_two.binds (ps := ["taken", "filled"]) fun _ _ _ _ _ _ us hl => match us, hl with | [_, _], _ => rfl
  have F_last_fill_between := fun_mk (st := s_last_fill_between) l_last_fill_between c_last_fill_between k_last_fill_between
  have B_last_fill_between := F_last_fill_between.binds (ps := ["taken", "filled", "b"]) fun _ _ _ _ _ _ us hl => match us, hl with | [_, _, _], _ => rfl
  have F_first_three := fun_mk (st := s_first_three) l_first_three c_first_three k_first_three
  have B_first_three := F_first_three.binds (ps := ["taken", "filled"]) fun _ _ _ _ _ _ us hl => match us, hl with | [_, _], _ => rfl
  have F_obstruction := fun_mk (st := s_obstruction) l_obstruction c_obstruction k_obstruction
  have B_obstruction := F_obstruction.binds (ps := ["takes", "fills"]) fun _ _ _ _ _ _ us hl => match us, hl with | [_, _], _ => rfl
  have F_least_times := fun_mk (st := s_least_times) l_least_times c_least_times k_least_times
  have B_least_times := F_least_times.binds (ps := ["takes", "fills"]) fun _ _ _ _ _ _ us hl => match us, hl with | [_, _], _ => rfl
  have F_most_times := fun_mk (st := s_most_times) l_most_times c_most_times k_most_times
  have B_most_times := F_most_times.binds (ps := ["takes", "fills"]) fun _ _ _ _ _ _ us hl => match us, hl with | [_, _], _ => rfl
  have F_check_possible := fun_mk (st := s_check_possible) l_check_possible c_check_possible k_check_possible
  have B_check_possible := F_check_possible.binds (ps := ["takes", "fills"]) fun _ _ _ _ _ _ us hl => match us, hl with | [_, _], _ => rfl
  have F_time_bounds := fun_mk (st := s_time_bounds) l_time_bounds c_time_bounds k_time_bounds
  have B_time_bounds := F_time_bounds.binds (ps := ["takes", "fills"]) fun _ _ _ _ _ _ us hl => match us, hl with | [_, _], _ => rfl
  have F_is_fact := fun_mk (st := s_is_fact) l_is_fact c_is_fact k_is_fact
  have B_is_fact := F_is_fact.binds (ps := ["value", "count"]) fun _ _ _ _ _ _ us hl => match us, hl with | [_, _], _ => rfl
  have F_check_facts := fun_mk (st := s_check_facts) l_check_facts c_check_facts k_check_facts
  have B_check_facts := F_check_facts.binds (ps := ["value", "count"]) fun _ _ _ _ _ _ us hl => match us, hl with | [_, _], _ => rfl
  have F_limits_of_out := fun_mk (st := s_limits_of_out) l_limits_of_out c_limits_of_out k_limits_of_out
  have B_limits_of_out := F_limits_of_out.binds (ps := ["done", "out", "count"]) fun _ _ _ _ _ _ us hl => match us, hl with | [_, _, _], _ => rfl
  have F_limits_of := fun_mk (st := s_limits_of) l_limits_of c_limits_of k_limits_of
  have B_limits_of := F_limits_of.binds (ps := ["fact", "count"]) fun _ _ _ _ _ _ us hl => match us, hl with | [_, _], _ => rfl
  have F_read_facts := fun_mk (st := s_read_facts) l_read_facts c_read_facts k_read_facts
  have B_read_facts := F_read_facts.binds (ps := ["takes", "fills", "facts"]) fun _ _ _ _ _ _ us hl => match us, hl with | [_, _, _], _ => rfl
  have F_contradicts_pair := fun_mk (st := s_contradicts_pair) l_contradicts_pair c_contradicts_pair k_contradicts_pair
  have B_contradicts_pair := F_contradicts_pair.binds (ps := ["limits", "bounds"]) fun _ _ _ _ _ _ us hl => match us, hl with | [_, _], _ => rfl
  have F_puts_behind := fun_mk (st := s_puts_behind) l_puts_behind c_puts_behind k_puts_behind
  have B_puts_behind := F_puts_behind.binds (ps := ["limits", "others"]) fun _ _ _ _ _ _ us hl => match us, hl with | [_, _], _ => rfl
  have F_find_contradiction := fun_mk (st := s_find_contradiction) l_find_contradiction c_find_contradiction k_find_contradiction
  have B_find_contradiction := F_find_contradiction.binds (ps := ["bounds", "all_limits"]) fun _ _ _ _ _ _ us hl => match us, hl with | [_, _], _ => rfl
  have F_check_number := fun_mk (st := s_check_number) l_check_number c_check_number k_check_number
  have B_check_number := F_check_number.binds (ps := ["value", "count"]) fun _ _ _ _ _ _ us hl => match us, hl with | [_, _], _ => rfl
  have F_narrow := fun_mk (st := s_narrow) l_narrow c_narrow k_narrow
  have B_narrow := F_narrow.binds (ps := ["bounds", "all_limits"]) fun _ _ _ _ _ _ us hl => match us, hl with | [_, _], _ => rfl
  have F_can_be_met := fun_mk (st := s_can_be_met) l_can_be_met c_can_be_met k_can_be_met
  have B_can_be_met := F_can_be_met.binds (ps := ["bounds"]) fun _ _ _ _ _ _ us hl => match us, hl with | [_], _ => rfl
  have F_narrow_if_consistent := fun_mk (st := s_narrow_if_consistent) l_narrow_if_consistent c_narrow_if_consistent k_narrow_if_consistent
  have B_narrow_if_consistent := F_narrow_if_consistent.binds (ps := ["bounds", "all_limits"]) fun _ _ _ _ _ _ us hl => match us, hl with | [_, _], _ => rfl
  have F_time_range := fun_mk (st := s_time_range) l_time_range c_time_range k_time_range
  have B_time_range := F_time_range.binds (ps := ["takes", "fills", "facts", "fill"]) fun _ _ _ _ _ _ us hl => match us, hl with | [_, _, _, _], _ => rfl
  have F__law_bag := fun_mk (st := s__law_bag) l__law_bag c__law_bag k__law_bag
  have B__law_bag := F__law_bag.binds (ps := ["script"]) fun _ _ _ _ _ _ us hl => match us, hl with | [_], _ => rfl
  have F__law_stir := fun_mk (st := s__law_stir) l__law_stir c__law_stir k__law_stir
  have B__law_stir := F__law_stir.binds (ps := ["number", "place"]) fun _ _ _ _ _ _ us hl => match us, hl with | [_, _], _ => rfl
  have F__law_draw := fun_mk (st := s__law_draw) l__law_draw c__law_draw k__law_draw
  have B__law_draw := F__law_draw.binds (ps := ["bag", "bound"]) fun _ _ _ _ _ _ us hl => match us, hl with | [_, _], _ => rfl
  have F__law_shuffled := fun_mk (st := s__law_shuffled) l__law_shuffled c__law_shuffled k__law_shuffled
  have B__law_shuffled := F__law_shuffled.binds (ps := ["bag", "items"]) fun _ _ _ _ _ _ us hl => match us, hl with | [_, _], _ => rfl
  have F__law_either := fun_mk (st := s__law_either) l__law_either c__law_either k__law_either
  have B__law_either := F__law_either.binds (ps := ["bag", "items"]) fun _ _ _ _ _ _ us hl => match us, hl with | [_, _], _ => rfl
  have F__law_dressed := fun_mk (st := s__law_dressed) l__law_dressed c__law_dressed k__law_dressed
  have B__law_dressed := F__law_dressed.binds (ps := ["bag", "rows"]) fun _ _ _ _ _ _ us hl => match us, hl with | [_, _], _ => rfl
  have F__law_places := fun_mk (st := s__law_places) l__law_places c__law_places k__law_places
  have B__law_places := F__law_places.binds (ps := ["bag", "count"]) fun _ _ _ _ _ _ us hl => match us, hl with | [_, _], _ => rfl
  have F__law_filled := fun_mk (st := s__law_filled) l__law_filled c__law_filled k__law_filled
  have B__law_filled := F__law_filled.binds (ps := ["takes", "pattern"]) fun _ _ _ _ _ _ us hl => match us, hl with | [_, _], _ => rfl
  have F__law_all_patterns := fun_mk (st := s__law_all_patterns) l__law_all_patterns c__law_all_patterns k__law_all_patterns
  have B__law_all_patterns := F__law_all_patterns.binds (ps := ["count"]) fun _ _ _ _ _ _ us hl => match us, hl with | [_], _ => rfl
  have F__law_few := fun_mk (st := s__law_few) l__law_few c__law_few k__law_few
  have B__law_few := F__law_few.binds (ps := ["bag", "most"]) fun _ _ _ _ _ _ us hl => match us, hl with | [_, _], _ => rfl
  have F__law_fact := fun_mk (st := s__law_fact) l__law_fact c__law_fact k__law_fact
  have B__law_fact := F__law_fact.binds (ps := ["bag", "count"]) fun _ _ _ _ _ _ us hl => match us, hl with | [_, _], _ => rfl
  have F__law_holds := fun_mk (st := s__law_holds) l__law_holds c__law_holds k__law_holds
  have B__law_holds := F__law_holds.binds (ps := ["pattern", "fact"]) fun _ _ _ _ _ _ us hl => match us, hl with | [_, _], _ => rfl
  have F__law_conflict := fun_mk (st := s__law_conflict) l__law_conflict c__law_conflict k__law_conflict
  have B__law_conflict := F__law_conflict.binds (ps := ["some", "facts"]) fun _ _ _ _ _ _ us hl => match us, hl with | [_, _], _ => rfl
  have F__law_fitting := fun_mk (st := s__law_fitting) l__law_fitting c__law_fitting k__law_fitting
  have B__law_fitting := F__law_fitting.binds (ps := ["some", "facts"]) fun _ _ _ _ _ _ us hl => match us, hl with | [_, _], _ => rfl
  have F__law_times := fun_mk (st := s__law_times) l__law_times c__law_times k__law_times
  have B__law_times := F__law_times.binds (ps := ["pattern"]) fun _ _ _ _ _ _ us hl => match us, hl with | [_], _ => rfl
  have F__law_told := fun_mk (st := s__law_told) l__law_told c__law_told k__law_told
  have B__law_told := F__law_told.binds (ps := ["takes", "fills", "facts", "fill"]) fun _ _ _ _ _ _ us hl => match us, hl with | [_, _, _, _], _ => rfl
  have F__law_due := fun_mk (st := s__law_due) l__law_due c__law_due k__law_due
  have B__law_due := F__law_due.binds (ps := ["some", "facts", "fill"]) fun _ _ _ _ _ _ us hl => match us, hl with | [_, _, _], _ => rfl
  have F__law_right := fun_mk (st := s__law_right) l__law_right c__law_right k__law_right
  have B__law_right := F__law_right.binds (ps := ["bag", "takes", "fills", "some", "facts"]) fun _ _ _ _ _ _ us hl => match us, hl with | [_, _, _, _, _], _ => rfl
  have F_law := fun_mk (st := s_law) l_law c_law k_law
  have B_law := F_law.binds (ps := ["script"]) fun _ _ _ _ _ _ us hl => match us, hl with | [_], _ => rfl
  refine ⟨PySem.W.fnOf "law" "law" (defArgs s_law) (defBody s_law) (defScope s_law) .none kV_law dc_law pm_law an_law cd_law ct_law, fun s v => .of_eq rfl, fun base _ _ => ?_⟩
  exact ok_law (({
    n_len := PySem.W.mg_none_of X G z_len,
    n_range := PySem.W.mg_none_of X G z_range,
    n_list := PySem.W.mg_none_of X G z_list,
    n_tuple := PySem.W.mg_none_of X G z_tuple,
    n_int := PySem.W.mg_none_of X G z_int,
    n_bool := PySem.W.mg_none_of X G z_bool,
    n_str := PySem.W.mg_none_of X G z_str,
    n_isinstance := PySem.W.mg_none_of X G z_isinstance,
    n_min := PySem.W.mg_none_of X G z_min,
    n_max := PySem.W.mg_none_of X G z_max,
    n_sorted := PySem.W.mg_none_of X G z_sorted,
    n_set := PySem.W.mg_none_of X G z_set,
    n_all := PySem.W.mg_none_of X G z_all,
    n_any := PySem.W.mg_none_of X G z_any,
    n_repr := PySem.W.mg_none_of X G z_repr,
    n_enumerate := PySem.W.mg_none_of X G z_enumerate,
    n_zip := PySem.W.mg_none_of X G z_zip,
    n_reversed := PySem.W.mg_none_of X G z_reversed,
    n_super := PySem.W.mg_none_of X G z_super,
    t_MOST_PLACES := t_MOST_PLACES, g_MOST_PLACES := PySem.W.mg_of X G z_MOST_PLACES,
    t_GREATEST_PLACE := t_GREATEST_PLACE, g_GREATEST_PLACE := PySem.W.mg_of X G z_GREATEST_PLACE,
    t_MOST_FACTS := t_MOST_FACTS, g_MOST_FACTS := PySem.W.mg_of X G z_MOST_FACTS,
    g_combinations := PySem.W.mg_of X G z_combinations,
    C_Contradiction := C_Contradiction, g_Contradiction := PySem.W.mg_of X G z_Contradiction,
    I_Contradiction := I_Contradiction, su_Contradiction := { cls := ⟨_, _, _, _, _, _, _, _, _, _, _, _, _, _, _, sL_Contradiction, rfl⟩, sa := sa_Contradiction, noF := sn_Contradiction, iC := si_Contradiction, tC := st_Contradiction, kC := sk_Contradiction, exC := sx_Contradiction, exV := sv_Contradiction, tyC := sty_Contradiction, mC := sm_Contradiction, op := so_Contradiction, sup := ss_Contradiction, fn := ⟨_, _, _, _, _, _, _, _, _, _, _, _, _, _, _, _, _, _, _, _, _, _, _, _, _, _, _, _, #[], _, _, _, _, sf_Contradiction, sc_Contradiction, scc2_Contradiction, sda2_Contradiction, svs2_Contradiction, sfi_Contradiction, sto_Contradiction, rfl⟩ }, xf_Contradiction := ⟨sga_Contradiction, sgg_Contradiction, sx_Contradiction, shd_Contradiction⟩,
    te_Contradiction_Contradiction := LX.exm_mk xb_Contradiction xc_Contradiction xt_Contradiction xm_Contradiction_Contradiction,
    a_is_whole := a_is_whole, d_is_whole := _, f_is_whole := F_is_whole, b_is_whole := B_is_whole, g_is_whole := PySem.W.mg_of X G z_is_whole,
    a_is_listed := a_is_listed, d_is_listed := _, f_is_listed := F_is_listed, b_is_listed := B_is_listed, g_is_listed := PySem.W.mg_of X G z_is_listed,
    a_is_number := a_is_number, d_is_number := _, f_is_number := F_is_number, b_is_number := B_is_number, g_is_number := PySem.W.mg_of X G z_is_number,
    a_is_place := a_is_place, d_is_place := _, f_is_place := F_is_place, b_is_place := B_is_place, g_is_place := PySem.W.mg_of X G z_is_place,
    a_is_place_list := a_is_place_list, d_is_place_list := _, f_is_place_list := F_is_place_list, b_is_place_list := B_is_place_list, g_is_place_list := PySem.W.mg_of X G z_is_place_list,
    a_check_places := a_check_places, d_check_places := _, f_check_places := F_check_places, b_check_places := B_check_places, g_check_places := PySem.W.mg_of X G z_check_places,
    a_check_same_places := a_check_same_places, d_check_same_places := _, f_check_same_places := F_check_same_places, b_check_same_places := B_check_same_places, g_check_same_places := PySem.W.mg_of X G z_check_same_places,
    a_check_pair := a_check_pair, d_check_pair := _, f_check_pair := F_check_pair, b_check_pair := B_check_pair, g_check_pair := PySem.W.mg_of X G z_check_pair,
    a_numbers_by_place := a_numbers_by_place, d_numbers_by_place := _, f_numbers_by_place := F_numbers_by_place, b_numbers_by_place := B_numbers_by_place, g_numbers_by_place := PySem.W.mg_of X G z_numbers_by_place,
    a_is_two := a_is_two, d_is_two := _, f_is_two := F_is_two, b_is_two := B_is_two, g_is_two := PySem.W.mg_of X G z_is_two,
    a_is_three := a_is_three, d_is_three := _, f_is_three := F_is_three, b_is_three := B_is_three, g_is_three := PySem.W.mg_of X G z_is_three,
    a_first_two := a_first_two, d_first_two := _, f_first_two := F_first_two, b_first_two := B_first_two, g_first_two := PySem.W.mg_of X G z_first_two,
    a_last_fill_between := a_last_fill_between, d_last_fill_between := _, f_last_fill_between := F_last_fill_between, b_last_fill_between := B_last_fill_between, g_last_fill_between := PySem.W.mg_of X G z_last_fill_between,
    a_first_three := a_first_three, d_first_three := _, f_first_three := F_first_three, b_first_three := B_first_three, g_first_three := PySem.W.mg_of X G z_first_three,
    a_obstruction := a_obstruction, d_obstruction := _, f_obstruction := F_obstruction, b_obstruction := B_obstruction, g_obstruction := PySem.W.mg_of X G z_obstruction,
    a_least_times := a_least_times, d_least_times := _, f_least_times := F_least_times, b_least_times := B_least_times, g_least_times := PySem.W.mg_of X G z_least_times,
    a_most_times := a_most_times, d_most_times := _, f_most_times := F_most_times, b_most_times := B_most_times, g_most_times := PySem.W.mg_of X G z_most_times,
    a_check_possible := a_check_possible, d_check_possible := _, f_check_possible := F_check_possible, b_check_possible := B_check_possible, g_check_possible := PySem.W.mg_of X G z_check_possible,
    a_time_bounds := a_time_bounds, d_time_bounds := _, f_time_bounds := F_time_bounds, b_time_bounds := B_time_bounds, g_time_bounds := PySem.W.mg_of X G z_time_bounds,
    a_is_fact := a_is_fact, d_is_fact := _, f_is_fact := F_is_fact, b_is_fact := B_is_fact, g_is_fact := PySem.W.mg_of X G z_is_fact,
    a_check_facts := a_check_facts, d_check_facts := _, f_check_facts := F_check_facts, b_check_facts := B_check_facts, g_check_facts := PySem.W.mg_of X G z_check_facts,
    a_limits_of_out := a_limits_of_out, d_limits_of_out := _, f_limits_of_out := F_limits_of_out, b_limits_of_out := B_limits_of_out, g_limits_of_out := PySem.W.mg_of X G z_limits_of_out,
    a_limits_of := a_limits_of, d_limits_of := _, f_limits_of := F_limits_of, b_limits_of := B_limits_of, g_limits_of := PySem.W.mg_of X G z_limits_of,
    a_read_facts := a_read_facts, d_read_facts := _, f_read_facts := F_read_facts, b_read_facts := B_read_facts, g_read_facts := PySem.W.mg_of X G z_read_facts,
    a_contradicts_pair := a_contradicts_pair, d_contradicts_pair := _, f_contradicts_pair := F_contradicts_pair, b_contradicts_pair := B_contradicts_pair, g_contradicts_pair := PySem.W.mg_of X G z_contradicts_pair,
    a_puts_behind := a_puts_behind, d_puts_behind := _, f_puts_behind := F_puts_behind, b_puts_behind := B_puts_behind, g_puts_behind := PySem.W.mg_of X G z_puts_behind,
    a_find_contradiction := a_find_contradiction, d_find_contradiction := _, f_find_contradiction := F_find_contradiction, b_find_contradiction := B_find_contradiction, g_find_contradiction := PySem.W.mg_of X G z_find_contradiction,
    a_check_number := a_check_number, d_check_number := _, f_check_number := F_check_number, b_check_number := B_check_number, g_check_number := PySem.W.mg_of X G z_check_number,
    a_narrow := a_narrow, d_narrow := _, f_narrow := F_narrow, b_narrow := B_narrow, g_narrow := PySem.W.mg_of X G z_narrow,
    a_can_be_met := a_can_be_met, d_can_be_met := _, f_can_be_met := F_can_be_met, b_can_be_met := B_can_be_met, g_can_be_met := PySem.W.mg_of X G z_can_be_met,
    a_narrow_if_consistent := a_narrow_if_consistent, d_narrow_if_consistent := _, f_narrow_if_consistent := F_narrow_if_consistent, b_narrow_if_consistent := B_narrow_if_consistent, g_narrow_if_consistent := PySem.W.mg_of X G z_narrow_if_consistent,
    a_time_range := a_time_range, d_time_range := _, f_time_range := F_time_range, b_time_range := B_time_range, g_time_range := PySem.W.mg_of X G z_time_range,
    a__law_bag := a__law_bag, d__law_bag := _, f__law_bag := F__law_bag, b__law_bag := B__law_bag, g__law_bag := PySem.W.mg_of X G z__law_bag,
    a__law_stir := a__law_stir, d__law_stir := _, f__law_stir := F__law_stir, b__law_stir := B__law_stir, g__law_stir := PySem.W.mg_of X G z__law_stir,
    a__law_draw := a__law_draw, d__law_draw := _, f__law_draw := F__law_draw, b__law_draw := B__law_draw, g__law_draw := PySem.W.mg_of X G z__law_draw,
    a__law_shuffled := a__law_shuffled, d__law_shuffled := _, f__law_shuffled := F__law_shuffled, b__law_shuffled := B__law_shuffled, g__law_shuffled := PySem.W.mg_of X G z__law_shuffled,
    a__law_either := a__law_either, d__law_either := _, f__law_either := F__law_either, b__law_either := B__law_either, g__law_either := PySem.W.mg_of X G z__law_either,
    a__law_dressed := a__law_dressed, d__law_dressed := _, f__law_dressed := F__law_dressed, b__law_dressed := B__law_dressed, g__law_dressed := PySem.W.mg_of X G z__law_dressed,
    a__law_places := a__law_places, d__law_places := _, f__law_places := F__law_places, b__law_places := B__law_places, g__law_places := PySem.W.mg_of X G z__law_places,
    a__law_filled := a__law_filled, d__law_filled := _, f__law_filled := F__law_filled, b__law_filled := B__law_filled, g__law_filled := PySem.W.mg_of X G z__law_filled,
    a__law_all_patterns := a__law_all_patterns, d__law_all_patterns := _, f__law_all_patterns := F__law_all_patterns, b__law_all_patterns := B__law_all_patterns, g__law_all_patterns := PySem.W.mg_of X G z__law_all_patterns,
    a__law_few := a__law_few, d__law_few := _, f__law_few := F__law_few, b__law_few := B__law_few, g__law_few := PySem.W.mg_of X G z__law_few,
    a__law_fact := a__law_fact, d__law_fact := _, f__law_fact := F__law_fact, b__law_fact := B__law_fact, g__law_fact := PySem.W.mg_of X G z__law_fact,
    a__law_holds := a__law_holds, d__law_holds := _, f__law_holds := F__law_holds, b__law_holds := B__law_holds, g__law_holds := PySem.W.mg_of X G z__law_holds,
    a__law_conflict := a__law_conflict, d__law_conflict := _, f__law_conflict := F__law_conflict, b__law_conflict := B__law_conflict, g__law_conflict := PySem.W.mg_of X G z__law_conflict,
    a__law_fitting := a__law_fitting, d__law_fitting := _, f__law_fitting := F__law_fitting, b__law_fitting := B__law_fitting, g__law_fitting := PySem.W.mg_of X G z__law_fitting,
    a__law_times := a__law_times, d__law_times := _, f__law_times := F__law_times, b__law_times := B__law_times, g__law_times := PySem.W.mg_of X G z__law_times,
    a__law_told := a__law_told, d__law_told := _, f__law_told := F__law_told, b__law_told := B__law_told, g__law_told := PySem.W.mg_of X G z__law_told,
    a__law_due := a__law_due, d__law_due := _, f__law_due := F__law_due, b__law_due := B__law_due, g__law_due := PySem.W.mg_of X G z__law_due,
    a__law_right := a__law_right, d__law_right := _, f__law_right := F__law_right, b__law_right := B__law_right, g__law_right := PySem.W.mg_of X G z__law_right,
    a_law := fa, d_law := _, f_law := F_law, b_law := B_law, g_law := PySem.W.mg_of X G z_law } : Env l.prog K mg))
theorem walk {l : PySem.W.OpenLaw} {q : Program} {loose : List Str} {XP : (Str → Option Value) → Heap → Prop} {YP : World → Heap → Prop} {d : DefRec} {K : Params → PySem.W.Frag} (hn : l.most = some 63) (hdf : d.params.defaults = [])
    (hY : ∀ (w : World) (h : Heap), YP w h → (K w.params).In h)
    (F : ∀ (w : World) (mg : Str → Option Value) (fa : Addr) (h : Heap), (K w.params).In h → h.Ns mainGlobals mg → mg d.name = some (.ref fa) →
      ∃ fd : FuncData, (∀ (s : Shared) (u : Value), BindsTo s fd ⟨[u], []⟩ [("script", u)]) ∧ ∀ base : Heap, (K w.params).In base → base.Ns mainGlobals mg → LG.FnG l.prog w (K w.params) mg base CX0 13 fa fd ["script"] (sp_law (K w.params))) :
    PySem.W.WalkO q loose XP YP l.row.toRowW d [] (fun f vs => PySem.call f vs) :=
  LG.walk_ofG (n := 63) (k := 13) (x := "script") (sp := sp_law) hn (by decide) hdf ⟨rfl, by decide, by decide⟩ hY F (fun _ _ a ns hl _ hS => ⟨a, ns, rfl, hS, hl, fun _ => rfl⟩)
end LP
open PySem PySem.W PyProof.Rows
set_option maxRecDepth 100000 in
set_option maxHeartbeats 0 in
theorem PySem.Challenge.cw_leftreturn_k14_ranges_of_times_holds : PySem.Challenge.rw_leftreturn_k14_ranges_of_times.Holds := by
  w_on; o_law; k_head; (case hw => w_witness2)
  k_fill
  refine LP.walk (l := PySem.Challenge.rw_leftreturn_k14_ranges_of_times) rfl rfl (fun w h Y => PySem.W.kIn_of Y) ?F
  case F =>
    intro w mg fa h KX G hmg
    refine' LP.all_mk KX G hmg ?z_len ?z_range ?z_list ?z_tuple ?z_int ?z_bool ?z_str ?z_isinstance ?z_min ?z_max ?z_sorted ?z_set ?z_all ?z_any ?z_repr ?z_enumerate ?z_zip ?z_reversed ?z_super ?z_MOST_PLACES ?z_GREATEST_PLACE ?z_MOST_FACTS ?z_combinations ?z_Contradiction ?sL_Contradiction ?sa_Contradiction ?sn_Contradiction ?si_Contradiction ?st_Contradiction ?sk_Contradiction ?sx_Contradiction ?sv_Contradiction ?sty_Contradiction ?sm_Contradiction ?so_Contradiction ?ss_Contradiction ?sf_Contradiction ?sc_Contradiction ?scc2_Contradiction ?sda2_Contradiction ?svs2_Contradiction ?sfi_Contradiction ?sto_Contradiction ?sga_Contradiction ?sgg_Contradiction ?shd_Contradiction ?xb_Contradiction ?xc_Contradiction ?xt_Contradiction ?xm_Contradiction_Contradiction ?z_is_whole ?l_is_whole ?c_is_whole ?k_is_whole ?z_is_listed ?l_is_listed ?c_is_listed ?k_is_listed ?z_is_number ?l_is_number ?c_is_number ?k_is_number ?z_is_place ?l_is_place ?c_is_place ?k_is_place ?z_is_place_list ?l_is_place_list ?c_is_place_list ?k_is_place_list ?z_check_places ?l_check_places ?c_check_places ?k_check_places ?z_check_same_places ?l_check_same_places ?c_check_same_places ?k_check_same_places ?z_check_pair ?l_check_pair ?c_check_pair ?k_check_pair ?z_numbers_by_place ?l_numbers_by_place ?c_numbers_by_place ?k_numbers_by_place ?z_is_two ?l_is_two ?c_is_two ?k_is_two ?z_is_three ?l_is_three ?c_is_three ?k_is_three ?z_first_two ?l_first_two ?c_first_two ?k_first_two ?z_last_fill_between ?l_last_fill_between ?c_last_fill_between ?k_last_fill_between ?z_first_three ?l_first_three ?c_first_three ?k_first_three ?z_obstruction ?l_obstruction ?c_obstruction ?k_obstruction ?z_least_times ?l_least_times ?c_least_times ?k_least_times ?z_most_times ?l_most_times ?c_most_times ?k_most_times ?z_check_possible ?l_check_possible ?c_check_possible ?k_check_possible ?z_time_bounds ?l_time_bounds ?c_time_bounds ?k_time_bounds ?z_is_fact ?l_is_fact ?c_is_fact ?k_is_fact ?z_check_facts ?l_check_facts ?c_check_facts ?k_check_facts ?z_limits_of_out ?l_limits_of_out ?c_limits_of_out ?k_limits_of_out ?z_limits_of ?l_limits_of ?c_limits_of ?k_limits_of ?z_read_facts ?l_read_facts ?c_read_facts ?k_read_facts ?z_contradicts_pair ?l_contradicts_pair ?c_contradicts_pair ?k_contradicts_pair ?z_puts_behind ?l_puts_behind ?c_puts_behind ?k_puts_behind ?z_find_contradiction ?l_find_contradiction ?c_find_contradiction ?k_find_contradiction ?z_check_number ?l_check_number ?c_check_number ?k_check_number ?z_narrow ?l_narrow ?c_narrow ?k_narrow ?z_can_be_met ?l_can_be_met ?c_can_be_met ?k_can_be_met ?z_narrow_if_consistent ?l_narrow_if_consistent ?c_narrow_if_consistent ?k_narrow_if_consistent ?z_time_range ?l_time_range ?c_time_range ?k_time_range ?z__law_bag ?l__law_bag ?c__law_bag ?k__law_bag ?z__law_stir ?l__law_stir ?c__law_stir ?k__law_stir ?z__law_draw ?l__law_draw ?c__law_draw ?k__law_draw ?z__law_shuffled ?l__law_shuffled ?c__law_shuffled ?k__law_shuffled ?z__law_either ?l__law_either ?c__law_either ?k__law_either ?z__law_dressed ?l__law_dressed ?c__law_dressed ?k__law_dressed ?z__law_places ?l__law_places ?c__law_places ?k__law_places ?z__law_filled ?l__law_filled ?c__law_filled ?k__law_filled ?z__law_all_patterns ?l__law_all_patterns ?c__law_all_patterns ?k__law_all_patterns ?z__law_few ?l__law_few ?c__law_few ?k__law_few ?z__law_fact ?l__law_fact ?c__law_fact ?k__law_fact ?z__law_holds ?l__law_holds ?c__law_holds ?k__law_holds ?z__law_conflict ?l__law_conflict ?c__law_conflict ?k__law_conflict ?z__law_fitting ?l__law_fitting ?c__law_fitting ?k__law_fitting ?z__law_times ?l__law_times ?c__law_times ?k__law_times ?z__law_told ?l__law_told ?c__law_told ?k__law_told ?z__law_due ?l__law_due ?c__law_due ?k__law_due ?z__law_right ?l__law_right ?c__law_right ?k__law_right ?z_law ?l_law ?c_law ?k_law
    (case z_len => k_is)
    (case z_range => k_is)
    (case z_list => k_is)
    (case z_tuple => k_is)
    (case z_int => k_is)
    (case z_bool => k_is)
    (case z_str => k_is)
    (case z_isinstance => k_is)
    (case z_min => k_is)
    (case z_max => k_is)
    (case z_sorted => k_is)
    (case z_set => k_is)
    (case z_all => k_is)
    (case z_any => k_is)
    (case z_repr => k_is)
    (case z_enumerate => k_is)
    (case z_zip => k_is)
    (case z_reversed => k_is)
    (case z_super => k_is)
    (case z_MOST_PLACES => k_is)
    (case z_GREATEST_PLACE => k_is)
    (case z_MOST_FACTS => k_is)
    (case z_combinations => k_is)
    (case z_Contradiction => k_is)
    (case sL_Contradiction => k_is)
    (case sa_Contradiction => k_is)
    (case sn_Contradiction => k_is)
    (case si_Contradiction => k_is)
    (case st_Contradiction => k_is)
    (case sk_Contradiction => k_is)
    (case sx_Contradiction => k_is)
    (case sv_Contradiction => k_is)
    (case sty_Contradiction => k_is)
    (case sm_Contradiction => k_is)
    (case so_Contradiction => k_is)
    (case ss_Contradiction => first | k_is | ks_is)
    (case sf_Contradiction => k_is)
    (case sc_Contradiction => k_is)
    (case scc2_Contradiction => k_is)
    (case sda2_Contradiction => k_is)
    (case svs2_Contradiction => first | rfl | decide +kernel | k_is)
    (case sfi_Contradiction => first | rfl | decide +kernel | k_is)
    (case sto_Contradiction => first | rfl | decide +kernel | k_is)
    (case sga_Contradiction => k_is)
    (case sgg_Contradiction => k_is)
    (case shd_Contradiction => k_is)
    (case xb_Contradiction => k_is)
    (case xc_Contradiction => k_is)
    (case xt_Contradiction => k_is)
    (case xm_Contradiction_Contradiction => first | rfl | k_is)
    (case z_is_whole => k_is)
    (case l_is_whole => k_is)
    (case c_is_whole => k_is)
    (case k_is_whole => k_is)
    (case z_is_listed => k_is)
    (case l_is_listed => k_is)
    (case c_is_listed => k_is)
    (case k_is_listed => k_is)
    (case z_is_number => k_is)
    (case l_is_number => k_is)
    (case c_is_number => k_is)
    (case k_is_number => k_is)
    (case z_is_place => k_is)
    (case l_is_place => k_is)
    (case c_is_place => k_is)
    (case k_is_place => k_is)
    (case z_is_place_list => k_is)
    (case l_is_place_list => k_is)
    (case c_is_place_list => k_is)
    (case k_is_place_list => k_is)
    (case z_check_places => k_is)
    (case l_check_places => k_is)
    (case c_check_places => k_is)
    (case k_check_places => k_is)
    (case z_check_same_places => k_is)
    (case l_check_same_places => k_is)
    (case c_check_same_places => k_is)
    (case k_check_same_places => k_is)
    (case z_check_pair => k_is)
    (case l_check_pair => k_is)
    (case c_check_pair => k_is)
    (case k_check_pair => k_is)
    (case z_numbers_by_place => k_is)
    (case l_numbers_by_place => k_is)
    (case c_numbers_by_place => k_is)
    (case k_numbers_by_place => k_is)
    (case z_is_two => k_is)
    (case l_is_two => k_is)
    (case c_is_two => k_is)
    (case k_is_two => k_is)
    (case z_is_three => k_is)
    (case l_is_three => k_is)
    (case c_is_three => k_is)
    (case k_is_three => k_is)
    (case z_first_two => k_is)
    (case l_first_two => k_is)
    (case c_first_two => k_is)
    (case k_first_two => k_is)
    (case z_last_fill_between => k_is)
    (case l_last_fill_between => k_is)
    (case c_last_fill_between => k_is)
    (case k_last_fill_between => k_is)
    (case z_first_three => k_is)
    (case l_first_three => k_is)
    (case c_first_three => k_is)
    (case k_first_three => k_is)
    (case z_obstruction => k_is)
    (case l_obstruction => k_is)
    (case c_obstruction => k_is)
    (case k_obstruction => k_is)
    (case z_least_times => k_is)
    (case l_least_times => k_is)
    (case c_least_times => k_is)
    (case k_least_times => k_is)
    (case z_most_times => k_is)
    (case l_most_times => k_is)
    (case c_most_times => k_is)
    (case k_most_times => k_is)
    (case z_check_possible => k_is)
    (case l_check_possible => k_is)
    (case c_check_possible => k_is)
    (case k_check_possible => k_is)
    (case z_time_bounds => k_is)
    (case l_time_bounds => k_is)
    (case c_time_bounds => k_is)
    (case k_time_bounds => k_is)
    (case z_is_fact => k_is)
    (case l_is_fact => k_is)
    (case c_is_fact => k_is)
    (case k_is_fact => k_is)
    (case z_check_facts => k_is)
    (case l_check_facts => k_is)
    (case c_check_facts => k_is)
    (case k_check_facts => k_is)
    (case z_limits_of_out => k_is)
    (case l_limits_of_out => k_is)
    (case c_limits_of_out => k_is)
    (case k_limits_of_out => k_is)
    (case z_limits_of => k_is)
    (case l_limits_of => k_is)
    (case c_limits_of => k_is)
    (case k_limits_of => k_is)
    (case z_read_facts => k_is)
    (case l_read_facts => k_is)
    (case c_read_facts => k_is)
    (case k_read_facts => k_is)
    (case z_contradicts_pair => k_is)
    (case l_contradicts_pair => k_is)
    (case c_contradicts_pair => k_is)
    (case k_contradicts_pair => k_is)
    (case z_puts_behind => k_is)
    (case l_puts_behind => k_is)
    (case c_puts_behind => k_is)
    (case k_puts_behind => k_is)
    (case z_find_contradiction => k_is)
    (case l_find_contradiction => k_is)
    (case c_find_contradiction => k_is)
    (case k_find_contradiction => k_is)
    (case z_check_number => k_is)
    (case l_check_number => k_is)
    (case c_check_number => k_is)
    (case k_check_number => k_is)
    (case z_narrow => k_is)
    (case l_narrow => k_is)
    (case c_narrow => k_is)
    (case k_narrow => k_is)
    (case z_can_be_met => k_is)
    (case l_can_be_met => k_is)
    (case c_can_be_met => k_is)
    (case k_can_be_met => k_is)
    (case z_narrow_if_consistent => k_is)
    (case l_narrow_if_consistent => k_is)
    (case c_narrow_if_consistent => k_is)
    (case k_narrow_if_consistent => k_is)
    (case z_time_range => k_is)
    (case l_time_range => k_is)
    (case c_time_range => k_is)
    (case k_time_range => k_is)
    (case z__law_bag => k_is)
    (case l__law_bag => k_is)
    (case c__law_bag => k_is)
    (case k__law_bag => k_is)
    (case z__law_stir => k_is)
    (case l__law_stir => k_is)
    (case c__law_stir => k_is)
    (case k__law_stir => k_is)
    (case z__law_draw => k_is)
    (case l__law_draw => k_is)
    (case c__law_draw => k_is)
    (case k__law_draw => k_is)
    (case z__law_shuffled => k_is)
    (case l__law_shuffled => k_is)
    (case c__law_shuffled => k_is)
    (case k__law_shuffled => k_is)
    (case z__law_either => k_is)
    (case l__law_either => k_is)
    (case c__law_either => k_is)
    (case k__law_either => k_is)
    (case z__law_dressed => k_is)
    (case l__law_dressed => k_is)
    (case c__law_dressed => k_is)
    (case k__law_dressed => k_is)
    (case z__law_places => k_is)
    (case l__law_places => k_is)
    (case c__law_places => k_is)
    (case k__law_places => k_is)
    (case z__law_filled => k_is)
    (case l__law_filled => k_is)
    (case c__law_filled => k_is)
    (case k__law_filled => k_is)
    (case z__law_all_patterns => k_is)
    (case l__law_all_patterns => k_is)
    (case c__law_all_patterns => k_is)
    (case k__law_all_patterns => k_is)
    (case z__law_few => k_is)
    (case l__law_few => k_is)
    (case c__law_few => k_is)
    (case k__law_few => k_is)
    (case z__law_fact => k_is)
    (case l__law_fact => k_is)
    (case c__law_fact => k_is)
    (case k__law_fact => k_is)
    (case z__law_holds => k_is)
    (case l__law_holds => k_is)
    (case c__law_holds => k_is)
    (case k__law_holds => k_is)
    (case z__law_conflict => k_is)
    (case l__law_conflict => k_is)
    (case c__law_conflict => k_is)
    (case k__law_conflict => k_is)
    (case z__law_fitting => k_is)
    (case l__law_fitting => k_is)
    (case c__law_fitting => k_is)
    (case k__law_fitting => k_is)
    (case z__law_times => k_is)
    (case l__law_times => k_is)
    (case c__law_times => k_is)
    (case k__law_times => k_is)
    (case z__law_told => k_is)
    (case l__law_told => k_is)
    (case c__law_told => k_is)
    (case k__law_told => k_is)
    (case z__law_due => k_is)
    (case l__law_due => k_is)
    (case c__law_due => k_is)
    (case k__law_due => k_is)
    (case z__law_right => k_is)
    (case l__law_right => k_is)
    (case c__law_right => k_is)
    (case k__law_right => k_is)
    (case z_law => k_is)
    (case l_law => k_is)
    (case c_law => k_is)
    (case k_law => k_is)
