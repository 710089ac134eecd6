import PyProof.Rows.All
import Wide.All
import OpenK.AllK
import Wide.FinOn
import HandS.ForMost
import HandS.IsInst
import HandS.Conv
import HandS.Style
import HandS.Wide
import HandS.SortInts
import HandS.ForExc
import HandS.SetFor
import HandS.Walk
import HandS.Gcd
import HandS.SortKw
import HandS.Dict
import HandS.NoneIn
import HandS.List
import HandS.StrMore
import HandS.RaiseMore
import PyProof.ReprRoads
import PyProof.ReprLen
import HandS.Zip
import HandS.DictComp
import PyProof.TupleOfSeq
import KE.GoesMore
import KE.GoesZip
import HandS.Text
import PySem.Challenge.RW_leftreturn_k50_places_as_text
set_option Elab.async false
set_option linter.all false
set_option maxRecDepth 100000
set_option maxHeartbeats 4000000
/-! defs that may be run only where no repr is under way: the promise FnG beside FnOk; repr of data -/
namespace LG
open PySem PySem.Spec PyProof.Rows L2
structure FnG (P : Program) (w : World) (K : PySem.W.Frag) (mg : Str → Option Value) (base : Heap) (CX : CXT) (k : Nat) (f : Addr) (fd : FuncData) (ps : List Str) (sp : Sp) : Prop where
  arity : ∀ vs H Q E, sp vs H Q E → vs.length = ps.length
  does : ∀ (A : Around) (out : List Env) (s : Shared) (H : Hp) (ar : Args) (us : List Value) (vs : List V) (Q : VK) (E : XK), A.guards = some [] →
    Room k A → Env0 P w K mg base A out s H → BindsTo s fd ar (ps.zip us) → Vals vs us → sp vs H Q E → codeAny (model P w) A (.call (.ref f) ar) (CR CX out P w H s Q E) s
section
variable {P : Program} {w : World} {K : PySem.W.Frag} {mg : Str → Option Value} {base : Heap} {CX : CXT}
theorem FnG.up {j k : Nat} {f : Addr} {fd : FuncData} {ps : List Str} {sp : Sp} (F : FnG P w K mg base CX j f fd ps sp) (h : j ≤ k) : FnG P w K mg base CX k f fd ps sp :=
  ⟨F.arity, fun A out s H ar us vs Q E hg hr => F.does A out s H ar us vs Q E hg (hr.mono h)⟩
theorem fnG_of {k : Nat} {f : Addr} {name qual : Str} {params : Arguments} {body : List Stmt} {scope : Scope} {dV kV doc pm cdv ct oc : Value} {an od : Option Addr} {osl : Array (Option Value)} {N ps : List Str} {sp : Sp}
    (lk : K.lookup f = some ⟨oc, od, .func (PySem.W.fnOf name qual params body scope dV kV doc pm an cdv ct), osl⟩) (cd : PySem.W.codeIn K cdv qual = true) (S : FnScope N ps scope) (ar : ∀ vs H Q E, sp vs H Q E → vs.length = ps.length)
    (hb : ∀ (A : Around) (out : List Env) (s : Shared) (H : Hp) (vs : List V) (Q : VK) (E : XK), A.guards = some [] → Room k (A.deeper (envOfC qual scope s.heap.objs.size f cdv)) → sp vs H Q E →
      ∃ t, PSs (cxOf CX P w K mg base N qual scope f cdv A out s H E) body t ∧ t ⟨fun _ H1 => Q .non H1, Q, fun _ _ => False, fun _ _ => False⟩ (start N vs) H) :
    FnG P w K mg base CX (k + 1) f (PySem.W.fnOf name qual params body scope dV kV doc pm an cdv ct) ps sp := by
  constructor
  · exact ar
  intro A out s H args us vs Q E hgd hr e0 bnd rel want
  obtain ⟨t, der, wish⟩ := hb A out s H vs Q E hgd (hr.deeper _) want
  have old := fun b o (e : base.get? b = some o) => (e0.bs b o e).1
  have kin : K.In s.heap := e0.mod.kin.keeps old
  have slots : ∀ y ∈ ps.zip us, scope.names.lookup y.1 = some .local ∨ scope.names.lookup y.1 = some .cell ∧ ((cellsFrom (s.heap.objs.size + 1) scope.names []).lookup y.1).isSome = true := by
    rintro ⟨nm, v⟩ mem
    have z := S.par nm (List.of_mem_zip mem).1
    exact z.imp id fun c => ⟨c, PySem.W.cellsFrom_some _ _ _ (Or.inl c)⟩
  apply codeAny_call_function hr.depth (kin _ _ lk) rfl S.co S.gen rfl (PySem.W.codeRec_of kin cd)
  apply bnd
  apply wpAny_newFunctionEnv_cells S.kind slots
  rintro env rfl s1 inC
  refine ⟨(e0.mod.nolimit.keeps old).keeps inC.toInCall.keep, ?_⟩
  apply codeAny_func
  have J := inv_start (CX := CX) (E := E) S hr.hd e0 (ar _ _ _ _ want) rel inC
  apply wpAny_mono (der.run [] s1 (start N vs) H _ J wish)
  · intro fl s2 got
    cases fl with
    | next => obtain ⟨σ2, H2, J2, q⟩ := got; exact ⟨V.non, H2, J2.os, J2.bare, J2.base, J2.hok, rfl, q⟩
    | ret u => obtain ⟨v, σ2, H2, J2, rv, q⟩ := got; exact ⟨v, H2, J2.os, J2.bare, J2.base, J2.hok, rv, q⟩
    | brk => obtain ⟨_, _, _, q⟩ := got; exact q.elim
    | cont => obtain ⟨_, _, _, q⟩ := got; exact q.elim
  · exact fun _ _ z => z
/-- a def of the text by its body, where nothing is raised -/
theorem okG {x qual : Str} {st : Stmt} {f : Addr} {fd : FuncData} {N ps : List Str} {k : Nat} {sp : Sp} (F : Fun K x qual st f fd) (S : FnScope N ps (defScope st)) (ar : ∀ vs H Q E, sp vs H Q E → vs.length = ps.length)
    (hb : ∀ (cdv : Value) (A : Around) (out : List Env) (s : Shared) (H : Hp) (vs : List V) (Q : VK) (E : XK), A.guards = some [] → Room k (A.deeper (envOfC qual (defScope st) s.heap.objs.size f cdv)) → sp vs H Q E →
      ∃ t, PSs (cxOf CX0 P w K mg base N qual (defScope st) f cdv A out s H E).nox (defBody st) t ∧ t ⟨fun _ H1 => Q .non H1, Q, fun _ _ => False, fun _ _ => False⟩ (start N vs) H) : FnG P w K mg base CX0 (k + 1) f fd ps sp := by
  obtain ⟨oc, od, kV, doc, pm, an, cdv, ct, osl, rfl, lk, cd⟩ := F.ex
  refine fnG_of lk cd S ar fun A out s H vs Q E hgd hr want => ?_
  obtain ⟨t, der, wish⟩ := hb cdv A out s H vs Q E hgd hr want
  exact ⟨t, der.nox, wish⟩
theorem of_ok {k : Nat} {f : Addr} {fd : FuncData} {ps : List Str} {sp : Sp} (F : FnOk P w K mg base CX k f fd ps sp) : FnG P w K mg base CX k f fd ps sp :=
  ⟨F.len, fun A out s H ar us vs Q E _ hr => F.run A out s H ar us vs Q E hr⟩
end
section
variable {X : Cx} {CX : CXT} {k : Nat} {f : Addr} {fd : FuncData} {ps : List Str} {sp : Sp} {dvs : List V} {ds : List Value} {E : XK} {x : Str} {p pos : Pos} {e : Expr} {es : List Expr} {t : TA}
/-- f(e, ..), f such a def -/
theorem pe_callG (F : FnG X.prog X.w X.K X.mg X.base CX k f fd ps sp) (hgd : X.A.guards = some []) (hr : Room k X.A) (hg : Gl X x) (hm : X.mg x = some (.ref f)) (hk : PySem.W.keepIn X.K (.ref f) = true) (hb : Binds X.K fd ps ds) (hd : Vals dvs ds) (hx : Passes CX X E)
    (ha : PA X (e :: es) t) (hdb : (x == ("__debug__" : Str)) = false := by decide) (he : starEach (e :: es) X.env = (false, eval e X.env) :: starEach es X.env := by rfl) (hpl : (backTo pos (starEach es X.env)).any (·.1) = false := by rfl) :
    PE X (.Call (.Name x p) (e :: es) [] pos) (tCall sp dvs E t) := by
  constructor
  intro pins s σ H Q I want
  apply wpAny_Call_Name_kw (ld_glob I hg hm _ hdb)
  apply PySem.W.callWith_K (h₀ := X.base) I.ok.mod.kin hk (thn (ha.run pos pins s σ H _ I want) _) he hpl
  rintro us s1 ⟨vs, H1, J, rel, q⟩
  have rel2 : Vals (vs ++ dvs) (us ++ ds) := rel.append hd
  have len : (us ++ ds).length = ps.length := rel2.length.symm.trans (F.arity _ _ _ _ q)
  refine ⟨J.kIn, wpAny_call (codeAny_mono (F.does X.A X.stack s1 H1 ⟨us, []⟩ _ _ Q E hgd hr J.env0 (hb s1 us J.kIn len) rel2 q) ?_)⟩
  intro r s2 got
  match r, got with
  | .error err, got => exact hx pins σ H1 s1 err s2 J got
  | .ok (.ret u), got => exact J.after got
  | .ok .next, got => exact got.elim
  | .ok .brk, got => exact got.elim
  | .ok .cont, got => exact got.elim
/-- repr of a list or a tuple of data -/
def rRepr (K : PySem.W.Frag) : List V → Hp → VK → Prop := fun xs H Q => ∃ (a : Addr) (d : PyData), xs = [.ref a] ∧ Dp K H (.ref a) d ∧ d.showable = true ∧ SeqAt.shaped d = true ∧ d.shown.length ≤ sizeLine ∧ Q (.str d.shown) H
theorem call_repr (hgd : X.A.guards = some []) (hu : X.A.units + 66 < cLine) : CallR X (.builtin "repr") (rRepr X.K) := by
  rintro pins s σ H xs us Q I rel ⟨a, d, rfl, hd, sh, sp, len, q⟩
  obtain ⟨u, rfl, ru⟩ := vals1 rel
  obtain ⟨as, rd⟩ := Dp.reads I d (.ref a) u hd ru
  cases ru
  have dep := SeqAt.depth_of_shaped sp
  refine repr_of_reads' rd sh (PyData.noDict_hsm (PyData.hasDict_of_canLay d (SeqAt.canLay_of_shaped sp))) hgd (by omega) (fun _ _ z => z) (fun h1 u1 tk keep => ?_) len
  exact ⟨.str d.shown, H, I.kept keep, ⟨_, rfl⟩, q⟩
end
/-! the end of a law's row -/
theorem law_callG {P : Program} {w : World} {K : PySem.W.Frag} {mg mb : Str → Option Value} {k : Nat} {fa a : Addr} {fd : FuncData} {x : Str} {sp : Sp} {s : Shared} {vs : List Value} {ns : List Int}
    (kin : K.In s.heap) (gns : s.heap.Ns mainGlobals mg) (bns : s.heap.Ns builtinsNs mb) (hbb : ∀ x : Str, x ≠ "__name__" → mb x = bootBuiltins x) (lim : s.heap.NoLimit) (gens : s.gens = #[])
    (obj : s.heap.get? a = some { cls := .type "list", data := .seq vs.toArray }) (hin : IntsAre vs ns) (len : ns.length ≤ sizeLine) (hr : Room k callerA)
    (F : ∀ base : Heap, K.In base → base.Ns mainGlobals mg → FnG P w K mg base CX0 k fa fd [x] sp) (bnd : ∀ (s : Shared) (u : Value), BindsTo s fd ⟨[u], []⟩ [(x, u)])
    (want : ∀ H : Hp, Only H → SqL K H a (ns.map V.int) → sp [.ref a] H (fun v _ => v = .bl true) fun _ _ _ => False) :
    codeAny (model P w) callerA (.call (.ref fa) ⟨[.ref a], []⟩) (fun r s1 => r = .ok (.ret (.bool true)) ∧ OldK s.heap s1.heap ∧ s1.os = s.os ∧ AllBare s1.gens) s := by
  have rel := vals_ints hin
  have nlen := hin.length
  obtain ⟨H, hH⟩ : ∃ H : Hp, ∀ b, H b = if b = a ∧ K.lookup a = none then some (.frz { cls := .type "list", data := .seq vs.toArray } (.lst (ns.map V.int))) else none := ⟨_, fun b => rfl⟩
  have off : ∀ {b o}, s.heap.get? b = some o → (b = a → K.lookup a ≠ none) → H b = none := fun {b o} _ hne => by
    rw [hH, if_neg fun z => hne z.1 z.2]
  have at_ : ∀ b u, H b = some u → b = a ∧ K.lookup a = none ∧ u = .frz { cls := .type "list", data := .seq vs.toArray } (.lst (ns.map V.int)) := fun b u z => by
    rw [hH] at z
    by_cases c : b = a ∧ K.lookup a = none
    · rw [if_pos c] at z; exact ⟨c.1, c.2, (Option.some.inj z).symm⟩
    · rw [if_neg c] at z; cases z
  have only : Only H := fun b => by
    cases z : H b with
    | none => exact Or.inl rfl
    | some u => obtain ⟨_, _, rfl⟩ := at_ b u z; exact Or.inr ⟨_, _, rfl⟩
  have seq : SqL K H a (ns.map V.int) := by
    cases z : K.lookup a with
    | none => exact Or.inl (Or.inr ⟨_, by rw [hH, if_pos ⟨rfl, z⟩]⟩)
    | some o =>
      have e := kin a o z
      rw [obj] at e
      cases e
      exact Or.inr ⟨_, vs.toArray, _, z, rfl, rfl, rfl, by rw [List.size_toArray, nlen]; exact len, by simpa using rel⟩
  have hok : HOk P w H s.heap := fun b u z => by
    obtain ⟨rfl, _, rfl⟩ := at_ b u z
    exact ⟨obj, by rw [List.length_map]; exact len, vs, _, rel, obj⟩
  have kept : ∀ {b o}, s.heap.get? b = some o → H b = none → (hidT s.heap H).get? b = some o := fun e z => hidT_get e z
  have dicts : ∀ {b o es n}, s.heap.get? b = some o → o.data = .dict es n → H b = none := fun {b o es n} e d => off e fun q => by
    rw [q, obj] at e
    cases e
    have d2 : Data.seq vs.toArray _ = Data.dict es n := d
    cases d2
  have names : ∀ {b m}, s.heap.Ns b m → (hidT s.heap H).Ns b m := fun ⟨o, es, n, e, d, r⟩ => ⟨o, es, n, kept e (dicts e d), d, r⟩
  have kin2 : K.In (hidT s.heap H) := fun b o e => kept (kin b o e) (off (kin b o e) fun q => by rw [← q, e]; exact fun z => nomatch z)
  have lim2 : (hidT s.heap H).NoLimit := let ⟨mc, l1, l2⟩ := lim; ⟨mc, names l1, l2⟩
  have e0 : Env0 P w K mg (hidT s.heap H) callerA [] s H := ⟨rfl, ⟨kin2, names gns, ⟨mb, names bns, hbb⟩, lim2⟩, fun b o e => of_hidT e, Nat.le_of_eq (hidT_size _ _), trivial, fun b m => (by cases (show b ∈ ([] : List Addr) from m)), hok, .of_eq gens⟩
  refine codeAny_mono ((F _ kin2 (names gns)).does callerA [] s H ⟨[.ref a], []⟩ [.ref a] [.ref a] _ _ rfl hr e0 (bnd s (.ref a)) (.cons rfl .nil) (want H only seq)) ?_
  intro r s1 got
  match r, got with
  | .error _, got => exact got.elim
  | .ok .next, got => exact got.elim
  | .ok .brk, got => exact got.elim
  | .ok .cont, got => exact got.elim
  | .ok (.ret u), got =>
    obtain ⟨v, H1, os, bare, un, hok1, ru, q⟩ := got
    cases (show v = .bl true from q)
    cases (show u = Value.bool true from ru)
    refine ⟨rfl, OldK.of_keep fun b o e => ?_, os, bare⟩
    cases z : H b with
    | none => exact un.keep b o e z (by intro y; cases (show b ∈ ([] : List Addr) from y)) (by simp)
    | some u =>
      obtain ⟨rfl, _, rfl⟩ := at_ b u z
      have y := un.frzs b _ _ z
      rw [obj] at e
      cases e
      exact (hok1 b _ y).1
theorem walk_ofG {l : PySem.W.OpenLaw} {n k : Nat} {q : Program} {loose : List Str} {XP : (Str → Option Value) → Heap → Prop} {YP : World → Heap → Prop} {d : DefRec} {K : Params → PySem.W.Frag} {sp : PySem.W.Frag → Sp} {x : Str}
    (hn : l.most = some n) (hn2 : n ≤ sizeLine) (hdf : d.params.defaults = []) (hr : Room k callerA) (hY : ∀ (w : World) (h : Heap), YP w h → (K w.params).In h)
    (F : ∀ (w : World) (mg : Str → Option Value) (fa : Addr) (h : Heap), (K w.params).In h → h.Ns mainGlobals mg → mg d.name = some (.ref fa) →
      ∃ fd : FuncData, (∀ (s : Shared) (u : Value), BindsTo s fd ⟨[u], []⟩ [(x, u)]) ∧ ∀ base : Heap, (K w.params).In base → base.Ns mainGlobals mg → FnG l.prog w (K w.params) mg base CX0 k fa fd [x] (sp (K w.params)))
    (want : ∀ (K : PySem.W.Frag) (H : Hp) (a : Addr) (ns : List Int), ns.length ≤ n → Only H → SqL K H a (ns.map V.int) → sp K [.ref a] H (fun v _ => v = .bl true) fun _ _ _ => False) :
    PySem.W.WalkO q loose XP YP l.row.toRowW d [] (fun f vs => PySem.call f vs) := by
  apply Att.attach_call hn hdf
  intro w s0 s1 mg mb fa o pm cd doc a vs ns G Y ho hd hcd hmg obj hin len gens
  have kin := hY w _ Y
  obtain ⟨fd, bnd, does⟩ := F w mg fa _ kin G.T.g hmg
  exact law_callG kin G.T.g G.T.b G.T.builtins G.T.nolimit gens obj hin (Nat.le_trans len hn2) hr does bnd fun H o q => want _ H a ns len o q
end LG

namespace LT
open PySem PySem.Spec PyProof.Rows L2
section
variable {prog : Program} {w : World} {A : Around} {E : Value → Shared → Prop} {s : Shared}
/-- what is to be iterated is gathered into a new list; the heap does not get shorter -/
theorem gather {Q : List Value → Shared → Prop} (l : Addr) {T : String} {o : Obj} {its : Array Value} {n : Nat} (hT : T = "list" ∨ T = "tuple") (ho : s.heap.get? l = some o) (hc : o.cls = .type T) (hd : o.data = .seq its n) (hz : its.size ≤ sizeLine)
    (fin : ∀ h1 : Heap, s.heap.objs.size ≤ h1.objs.size → (∀ b u, s.heap.get? b = some u → h1.get? b = some u) → Q its.toList { s with heap := h1 }) : wpAny (model prog w) A (collect (.ref l)) Q E s := by
  unfold collect
  refine wpAny_bind (wpAny_runValue (codeAny_builtin PySem.F.entry_proto_collect ?_))
  rw [Around.under_plainId PySem.F.plain_proto_collect _]
  refine wpAny_bind (m := newList []) (wpAny_newObj_type ?_)
  refine wpAny_pure ⟨plainId_quiet PySem.F.plain_list_iadd _, codeAny_builtin PySem.F.entry_list_iadd ?_⟩
  rw [Around.under_plainId PySem.F.plain_list_iadd _]
  generalize hp : s.heap.push { cls := .type "list", data := .seq ([] : List Value).toArray } = h0
  have e0 : h0.get? s.heap.objs.size = some { cls := .type "list", data := .seq #[] 0 } := by rw [← hp]; exact Heap.get?_push_size _ rfl
  have k0 : ∀ b u, s.heap.get? b = some u → h0.get? b = some u := fun b u q => by rw [← hp]; exact Heap.get?_push_of_some _ q
  have z0 : s.heap.objs.size ≤ h0.objs.size := by rw [← hp, Heap.size_push]; exact Nat.le_succ _
  have e1 := Heap.get?_update_self (Obj.mapSeq (· ++ its)) e0 rfl
  have last : Q its.toList { s with heap := h0.update s.heap.objs.size (Obj.mapSeq (· ++ its)) } :=
    fin _ (by rw [Heap.size_update]; exact z0) fun b u q => (Heap.get?_update_other _ _ (Nat.ne_of_gt (Heap.lt_size q))).trans (k0 b u q)
  have tail : wpAny (model prog w) A (do match (← load s.heap.objs.size).data with
      | Data.seq xs _ => pure xs.toList
      | _ => unsupported "internal:collect") Q E { s with heap := h0.update s.heap.objs.size (Obj.mapSeq (· ++ its)) } := by
    refine wpAny_bind (wpAny_load e1 (wpAny_pure ?_))
    show Q ((#[] : Array Value) ++ its).toList _
    rw [show ((#[] : Array Value) ++ its).toList = its.toList by simp]
    exact last
  refine wpAny_mono (wpAny_extend_seq (hsz := hz) (A := A) (R := fun r t => r = .ok (.ret (.ref s.heap.objs.size)) ∧ t = { s with heap := h0.update s.heap.objs.size (Obj.mapSeq (· ++ its)) })
    (s := { s with heap := h0 }) _ l _ 0 hT e0 (k0 _ _ ho) hc hd ⟨rfl, rfl⟩) (fun r t q => ?_) fun _ t q => absurd q.1 (by simp)
  cases r with
  | done f =>
    obtain ⟨e, rfl⟩ := q
    cases e
    exact tail
  | again c => exact ⟨q.1, codeAny_mono q.2 fun r u hr => by obtain ⟨rfl, rfl⟩ := hr; exact tail⟩
open Srt SrtO in
/-- sorted(x), x a list or a tuple: a new list -/
theorem sorted_seq {l : Addr} {T : String} {o : Obj} {vs : List Value} {n : Nat} {ltv : Value → Value → Bool} {Q : Value → Shared → Prop} (O : Swo ltv) (hT : T = "list" ∨ T = "tuple") (ho : s.heap.get? l = some o) (hc : o.cls = .type T) (hd : o.data = .seq vs.toArray n) (hz : vs.length ≤ sizeLine)
    (hS : 2 ≤ vs.length → ∀ (h₁ : Heap) (a : Addr), h₁.get? a = some (seqObj "list" vs.toArray 0) → (∀ b o, s.heap.get? b = some o → b ≠ a ∧ h₁.get? b = some o) → SortableO prog w A.in1.in1 { s with heap := h₁ } a vs ltv)
    (h : ∀ (out : List Value) (p : Addr) (h' : Heap), Srtd ltv out → Stb ltv out vs → s.heap.objs.size ≤ p → (∃ e, h'.get? p = some (seqObj "list" out.toArray e)) → (∀ b o, s.heap.get? b = some o → h'.get? b = some o) → Q (.ref p) { s with heap := h' }) :
    wpAny (model prog w) A (call (.builtin "sorted") [.ref l]) Q E s := by
  refine Calls.call_function_entry kind_sorted plain_sorted entry_sorted (args_sorted1 _) ?_
  unfold Builtin.«sorted»
  refine wpAny_bind (m := checkCount "sorted" 1 1 _) (wpAny_pure ?_)
  refine wpAny_bind (gather l hT ho hc hd (by rw [List.size_toArray]; exact hz) fun h1 hz2 k1 => ?_)
  refine wpAny_bind (wpAny_newList ?_ (by simpa using hz))
  have hoL : (h1.push (seqObj "list" vs.toArray 0)).get? h1.objs.size = some (seqObj "list" vs.toArray 0) := Heap.get?_push_size _ rfl
  have keep : ∀ b o, s.heap.get? b = some o → b ≠ h1.objs.size ∧ (h1.push (seqObj "list" vs.toArray 0)).get? b = some o := fun b o q =>
    ⟨Nat.ne_of_lt (Heap.lt_size (k1 b o q)), Heap.get?_push_of_some _ (k1 b o q)⟩
  show wpAny _ _ _ _ _ { s with heap := h1.push (seqObj "list" vs.toArray 0) }
  refine wpAny_bind (wpAny_holding (wpAny_call_entry slot_list_sort ⟨_, hoL, rfl⟩ entry_list_sort (list_sort_ord O hoL hz (fun h2 => hS h2 _ _ hoL keep) fun out hs hb => ⟨_, rfl, ?_⟩) (args_list_sort _)))
  refine wpAny_pure ⟨_, rfl, h out _ _ hs hb hz2 (sortedHeap_at hoL) fun b o q => ?_⟩
  obtain ⟨ne, q1⟩ := keep b o q
  rw [sortedHeap_old ne (Heap.lt_size q1)]
  exact q1
end
/-- sorted(xs), xs a list or a tuple of ints -/
def rSortedE (K : PySem.W.Frag) : List V → Hp → VK → Prop := fun vs H Q => ∃ (a : Addr) (ns : List Int), vs = [V.ref a] ∧ (SqL K H a (ns.map V.int) ∨ SqT K H a (ns.map V.int)) ∧
  ∀ (ns' : List Int) (p : Addr), ns'.Perm ns → ns'.Pairwise (· ≤ ·) → H p = none → Q (.ref p) (upd H p (.lst (ns'.map V.int)))
theorem cr_sortedE {X : Cx} : CallR X (.builtin "sorted") (rSortedE X.K) := by
  intro pins s σ H vs us Q I r h
  obtain ⟨a, ns, rfl, hs, q⟩ := h
  rcases hs with hs | hs
  · exact cr_sortedI pins s σ H _ us Q I r ⟨a, ns, rfl, hs, q⟩
  obtain ⟨its, rv, ⟨o, ho, hc, n, hd⟩, hz⟩ := I.tuple hs
  rw [Vals.ref1 r]
  have hi := rv.ints
  refine sorted_seq SrtO.swo_int (.inr rfl) ho hc hd (by rw [← rv.length]; exact hz) (fun h2 h₁ a' _ _ => SrtO.ints_sortable hi h2) fun out p h' h1 h2 le at_ keep => ?_
  obtain ⟨k1, k2, k3⟩ := SrtO.ints_out hi h1 h2
  obtain ⟨ep, he'⟩ := at_
  have hlen : ((out.map SrtO.iv).map V.int).length ≤ sizeLine := by
    rw [List.length_map, k2.length_eq]
    rw [List.length_map] at hz
    exact hz
  exact ⟨.ref p, upd H p (.lst ((out.map SrtO.iv).map V.int)), I.laid (t' := s.toks) keep le ⟨hlen, out, ep, vals_of_ints k1, he'⟩, rfl, q _ _ k2 k3 (I.hok.fresh le)⟩
/-- len(set(xs)), xs a list or a tuple of ints, each once -/
def tLenSetS (K : PySem.W.Frag) (ta : TE) : TE := fun σ H Q => ta σ H fun x H1 => ∃ (l : Addr) (ns : List Int), x = .ref l ∧ (SqL K H1 l (ns.map V.int) ∨ SqT K H1 l (ns.map V.int)) ∧ ns.Nodup ∧ ns.length ≤ 4000 ∧ Q (.int (ns.length : Nat)) H1
theorem pe_lenSetS {X : Cx} {a : Expr} {ta : TE} {p p2 q pos : Pos} (hg : Gl X "len") (hm : X.mg "len" = none) (hg2 : Gl X "set") (hm2 : X.mg "set" = none) (ha : PE X a ta) (hc : X.calm = true := by rfl)
    (na : starEach [a] X.env = (false, eval a X.env) :: starEach [] X.env := by rfl) : PE X (.Call (.Name "len" p) [.Call (.Name "set" p2) [a] [] q] [] pos) (tLenSetS X.K ta) := by
  refine ⟨fun pins s σ H Q I h => ?_⟩
  refine Call_ (ld_blt I hg hm boot_len ?_)
  refine PyProof.Rows.callWith_builtin1 (PyProof.Rows.args_cons ?_ rfl) rfl rfl
  refine Call_ (ld_blt I hg2 hm2 boot_set ?_)
  refine PyProof.Rows.callWith_type1 (PyProof.Rows.args_cons (thn (ha.run pins s σ H _ I h) fun v s1 ⟨x, H1, I1, r1, q1⟩ => PyProof.Rows.args_nil ?_) na) na rfl
  obtain ⟨l, ns, rfl, hq, hnd, hl, q1⟩ := q1
  cases r1
  rcases hq with hq | hq
  · obtain ⟨its, r, pl, hz⟩ := I1.list hq
    have hlen : its.toArray.size = ns.length := by rw [List.size_toArray, ← r.length, List.length_map]
    refine call_set_list (I1.ok.hd hc) pl.isList (by simpa using RZ.intsAre_vals r) (by rw [hlen]; unfold scanBound; omega) fun h' tk hS hk => ?_
    refine PyProof.Rows.args_nil ?_
    rw [hlen, RZ.firstMet_nodup hnd ns.length (Nat.le_refl _), List.take_length] at hS
    obtain ⟨o, es, ep, t, ho, hex, hd, _, _, _, hf, hn⟩ := hS
    have I2 : Inv X pins σ H1 { s1 with heap := h', toks := tk } := I1.kept fun b o e => hk b o (Heap.lt_size e) e
    exact call_len_set ho hex hd hf (by rw [hn] <;> omega) ⟨.int ns.length, H1, I2.tok _, ⟨_, by rw [hn]⟩, q1⟩
  · obtain ⟨its, r, pl, hz⟩ := I1.tuple hq
    refine call_set_tupI ns (I1.ok.hd hc) (show s1.heap.IsTuple l its.toArray from pl) (by simpa using r.ints) (by unfold scanBound; omega) fun h' tk c R hcn hk => ?_
    refine PyProof.Rows.args_nil ?_
    obtain ⟨o, es, ep, t, ho, hex, hd, g, nd, mem, _, hf, hn, _⟩ := R
    have I2 : Inv X pins σ H1 { s1 with heap := h', toks := tk } := I1.kept fun b o e => hk b o e
    have hperm : (es.toList.map keyOf).Perm ns := (List.perm_ext_iff_of_nodup nd hnd).mpr fun k => by rw [← mem k, decide_eq_true_iff]
    have hes : es.size = ns.length := by have := hperm.length_eq; simpa using this
    exact call_len_set ho hex hd hf (by omega) ⟨.int ns.length, H1, I2.tok _, ⟨_, by rw [hes]⟩, q1⟩
/-- a dict comprehension over it: Pv by the turn and the heap (the new dict at D within) -/
theorem dc_it {J : It} {n : Nat} {G : Hp → Prop} {Y : Nat → Hp → V → Hp → Prop} (w : Walk J n G Y) {g : TG} {tt : TT} {tk tv : TE} {vs : List Nat} {σ : L2.St} {H1 : Hp} {D : Addr} {Qd : Hp → Prop} (Pv : Nat → Hp → Prop) (h0 : Pv 0 (upd H1 D (.dK []))) (hG : ∀ i H, i ≤ n → Pv i H → G H)
    (hs : ∀ i x H H', i < n → Pv i H → Y i H x H' → g x (wipe σ vs) H' fun σ2 H2 => wipe σ2 vs = wipe σ vs ∧ tt σ2 H2 fun b H3 =>
      if b = true then tk σ2 H3 fun y H4 => tv σ2 H4 fun z H5 => ∃ kvs k, y = kV k ∧ H5 D = some (.dK kvs) ∧ kvs.length < sizeLine ∧ Pv (i + 1) (upd H5 D (.dK (putK kvs k z))) else Pv (i + 1) H3) (hd : ∀ H, Pv n H → Qd H) :
    ∃ W : Nat → Nat → Hp → Prop, (∃ m, W 0 m (upd H1 D (.dK []))) ∧ ∀ i m H, W i m H →
      (J.stop i H ∧ Qd H) ∨ (J.go i H ∧ ∃ Nx : Hp → Prop, (∀ H', Nx H' → ∃ m', m' < m ∧ W (i + 1) m' H') ∧ ∀ x H', J.yld i H x H' → g x (wipe σ vs) H' fun σ2 H2 => wipe σ2 vs = wipe σ vs ∧ tt σ2 H2 fun b H3 =>
        if b = true then tk σ2 H3 fun y H4 => tv σ2 H4 fun z H5 => ∃ kvs k, y = kV k ∧ H5 D = some (.dK kvs) ∧ kvs.length < sizeLine ∧ Nx (upd H5 D (.dK (putK kvs k z))) else Nx H3) := by
  refine ⟨fun i m H => m = n - i ∧ i ≤ n ∧ Pv i H, ⟨n, by simp, Nat.zero_le _, h0⟩, ?_⟩
  rintro i m H ⟨rfl, hi, p⟩
  have q := hG i H hi p
  by_cases hlt : i < n
  · refine .inr ⟨w.goes i H hlt q, Pv (i + 1), fun H' p' => ⟨n - (i + 1), by omega, rfl, hlt, p'⟩, fun x H' y => hs i x H H' hlt p (w.yields i H x H' hlt q y)⟩
  · obtain rfl : i = n := by omega
    exact .inl ⟨w.stops H q, hd H p⟩
end LT

namespace LT
open PySem PySem.Spec PyProof.Rows L2
open Sem (wp)
open AutoSeq1 (wpAny_loadPart')
theorem meets_enum_tup (l : Addr) (items : Array Value) (n : Nat) (dct : Option Addr) (sl : Array (Option Value)) :
    Meets (Builtin.«enumerate.__new__» ⟨[.type "enumerate", .ref l], []⟩) (fun _ R s => s.heap.get? l = some { cls := .type "tuple", dict := dct, data := .seq items n, slots := sl } ∧
      R (.ok (.ret (.ref (s.heap.objs.size + 1))))
        { s with heap := (s.heap.push { cls := .type "tuple_iterator", data := .fields #[.ref l, .int 0 0] }).push { cls := .type "enumerate", data := .fields #[.none, .bool false, .ref s.heap.objs.size, rawInt 0, .none, .none] } }) :=
  .of_wp fun prog w A R s h => by
    obtain ⟨hp, g, d, tk, os⟩ := s
    obtain ⟨hl, h⟩ := h
    have sub := sub_enumerate
    have tup : Heap.IsTuple (Shared.heap ⟨hp, g, d, tk, os⟩) l items := ⟨_, hl, rfl, n, rfl⟩
    wp_walk using wpAny_loadPart' hl
    refine wpAny_stack_any fun st => wpAny_pure ?_
    have z : (hp.push { cls := .type "tuple_iterator", data := .fields #[.ref l, .int 0 0] }).objs.size = hp.objs.size + 1 := Heap.size_push ..
    split
    · rename_i c _ _ _ _ _
      cases (c == Value.type "enumerate")
      · wp_walk using wpAny_loadPart' hl, wpAny_pyIter_tuple tup
        exact ⟨_, rfl, by rw [z]; exact h⟩
      · wp_walk using wpAny_loadPart' hl, wpAny_pyIter_tuple tup
        exact ⟨_, rfl, by rw [z]; exact h⟩
    · wp_walk using wpAny_loadPart' hl, wpAny_pyIter_tuple tup
      exact ⟨_, rfl, by rw [z]; exact h⟩
section
variable {prog : Program} {w : World} {A : Around} {E : Value → Shared → Prop} {s : Shared}
theorem call_enum_tup {l : Addr} {items : Array Value} {Q : Value → Shared → Prop} (hl : s.heap.IsTuple l items)
    (h : ∀ h', IsEnum h' (s.heap.objs.size + 1) s.heap.objs.size 0 .none → h'.IsTupleIter s.heap.objs.size l 0 →
      (∀ b o, s.heap.get? b = some o → h'.get? b = some o) → Q (.ref (s.heap.objs.size + 1)) { s with heap := h' }) :
    wpAny (model prog w) A (call (.type "enumerate") [.ref l]) Q E s := by
  obtain ⟨⟨c, dct, dt, sl⟩, get, hc, n, hd⟩ := hl
  cases (show c = .type "tuple" from hc)
  cases (show dt = .seq items n from hd)
  refine callType_new F.called_enumerate (by decide) (F.typeCall_enumerate_1 _) (F.newCall_enumerate_1 _) (fun obj => F.args_object_init_2 obj _) F.entry_enumerate_new (meets_enum_tup l items n dct sl) ⟨get, ?_⟩
  have z : (s.heap.push { cls := .type "tuple_iterator", data := .fields #[.ref l, .int 0 0] }).objs.size = s.heap.objs.size + 1 := Heap.size_push ..
  have he := Heap.get?_push_size (s.heap.push { cls := .type "tuple_iterator", data := .fields #[.ref l, .int 0 0] }) (o := { cls := .type "enumerate", data := .fields #[.none, .bool false, .ref s.heap.objs.size, rawInt 0, .none, .none] }) rfl
  rw [z] at he
  exact ⟨⟨_, he, rfl⟩, h _ he ⟨_, Heap.get?_push_of_some _ (Heap.get?_push_size _ rfl), rfl, rfl⟩ fun b o x => Heap.get?_push_of_some _ (Heap.get?_push_of_some _ x)⟩
end
/-- the tuple at a, each item in a new pair with its place -/
def IteT (K : PySem.W.Frag) (a : Addr) : It :=
  ⟨fun i H => ∃ (xs : List V) (x : V), SqT K H a xs ∧ xs[i]? = some x, fun i H v H' => ∃ T x, v = .ref T ∧ H T = none ∧ H' = upd H T (.tup [.int (i : Nat), x]) ∧ ∀ xs, SqT K H a xs → xs[i]? = some x, fun i H => ∃ xs : List V, SqT K H a xs ∧ xs.length = i⟩
theorem apart_it {h : Heap} {it a : Addr} {i : Nat} {items : Array Value} (x : h.IsTupleIter it a i) (p : h.IsTuple a items) : a ≠ it := by
  rintro rfl
  obtain ⟨o, g, c, _⟩ := x
  obtain ⟨o2, g2, c2, _⟩ := p
  rw [g] at g2
  cases g2
  rw [c] at c2
  exact absurd c2 (by decide)
theorem turn_enumT {P : Program} {w : World} {K : PySem.W.Frag} {elts : List Expr} {kk : Nat} {tpos : Pos} (a e it : Addr) :
    Turn P w K (.Tuple elts kk tpos) (IteT K a) [e, it] e (fun i h => (∃ old, IsEnum h e it ((i : Nat) : Int) old) ∧ h.IsTupleIter it a i ∧ e ≠ it) where
  mem := List.mem_cons_self
  obj := fun i h ⟨⟨old, he⟩, ⟨o, ho, _, hd⟩, _⟩ b hb => by
    rcases List.mem_cons.mp hb with rfl | hb
    · exact ⟨_, he, fun v q => by cases q⟩
    · rw [List.mem_singleton.mp hb]; exact ⟨o, ho, fun v q => by rw [hd] at q; cases q⟩
  keep := fun i h h' ⟨⟨old, he⟩, hi, ne⟩ k => ⟨⟨old, k e List.mem_cons_self _ he⟩, hi.at fun o q => k it (List.mem_cons_of_mem _ List.mem_cons_self) o q, ne⟩
  item := by
    intro X hP hw hK hc i pins s σ H E I hf ⟨⟨old, he⟩, hit, ne⟩ ⟨xs, x, hq, hx⟩
    subst hP hw hK
    obtain ⟨its, rv, p, hz⟩ := I.tuple hq
    have tup : s.heap.IsTuple a its.toArray := p
    obtain ⟨u, hu, ru⟩ := rv.get hx
    have hi : i < its.toArray.size := by
      have := (List.getElem?_eq_some_iff.mp hu).1
      simpa using this
    have nai := apart_it hit tup
    have nea : e ≠ a := by
      rintro rfl
      obtain ⟨o2, g2, c2, _⟩ := tup
      rw [show s.heap.get? e = _ from he] at g2
      cases g2
      have c3 : Value.type "enumerate" = Value.type "tuple" := c2
      exact absurd c3 (by decide)
    have lte : e < s.heap.objs.size := Heap.lt_size he
    have lti : it < s.heap.objs.size := let ⟨_, q, _⟩ := hit; Heap.lt_size q
    refine wpAny_pyNext_enum_itemD (Draws.tuple (A := X.A.in1) (show X.A.in1.handled = none from I.ok.hd hc) it a nai its.toArray) he ⟨hit, tup⟩ hi ne (by simp [ne, nea]) fun y h1 tk hy out st new sz kept => ?_
    have ey : y = u := by
      have q : its.toArray[i]? = some u := by simpa using hu
      rw [q] at hy; exact (Option.some.inj hy).symm
    subst ey
    refine ⟨_, rfl, wpAny_letOwnedTupleGo_enum (s := { s with heap := h1, toks := tk + 1 }) out fun h2 he2 sb => ?_⟩
    have new2 := (sb.2 _ (Nat.ne_of_gt lte)).trans new
    have ob : ObjOk X.prog X.w (upd H s.heap.objs.size (.tup [.int (i : Nat), x])) h2 s.heap.objs.size (.tup [.int (i : Nat), x]) :=
      ⟨by show 2 ≤ sizeLine; decide, [.int i tk, y], .cons ⟨_, rfl⟩ (.cons ru .nil), ⟨_, new2, rfl, _, rfl⟩⟩
    have J : Inv X pins σ (upd H s.heap.objs.size (.tup [.int (i : Nat), x])) { s with heap := h2, toks := tk + 1 } :=
      I.turnedNew (ch := [e, it]) (fun b o nb q => (sb.2 b fun z => nb (by simp [z])).trans (kept b o (fun z => nb (by simp [z])) (fun z => nb (by simp [z])) q)) hf (Nat.le_refl _) ob
    refine ⟨.ref s.heap.objs.size, _, J, rfl, ⟨_, x, rfl, I.hok.fresh (Nat.le_refl _), rfl, fun ys hy => by rw [I.tuple_inj hy hq]; exact hx⟩, ⟨⟨y, ?_⟩, st.1.at fun o q => (sb.2 it ne.symm).trans q, ne⟩, fun b hb => ?_⟩
    · rw [show ((i + 1 : Nat) : Int) = (i : Int) + 1 by omega]; exact he2
    · have lt : b < s.heap.objs.size := by
        rcases List.mem_cons.mp hb with rfl | hb
        · exact lte
        · rw [List.mem_singleton.mp hb]; exact lti
      rw [upd_ne (Nat.ne_of_lt lt)]
      exact (hf b hb).1
  done := by
    intro X hP hw hK hc i pins s σ H E I hf ⟨⟨old, he⟩, hit, ne⟩ ⟨xs, hq, hx⟩
    subst hP hw hK
    obtain ⟨its, rv, p, hz⟩ := I.tuple hq
    have tup : s.heap.IsTuple a its.toArray := p
    have nai := apart_it hit tup
    have hl := rv.length
    have ei : i = its.toArray.size := by rw [List.size_toArray, ← hl]; exact hx.symm
    subst ei
    obtain ⟨f0, f1, f2, f3, f4, f5⟩ := hf it (by simp)
    exact wpAny_pyNext_enum_endD (Draws.tuple (A := X.A.in1) (show X.A.in1.handled = none from I.ok.hd hc) it a nai its.toArray) he ⟨hit, tup⟩ fun h1 eb => ⟨rfl, I.turned (t' := s.toks) (fun b o nb q => eb b o nb q) f0 f1 f3 f4 f5⟩
  self := fun A i s Q E ⟨⟨_, he⟩, _⟩ h => wpAny_pyIter_enum he h
def iEnumT (K : PySem.W.Frag) (ta : TA) : TI := fun σ H R => ta σ H fun vs H1 => ∃ a xs, vs = [.ref a] ∧ SqT K H1 a xs ∧ R (IteT K a) H1
/-- enumerate(t), t a tuple -/
theorem pi_enumT {X : Cx} {e : Expr} {ta : TA} {p pos tpos : Pos} {elts : List Expr} {kk : Nat} (hg : Gl X "enumerate") (hm : X.mg "enumerate" = none) (ha : PA X [e] ta) (hs : starEach [e] X.env = [(false, eval e X.env)] := by rfl) :
    PI X (.Tuple elts kk tpos) (.Call (.Name "enumerate" p) [e] [] pos) (iEnumT X.K ta) := by
  constructor
  intro pins s σ H R I want
  refine Call_ (ld_blt I hg hm boot_enumerate (PyProof.Rows.callWith_type1 (thn (ha.run pos pins s σ H _ I want) ?_) hs rfl))
  rintro us s1 ⟨vs, H1, J, rel, a, xs, rfl, hq, q⟩
  obtain ⟨u, rfl, ru⟩ := vals1 rel
  cases ru
  obtain ⟨its, rv, p2, hz⟩ := J.tuple hq
  refine call_enum_tup p2 fun h1 he hit keep => wpAny_pyIter_enum he ?_
  have J2 : Inv X pins σ H1 { s1 with heap := h1 } := J.kept (t' := s1.toks) keep
  refine ⟨s1.heap.objs.size + 1, [s1.heap.objs.size + 1, s1.heap.objs.size], _, _, H1, rfl, J2, turn_enumT a _ _, ⟨⟨.none, he⟩, hit, Nat.succ_ne_self _⟩, fun b hb => ?_, q⟩
  have le : s1.heap.objs.size ≤ b := by
    rcases List.mem_cons.mp hb with rfl | hb
    · exact Nat.le_add_right _ _
    · rw [List.mem_singleton.mp hb]; exact Nat.le_refl _
  exact J.fpOk le (J.hok.fresh le)
theorem walk_enumT {K : PySem.W.Frag} {a : Addr} {xs : List V} : Walk (IteT K a) xs.length (fun H => SqT K H a xs) (YPair (fun i => some (.int (i : Nat))) (fun i => xs[i]?)) := by
  refine ⟨fun i _ hi q => ⟨xs, xs[i], q, by simp [hi]⟩, fun _ q => ⟨xs, q, rfl⟩, fun i H v H' _ q y => ?_⟩
  obtain ⟨T, x, h1, h2, h3, h4⟩ := y
  exact ⟨T, .int (i : Nat), x, h1, h2, h3, rfl, h4 xs q⟩
/-- two derivations of one expression: either reading serves -/
theorem PE.or {X : Cx} {e : Expr} {t u : TE} (h1 : PE X e t) (h2 : PE X e u) : PE X e (fun σ H Q => t σ H Q ∨ u σ H Q) :=
  ⟨fun pins s σ H Q I w => w.elim (h1.run pins s σ H Q I) (h2.run pins s σ H Q I)⟩
theorem PI.or {X : Cx} {tg e : Expr} {t u : TI} (h1 : PI X tg e t) (h2 : PI X tg e u) : PI X tg e (fun σ H R => t σ H R ∨ u σ H R) :=
  ⟨fun pins s σ H R I w => w.elim (h1.run pins s σ H R I) (h2.run pins s σ H R I)⟩
end LT

namespace LT
open PySem PySem.Spec PyProof.Rows L2
/-- zip of the tuple at a and the list at b, as many turns as both have -/
def ItzTL (K : PySem.W.Frag) (a b : Addr) : It :=
  ⟨fun i H => ∃ (xs ys : List V) (x y : V), SqT K H a xs ∧ SqL K H b ys ∧ xs[i]? = some x ∧ ys[i]? = some y,
    fun i H v H' => ∃ T x y, v = .ref T ∧ H T = none ∧ H' = upd H T (.tup [x, y]) ∧ (∀ xs, SqT K H a xs → xs[i]? = some x) ∧ ∀ ys, SqL K H b ys → ys[i]? = some y,
    fun i H => ∃ xs ys : List V, SqT K H a xs ∧ SqL K H b ys ∧ xs.length = i ∧ ys.length = i⟩
theorem sep_tl {z TI TO i1 i2 a b : Addr} (D : ZipApart z TI TO i1 i2 a b) : ZipSep2 z TI TO i1 i2 [i1, a] [i2, b] where
  TIz := D.TIz
  TOz := D.TOz
  TITO := D.TITO
  TIi1 := D.TIi1
  mem1 := List.mem_cons_self
  zf1 := by simp [D.i1z.symm, D.l1z.symm]
  Tf1 := by simp [D.TOi1, D.l1TO.symm]
  TIi2 := D.TIi2
  mem2 := List.mem_cons_self
  zf2 := by simp [D.i2z.symm, D.l2z.symm]
  Tf2 := by simp [D.TOi2, D.l2TO.symm]
  sep1_2 := by simp [D.i12, D.l2i1.symm]
  sep2_1 := by simp [D.i12.symm, D.l1i2.symm]
theorem turn_zipTL {P : Program} {w : World} {K : PySem.W.Frag} {elts : List Expr} {kk : Nat} {tpos : Pos} {a b z TI TO i1 i2 : Addr} (D : ZipApart z TI TO i1 i2 a b) :
    Turn P w K (.Tuple elts kk tpos) (ItzTL K a b) [z, TI, TO, i1, i2] z (fun i h => IsZip h z TI TO .none ∧ IsTupOf2 h TI (.ref i1) (.ref i2) ∧ (∃ x y, IsTupOf2 h TO x y) ∧ h.IsTupleIter i1 a i ∧ h.IsListIter i2 b i) where
  mem := List.mem_cons_self
  obj := fun i h ⟨hz, hTI, ⟨x, y, hTO⟩, ⟨o1, e1, _, d1⟩, ⟨o2, e2, _, d2⟩⟩ c hc => by
    simp only [List.mem_cons, List.not_mem_nil, or_false] at hc
    rcases hc with rfl | rfl | rfl | rfl | rfl
    · exact ⟨_, hz, fun v q => by cases q⟩
    · exact ⟨_, hTI, fun v q => by cases q⟩
    · exact ⟨_, hTO, fun v q => by cases q⟩
    · exact ⟨o1, e1, fun v q => by rw [d1] at q; cases q⟩
    · exact ⟨o2, e2, fun v q => by rw [d2] at q; cases q⟩
  keep := fun i h h' ⟨hz, hTI, ⟨x, y, hTO⟩, h1, h2⟩ k =>
    ⟨k z (by simp) _ hz, k TI (by simp) _ hTI, ⟨x, y, k TO (by simp) _ hTO⟩, h1.at fun o q => k i1 (by simp) o q, h2.at fun o q => k i2 (by simp) o q⟩
  item := by
    intro X hP hw hK hc i pins s σ H E I hf ⟨hz, hTI, ⟨x0, y0, hTO⟩, h1, h2⟩ ⟨xs, ys, x, y, qx, qy, hx, hy⟩
    subst hP hw hK
    obtain ⟨its, rv, p, _⟩ := I.tuple qx
    obtain ⟨its2, rv2, p2, _⟩ := I.list qy
    have tup : s.heap.IsTuple a its.toArray := p
    obtain ⟨u, hu, ru⟩ := rv.get hx
    obtain ⟨u2, hu2, ru2⟩ := rv2.get hy
    have li : i < its.toArray.size := by have := (List.getElem?_eq_some_iff.mp hu).1; simpa using this
    have li2 : i < its2.toArray.size := by have := (List.getElem?_eq_some_iff.mp hu2).1; simpa using this
    have hh : X.A.in1.handled = none := I.ok.hd hc
    have ltz : z < s.heap.objs.size := Heap.lt_size hz
    refine wpAny_pyNext_zipD2_item (sep_tl D) (Draws.tuple hh i1 a D.l1i1 its.toArray) (Draws.list hh i2 b D.l2i2 its2.toArray) hz hTI hTO ⟨h1, tup⟩ ⟨h2, p2.isList⟩ li li2 fun v1 v2 h3 tk y1 y2 z3 TO3 st1 st2 new sz kept => ?_
    have ev1 : v1 = u := by
      have q : its.toArray[i]? = some u := by simpa using hu
      rw [q] at y1; exact (Option.some.inj y1).symm
    have ev2 : v2 = u2 := by
      have q : its2.toArray[i]? = some u2 := by simpa using hu2
      rw [q] at y2; exact (Option.some.inj y2).symm
    subst ev1 ev2
    refine ⟨_, rfl, wpAny_letOwnedTupleGo_zip (s := { s with heap := h3, toks := tk }) z3 fun h4 z4 sb => ?_⟩
    have new4 := (sb.2 _ (Nat.ne_of_gt ltz)).trans new
    have ob : ObjOk X.prog X.w (upd H s.heap.objs.size (.tup [x, y])) h4 s.heap.objs.size (.tup [x, y]) :=
      ⟨by show 2 ≤ sizeLine; decide, [v1, v2], .cons ru (.cons ru2 .nil), ⟨_, new4, rfl, _, rfl⟩⟩
    have J : Inv X pins σ (upd H s.heap.objs.size (.tup [x, y])) { s with heap := h4, toks := tk } :=
      I.turnedNew (ch := [z, TI, TO, i1, i2]) (fun c o nb q => (sb.2 c fun e => nb (by simp [e])).trans (kept c o (fun e => nb (by simp [e])) (fun e => nb (by simp [e])) (fun e => nb (by simp [e])) (fun e => nb (by simp [e])) q)) hf (Nat.le_refl _) ob
    refine ⟨.ref s.heap.objs.size, _, J, rfl, ⟨_, x, y, rfl, I.hok.fresh (Nat.le_refl _), rfl, fun l hl => by rw [I.tuple_inj hl qx]; exact hx, fun l hl => by rw [I.list_inj hl qy]; exact hy⟩, ⟨z4, ?_, ⟨v1, v2, ?_⟩, ?_, ?_⟩, fun c hm => ?_⟩
    · exact (sb.2 _ D.TIz).trans (kept _ _ D.TIz D.TITO D.TIi1 D.TIi2 hTI)
    · exact (sb.2 _ D.TOz).trans TO3
    · exact st1.1.at fun o q => (sb.2 _ D.i1z).trans q
    · exact st2.1.at fun o q => (sb.2 _ D.i2z).trans q
    · have lt : c < s.heap.objs.size := by
        have hm2 := hm
        simp only [List.mem_cons, List.not_mem_nil, or_false] at hm2
        rcases hm2 with rfl | rfl | rfl | rfl | rfl
        · exact ltz
        · exact Heap.lt_size hTI
        · exact Heap.lt_size hTO
        · obtain ⟨_, e1, _⟩ := h1; exact Heap.lt_size e1
        · obtain ⟨_, e2, _⟩ := h2; exact Heap.lt_size e2
      rw [upd_ne (Nat.ne_of_lt lt)]
      exact (hf c hm).1
  done := by
    intro X hP hw hK hc i pins s σ H E I hf ⟨hz, hTI, ⟨x0, y0, hTO⟩, h1, h2⟩ ⟨xs, ys, qx, qy, e1, e2⟩
    subst hP hw hK
    obtain ⟨its, rv, p, _⟩ := I.tuple qx
    obtain ⟨its2, rv2, p2, _⟩ := I.list qy
    have tup : s.heap.IsTuple a its.toArray := p
    have n1 : i = its.toArray.size := by rw [List.size_toArray, ← rv.length]; exact e1.symm
    have n2 : i = its2.toArray.size := by rw [List.size_toArray, ← rv2.length]; exact e2.symm
    have hh : X.A.in1.handled = none := I.ok.hd hc
    exact wpAny_pyNext_zipD2_end (sep_tl D) (Draws.tuple hh i1 a D.l1i1 its.toArray) (Draws.list hh i2 b D.l2i2 its2.toArray) hz hTI hTO ⟨h1, tup⟩ ⟨h2, p2.isList⟩ (Nat.le_of_eq n1) (Nat.le_of_eq n2) (.inl n1) fun h3 tk kept =>
      ⟨rfl, I.turnedL (ch := [z, TI, TO, i1, i2]) (fun c o nb q => kept c o (fun e => nb (by simp [e])) (fun e => nb (by simp [e])) (fun e => nb (by simp [e])) (fun e => nb (by simp [e])) q) hf⟩
  self := fun A i s Q E st h => wpAny_pyIter_zip st.1 h
def iZipTL (K : PySem.W.Frag) (ta : TA) : TI := fun σ H R => ta σ H fun vs H1 => ∃ a b xs ys, vs = [.ref a, .ref b] ∧ SqT K H1 a xs ∧ SqL K H1 b ys ∧ R (ItzTL K a b) H1
theorem pi_zipTL {X : Cx} {e e2 : Expr} {ta : TA} {p pos tpos : Pos} {elts : List Expr} {kk : Nat} (hg : Gl X "zip") (hm : X.mg "zip" = none) (ha : PA X [e, e2] ta)
    (hs : starEach [e, e2] X.env = (false, eval e X.env) :: starEach [e2] X.env := by rfl) (hpl : (backTo pos (starEach [e2] X.env)).any (·.1) = false := by rfl) :
    PI X (.Tuple elts kk tpos) (.Call (.Name "zip" p) [e, e2] [] pos) (iZipTL X.K ta) := by
  constructor
  intro pins s σ H R I want
  refine Call_ (ld_blt I hg hm PyProof.Rows.boot_zip (PyProof.Rows.callWith_type1 (thn (ha.run pos pins s σ H _ I want) ?_) hs hpl))
  rintro us s1 ⟨vs, H1, J, rel, a, b, xs, ys, rfl, qx, qy, q⟩
  obtain ⟨u1, u2, rfl, r1, r2⟩ := vals2 rel
  cases r1
  cases r2
  obtain ⟨its, rv, p1, _⟩ := J.tuple qx
  obtain ⟨its2, rv2, p2, _⟩ := J.list qy
  have la : a < s1.heap.objs.size := let ⟨_, g, _⟩ := p1; Heap.lt_size g
  refine zip_begins2 (begins_tuple a its.toArray) (begins_list b its2.toArray) p1 p2.isList fun h' hz hTI hTO g1 g2 sz keep => wpAny_pyIter_zip hz ?_
  have J2 : Inv X pins σ H1 { s1 with heap := h' } := J.kept (t' := s1.toks) keep
  refine ⟨s1.heap.objs.size + 4, [s1.heap.objs.size + 4, s1.heap.objs.size + 2, s1.heap.objs.size + 3, s1.heap.objs.size, s1.heap.objs.size + 1], _, _, H1, rfl, J2, turn_zipTL (PySem.W.ktu_apart s1.heap.objs.size a b la p2.lt),
    ⟨hz, hTI, ⟨_, _, hTO⟩, ⟨_, g1, rfl, rfl⟩, ⟨_, g2, rfl, rfl⟩⟩, fun c hc => ?_, q⟩
  have le : s1.heap.objs.size ≤ c := by
    simp only [List.mem_cons, List.not_mem_nil, or_false] at hc
    rcases hc with rfl | rfl | rfl | rfl | rfl <;> first | exact Nat.le_add_right _ _ | exact Nat.le_refl _
  exact J.fpOk le (J.hok.fresh le)
theorem walk_zipTL {K : PySem.W.Frag} {a b : Addr} {xs ys : List V} (hl : xs.length = ys.length) : Walk (ItzTL K a b) xs.length (fun H => SqT K H a xs ∧ SqL K H b ys) (YPair (fun i => xs[i]?) (fun i => ys[i]?)) := by
  refine ⟨fun i _ hi q => ⟨xs, ys, xs[i], ys[i]'(by omega), q.1, q.2, by simp [hi], by simp [show i < ys.length by omega]⟩, fun _ q => ⟨xs, ys, q.1, q.2, rfl, hl.symm⟩, fun i H v H' _ q y => ?_⟩
  obtain ⟨T, x, y2, h1, h2, h3, h4, h5⟩ := y
  exact ⟨T, x, y2, h1, h2, h3, h4 xs q.1, h5 ys q.2⟩
end LT

namespace LG
open PySem PySem.Spec PyProof.Rows L2
section
variable {X : Cx}
/-- repr of a bool -/
theorem call_repr_bl : CallR X (.builtin "repr") (fun xs H Q => ∃ b : Bool, xs = [.bl b] ∧ Q (.str (if b then "True" else "False")) H) := by
  intro pins s σ H xs us Q I r h
  obtain ⟨b, rfl, q⟩ := h
  obtain ⟨u, rfl, ru⟩ := vals1 r
  cases ru
  exact PySem.P.repr_of_bool ⟨.str _, H, I.tok _, ⟨_, rfl⟩, q⟩
/-- repr of data: lists, tuples, ints, bools -/
def rReprA (K : PySem.W.Frag) : List V → Hp → VK → Prop := fun xs H Q => (∃ b : Bool, xs = [.bl b] ∧ Q (.str (if b then "True" else "False")) H) ∨ (∃ i : Int, xs = [.int i] ∧ i.natAbs.log2 < 1920 ∧ Q (.str (toString i)) H) ∨ rRepr K xs H Q
theorem call_reprA (hgd : X.A.guards = some []) (hu : X.A.units + 66 < cLine) : CallR X (.builtin "repr") (rReprA X.K) := by
  intro pins s σ H xs us Q I r h
  rcases h with h | h | h
  · exact call_repr_bl pins s σ H xs us Q I r h
  · exact SkE.call_repr_int pins s σ H xs us Q I r h
  · exact call_repr hgd hu pins s σ H xs us Q I r h
end
end LG

/-! what the laws share: tests, values, the bag, lists or tuples -/
namespace LP
open PySem L2 LT LG
theorem iteD {c A B : Prop} [Decidable c] (hc : c) (h : A) : if decide c = true then A else B := by
  rw [if_pos (decide_eq_true hc)]; exact h
theorem iteX {c A B : Prop} [Decidable c] (hc : ¬ c) (h : B) : if decide c = true then A else B := by
  rw [if_neg (by rw [decide_eq_false hc]; exact Bool.false_ne_true)]; exact h
theorem iteNX {c A B : Prop} [Decidable c] (hc : ¬ c) (h : A) : if (!decide c) = true then A else B := by
  rw [decide_eq_false hc]; exact iteT h
theorem ite2d {c A B : Prop} [Decidable c] (h1 : c → A) (h2 : ¬ c → B) : if decide c = true then A else B := by
  by_cases h : c
  · exact iteD h (h1 h)
  · exact iteX h (h2 h)
theorem iteNB {b : Bool} {A B : Prop} (hb : b = true) (h : B) : if (!b) = true then A else B := by
  subst hb; exact iteF h
theorem iteNF {b : Bool} {A B : Prop} (hb : b = false) (h : A) : if (!b) = true then A else B := by
  subst hb; exact iteT h
theorem iteB {b : Bool} {A B : Prop} (hb : b = true) (h : A) : if b = true then A else B := by
  subst hb; exact iteT h
theorem iteBF {b : Bool} {A B : Prop} (hb : b = false) (h : B) : if b = true then A else B := by
  subst hb; exact iteF h
theorem idx_before {α : Type} [BEq α] [LawfulBEq α] {a : α} : ∀ {l : List α} {m : Nat}, m < l.idxOf a → l[m]? ≠ some a
  | [], m, h => by simp at h
  | b :: r, 0, h => by
    intro e
    have e1 : b = a := Option.some.inj e
    subst e1
    rw [List.idxOf_cons] at h
    simp at h
  | b :: r, m + 1, h => by
    rw [List.idxOf_cons] at h
    by_cases q : (b == a) = true
    · simp [q] at h
    · rw [Bool.not_eq_true] at q
      rw [q] at h
      have h' : m + 1 < r.idxOf a + 1 := h
      exact idx_before (l := r) (m := m) (by omega)
theorem idx_get {α : Type} [BEq α] [LawfulBEq α] {a : α} {l : List α} (h : a ∈ l) : l[l.idxOf a]? = some a := by
  have h1 := List.idxOf_lt_length_iff.mpr h
  rw [List.getElem?_eq_getElem h1]
  have h2 := List.findIdx_getElem (p := (· == a)) (xs := l) (w := h1)
  exact congrArg some (eq_of_beq h2)

theorem same_upd {H : Hp} {p : Addr} {o : HO} (h : H p = Option.none) : Same H (upd H p o) := fun b x e => by rw [upd_ne (ne_of_none e h)]; exact e
/-- all but the bag at b is as it was -/
def Fr (H H' : Hp) (b : Addr) : Prop := ∀ a o, H a = some o → a ≠ b → H' a = some o
theorem Fr.refl (H : Hp) (b : Addr) : Fr H H b := fun _ _ h _ => h
theorem Fr.trans {H H1 H2 : Hp} {b : Addr} (a : Fr H H1 b) (c : Fr H1 H2 b) : Fr H H2 b := fun x o h n => c x o (a x o h n) n
theorem Fr.of {H H' : Hp} {b : Addr} (s : Same H H') : Fr H H' b := fun a o h _ => s a o h
theorem Fr.free {H H' : Hp} {b l : Addr} (e : Fr H H' b) (hb : ∃ o, H b = some o) (h : H' l = Option.none) (h' : ∃ o, H' b = some o) : H l = Option.none := by
  cases q : H l with
  | none => rfl
  | some o =>
    by_cases hl : l = b
    · subst hl; obtain ⟨o', h'⟩ := h'; rw [h'] at h; cases h
    · rw [e l o q hl] at h; cases h
abbrev M61 : Int := 2305843009213693951
/-- the bag: the script's copy at l, the place in it, the rest of a large cell, the number of draws (at most d), the script's sum -/
structure Bag (H : Hp) (b l : Addr) (ns : List Int) (d : Nat) : Prop where
  ex : ∃ i c k t : Int, H b = some (.lst [.ref l, .int i, .int c, .int k, .int t]) ∧ 0 ≤ i ∧ i ≤ ns.length ∧ 0 ≤ k ∧ k ≤ d ∧ 0 ≤ t ∧ t < M61
  ls : H l = some (.lst (ns.map V.int))
  ne : l ≠ b
theorem Bag.mono {H : Hp} {b l : Addr} {ns : List Int} {d d' : Nat} (g : Bag H b l ns d) (h : d ≤ d') : Bag H b l ns d' := by
  obtain ⟨⟨i, c, k, t, h1, h2, h3, h4, h5, h6⟩, ls, ne⟩ := g
  exact ⟨⟨i, c, k, t, h1, h2, h3, h4, by omega, h6⟩, ls, ne⟩
theorem Bag.same {H H' : Hp} {b l : Addr} {ns : List Int} {d : Nat} (g : Bag H b l ns d) (s : Same H H') : Bag H' b l ns d := by
  obtain ⟨⟨i, c, k, t, h1, h2⟩, ls, ne⟩ := g
  exact ⟨⟨i, c, k, t, s _ _ h1, h2⟩, s _ _ ls, ne⟩

theorem flat_ints (l : List Int) : (l.map V.int).all flatV = true := by
  rw [List.all_eq_true]; intro v hv; obtain ⟨i, _, rfl⟩ := List.mem_map.mp hv; rfl
theorem in_ints {p : Int} {l : List Int} : inV (.int p) (l.map V.int) = decide (p ∈ l) := by
  induction l with
  | nil => rfl
  | cons a r ih =>
    show (eqV (.int a) (.int p) || inV (.int p) (r.map V.int)) = _
    rw [ih]
    show ((a == p) || decide (p ∈ r)) = _
    by_cases h : a = p
    · subst h; simp
    · have h2 : ¬ p = a := fun q => h q.symm
      simp [h, h2]

theorem Bag.nb {H : Hp} {b l : Addr} {ns : List Int} {d : Nat} (g : Bag H b l ns d) : ∃ o, H b = some o := let ⟨⟨_, _, _, _, h, _⟩, _, _⟩ := g; ⟨_, h⟩
theorem Bag.ne_new {H : Hp} {b l p : Addr} {ns : List Int} {d : Nat} (g : Bag H b l ns d) (hp : H p = none) : p ≠ b := by
  obtain ⟨o, h⟩ := g.nb
  exact (ne_of_none h hp).symm
theorem Bag.l_ne {H : Hp} {b l p : Addr} {ns : List Int} {d : Nat} (g : Bag H b l ns d) (hp : H p = none) : l ≠ p := ne_of_none g.ls hp

section
variable (K : PySem.W.Frag)
def sp__law_bag : Sp := fun vs H Q _ => ∃ (a : Addr) (ns : List Int), vs = [.ref a] ∧ SqL K H a (ns.map V.int) ∧ ns.length ≤ 63 ∧ ∀ (H' : Hp) (b l : Addr), Same H H' → H b = none → H l = none → Bag H' b l ns 0 → Q (.ref b) H'
def sp__law_stir : Sp := fun vs H Q _ => ∃ x y : Int, vs = [.int x, .int y] ∧ 0 ≤ x ∧ x < M61 ∧ 0 ≤ y ∧ y < 2 ^ 40 ∧ ∀ r : Int, Q (.int r) H
def sp__law_draw : Sp := fun vs H Q _ => ∃ (b l : Addr) (ns : List Int) (d : Nat) (n : Int), vs = [.ref b, .int n] ∧ Bag H b l ns d ∧ 0 < n ∧ n.natAbs.log2 < 9000 ∧ d < 1000000 ∧ ns.length ≤ 63 ∧
  ∀ (H' : Hp) (r : Int), 0 ≤ r → r < n → Bag H' b l ns (d + 1) → Fr H H' b → Q (.int r) H'


end
/-- what len asks of a list or a tuple -/
def rLenS (K : PySem.W.Frag) : List V → Hp → VK → Prop := fun vs H Q => ∃ a xs, vs = [.ref a] ∧ (SqL K H a xs ∨ SqT K H a xs) ∧ Q (.int xs.length) H
theorem u1 {k : Nat} {A : Around} (r : Room k A) : A.units + 1 < cLine := by have := r.un; omega
theorem u66 {k : Nat} {A : Around} (r : Room k A) : A.units + 66 < cLine := by have := r.un; omega
theorem ixN_at {n j : Nat} (h : j < n) : ixN n (j : Int) = some j := by
  unfold ixN; rw [if_pos (by omega), if_pos (by omega)]; congr 1
/-- a list or a tuple -/
def SqE (K : PySem.W.Frag) (H : Hp) (a : Addr) (xs : List V) : Prop := SqL K H a xs ∨ SqT K H a xs
theorem same_tup {K : PySem.W.Frag} {H H' : Hp} {a : Addr} {xs : List V} (e : Same H H') (h : SqT K H a xs) : SqT K H' a xs := by
  rcases h with (h | ⟨o, h⟩) | h
  · exact .inl (.inl (e _ _ h))
  · exact .inl (.inr ⟨o, e _ _ h⟩)
  · exact .inr h
theorem SqE.same {K : PySem.W.Frag} {H H' : Hp} {a : Addr} {xs : List V} (h : SqE K H a xs) (e : Same H H') : SqE K H' a xs := h.imp e.seq (same_tup e)
theorem SqE.l {K : PySem.W.Frag} {H : Hp} {a : Addr} {xs : List V} (h : H a = some (.lst xs)) : SqE K H a xs := .inl (SqL.of h)
theorem SqE.t {K : PySem.W.Frag} {H : Hp} {a : Addr} {xs : List V} (h : H a = some (.tup xs)) : SqE K H a xs := .inr (SqT.of h)
theorem rd_ix {K : PySem.W.Frag} {H : Hp} {a : Addr} {Q : VK} {xs : List V} {j : Nat} {v : V} {z : Int} (h : SqL K H a xs) (e : xs[j]? = some v) (hz : z = (j : Int)) (q : Q v H) : rIxL K (.ref a) (.int z) H Q :=
  ⟨a, xs, z, v, rfl, rfl, h, at_of hz e, q⟩
theorem int_at {ns : List Int} {j : Nat} {x : Int} (h : ns[j]? = some x) : (ns.map V.int)[j]? = some (V.int x) := by rw [List.getElem?_map, h]; rfl
theorem at_int {ns : List Int} {j : Nat} {v : V} (h : (ns.map V.int)[j]? = some v) : ∃ x, ns[j]? = some x ∧ v = .int x := by
  rw [List.getElem?_map] at h
  cases q : ns[j]? with
  | none => rw [q] at h; cases h
  | some x => rw [q] at h; cases h; exact ⟨x, rfl, rfl⟩
/-! a walk over a list or a tuple: one turn for both -/
theorem or_E {K : PySem.W.Frag} {H : Hp} {a : Addr} {xs : List V} {σ : St} {i : Nat} {R : It → Hp → Prop} (hE : SqE K H a xs) (hv : σ[i]? = some (some (.ref a))) (k : ∀ (J : It) (G : Hp → Prop), Walk J xs.length G (YAt xs) → (∀ H', Same H H' → G H') → R J H) :
    iList K (tVar i) σ H R ∨ iTup K (tVar i) σ H R := by
  rcases hE with h | h
  · exact .inl ⟨_, hv, a, rfl, ⟨_, h⟩, k _ _ walk_list fun H' s => s.seq h⟩
  · exact .inr ⟨_, hv, a, rfl, ⟨_, h⟩, k _ _ walk_tup fun H' s => same_tup s h⟩
theorem or_enumE {K : PySem.W.Frag} {H : Hp} {a : Addr} {xs : List V} {σ : St} {R : It → Hp → Prop} {ta : TA} (hE : SqE K H a xs) (hv : ∀ Q : List V → Hp → Prop, Q [.ref a] H → ta σ H Q)
    (k : ∀ (J : It) (G : Hp → Prop), Walk J xs.length G (YPair (fun i => some (.int (i : Nat))) (fun i => xs[i]?)) → (∀ H', Same H H' → G H') → R J H) :
    iEnum K ta σ H R ∨ iEnumT K ta σ H R := by
  rcases hE with h | h
  · exact .inl (hv _ ⟨a, xs, rfl, h, k _ _ walk_enum fun H' s => s.seq h⟩)
  · exact .inr (hv _ ⟨a, xs, rfl, h, k _ _ walk_enumT fun H' s => same_tup s h⟩)
theorem or_zipE {K : PySem.W.Frag} {H : Hp} {a : Addr} {xs ys : List V} {σ : St} {R : It → Hp → Prop} {ta : TA} (hE : SqE K H a xs) (hl : xs.length = ys.length)
    (hv : ∀ Q : List V → Hp → Prop, (∀ H1 p, Same H H1 → H p = none → H1 p = some (.lst ys) → Q [.ref a, .ref p] H1) → ta σ H Q)
    (k : ∀ (H1 : Hp) (p : Addr) (J : It) (G : Hp → Prop), Same H H1 → H p = none → H1 p = some (.lst ys) → Walk J xs.length G (YPair (fun i => xs[i]?) (fun i => ys[i]?)) → (∀ H', Same H1 H' → G H') → R J H1) :
    iZip K ta σ H R ∨ iZipTL K ta σ H R := by
  rcases hE with h | h
  · exact .inl (hv _ fun H1 p s np hp => ⟨a, p, xs, ys, rfl, s.seq h, SqL.of hp, k _ p _ _ s np hp (walk_zip (by omega)) fun H' t => ⟨t.seq (s.seq h), SqL.of (t _ _ hp)⟩⟩)
  · exact .inr (hv _ fun H1 p s np hp => ⟨a, p, xs, ys, rfl, same_tup s h, SqL.of hp, k _ p _ _ s np hp (walk_zipTL hl) fun H' t => ⟨same_tup t (same_tup s h), SqL.of (t _ _ hp)⟩⟩)
theorem ty_E {K : PySem.W.Frag} {H : Hp} {a : Addr} {xs : List V} (h : SqE K H a xs) : TyX K H (.ref a) (.type "list") ∨ TyX K H (.ref a) (.type "tuple") := by
  rcases h with ((h | ⟨o, h⟩) | ⟨dd, its, n, h1, h2⟩) | ((h | ⟨o, h⟩) | ⟨dd, its, n, h1, h2⟩)
  · exact .inl (.base (.lst h))
  · exact .inl (.base (.frz h))
  · exact .inl (.kList h1 h2.1)
  · exact .inr (.base (.tup h))
  · exact .inr (.fTuple h)
  · exact .inr (.kTuple h1 h2.1)
theorem kit_lt {K : PySem.W.Frag} : PySem.W.kitAny K (.type "list") [.type "list", .type "tuple"] = some true := kitAny_cons (b := true) (kit_ty (by decide +kernel)) (fun z => nomatch z) fun _ => rfl
theorem kit_tt {K : PySem.W.Frag} : PySem.W.kitAny K (.type "tuple") [.type "list", .type "tuple"] = some true := kitAny_cons (b := false) (kit_ty (by decide +kernel)) (fun _ => kitAny_cons (b := true) (kit_ty (by decide +kernel)) (fun z => nomatch z) fun _ => rfl) fun z => nomatch z
/-! patterns as texts -/
def sgn (b : Bool) : Nat := if b = true then 84 else 82
def pstr (l : List Bool) : Str := ⟨(l.map sgn).toArray⟩
theorem pstr_nil : pstr [] = ("" : Str) := by decide +kernel
theorem pstr_T (l : List Bool) : pstr l ++ ("T" : Str) = pstr (l ++ [true]) := by
  show (⟨(l.map sgn).toArray ++ ("T" : Str).cps⟩ : Str) = _
  rw [show ("T" : Str).cps = #[84] by decide +kernel]
  simp [pstr, sgn]
theorem pstr_R (l : List Bool) : pstr l ++ ("R" : Str) = pstr (l ++ [false]) := by
  show (⟨(l.map sgn).toArray ++ ("R" : Str).cps⟩ : Str) = _
  rw [show ("R" : Str).cps = #[82] by decide +kernel]
  simp [pstr, sgn]
theorem pstr_size (l : List Bool) : (pstr l).cps.size = l.length := by simp [pstr]
theorem pstr_at {l : List Bool} {i c : Nat} (h : (pstr l).cps[i]? = some c) : ∃ b, l[i]? = some b ∧ c = sgn b := by
  simp only [pstr, List.getElem?_toArray, List.getElem?_map] at h
  cases q : l[i]? with
  | none => rw [q] at h; cases h
  | some b => rw [q] at h; cases h; exact ⟨b, rfl, rfl⟩
theorem sgnT : (⟨#[sgn true]⟩ : Str) = ("T" : Str) := by decide +kernel
theorem sgnR : (⟨#[sgn false]⟩ : Str) = ("R" : Str) := by decide +kernel
theorem R_ne_T : ¬ ((⟨#[sgn false]⟩ : Str) = ("T" : Str)) := by decide +kernel
theorem vsT : V.str ⟨#[sgn true]⟩ = V.str "T" := congrArg V.str sgnT
theorem vsR : ¬ (V.str ⟨#[sgn false]⟩ = V.str "T") := fun h => R_ne_T (V.str.inj h)
theorem vsRR : V.str ⟨#[sgn false]⟩ = V.str "R" := congrArg V.str sgnR
theorem count_T (l : List Bool) : Txt.count (pstr l) ("T" : Str) = ((l.count true : Nat) : Int) := by
  rw [show ("T" : Str) = ⟨#[84]⟩ by decide +kernel, PyProof.Rows.count_cnt]
  show PyProof.Rows.cnt 84 (l.map sgn).toArray.toList = _
  rw [List.toList_toArray]
  induction l with
  | nil => rfl
  | cons b r ih =>
    rw [List.map_cons, PyProof.Rows.cnt_cons, ih]
    cases b with
    | true => rw [if_pos (by decide)]; simp; omega
    | false => rw [if_neg (by decide)]; simp
/-! dicts by place -/
def numK (ns : List Int) : List (Key × V) := ns.zipIdx.map fun p => (.inl p.1, .int (p.2 : Nat))
theorem numK_len (ns : List Int) : (numK ns).length = ns.length := by simp [numK]
theorem putK_new {kvs : List (Key × V)} {k : Key} {v : V} (h : ∀ q ∈ kvs, q.1 ≠ k) : putK kvs k v = kvs ++ [(k, v)] := by
  unfold putK
  rw [if_neg]
  intro q
  obtain ⟨x, hx, e⟩ := List.any_eq_true.mp q
  exact h x hx (of_decide_eq_true e)
theorem numK_snoc (ns : List Int) (x : Int) : numK (ns ++ [x]) = numK ns ++ [(.inl x, .int (ns.length : Nat))] := by
  unfold numK
  rw [List.zipIdx_append]
  simp
theorem numK_put {ns : List Int} {x : Int} (h : x ∉ ns) : putK (numK ns) (.inl x) (.int (ns.length : Nat)) = numK (ns ++ [x]) := by
  rw [numK_snoc, putK_new]
  intro q hq e
  obtain ⟨⟨a, i⟩, hp, rfl⟩ := List.mem_map.mp hq
  cases e
  exact h (List.mem_of_getElem? (List.mem_zipIdx_iff_getElem?.mp hp))
theorem numK_val {ns : List Int} (nd : ns.Nodup) {j : Nat} {x : Int} (h : ns[j]? = some x) : valV (numK ns) (.inl x) = some (.int (j : Nat)) := by
  unfold valV
  have key : (numK ns).find? (fun kv => decide (kv.1 = Sum.inl x)) = some (.inl x, .int (j : Nat)) := by
    obtain ⟨hj, e⟩ := List.getElem?_eq_some_iff.mp h
    rw [List.find?_eq_some_iff_getElem]
    refine ⟨decide_eq_true rfl, j, by rw [numK_len]; exact hj, ?_, fun m hm => ?_⟩
    · simp [numK, e]
    · have hm2 : m < ns.length := by omega
      have e2 : ((numK ns)[m]'(by rw [numK_len]; omega)).1 = Sum.inl ns[m] := by simp [numK]
      rw [e2, decide_eq_false]
      · rfl
      · intro z
        cases z
        exact Nat.ne_of_lt hm ((List.getElem_inj nd).mp e.symm)
  rw [key]; rfl

theorem seq_int {n : Nat} {z : Int} (h0 : 0 ≤ z) (h : z.toNat < n) : seqIndex? z n = some z.toNat := by
  unfold seqIndex?
  have e : (if z < 0 then z + (n : Int) else z) = z := if_neg (by omega)
  simp only [e]
  rw [if_pos (by rw [Bool.and_eq_true, decide_eq_true_iff, decide_eq_true_iff]; omega)]
theorem ixN_int {n : Nat} {z : Int} (h0 : 0 ≤ z) (h : z.toNat < n) : ixN n z = some z.toNat := by
  unfold ixN
  rw [if_pos h0, if_pos (by omega)]
theorem log_small {n : Nat} (h : n < 1024) : ((n : Int)).natAbs.log2 < 9000 := by
  rw [Int.natAbs_natCast]
  by_cases h0 : n = 0
  · subst h0; decide
  · exact Nat.lt_trans ((Nat.log2_lt h0).mpr (show n < 2 ^ 10 from h)) (by decide)
theorem erase_map {α β : Type} (f : α → β) : ∀ (l : List α) (k : Nat), (l.map f).eraseIdx k = (l.eraseIdx k).map f
  | [], _ => rfl
  | _ :: _, 0 => rfl
  | a :: r, k + 1 => by
    show f a :: (r.map f).eraseIdx k = f a :: (r.eraseIdx k).map f
    rw [erase_map f r k]
end LP

/-! the draws of the laws with a reel -/
namespace LP
open PySem L2
abbrev M127 : Int := 2 ^ 140
theorem log_m {t : Int} (h0 : 0 ≤ t) (h1 : t < 2 ^ 140) : t.natAbs.log2 < 200 := by
  by_cases z : t.natAbs = 0
  · rw [z]; decide
  · exact Nat.lt_trans ((Nat.log2_lt z).mpr (show t.natAbs < 2 ^ 140 by omega)) (by decide)
structure Reel (H : Hp) (b : Addr) (d : Nat) : Prop where
  ex : ∃ (g c : Addr) (gs cs : List Int) (k t : Int), H b = some (.lst [.ref g, .ref c, .int k, .int t]) ∧ H g = some (.lst (gs.map V.int)) ∧ H c = some (.lst (cs.map V.int)) ∧ g ≠ b ∧ c ≠ b ∧ 0 < cs.length ∧ cs.length ≤ 64 ∧ gs.length ≤ 63 ∧ (∀ x ∈ cs, 0 ≤ x ∧ x < 1000003) ∧ 0 ≤ k ∧ k ≤ d ∧ 0 ≤ t ∧ t < M127
theorem Reel.mono {H : Hp} {b : Addr} {d d' : Nat} (r : Reel H b d) (h : d ≤ d') : Reel H b d' := by
  obtain ⟨g, c, gs, cs, k, t, a1, a2, a3, a4, a5, a6, a7, a8, a9, a10, a11, a12⟩ := r.ex
  exact ⟨⟨g, c, gs, cs, k, t, a1, a2, a3, a4, a5, a6, a7, a8, a9, a10, by omega, a12⟩⟩
theorem Reel.same {H H' : Hp} {b : Addr} {d : Nat} (r : Reel H b d) (s : Same H H') : Reel H' b d := by
  obtain ⟨g, c, gs, cs, k, t, a1, a2, a3, a4⟩ := r.ex
  exact ⟨⟨g, c, gs, cs, k, t, s _ _ a1, s _ _ a2, s _ _ a3, a4⟩⟩
theorem Reel.nb {H : Hp} {b : Addr} {d : Nat} (r : Reel H b d) : ∃ o, H b = some o := let ⟨_, _, _, _, _, _, h, _⟩ := r.ex; ⟨_, h⟩
theorem Reel.ne_new {H : Hp} {b p : Addr} {d : Nat} (r : Reel H b d) (hp : H p = none) : p ≠ b := by
  obtain ⟨o, h⟩ := r.nb
  exact (ne_of_none h hp).symm
/-- an address that is no part of the reel at b -/
def Apart (H : Hp) (b a : Addr) : Prop := a ≠ b ∧ ∀ xs, H b = some (.lst xs) → V.ref a ∉ xs
theorem Reel.new {H : Hp} {b p : Addr} {d : Nat} (r : Reel H b d) (hp : H p = none) : Apart H b p := by
  refine ⟨r.ne_new hp, fun xs hx hm => ?_⟩
  obtain ⟨g, c, gs, cs, k, t, a1, a2, a3, _⟩ := r.ex
  rw [a1] at hx; cases hx
  simp at hm
  rcases hm with rfl | rfl
  · rw [hp] at a2; cases a2
  · rw [hp] at a3; cases a3
theorem Reel.upd {H : Hp} {b a : Addr} {d : Nat} {o : HO} (r : Reel H b d) (h : Apart H b a) : Reel (L2.upd H a o) b d := by
  obtain ⟨g, c, gs, cs, k, t, a1, a2, a3, a4⟩ := r.ex
  have n := h.2 _ a1
  have n1 : g ≠ a := fun e => n (by rw [e]; simp)
  have n2 : c ≠ a := fun e => n (by rw [e]; simp)
  exact ⟨⟨g, c, gs, cs, k, t, by rw [upd_ne (Ne.symm h.1)]; exact a1, by rw [upd_ne n1]; exact a2, by rw [upd_ne n2]; exact a3, a4⟩⟩
theorem Apart.upd {H : Hp} {b a c : Addr} {o : HO} (h : Apart H b a) (hc : c ≠ b) : Apart (L2.upd H c o) b a := ⟨h.1, fun xs hx => h.2 xs (by rw [upd_ne (Ne.symm hc)] at hx; exact hx)⟩
section
variable (K : PySem.W.Frag)
def sp__law_reel : Sp := fun vs H Q _ => ∃ (a : Addr) (ns : List Int), vs = [.ref a] ∧ SqL K H a (ns.map V.int) ∧ ns.length ≤ 63 ∧ ∀ (H' : Hp) (b : Addr), Same H H' → H b = none → Reel H' b 0 → Q (.ref b) H'
def sp__law_draw_r : Sp := fun vs H Q _ => ∃ (b : Addr) (d : Nat) (n : Int), vs = [.ref b, .int n] ∧ Reel H b d ∧ 0 < n ∧ n.natAbs.log2 < 9000 ∧ d < 1000000 ∧
  ∀ (H' : Hp) (r : Int), 0 ≤ r → r < n → Reel H' b (d + 1) → Fr H H' b → (∀ a, Apart H b a → H a ≠ none → Apart H' b a) → Q (.int r) H'
def sp__law_shuffled_r : Sp := fun vs H Q _ => ∃ (b : Addr) (d : Nat) (p : Addr) (xs : List Int), vs = [.ref b, .ref p] ∧ Reel H b d ∧ d < 900000 ∧ H p = some (.lst (xs.map V.int)) ∧ xs.length ≤ 400 ∧ p ≠ b ∧
  ∀ (H' : Hp) (q : Addr) (ys : List Int), Reel H' b (d + xs.length) → Fr H H' b → (∀ a, Apart H b a → H a ≠ none → Apart H' b a) → H q = none → ys.Perm xs → H' q = some (.lst (ys.map V.int)) → Apart H' b q → Q (.ref q) H'
end
end LP

namespace LX
open PySem PySem.Spec PyProof.Rows L2 LG
/-- repr, of None too -/
def rReprN (K : PySem.W.Frag) : List V → Hp → VK → Prop := fun xs H Q => (xs = [.non] ∧ Q (.str "None") H) ∨ rReprA K xs H Q
theorem call_reprN {X : Cx} (hgd : X.A.guards = some []) (hu : X.A.units + 66 < cLine) : CallR X (.builtin "repr") (rReprN X.K) := by
  intro pins s σ H xs us Q I r h
  rcases h with h | h
  · obtain ⟨rfl, q⟩ := h
    obtain ⟨u, rfl, ru⟩ := vals1 r
    cases ru
    exact PySem.P.repr_of_none ⟨.str _, H, I.tok _, ⟨_, rfl⟩, q⟩
  · exact call_reprA hgd hu pins s σ H xs us Q I r h
end LX

/-! xs[::e], e of 1 or -1 -/
namespace LX
open PySem PySem.Spec PyProof.Rows L2
section
variable {X : Cx}
def kStep (K : PySem.W.Frag) (x : V) (Q : VK) : Option Int → Hp → Prop := fun o H2 => ∃ a xs, x = .ref a ∧ (o = some 1 ∨ o = some (-1)) ∧ SqL K H2 a xs ∧ ∀ p, H2 p = none → Q (.ref p) (upd H2 p (.lst (if o = some 1 then xs else xs.reverse)))
def tStepL (K : PySem.W.Frag) (te tk : TE) : TE := fun σ H Q => te σ H fun x H1 => tPart tk σ H1 (kStep K x Q)
theorem pick_one (its : List Value) : slicePick its.toArray none none (some 1) = its.toArray := by
  have e : slicePick its.toArray none none (some 1) = slicePick its.toArray none none none := rfl
  rw [e, slicePick_cut, HT.sIx_none, HT.sIx_none]
  simp
theorem pe_stepL {e st : Expr} {te tk : TE} {p3 pos : Pos} (he : PE X e te) (hk : PE X st tk) : PE X (.Subscript e (.Slice none none (some st) p3) pos) (tStepL X.K te tk) := by
  refine ⟨fun pins s σ H Q I h => ?_⟩
  refine Subscript_ (thn (he.run pins s σ H _ I h) fun v s1 ⟨x, H1, I1, r1, q1⟩ => ?_)
  have hst : PO X (some st) (tPart tk) := po_some hk
  refine wpAny_Slice (thn (po_none.run pins s1 σ H1 (fun o H2 => o = none ∧ H2 = H1) I1 ⟨rfl, rfl⟩) fun vl s2 ⟨l, H2, I2, pl, el, e2⟩ => ?_)
  subst el e2
  refine thn (po_none.run pins s2 σ H2 (fun o H3 => o = none ∧ H3 = H2) I2 ⟨rfl, rfl⟩) fun vu s3 ⟨u, H3, I3, pu, eu, e3⟩ => ?_
  subst eu e3
  refine thn (hst.run pins s3 σ H3 _ I3 q1) fun vs s4 ⟨o, H4, I4, ps, a, xs, ex, eo, hx, q⟩ => ?_
  subst ex
  cases r1
  have I5 : Inv X pins σ H4 { s4 with heap := s4.heap.push { cls := .type "slice", data := .fields #[vl, vu, vs] } } := I4.kept (t' := s4.toks) fun b ob q => Heap.get?_push_of_some _ q
  obtain ⟨its, r, ht, hz⟩ := I5.list hx
  have hlen := r.length
  show wpAny (model X.prog X.w) X.A (subscriptTail e (.Slice none none (some st) p3) (.ref a) (.ref s4.heap.objs.size)) (EP X pins σ Q) X.xe { s4 with heap := s4.heap.push { cls := .type "slice", data := .fields #[vl, vu, vs] } }
  refine tail_any (ops := [.ref a, .ref s4.heap.objs.size]) ht.isList.typeIs (PySem.slot_list_getitem.lookup) ?_ (by with_unfolding_all rfl)
  rcases eo with rfl | rfl
  · refine wpAny_getItem_list_slice ht.isList (Heap.IsSliceOf.new _ vl vu vs) pl pu ps (by decide) ?_ (by rw [List.size_toArray]; omega)
    rw [pick_one]
    refine ⟨.ref _, _, I5.laid (t' := s4.toks) (o := .lst (if (some 1 : Option Int) = some 1 then xs else xs.reverse)) (fun b ob q => Heap.get?_push_of_some _ q) (Nat.le_refl _) ?_, rfl, q _ (I5.hok.fresh (Nat.le_refl _))⟩
    rw [if_pos rfl]
    exact ⟨hz, _, 0, r, Heap.get?_push_size _ rfl⟩
  · refine wpAny_getItem_list_slice ht.isList (Heap.IsSliceOf.new _ vl vu vs) pl pu ps (by decide) ?_ (by rw [List.size_toArray]; omega)
    rw [PySem.W.krv_pick]
    refine ⟨.ref _, _, I5.laid (t' := s4.toks) (o := .lst (if (some (-1) : Option Int) = some 1 then xs else xs.reverse)) (fun b ob q => Heap.get?_push_of_some _ q) (Nat.le_refl _) ?_, rfl, q _ (I5.hok.fresh (Nat.le_refl _))⟩
    rw [if_neg (by decide)]
    exact ⟨by rw [List.length_reverse]; exact hz, _, 0, r.reverse, Heap.get?_push_size _ rfl⟩
end
end LX

/-! steps: one lemma a reading, by its head; heaps are told apart by names, not by what they are made of -/
namespace LS
open PySem L2 LT LG LP LX
/-! ## frames -/
theorem Same.fr_new {H0 H H' : Hp} {p : Addr} (s : Same H0 H) (f : Fr H H' p) (n : H0 p = none) : Same H0 H' := fun a o h => f a o (s a o h) (ne_of_none h n)
theorem Fr.same {H0 H H' : Hp} {b : Addr} (f : Fr H0 H b) (s : Same H H') : Fr H0 H' b := fun a o h n => s a o (f a o h n)
theorem Fr.fr_new {H0 H H' : Hp} {b p : Addr} (s : Fr H0 H b) (f : Fr H H' p) (n : H0 p = none) : Fr H0 H' b := fun a o h nb => f a o (s a o h nb) (ne_of_none h n)
theorem Fr.upd {H : Hp} {p : Addr} {o : HO} : Fr H (upd H p o) p := fun a u h n => by rw [upd_ne n]; exact h
theorem fr_seq {K : PySem.W.Frag} {H H' : Hp} {a p : Addr} {xs : List V} (f : Fr H H' p) (h : SqL K H a xs) (n : a ≠ p) : SqL K H' a xs := by
  rcases h with (h | ⟨o, h⟩) | h
  · exact .inl (.inl (f _ _ h n))
  · exact .inl (.inr ⟨o, f _ _ h n⟩)
  · exact .inr h
theorem fr_tup {K : PySem.W.Frag} {H H' : Hp} {a p : Addr} {xs : List V} (f : Fr H H' p) (h : SqT K H a xs) (n : a ≠ p) : SqT K H' a xs := by
  rcases h with (h | ⟨o, h⟩) | h
  · exact .inl (.inl (f _ _ h n))
  · exact .inl (.inr ⟨o, f _ _ h n⟩)
  · exact .inr h
theorem free_same {H H' : Hp} {p : Addr} (s : Same H H') (h : H' p = none) : H p = none := s.free h
theorem free_fr {H H' : Hp} {b p : Addr} {o : HO} (f : Fr H H' b) (hb : H' b = some o) (h : H' p = none) : H p = none := by
  cases q : H p with
  | none => rfl
  | some u =>
    by_cases e : p = b
    · subst e; rw [hb] at h; cases h
    · rw [f p u q e] at h; cases h
theorem ne_lt {H : Hp} {a b : Addr} {xs ys : List V} (h : H a = some (.lst xs)) (h' : H b = some (.tup ys)) : a ≠ b := ne_of h h' (by intro z; cases z)
theorem ne_tl {H : Hp} {a b : Addr} {xs ys : List V} (h : H a = some (.tup xs)) (h' : H b = some (.lst ys)) : a ≠ b := ne_of h h' (by intro z; cases z)
/-! ## what the search for facts about heaps goes by -/
theorem hp_s {H H' : Hp} {p : Addr} {o : HO} (s : Same H H') (h : H p = some o) : H' p = some o := s p o h
theorem hp_f {H H' : Hp} {b p : Addr} {o : HO} (f : Fr H H' b) (h : H p = some o) (n : p ≠ b) : H' p = some o := f p o h n
theorem sq_o {K : PySem.W.Frag} {H : Hp} {p : Addr} {xs : List V} (h : H p = some (.lst xs)) : SqL K H p xs := SqL.of h
theorem sq_s {K : PySem.W.Frag} {H H' : Hp} {p : Addr} {xs : List V} (s : Same H H') (h : SqL K H p xs) : SqL K H' p xs := s.seq h
theorem sq_f {K : PySem.W.Frag} {H H' : Hp} {b p : Addr} {xs : List V} (f : Fr H H' b) (h : SqL K H p xs) (n : p ≠ b) : SqL K H' p xs := fr_seq f h n
theorem tu_o {K : PySem.W.Frag} {H : Hp} {p : Addr} {xs : List V} (h : H p = some (.tup xs)) : SqT K H p xs := SqT.of h
theorem tu_s {K : PySem.W.Frag} {H H' : Hp} {p : Addr} {xs : List V} (s : Same H H') (h : SqT K H p xs) : SqT K H' p xs := same_tup s h
theorem tu_f {K : PySem.W.Frag} {H H' : Hp} {b p : Addr} {xs : List V} (f : Fr H H' b) (h : SqT K H p xs) (n : p ≠ b) : SqT K H' p xs := fr_tup f h n
theorem se_l {K : PySem.W.Frag} {H : Hp} {p : Addr} {xs : List V} (h : H p = some (.lst xs)) : SqE K H p xs := .inl (SqL.of h)
theorem se_t {K : PySem.W.Frag} {H : Hp} {p : Addr} {xs : List V} (h : H p = some (.tup xs)) : SqE K H p xs := .inr (SqT.of h)
theorem se_s {K : PySem.W.Frag} {H H' : Hp} {p : Addr} {xs : List V} (s : Same H H') (h : SqE K H p xs) : SqE K H' p xs := h.same s
theorem se_f {K : PySem.W.Frag} {H H' : Hp} {b p : Addr} {xs : List V} (f : Fr H H' b) (h : SqE K H p xs) (n : p ≠ b) : SqE K H' p xs := h.imp (fun h => fr_seq f h n) fun h => fr_tup f h n
theorem sm_s {H0 H H' : Hp} (s : Same H H') (h : Same H0 H) : Same H0 H' := h.trans s
theorem sm_f {H0 H H' : Hp} {p : Addr} (f : Fr H H' p) (h : Same H0 H) (n : H0 p = none) : Same H0 H' := Same.fr_new h f n
theorem fr_s {H0 H H' : Hp} {b : Addr} (s : Same H H') (h : Fr H0 H b) : Fr H0 H' b := Fr.same h s
theorem fr_b {H0 H H' : Hp} {b : Addr} (f : Fr H H' b) (h : Fr H0 H b) : Fr H0 H' b := h.trans f
theorem fr_n {H0 H H' : Hp} {b p : Addr} (f : Fr H H' p) (h : Fr H0 H b) (n : H0 p = none) : Fr H0 H' b := Fr.fr_new h f n
theorem ne_a {H : Hp} {a b : Addr} {o : HO} (h' : H b = none) (h : H a = some o) : a ≠ b := ne_of_none h h'
theorem ne_b {H : Hp} {a b : Addr} {o : HO} (h' : H a = none) (h : H b = some o) : a ≠ b := (ne_of_none h h').symm
theorem no_s {H H' : Hp} {p : Addr} (h : H' p = none) (s : Same H H') : H p = none := s.free h
theorem no_f {H H' : Hp} {b p : Addr} {o : HO} (h : H' p = none) (f : Fr H H' b) (hb : H' b = some o) : H p = none := free_fr f hb h
theorem sz {n : Nat} (h : n ≤ 100000) : n ≤ sizeLine := Nat.le_trans h (by decide)
theorem szl {n : Nat} (h : n < 100000) : n < sizeLine := Nat.lt_of_lt_of_le h (by decide)
theorem at_g {α : Type} {xs : List α} {j : Nat} {v : α} {z : Int} (hz : z = (j : Int)) (e : xs[j]? = some v) : atI xs z = some v := by
  subst hz
  unfold atI
  rw [ixN_at (List.getElem?_eq_some_iff.mp e).1]
  exact e
theorem cut_to (xs : List V) (i : Nat) : cutV xs none (some (i : Int)) = xs.take i := by
  unfold cutV
  rw [HT.sIx_none, HT.sIx_nat, List.drop_zero, Nat.sub_zero]
  rcases Nat.lt_or_ge i xs.length with h | h
  · rw [Nat.min_eq_left (by omega)]
  · rw [Nat.min_eq_right (by omega), List.take_of_length_le (Nat.le_refl _), List.take_of_length_le h]
theorem cut_from (xs : List V) (i : Nat) : cutV xs (some (i : Int)) none = xs.drop i := by
  unfold cutV
  rw [HT.sIx_none, HT.sIx_nat]
  rcases Nat.lt_or_ge i xs.length with h | h
  · rw [Nat.min_eq_left (by omega), List.take_of_length_le (by rw [List.length_drop]; omega)]
  · rw [Nat.min_eq_right (by omega), List.drop_of_length_le (Nat.le_refl _), List.drop_of_length_le h, List.take_nil]
/-! ## rules by name -/
def rListOf (K : PySem.W.Frag) : List V → Hp → VK → Prop := fun xs H Q => ∃ p ys, xs = [.ref p] ∧ (SqL K H p ys ∨ SqT K H p ys) ∧ ∀ l, H l = none → Q (.ref l) (upd H l (.lst ys))
def rIsN : R2 := fun x y H Q => y = .non ∧ Q (.bl (decide (x = .non))) H
def rNotN : R2 := fun x y H Q => y = .non ∧ Q (.bl (!decide (x = .non))) H
def rInt1 : List V → Hp → VK → Prop := fun xs H Q => (∃ i, xs = [.int i] ∧ Q (.int i) H) ∨ ∃ k, xs = [.bl k] ∧ Q (.int (if k then 1 else 0)) H
def rStrI : List V → Hp → VK → Prop := fun xs H Q => ∃ i, xs = [.int i] ∧ i.natAbs.log2 < 1920 ∧ Q (.str (toString i)) H
def rIntS : List V → Hp → VK → Prop := fun xs H Q => ∃ a n, xs = [.str a] ∧ PySem.intText? a = some n ∧ a.length ≤ 640 ∧ Q (.int n) H
def rAddS : R2 := fun x y H Q => ∃ i j, x = .str i ∧ y = .str j ∧ i.length + j.length ≤ sizeLine ∧ Q (.str (i ++ j)) H
def rSplit : V → List V → Hp → VK → Prop := fun x xs H Q => ∃ a b, x = .str a ∧ xs = [.str b] ∧ (b.length == 0) = false ∧ a.length + 2 ≤ sizeLine ∧ rNewStrs (Txt.split a b) H Q
def rJoin (K : PySem.W.Frag) : V → List V → Hp → VK → Prop := fun x xs H Q => ∃ a p, ∃ ys : List Str, x = .str a ∧ xs = [.ref p] ∧ (SqL K H p (ys.map V.str) ∨ SqT K H p (ys.map V.str)) ∧
    (ys.map (·.length)).sum + ys.length * a.length ≤ 16777216 ∧ Q (.str (Txt.join a ys)) H
def rLenT : List V → Hp → VK → Prop := fun xs H Q => ∃ z, xs = [.str z] ∧ z.length ≤ sizeLine ∧ Q (.int z.length) H
def rMin2 : List V → Hp → VK → Prop := fun xs H Q => ∃ i j, xs = [.int i, .int j] ∧ Q (.int (if j < i then j else i)) H
def rMax2 : List V → Hp → VK → Prop := fun xs H Q => ∃ i j, xs = [.int i, .int j] ∧ Q (.int (if j > i then j else i)) H
section
variable {X : Cx}
theorem call_min2 (hc : X.calm = true) : CallR X (.builtin "min") rMin2 := L2.call_min2 hc
theorem call_max2 (hc : X.calm = true) : CallR X (.builtin "max") rMax2 := L2.call_max2 hc
theorem call_len : CallR X (.builtin "len") (rLenS X.K) := call_len_seq
theorem call_lenT : CallR X (.builtin "len") rLenT := call_len_str
theorem call_list : CallR X (.type "list") (rListOf X.K) := call_list_of
theorem op_isN : OpR X (compareOp .Is) rIsN := L2.op_isN
theorem op_notN : OpR X (compareOp .IsNot) rNotN := L2.op_notN
theorem call_int1 : CallR X (.type "int") rInt1 := L2.call_int1
theorem call_strI : CallR X (.type "str") rStrI := L2.call_str_int
theorem call_intS : CallR X (.type "int") rIntS := L2.call_int_str
theorem op_addS : OpR X (binaryOp .Add) rAddS := L2.op_add_str
theorem mt_split : MtR X "str.split" rSplit := L2.mt_split
theorem mt_join : MtR X "str.join" (rJoin X.K) := L2.mt_join
end
/-! ## the reel -/
/-- from H to H' by draws, new objects and stores to what was new -/
structure RT (H H' : Hp) (b : Addr) (d : Nat) : Prop where
  r : Reel H' b d
  f : Fr H H' b
  a : ∀ a, Apart H b a → H a ≠ none → Apart H' b a
theorem Reel.up {H : Hp} {b : Addr} {d d' : Nat} (r : Reel H b d) (h : d ≤ d') : Reel H b d' := r.mono h
theorem reel_fr {H H' : Hp} {b p : Addr} {d : Nat} (r : Reel H b d) (f : Fr H H' p) (ap : Apart H b p) : Reel H' b d := by
  obtain ⟨g, c, gs, cs, k, t, a1, a2, a3, a4⟩ := r.ex
  have n := ap.2 _ a1
  exact ⟨⟨g, c, gs, cs, k, t, f _ _ a1 (Ne.symm ap.1), f _ _ a2 fun e => n (by rw [e]; simp), f _ _ a3 fun e => n (by rw [e]; simp), a4⟩⟩
theorem ap_same {H H' : Hp} {b a : Addr} {d : Nat} (s : Same H H') (r : Reel H b d) (h : Apart H b a) : Apart H' b a := by
  obtain ⟨g, c, gs, cs, k, t, a1, _⟩ := r.ex
  exact ⟨h.1, fun xs hx => by rw [s _ _ a1] at hx; cases hx; exact h.2 _ a1⟩
theorem ap_fr {H H' : Hp} {b a p : Addr} {d : Nat} (f : Fr H H' p) (ap : Apart H b p) (r : Reel H b d) (h : Apart H b a) : Apart H' b a := by
  obtain ⟨g, c, gs, cs, k, t, a1, _⟩ := r.ex
  exact ⟨h.1, fun xs hx => by rw [f _ _ a1 (Ne.symm ap.1)] at hx; cases hx; exact h.2 _ a1⟩
theorem rt_refl {H : Hp} {b : Addr} {d : Nat} (r : Reel H b d) : RT H H b d := ⟨r, Fr.refl _ _, fun _ h _ => h⟩
theorem rt_s {H H1 H' : Hp} {b : Addr} {d : Nat} (s : Same H1 H') (t : RT H H1 b d) : RT H H' b d := ⟨t.r.same s, Fr.same t.f s, fun a h n => ap_same s t.r (t.a a h n)⟩
theorem rt_t {H H1 H' : Hp} {b : Addr} {d d' : Nat} (u : RT H1 H' b d') (t : RT H H1 b d) : RT H H' b d' := ⟨u.r, t.f.trans u.f, fun a h n => u.a a (t.a a h n) (by
  obtain ⟨o, ho⟩ := Option.ne_none_iff_exists'.mp n
  rw [t.f _ _ ho h.1]; simp)⟩
theorem rt_f {H H1 H' : Hp} {b p : Addr} {d : Nat} (f : Fr H1 H' p) (t : RT H H1 b d) (n : H p = none) (ap : Apart H1 b p) : RT H H' b d := ⟨reel_fr t.r f ap, Fr.fr_new t.f f n, fun a h n => ap_fr f ap t.r (t.a a h n)⟩
theorem rt_mono {H H' : Hp} {b : Addr} {d d' : Nat} (t : RT H H' b d) (h : d ≤ d') : RT H H' b d' := ⟨t.r.mono h, t.f, t.a⟩
theorem rl_t {H H' : Hp} {b : Addr} {d : Nat} (t : RT H H' b d) : Reel H' b d := t.r
theorem rl_s {H H' : Hp} {b : Addr} {d : Nat} (s : Same H H') (r : Reel H b d) : Reel H' b d := r.same s
theorem rl_f {H H' : Hp} {b p : Addr} {d : Nat} (f : Fr H H' p) (r : Reel H b d) (ap : Apart H b p) : Reel H' b d := reel_fr r f ap
theorem ap_new {H H' : Hp} {b p : Addr} {d : Nat} (n : H p = none) (s : Same H H') (r : Reel H b d) : Apart H' b p := ap_same s r (r.new n)
theorem ap_s {H H' : Hp} {b a : Addr} {d : Nat} (s : Same H H') (h : Apart H b a) (r : Reel H b d) : Apart H' b a := ap_same s r h
theorem ap_t {H H' : Hp} {b a : Addr} {d : Nat} {o : HO} (t : RT H H' b d) (h : Apart H b a) (e : H a = some o) : Apart H' b a := t.a a h (by rw [e]; simp)
theorem ap_f {H H' : Hp} {b a p : Addr} {d : Nat} (f : Fr H H' p) (h : Apart H b a) (ap : Apart H b p) (r : Reel H b d) : Apart H' b a := ap_fr f ap r h
theorem ne_ap {H : Hp} {b a : Addr} (h : Apart H b a) : a ≠ b := h.1
theorem ne_rl {H : Hp} {b p : Addr} {d : Nat} (n : H p = none) (r : Reel H b d) : p ≠ b := r.ne_new n
theorem hp_t {H H' : Hp} {b p : Addr} {d : Nat} {o : HO} (t : RT H H' b d) (h : H p = some o) (n : p ≠ b) : H' p = some o := t.f p o h n
theorem sq_t {K : PySem.W.Frag} {H H' : Hp} {b p : Addr} {d : Nat} {xs : List V} (t : RT H H' b d) (h : SqL K H p xs) (n : p ≠ b) : SqL K H' p xs := fr_seq t.f h n
theorem tu_t {K : PySem.W.Frag} {H H' : Hp} {b p : Addr} {d : Nat} {xs : List V} (t : RT H H' b d) (h : SqT K H p xs) (n : p ≠ b) : SqT K H' p xs := fr_tup t.f h n
theorem se_tt {K : PySem.W.Frag} {H H' : Hp} {b p : Addr} {d : Nat} {xs : List V} (t : RT H H' b d) (h : SqE K H p xs) (n : p ≠ b) : SqE K H' p xs := se_f t.f h n
theorem no_t {H H' : Hp} {b p : Addr} {d : Nat} (h : H' p = none) (t : RT H H' b d) : H p = none := by
  obtain ⟨o, ho⟩ := t.r.nb
  exact free_fr t.f ho h
theorem fr_t {H0 H H' : Hp} {b : Addr} {d : Nat} (t : RT H H' b d) (h : Fr H0 H b) : Fr H0 H' b := h.trans t.f
section
variable {K : PySem.W.Frag} {σ : L2.St} {H : Hp} {Q : VK} {D : Ends} {QA : List V → Hp → Prop} {QB : Bool → Hp → Prop}
/-! ## expressions -/
theorem var {i : Nat} {v : V} (h : σ[i]? = some (some v)) (q : Q v H) : tVar i σ H Q := ⟨v, h, q⟩
theorem con {v : V} (q : Q v H) : tC v σ H Q := q
theorem op {r : R2} {ta tb : TE} (h : ta σ H fun x H1 => tb σ H1 fun y H2 => r x y H2 Q) : tOp r ta tb σ H Q := h
theorem un {r : V → Hp → VK → Prop} {ta : TE} (h : ta σ H fun x H1 => r x H1 Q) : tUn r ta σ H Q := h
theorem tcons {ta : TE} {tr : TA} (h : ta σ H fun x H1 => tr σ H1 fun xs H2 => QA (x :: xs) H2) : tCons ta tr σ H QA := h
theorem tnil (h : QA [] H) : tNil σ H QA := h
theorem tcb {r : List V → Hp → VK → Prop} {t : TA} (h : t σ H fun vs H1 => r vs H1 Q) : tCB r t σ H Q := h
theorem tcall {sp : Sp} {dvs : List V} {E : XK} {t : TA} (h : t σ H fun vs H1 => sp (vs ++ dvs) H1 Q E) : tCall sp dvs E t σ H Q := h
theorem tsl {r : V → Option Int → Option Int → Hp → VK → Prop} {te : TE} {tl th : TO} (h : te σ H fun x H1 => tl σ H1 fun l H2 => th σ H2 fun u H3 => r x l u H3 Q) : tSl r te tl th σ H Q := h
theorem tnop {QO : Option Int → Hp → Prop} (h : QO none H) : tNoPart σ H QO := h
def kPart (QO : Option Int → Hp → Prop) : VK := fun x H1 => ∃ i, x = .int i ∧ QO (some i) H1
theorem tpart {te : TE} {QO : Option Int → Hp → Prop} (h : te σ H (kPart QO)) : tPart te σ H QO := h
theorem k_part {i : Int} {QO : Option Int → Hp → Prop} (q : QO (some i) H) : kPart QO (.int i) H := ⟨i, rfl, q⟩
def kB (QB : Bool → Hp → Prop) : VK := fun x H1 => ∃ k, x = .bl k ∧ QB k H1
theorem k_b {b : Bool} (q : QB b H) : kB QB (.bl b) H := ⟨b, rfl, q⟩
theorem ttest {te : TE} (h : te σ H (kB QB)) : tTest te σ H QB := h
theorem tb {te : TE} (h : te σ H (kB QB)) : tB te σ H QB := h
theorem tyes (h : QB true H) : tYes σ H QB := h
theorem tand {t u : TT} (h : t σ H fun c H1 => if c = true then u σ H1 QB else QB false H1) : tAnd t u σ H QB := h
theorem tor {t u : TT} (h : t σ H fun c H1 => if c = true then QB true H1 else u σ H1 QB) : tOr t u σ H QB := h
theorem tnot {t : TT} (h : t σ H fun c H1 => QB (!c) H1) : tNot t σ H QB := h
theorem tif {t : TT} {ta tb : TE} (h : t σ H fun c H1 => if c = true then ta σ H1 Q else tb σ H1 Q) : tIf t ta tb σ H Q := h
def kAV (tb : TE) (σ : L2.St) (Q : VK) : VK := fun x H1 => ∃ c, x = .bl c ∧ if c = true then tb σ H1 Q else Q (.bl false) H1
theorem tandv {ta tb : TE} (h : ta σ H (kAV tb σ Q)) : tAndV ta tb σ H Q := h
theorem k_av {tb : TE} {c : Bool} (h : if c = true then tb σ H Q else Q (.bl false) H) : kAV tb σ Q (.bl c) H := ⟨c, rfl, h⟩
def kOV (tb : TE) (σ : L2.St) (Q : VK) : VK := fun x H1 => ∃ c, x = .bl c ∧ if c = true then Q (.bl true) H1 else tb σ H1 Q
theorem torv {ta tb : TE} (h : ta σ H (kOV tb σ Q)) : tOrV ta tb σ H Q := h
theorem k_ov {tb : TE} {c : Bool} (h : if c = true then Q (.bl true) H else tb σ H Q) : kOV tb σ Q (.bl c) H := ⟨c, rfl, h⟩
def kNV (Q : VK) : VK := fun x H1 => ∃ c, x = .bl c ∧ Q (.bl (!c)) H1
theorem tnotv {ta : TE} (h : ta σ H (kNV Q)) : tNotV ta σ H Q := h
theorem k_nv {c : Bool} (h : Q (.bl (!c)) H) : kNV Q (.bl c) H := ⟨c, rfl, h⟩
def kCh (r r' : R2) (tc : TE) (σ : L2.St) (y : V) (Q : VK) : VK := fun z H3 => ∃ k, z = .bl k ∧ if k = true then tc σ H3 fun x H4 => r' y x H4 Q else Q (.bl false) H3
theorem tchain {r r' : R2} {ta tb tc : TE} (h : ta σ H fun x H1 => tb σ H1 fun y H2 => r x y H2 (kCh r r' tc σ y Q)) : tChain r r' ta tb tc σ H Q := h
theorem k_ch {r r' : R2} {tc : TE} {y : V} {k : Bool} (h : if k = true then tc σ H fun x H4 => r' y x H4 Q else Q (.bl false) H) : kCh r r' tc σ y Q (.bl k) H := ⟨k, rfl, h⟩
theorem ift {A B : Prop} (h : A) : if true = true then A else B := by rw [if_pos rfl]; exact h
theorem iff_ {A B : Prop} (h : B) : if false = true then A else B := by rw [if_neg Bool.false_ne_true]; exact h
theorem ifnt {A B : Prop} (h : B) : if (!true) = true then A else B := by rw [if_neg (by decide)]; exact h
theorem ifnf {A B : Prop} (h : A) : if (!false) = true then A else B := by rw [if_pos (by decide)]; exact h
theorem if2 {c A B : Prop} [Decidable c] (h1 : c → A) (h2 : ¬ c → B) : if decide c = true then A else B := ite2d h1 h2
theorem ifn2 {c A B : Prop} [Decidable c] (h1 : ¬ c → A) (h2 : c → B) : if (!decide c) = true then A else B := by
  by_cases h : c
  · rw [decide_eq_true h]; exact ifnt (h2 h)
  · rw [decide_eq_false h]; exact ifnf (h1 h)
theorem of_iff {A B : Prop} (h : if false = true then A else B) : B := by rw [if_neg Bool.false_ne_true] at h; exact h
/-- two ways that go on alike -/
theorem tail_t {c A X : Prop} [Decidable c] (h : c → X → A) (x : X) : if decide c = true then A else X := ite2d (fun hc => h hc x) fun _ => x
theorem tail_e {c A X : Prop} [Decidable c] (h : ¬ c → X → A) (x : X) : if decide c = true then X else A := ite2d (fun _ => x) fun hc => h hc x
/-! ## values -/
theorem ri0 {g : Int → Int → V} {i j : Int} (q : Q (g i j) H) : rI0 g (.int i) (.int j) H Q := ⟨i, j, rfl, rfl, q⟩
theorem ri {C : Int → Int → Prop} {g : Int → Int → V} {i j : Int} (c : C i j) (q : Q (g i j) H) : rI C g (.int i) (.int j) H Q := ⟨i, j, rfl, rfl, c, q⟩
theorem ru {g : Int → V} {i : Int} (q : Q (g i) H) : rU g (.int i) H Q := ⟨i, rfl, q⟩
theorem req_i {x y : Int} (q : Q (.bl (decide (x = y))) H) : rEq (.int x) (.int y) H Q := ⟨rfl, by rw [show decide (V.int x = V.int y) = decide (x = y) from decide_eq_decide.mpr ⟨V.int.inj, congrArg _⟩]; exact q⟩
theorem rne_i {x y : Int} (q : Q (.bl (!decide (x = y))) H) : rNe (.int x) (.int y) H Q := ⟨rfl, by rw [show decide (V.int x = V.int y) = decide (x = y) from decide_eq_decide.mpr ⟨V.int.inj, congrArg _⟩]; exact q⟩
theorem req_s {x y : Str} (q : Q (.bl (decide (x = y))) H) : rEq (.str x) (.str y) H Q := ⟨rfl, by rw [show decide (V.str x = V.str y) = decide (x = y) from decide_eq_decide.mpr ⟨V.str.inj, congrArg _⟩]; exact q⟩
theorem rne_s {x y : Str} (q : Q (.bl (!decide (x = y))) H) : rNe (.str x) (.str y) H Q := ⟨rfl, by rw [show decide (V.str x = V.str y) = decide (x = y) from decide_eq_decide.mpr ⟨V.str.inj, congrArg _⟩]; exact q⟩
theorem req_b {x y : Bool} (q : Q (.bl (decide (x = y))) H) : rEq (.bl x) (.bl y) H Q := ⟨rfl, by rw [show decide (V.bl x = V.bl y) = decide (x = y) from decide_eq_decide.mpr ⟨V.bl.inj, congrArg _⟩]; exact q⟩
theorem rne_b {x y : Bool} (q : Q (.bl (!decide (x = y))) H) : rNe (.bl x) (.bl y) H Q := ⟨rfl, by rw [show decide (V.bl x = V.bl y) = decide (x = y) from decide_eq_decide.mpr ⟨V.bl.inj, congrArg _⟩]; exact q⟩
theorem req {x y : V} (h : scal x y = true) (q : Q (.bl (decide (x = y))) H) : rEq x y H Q := ⟨h, q⟩
theorem rne {x y : V} (h : scal x y = true) (q : Q (.bl (!decide (x = y))) H) : rNe x y H Q := ⟨h, q⟩
theorem rixl {p : Addr} {xs : List V} {i : Int} {v : V} (h : SqL K H p xs) (e : atI xs i = some v) (q : Q v H) : rIxL K (.ref p) (.int i) H Q := ⟨p, xs, i, v, rfl, rfl, h, e, q⟩
theorem rixt {p : Addr} {xs : List V} {i : Int} {v : V} (h : SqT K H p xs) (e : atI xs i = some v) (q : Q v H) : rIxT K (.ref p) (.int i) H Q := ⟨p, xs, i, v, rfl, rfl, h, e, q⟩
theorem rixl_n {p : Addr} {xs : List V} {j : Nat} {i : Int} {v : V} (h : SqL K H p xs) (e : xs[j]? = some v) (hz : i = (j : Int)) (q : Q v H) : rIxL K (.ref p) (.int i) H Q := ⟨p, xs, i, v, rfl, rfl, h, at_of hz e, q⟩
theorem rixt_n {p : Addr} {xs : List V} {j : Nat} {i : Int} {v : V} (h : SqT K H p xs) (e : xs[j]? = some v) (hz : i = (j : Int)) (q : Q v H) : rIxT K (.ref p) (.int i) H Q := ⟨p, xs, i, v, rfl, rfl, h, at_of hz e, q⟩
theorem rixs {z : Str} {i : Int} {j c : Nat} (hz : z.length ≤ 100000) (e : z.cps.toList[j]? = some c) (hi : i = (j : Int)) (q : Q (.str ⟨#[c]⟩) H) : rIxS (.str z) (.int i) H Q := ⟨z, i, c, rfl, rfl, sz hz, at_g hi e, q⟩
theorem rin_l {neg : Bool} {x : V} {p : Addr} {xs : List V} (h : SqL K H p xs) (hx : flatV x = true) (ha : xs.all flatV = true) (q : Q (.bl (if neg then !inV x xs else inV x xs)) H) : rIn K neg x (.ref p) H Q := ⟨p, xs, rfl, .inl h, hx, ha, q⟩
theorem rin_i {n : Int} {p : Addr} {xs : List Int} (h : SqL K H p (xs.map V.int)) (q : Q (.bl (decide (n ∈ xs))) H) : rIn K false (.int n) (.ref p) H Q := rin_l h rfl (flat_ints _) (by rw [in_ints]; exact q)
theorem rni_i {n : Int} {p : Addr} {xs : List Int} (h : SqL K H p (xs.map V.int)) (q : Q (.bl (!decide (n ∈ xs))) H) : rIn K true (.int n) (.ref p) H Q := rin_l h rfl (flat_ints _) (by rw [in_ints]; exact q)
theorem rlen_l {p : Addr} {xs : List V} (h : SqL K H p xs) (q : Q (.int (xs.length : Nat)) H) : rLenS K [.ref p] H Q := ⟨p, xs, rfl, .inl h, q⟩
theorem rlen_t {p : Addr} {xs : List V} (h : SqT K H p xs) (q : Q (.int (xs.length : Nat)) H) : rLenS K [.ref p] H Q := ⟨p, xs, rfl, .inr h, q⟩
theorem rlen_li {p : Addr} {xs : List Int} (h : SqL K H p (xs.map V.int)) (q : Q (.int (xs.length : Nat)) H) : rLenS K [.ref p] H Q := ⟨p, _, rfl, .inl h, by rw [List.length_map]; exact q⟩
theorem rlen_ls {p : Addr} {xs : List Str} (h : SqL K H p (xs.map V.str)) (q : Q (.int (xs.length : Nat)) H) : rLenS K [.ref p] H Q := ⟨p, _, rfl, .inl h, by rw [List.length_map]; exact q⟩
/-! ## new objects -/
def kTup (Q : VK) : List V → Hp → Prop := fun xs H1 => xs.length ≤ sizeLine ∧ ∀ p, H1 p = none → Q (.ref p) (upd H1 p (.tup xs))
theorem ttup {t : TA} (h : t σ H (kTup Q)) : tTup t σ H Q := h
theorem k_tup {xs : List V} (hz : xs.length ≤ sizeLine) (k : ∀ (p : Addr) (H' : Hp), H p = none → Same H H' → H' p = some (.tup xs) → Q (.ref p) H') : kTup Q xs H := ⟨hz, fun p np => k p _ np (same_upd np) upd_same⟩
def kLst (Q : VK) : List V → Hp → Prop := fun xs H1 => xs.length ≤ sizeLine ∧ ∀ p, H1 p = none → Q (.ref p) (upd H1 p (.lst xs))
theorem tlst {t : TA} (h : t σ H (kLst Q)) : tLst t σ H Q := h
theorem k_lst {xs : List V} (hz : xs.length ≤ sizeLine) (k : ∀ (p : Addr) (H' : Hp), H p = none → Same H H' → H' p = some (.lst xs) → Q (.ref p) H') : kLst Q xs H := ⟨hz, fun p np => k p _ np (same_upd np) upd_same⟩
theorem rsll {a : Addr} {xs : List V} {lo hi : Option Int} (h : SqL K H a xs) (k : ∀ (p : Addr) (H' : Hp), H p = none → Same H H' → H' p = some (.lst (cutV xs lo hi)) → Q (.ref p) H') : rSlL K (.ref a) lo hi H Q := ⟨a, xs, rfl, h, fun p np => k p _ np (same_upd np) upd_same⟩
theorem rcat {l b : Addr} {xs zs : List V} (h1 : H l = some (.lst xs)) (h2 : H b = some (.lst zs)) (hz : xs.length + zs.length ≤ sizeLine) (k : ∀ (p : Addr) (H' : Hp), H p = none → Same H H' → H' p = some (.lst (xs ++ zs)) → Q (.ref p) H') : rCat (.ref l) (.ref b) H Q := ⟨l, b, xs, zs, rfl, rfl, h1, h2, hz, fun p np => k p _ np (same_upd np) upd_same⟩
theorem list_l {r : List V → Hp → VK → Prop} (hr : r = fun xs H Q => ∃ p ys, xs = [.ref p] ∧ (SqL K H p ys ∨ SqT K H p ys) ∧ ∀ l, H l = none → Q (.ref l) (upd H l (.lst ys))) {a : Addr} {xs : List V} (h : SqL K H a xs)
    (k : ∀ (p : Addr) (H' : Hp), H p = none → Same H H' → H' p = some (.lst xs) → Q (.ref p) H') : r [.ref a] H Q := by
  subst hr; exact ⟨a, xs, rfl, .inl h, fun p np => k p _ np (same_upd np) upd_same⟩
theorem new_strs {ys : List Str} (k : ∀ (p : Addr) (H' : Hp), H p = none → Same H H' → H' p = some (.lst (ys.map V.str)) → Q (.ref p) H') : rNewStrs ys H Q := fun p np => k p _ np (same_upd np) upd_same
theorem rlist_l {a : Addr} {xs : List V} (h : SqL K H a xs) (k : ∀ (p : Addr) (H' : Hp), H p = none → Same H H' → H' p = some (.lst xs) → Q (.ref p) H') : rListOf K [.ref a] H Q := ⟨a, xs, rfl, .inl h, fun p np => k p _ np (same_upd np) upd_same⟩
theorem risn_i {i : Int} (q : Q (.bl false) H) : rIsN (.int i) .non H Q := ⟨rfl, q⟩
theorem risn_s {i : Str} (q : Q (.bl false) H) : rIsN (.str i) .non H Q := ⟨rfl, q⟩
theorem risn_n (q : Q (.bl true) H) : rIsN .non .non H Q := ⟨rfl, q⟩
theorem rnotn_i {i : Int} (q : Q (.bl true) H) : rNotN (.int i) .non H Q := ⟨rfl, q⟩
theorem rnotn_n (q : Q (.bl false) H) : rNotN .non .non H Q := ⟨rfl, q⟩
theorem rint_b {b : Bool} (q : Q (.int (if b then 1 else 0)) H) : rInt1 [.bl b] H Q := .inr ⟨b, rfl, q⟩
theorem rint_i {i : Int} (q : Q (.int i) H) : rInt1 [.int i] H Q := .inl ⟨i, rfl, q⟩
theorem rstr_i {i : Int} (h : i.natAbs.log2 < 1920) (q : Q (.str (toString i)) H) : rStrI [.int i] H Q := ⟨i, rfl, h, q⟩
theorem rint_s {a : Str} {n : Int} (h : PySem.intText? a = some n) (hl : a.length ≤ 640) (q : Q (.int n) H) : rIntS [.str a] H Q := ⟨a, n, rfl, h, hl, q⟩
theorem radds {a b : Str} (h : a.length + b.length ≤ 100000) (q : Q (.str (a ++ b)) H) : rAddS (.str a) (.str b) H Q := ⟨a, b, rfl, rfl, sz h, q⟩
theorem rsplit {a b : Str} (hb : (b.length == 0) = false) (hl : a.length ≤ 99998) (k : ∀ (p : Addr) (H' : Hp), H p = none → Same H H' → H' p = some (.lst ((Txt.split a b).map V.str)) → Q (.ref p) H') : rSplit (.str a) [.str b] H Q := ⟨a, b, rfl, rfl, hb, sz (by omega), new_strs k⟩
theorem rjoin {a : Str} {p : Addr} {ys : List Str} (h : SqL K H p (ys.map V.str)) (hz : (ys.map (·.length)).sum + ys.length * a.length ≤ 16777216) (q : Q (.str (Txt.join a ys)) H) : rJoin K (.str a) [.ref p] H Q := ⟨a, p, ys, rfl, rfl, .inl h, hz, q⟩
theorem tstep {te tk : TE} (h : te σ H fun x H1 => tPart tk σ H1 (kStep K x Q)) : tStepL K te tk σ H Q := h
theorem k_step {a : Addr} {xs : List V} {z : Int} (hz : z = 1 ∨ z = -1) (h : SqL K H a xs) (k : ∀ (p : Addr) (H' : Hp), H p = none → Same H H' → H' p = some (.lst (if z = 1 then xs else xs.reverse)) → Q (.ref p) H') : kStep K (.ref a) Q (some z) H :=
  ⟨a, xs, rfl, hz.imp (congrArg _) (congrArg _), h, fun p np => by
    have e : (if (some z : Option Int) = some 1 then xs else xs.reverse) = (if z = 1 then xs else xs.reverse) := by
      by_cases q : z = 1
      · rw [if_pos q, if_pos (by rw [q])]
      · rw [if_neg q, if_neg (fun w => q (Option.some.inj w))]
    rw [e]
    exact k p _ np (same_upd np) upd_same⟩
/-! ## isinstance -/
theorem isi {x : V} {c : String} {a : String} {b : Bool} (ty : TyX K H x (.type a)) (h : kitB a c = some b) (q : Q (.bl b) H) : rIsi K [x, .ty c] H Q := ⟨x, .ty c, .type a, .type c, b, rfl, .ty c, ty, kit_ty h, q⟩
theorem isi_i {n : Int} {c : String} {b : Bool} (h : kitB "int" c = some b) (q : Q (.bl b) H) : rIsi K [.int n, .ty c] H Q := isi (.base (.int n)) h q
theorem isi_s {n : Str} {c : String} {b : Bool} (h : kitB "str" c = some b) (q : Q (.bl b) H) : rIsi K [.str n, .ty c] H Q := isi (.base (.str n)) h q
theorem isi_l {a : Addr} {xs : List V} {c : String} {b : Bool} (s : SqL K H a xs) (h : kitB "list" c = some b) (q : Q (.bl b) H) : rIsi K [.ref a, .ty c] H Q := by
  refine isi (a := "list") ?_ h q
  rcases s with (s | ⟨o, s⟩) | ⟨dd, its, n, h1, h2⟩
  · exact .base (.lst s)
  · exact .base (.frz s)
  · exact .kList h1 h2.1
theorem isi_t {a : Addr} {xs : List V} {c : String} {b : Bool} (s : SqT K H a xs) (h : kitB "tuple" c = some b) (q : Q (.bl b) H) : rIsi K [.ref a, .ty c] H Q := by
  refine isi (a := "tuple") ?_ h q
  rcases s with (s | ⟨o, s⟩) | ⟨dd, its, n, h1, h2⟩
  · exact .base (.tup s)
  · exact .fTuple s
  · exact .kTuple h1 h2.1
theorem kit_no (a : String) (h1 : kitB a "list" = some false) (h2 : kitB a "tuple" = some false) : PySem.W.kitAny K (.type a) [.type "list", .type "tuple"] = some false :=
  kitAny_cons (b := false) (kit_ty h1) (fun _ => kitAny_cons (b := false) (kit_ty h2) (fun _ => kitAny_nil) fun z => nomatch z) fun z => nomatch z
/-- (list, tuple) made on the way -/
theorem isiT_i {n : Int} {p : Addr} (h : H p = some (.tup [.ty "list", .ty "tuple"])) (q : Q (.bl false) H) : rIsiT K [.int n, .ref p] H Q :=
  ⟨_, p, _, .type "int", [.type "list", .type "tuple"], false, rfl, h, .cons (.ty _) (.cons (.ty _) .nil), .base (.int n), kit_no "int" (by decide +kernel) (by decide +kernel), q⟩
theorem isiT_s {n : Str} {p : Addr} (h : H p = some (.tup [.ty "list", .ty "tuple"])) (q : Q (.bl false) H) : rIsiT K [.str n, .ref p] H Q :=
  ⟨_, p, _, .type "str", [.type "list", .type "tuple"], false, rfl, h, .cons (.ty _) (.cons (.ty _) .nil), .base (.str n), kit_no "str" (by decide +kernel) (by decide +kernel), q⟩
theorem isiT_E {a : Addr} {xs : List V} {p : Addr} (s : SqE K H a xs) (h : H p = some (.tup [.ty "list", .ty "tuple"])) (q : Q (.bl true) H) : rIsiT K [.ref a, .ref p] H Q := by
  rcases ty_E s with hx | hx
  · exact ⟨_, p, _, .type "list", [.type "list", .type "tuple"], true, rfl, h, .cons (.ty _) (.cons (.ty _) .nil), hx, kit_lt, q⟩
  · exact ⟨_, p, _, .type "tuple", [.type "list", .type "tuple"], true, rfl, h, .cons (.ty _) (.cons (.ty _) .nil), hx, kit_tt, q⟩
theorem tthen {te : TE} {k : V → Hp → VK → Prop} (h : te σ H fun x H1 => k x H1 Q) : tThen te k σ H Q := h
theorem tup_l {p : Addr} {xs : List V} (h : SqL K H p xs) (k : ∀ (q : Addr) (H' : Hp), H q = none → Same H H' → H' q = some (.tup xs) → Q (.ref q) H') : L2.kTup K (.ref p) H Q := .inl ⟨p, xs, rfl, h, fun q nq => k q _ nq (same_upd nq) upd_same⟩
theorem tup_t {p : Addr} {xs : List V} (h : SqT K H p xs) (q : Q (.ref p) H) : L2.kTup K (.ref p) H Q := .inr ⟨p, xs, rfl, h, q⟩
theorem rmin2 {i j : Int} (q : Q (.int (min i j)) H) : rMin2 [.int i, .int j] H Q := ⟨i, j, rfl, by
  rw [show (if j < i then j else i) = min i j by rw [Int.min_def]; split <;> split <;> omega]; exact q⟩
theorem rmax2 {i j : Int} (q : Q (.int (max i j)) H) : rMax2 [.int i, .int j] H Q := ⟨i, j, rfl, by
  rw [show (if j > i then j else i) = max i j by rw [Int.max_def]; split <;> split <;> omega]; exact q⟩
/-! ## stores -/
theorem rset {p : Addr} {xs : List V} {k : Int} {j : Nat} {v : V} {QH : Hp → Prop} (h : H p = some (.lst xs)) (e : ixN xs.length k = some j) (q : ∀ H' : Hp, Fr H H' p → H' p = some (.lst (xs.set j v)) → QH H') : rSetL (.ref p) (.int k) v H QH := ⟨p, xs, k, j, rfl, rfl, h, e, q _ Fr.upd upd_same⟩
theorem rapp {p : Addr} {xs : List V} {y : V} (h : H p = some (.lst xs)) (hz : xs.length < sizeLine) (q : ∀ H' : Hp, Fr H H' p → H' p = some (.lst (xs ++ [y])) → Q .non H') : rAppend (.ref p) [y] H Q := ⟨p, xs, y, rfl, rfl, h, hz, q _ Fr.upd upd_same⟩
theorem rpopi {p : Addr} {xs : List V} {i : Int} {k : Nat} {y : V} (h : H p = some (.lst xs)) (h1 : -(2 ^ 63) ≤ i) (h2 : i < 2 ^ 63) (e : seqIndex? i xs.length = some k) (hx : xs[k]? = some y) (q : ∀ H' : Hp, Fr H H' p → H' p = some (.lst (xs.eraseIdx k)) → Q y H') : rPopAt (.ref p) [.int i] H Q := ⟨p, xs, i, k, y, rfl, rfl, h, h1, h2, e, hx, q _ Fr.upd upd_same⟩
theorem tbm {T : String} {r : V → List V → Hp → VK → Prop} {to : TE} {t : TA} (h : to σ H fun x H1 => tyV K T x H1 ∧ t σ H1 fun xs H2 => r x xs H2 Q) : tBM K T r to t σ H Q := h
theorem tbm0 {T : String} {r : V → List V → Hp → VK → Prop} {to : TE} (h : to σ H fun x H1 => tyV K T x H1 ∧ r x [] H1 Q) : tBM0 K T r to σ H Q := h
theorem ty_l {p : Addr} {xs : List V} {P : Prop} (h : SqL K H p xs) (q : P) : tyV K "list" (.ref p) H ∧ P := ⟨.inl ⟨rfl, xs, h⟩, q⟩
theorem tm0 {r : V → List V → Hp → VK → Prop} {to : TE} (h : to σ H fun x H1 => (∃ a, x = .str a) ∧ r x [] H1 Q) : tM0 r to σ H Q := h
theorem tm1 {r : V → List V → Hp → VK → Prop} {to te : TE} (h : to σ H fun x H1 => (∃ a, x = .str a) ∧ te σ H1 fun y H2 => r x [y] H2 Q) : tM1 r to te σ H Q := h
theorem is_str {a : Str} {P : Prop} (h : P) : (∃ z, V.str a = V.str z) ∧ P := ⟨⟨a, rfl⟩, h⟩
theorem ex_s0 {P : Str → Prop} {a : Str} (h : P a) : ∃ z, V.str a = V.str z ∧ ([] : List V) = [] ∧ True ∧ P z := ⟨a, rfl, rfl, trivial, h⟩
/-! ## ways that meet -/
theorem if_join {c : Prop} [Decidable c] {t u : TS} (A : L2.St → Hp → Prop)
    (h1 : c → ∀ D' : Ends, D'.rt = D.rt → (∀ σ' H', A σ' H' → D'.nx σ' H') → t D' σ H) (h2 : ¬ c → ∀ D' : Ends, D'.rt = D.rt → (∀ σ' H', A σ' H' → D'.nx σ' H') → u D' σ H)
    (k : ∀ σ' H', A σ' H' → D.nx σ' H') : if decide c = true then t D σ H else u D σ H := ite2d (fun hc => h1 hc D rfl k) fun hc => h2 hc D rfl k
theorem ifn_join {c : Prop} [Decidable c] {t u : TS} (A : L2.St → Hp → Prop)
    (h1 : ¬ c → ∀ D' : Ends, D'.rt = D.rt → (∀ σ' H', A σ' H' → D'.nx σ' H') → t D' σ H) (h2 : c → ∀ D' : Ends, D'.rt = D.rt → (∀ σ' H', A σ' H' → D'.nx σ' H') → u D' σ H)
    (k : ∀ σ' H', A σ' H' → D.nx σ' H') : if (!decide c) = true then t D σ H else u D σ H := ifn2 (fun hc => h1 hc D rfl k) fun hc => h2 hc D rfl k
theorem ifb_join {b : Bool} {t u : TS} (A : L2.St → Hp → Prop)
    (h1 : b = true → ∀ D' : Ends, D'.rt = D.rt → (∀ σ' H', A σ' H' → D'.nx σ' H') → t D' σ H) (h2 : b = false → ∀ D' : Ends, D'.rt = D.rt → (∀ σ' H', A σ' H' → D'.nx σ' H') → u D' σ H)
    (k : ∀ σ' H', A σ' H' → D.nx σ' H') : if b = true then t D σ H else u D σ H := by
  cases b with
  | true => exact ift (h1 rfl D rfl k)
  | false => exact iff_ (h2 rfl D rfl k)
theorem seq_cut {t u : TS} (A : L2.St → Hp → Prop) (h1 : ∀ D' : Ends, D'.rt = D.rt → (∀ σ' H', A σ' H' → D'.nx σ' H') → t D' σ H) (h2 : ∀ σ' H', A σ' H' → u D σ' H') : tSeq t u D σ H := h1 { D with nx := u D } rfl h2
/-! ## statements -/
theorem tseq {t u : TS} (h : t { D with nx := u D } σ H) : tSeq t u D σ H := h
theorem tnext (h : D.nx σ H) : tNext D σ H := h
theorem tdrop {te : TE} (h : te σ H fun _ H1 => D.nx σ H1) : tDrop te D σ H := h
theorem tret {te : TE} (h : te σ H D.rt) : tRet te D σ H := h
theorem tretn (h : D.rt .non H) : tRetN D σ H := h
theorem tifs {c : TT} {t u : TS} (h : c σ H fun b H1 => if b = true then t D σ H1 else u D σ H1) : tIfS c t u D σ H := h
theorem tasg {te : TE} {g : TG} (h : te σ H fun x H1 => g x σ H1 D.nx) : tAsg te g D σ H := h
theorem gname {i : Nat} {v : V} {QG : L2.St → Hp → Prop} (h : QG (σ.set i (some v)) H) : gName i v σ H QG := h
theorem gtup {n : Nat} {t : TGs} {a : Addr} {xs : List V} {QG : L2.St → Hp → Prop} (h : SqT K H a xs) (hn : xs.length = n) (q : t xs σ H QG) : gTup K n t (.ref a) σ H QG := ⟨a, xs, rfl, h, hn, q⟩
theorem gnil {QG : L2.St → Hp → Prop} (h : QG σ H) : gNil [] σ H QG := ⟨rfl, h⟩
theorem gcons {t : TG} {u : TGs} {v : V} {r : List V} {QG : L2.St → Hp → Prop} (h : t v σ H fun σ' H' => u r σ' H' QG) : gCons t u (v :: r) σ H QG := ⟨v, r, rfl, h⟩
theorem gsub {to ti : TE} {t : TSet} {v : V} {QG : L2.St → Hp → Prop} (h : to σ H fun o H1 => ti σ H1 fun i H2 => t o i v H2 fun H3 => QG σ H3) : gSub to ti t v σ H QG := h
def kPar (i j : Nat) (D : Ends) (σ : L2.St) : List V → Hp → Prop := fun vs H1 => ∃ v w, vs = [v, w] ∧ D.nx ((σ.set i (some v)).set j (some w)) H1
theorem tpar {i j : Nat} {ta : TA} (h : ta σ H (kPar i j D σ)) : tPar i j ta D σ H := h
theorem k_par {i j : Nat} {v w : V} (h : D.nx ((σ.set i (some v)).set j (some w)) H) : kPar i j D σ [v, w] H := ⟨v, w, rfl, h⟩
def kPar3 (i j l : Nat) (D : Ends) (σ : L2.St) : List V → Hp → Prop := fun vs H1 => ∃ u v w, vs = [u, v, w] ∧ D.nx (((σ.set i (some u)).set j (some v)).set l (some w)) H1
theorem tpar3 {i j l : Nat} {ta : TA} (h : ta σ H (kPar3 i j l D σ)) : tPar3 i j l ta D σ H := h
theorem k_par3 {i j l : Nat} {u v w : V} (h : D.nx (((σ.set i (some u)).set j (some v)).set l (some w)) H) : kPar3 i j l D σ [u, v, w] H := ⟨u, v, w, rfl, h⟩
theorem taug {i : Nat} {x : V} {te : TE} {ti : TIp} (e : σ[i]? = some (some x)) (h : te σ H fun y H1 => ti x y H1 fun z H2 => D.nx (σ.set i (some z)) H2) : tAug i te ti D σ H := ⟨x, e, h⟩
theorem ipi {f : Int → Int → Int} {i j : Int} (q : Q (.int (f i j)) H) : ipI f (.int i) (.int j) H Q := ⟨i, j, rfl, rfl, q⟩
/-! ## shapes of rules without a name -/
theorem ex_ss {P : Str → Str → Prop} {a b : Str} (h : P a b) : ∃ i j, V.str a = V.str i ∧ V.str b = V.str j ∧ P i j := ⟨a, b, rfl, rfl, h⟩
theorem ex_s1 {P : Str → Prop} {a : Str} (h : P a) : ∃ z, [V.str a] = [V.str z] ∧ P z := ⟨a, rfl, h⟩
theorem ex_i1 {P : Int → Prop} {a : Int} (h : P a) : ∃ z, [V.int a] = [V.int z] ∧ P z := ⟨a, rfl, h⟩
theorem ex_int_b {P R : Int → Prop} {b : Bool} (h : R (if b then 1 else 0)) : (∃ i, [V.bl b] = [V.int i] ∧ P i) ∨ ∃ k, [V.bl b] = [V.bl k] ∧ R (if k then 1 else 0) := .inr ⟨b, rfl, h⟩
theorem and_rfl {α : Type} {a : α} {P : Prop} (h : P) : a = a ∧ P := ⟨rfl, h⟩
theorem and_tr {P : Prop} (h : P) : True ∧ P := ⟨trivial, h⟩
theorem is_non {Q : Bool → Prop} (h : Q true) : Q (decide (V.non = V.non)) := by rw [decide_eq_true rfl]; exact h
end
/-! ## loops -/
section
variable {J : It} {n : Nat} {G : Hp → Prop} {Y : Nat → Hp → V → Hp → Prop} {K : PySem.W.Frag}
/-- what a comprehension has made so far stands at D -/
def lcP (D : Addr) (Pv : Nat → List V → Hp → Prop) (i : Nat) (H : Hp) : Prop := ∃ acc, H D = some (.lst acc) ∧ acc.length ≤ i ∧ Pv i acc H
def kLc (D : Addr) (Nx : Hp → Prop) : VK := fun y H4 => ∃ acc, H4 D = some (.lst acc) ∧ acc.length < sizeLine ∧ Nx (upd H4 D (.lst (acc ++ [y])))
theorem k_lc {D : Addr} {Pv : Nat → List V → Hp → Prop} {i : Nat} {y : V} {H : Hp} {acc : List V} (h : H D = some (.lst acc)) (hl : acc.length ≤ i) (hz : i ≤ 99999) (q : ∀ H5 : Hp, Fr H H5 D → H5 D = some (.lst (acc ++ [y])) → Pv (i + 1) (acc ++ [y]) H5) : kLc D (lcP D Pv (i + 1)) y H :=
  ⟨acc, h, Nat.lt_of_lt_of_le (Nat.lt_of_le_of_lt (Nat.le_trans hl hz) (by decide : 99999 < 100000)) (by decide), acc ++ [y], upd_same, by rw [List.length_append]; exact Nat.succ_le_succ hl, q _ Fr.upd upd_same⟩
theorem k_lc0 {D : Addr} {Pv : Nat → List V → Hp → Prop} {i : Nat} {H : Hp} {acc : List V} (h : H D = some (.lst acc)) (hl : acc.length ≤ i) (q : Pv (i + 1) acc H) : lcP D Pv (i + 1) H := ⟨acc, h, Nat.le_succ_of_le hl, q⟩
/-- a comprehension: Pv by the turn, what is made so far and the heap; the new list D is told apart -/
theorem lc_gen (w : Walk J n G Y) {g : TG} {tt : TT} {te : TE} {vs : List Nat} {σ : L2.St} {H1 : Hp} {D : Addr} {Qd : Hp → Prop} (hD : H1 D = none) (Pv : Nat → List V → Hp → Prop)
    (h0 : ∀ H', Same H1 H' → H' D = some (.lst []) → Pv 0 [] H') (hG : ∀ i acc H, i ≤ n → H D = some (.lst acc) → Pv i acc H → G H)
    (hs : ∀ i acc x H H', i < n → acc.length ≤ i → H D = some (.lst acc) → Pv i acc H → Y i H x H' → g x (wipe σ vs) H' fun σ2 H2 => wipe σ2 vs = wipe σ vs ∧ tt σ2 H2 fun b H3 =>
      if b = true then te σ2 H3 (kLc D (lcP D Pv (i + 1))) else lcP D Pv (i + 1) H3)
    (hd : ∀ acc H, H D = some (.lst acc) → acc.length ≤ n → Pv n acc H → Qd H) :
    ∃ W : Nat → Nat → Hp → Prop, (∃ m, W 0 m (upd H1 D (.lst []))) ∧ ∀ i m H, W i m H →
      (J.stop i H ∧ Qd H) ∨ (J.go i H ∧ ∃ Nx : Hp → Prop, (∀ H', Nx H' → ∃ m', m' < m ∧ W (i + 1) m' H') ∧ ∀ x H', J.yld i H x H' → g x (wipe σ vs) H' fun σ2 H2 => wipe σ2 vs = wipe σ vs ∧ tt σ2 H2 fun b H3 =>
        if b = true then te σ2 H3 fun y H4 => ∃ acc, H4 D = some (.lst acc) ∧ acc.length < sizeLine ∧ Nx (upd H4 D (.lst (acc ++ [y]))) else Nx H3) :=
  lc_it w (lcP D Pv) ⟨[], upd_same, Nat.le_refl _, h0 _ (same_upd hD) upd_same⟩ (fun i H hi ⟨acc, h1, _, h2⟩ => hG i acc H hi h1 h2) (fun i x H H' hi ⟨acc, h1, hl, h2⟩ y => hs i acc x H H' hi hl h1 h2 y) fun H ⟨acc, h1, hl, h2⟩ => hd acc H h1 hl h2
/-- a comprehension that makes one value of each item and changes nothing -/
theorem lc_map {xs : List V} (w : Walk J xs.length G (YAt xs)) (hz : xs.length ≤ 99999) {g : TG} {tt : TT} {te : TE} {vs : List Nat} {σ : L2.St} {H1 : Hp} {D : Addr} {Qd : Hp → Prop} (hD : H1 D = none) (F : V → V)
    (hG : ∀ H', Same H1 H' → G H')
    (hs : ∀ x Hq, x ∈ xs → Same H1 Hq → ∀ (KK : VK) (KN : Hp → Prop), (∀ H5, Same Hq H5 → KK (F x) H5) → g x (wipe σ vs) Hq fun σ2 H2 => wipe σ2 vs = wipe σ vs ∧ tt σ2 H2 fun b H3 => if b = true then te σ2 H3 KK else KN H3)
    (hd : ∀ H, Same H1 H → H D = some (.lst (xs.map F)) → Qd H) :
    ∃ W : Nat → Nat → Hp → Prop, (∃ m, W 0 m (upd H1 D (.lst []))) ∧ ∀ i m H, W i m H →
      (J.stop i H ∧ Qd H) ∨ (J.go i H ∧ ∃ Nx : Hp → Prop, (∀ H', Nx H' → ∃ m', m' < m ∧ W (i + 1) m' H') ∧ ∀ x H', J.yld i H x H' → g x (wipe σ vs) H' fun σ2 H2 => wipe σ2 vs = wipe σ vs ∧ tt σ2 H2 fun b H3 =>
        if b = true then te σ2 H3 fun y H4 => ∃ acc, H4 D = some (.lst acc) ∧ acc.length < sizeLine ∧ Nx (upd H4 D (.lst (acc ++ [y]))) else Nx H3) :=
  lc_gen w hD (fun i acc H => Same H1 H ∧ acc = (xs.take i).map F) (fun H' s _ => ⟨s, by rw [List.take_zero]; rfl⟩) (fun i acc H _ _ h => hG H h.1)
    (fun i acc x H H' hi hl hH ⟨s, ha⟩ ⟨e, hx⟩ => by
      subst e
      refine hs x H' (List.mem_of_getElem? hx) s _ _ fun H5 s5 => k_lc (s5 _ _ hH) hl (by omega) fun H6 f h6 => ⟨Same.fr_new (s.trans s5) f hD, ?_⟩
      rw [ha, List.take_add_one, hx, List.map_append]; rfl)
    fun acc H hH _ ⟨s, ha⟩ => hd H s (by rw [hH, ha, List.take_length])
end
theorem ypair {xs ys : Nat → Option V} {i : Nat} {H H' : Hp} {v : V} (h : YPair xs ys i H v H') : ∃ T x y, v = .ref T ∧ H T = none ∧ Same H H' ∧ H' T = some (.tup [x, y]) ∧ xs i = some x ∧ ys i = some y := by
  obtain ⟨T, x, y, e, nT, rfl, h1, h2⟩ := h
  exact ⟨T, x, y, e, nT, same_upd nT, upd_same, h1, h2⟩
/-! ## loops by name -/
section
variable {K : PySem.W.Frag} {σ : L2.St} {H : Hp} {Q : VK} {D : Ends} {R : It → Hp → Prop}
def kFor (g : TG) (tb : TS) (D : Ends) (σ : L2.St) : It → Hp → Prop := fun J H1 => ∃ W : Nat → Nat → L2.St → Hp → Prop, (∃ m, W 0 m σ H1) ∧ ∀ i m σ H, W i m σ H →
  (J.stop i H ∧ D.nx σ H) ∨ (J.go i H ∧ ∃ N : L2.St → Hp → Prop, (∀ σ' H', N σ' H' → ∃ m', m' < m ∧ W (i + 1) m' σ' H') ∧ ∀ x H', J.yld i H x H' → g x σ H' fun σ2 H2 => tb { D with nx := N, ct := N, bk := D.nx } σ2 H2)
theorem tfor {wi : TI} {g : TG} {tb : TS} (h : wi σ H (kFor g tb D σ)) : tFor wi g tb D σ H := h
def kLcS (g : TG) (tt : TT) (te : TE) (vs : List Nat) (σ : L2.St) (Q : VK) : It → Hp → Prop := fun J H1 => ∀ D, H1 D = none → ∃ W : Nat → Nat → Hp → Prop, (∃ m, W 0 m (upd H1 D (.lst []))) ∧ ∀ i m H, W i m H →
  (J.stop i H ∧ Q (.ref D) H) ∨ (J.go i H ∧ ∃ Nx : Hp → Prop, (∀ H', Nx H' → ∃ m', m' < m ∧ W (i + 1) m' H') ∧ ∀ x H', J.yld i H x H' → g x (wipe σ vs) H' fun σ2 H2 => wipe σ2 vs = wipe σ vs ∧ tt σ2 H2 fun b H3 =>
    if b = true then te σ2 H3 fun y H4 => ∃ acc, H4 D = some (.lst acc) ∧ acc.length < sizeLine ∧ Nx (upd H4 D (.lst (acc ++ [y]))) else Nx H3)
theorem tlc {wi : TI} {g : TG} {tt : TT} {te : TE} {vs : List Nat} (h : wi σ H (kLcS g tt te vs σ Q)) : tLc wi g tt te vs σ H Q := h
def kIL (K : PySem.W.Frag) (R : It → Hp → Prop) : VK := fun x H1 => ∃ a, x = .ref a ∧ (∃ xs, SqL K H1 a xs) ∧ R (Itl K a) H1
theorem ilist {tl : TE} (h : tl σ H (kIL K R)) : iList K tl σ H R := h
theorem k_il {a : Addr} {xs : List V} (h : SqL K H a xs) (q : R (Itl K a) H) : kIL K R (.ref a) H := ⟨a, rfl, ⟨xs, h⟩, q⟩
def kIT (K : PySem.W.Frag) (R : It → Hp → Prop) : VK := fun x H1 => ∃ a, x = .ref a ∧ (∃ xs, SqT K H1 a xs) ∧ R (Itt K a) H1
theorem itup {tl : TE} (h : tl σ H (kIT K R)) : iTup K tl σ H R := h
theorem k_it {a : Addr} {xs : List V} (h : SqT K H a xs) (q : R (Itt K a) H) : kIT K R (.ref a) H := ⟨a, rfl, ⟨xs, h⟩, q⟩
def kIS (R : It → Hp → Prop) : VK := fun v H1 => ∃ x, v = .str x ∧ R (Its x) H1
theorem istr {te : TE} (h : te σ H (kIS R)) : iStr te σ H R := h
theorem k_is {x : Str} (q : R (Its x) H) : kIS R (.str x) H := ⟨x, rfl, q⟩
def kR1 (R : It → Hp → Prop) : List V → Hp → Prop := fun vs H1 => ∃ j : Int, vs = [.int j] ∧ -(2 ^ 62) ≤ j ∧ j < 2 ^ 62 ∧ R (Itr 0 j.toNat) H1
theorem irng1 {ta : TA} (h : ta σ H (kR1 R)) : iRng1 ta σ H R := h
theorem k_r1 {j : Int} (h1 : -(2 ^ 62) ≤ j) (h2 : j < 2 ^ 62) (q : R (Itr 0 j.toNat) H) : kR1 R [.int j] H := ⟨j, rfl, h1, h2, q⟩
theorem k_r1n {n : Nat} (h2 : n < 2 ^ 62) (q : R (Itr 0 n) H) : kR1 R [.int n] H := ⟨n, rfl, by omega, by omega, q⟩
def kR2 (R : It → Hp → Prop) : List V → Hp → Prop := fun vs H1 => ∃ i j : Int, vs = [.int i, .int j] ∧ (-(2 ^ 62) ≤ i ∧ i < 2 ^ 62 ∧ -(2 ^ 62) ≤ j ∧ j < 2 ^ 62) ∧ R (Itr i (j - i).toNat) H1
theorem irng2 {ta : TA} (h : ta σ H (kR2 R)) : iRng2 ta σ H R := h
theorem k_r2 {i j : Int} (h1 : -(2 ^ 62) ≤ i) (h2 : i < 2 ^ 62) (h3 : -(2 ^ 62) ≤ j) (h4 : j < 2 ^ 62) (q : R (Itr i (j - i).toNat) H) : kR2 R [.int i, .int j] H := ⟨i, j, rfl, ⟨h1, h2, h3, h4⟩, q⟩
def kEn (K : PySem.W.Frag) (R : It → Hp → Prop) : List V → Hp → Prop := fun vs H1 => ∃ a xs, vs = [.ref a] ∧ SqL K H1 a xs ∧ R (Ite K a) H1
theorem ienum {ta : TA} (h : ta σ H (kEn K R)) : iEnum K ta σ H R := h
theorem k_en {a : Addr} {xs : List V} (h : SqL K H a xs) (q : R (Ite K a) H) : kEn K R [.ref a] H := ⟨a, xs, rfl, h, q⟩
def kZip (K : PySem.W.Frag) (R : It → Hp → Prop) : List V → Hp → Prop := fun vs H1 => ∃ a b xs ys, vs = [.ref a, .ref b] ∧ SqL K H1 a xs ∧ SqL K H1 b ys ∧ R (Itz K a b) H1
theorem izip {ta : TA} (h : ta σ H (kZip K R)) : iZip K ta σ H R := h
theorem k_zip {a b : Addr} {xs ys : List V} (h : SqL K H a xs) (h' : SqL K H b ys) (q : R (Itz K a b) H) : kZip K R [.ref a, .ref b] H := ⟨a, b, xs, ys, rfl, h, h', q⟩
/-- list(range(..)) -/
def kLR (Q : VK) : Int → Int → Hp → Prop := fun a b H1 => RgOk a b ∧ ∀ q, H1 q = none → Q (.ref q) (upd H1 q (.lst (rgV a b)))
theorem tlstrg {te : L2.St → Hp → (Int → Int → Hp → Prop) → Prop} (h : te σ H (kLR Q)) : tLstRg te σ H Q := h
theorem k_lr {n : Nat} (hn : n ≤ 100000) (k : ∀ (p : Addr) (H' : Hp), H p = none → Same H H' → H' p = some (.lst (rgV 0 n)) → Q (.ref p) H') : kLR Q 0 n H :=
  ⟨RgOk.of_le (by decide) (by omega) (by decide) (by omega), fun p np => k p _ np (same_upd np) upd_same⟩
def kG1 (QR : Int → Int → Hp → Prop) : VK := fun x H1 => ∃ n, x = .int n ∧ QR 0 n H1
theorem trg1 {ta : TE} {QR : Int → Int → Hp → Prop} (h : ta σ H (kG1 QR)) : tRg1 ta σ H QR := h
theorem k_g1 {n : Int} {QR : Int → Int → Hp → Prop} (q : QR 0 n H) : kG1 QR (.int n) H := ⟨n, rfl, q⟩
end
section
variable {J : It} {n : Nat} {G : Hp → Prop} {Y : Nat → Hp → V → Hp → Prop} {K : PySem.W.Frag}
theorem for_ (w : Walk J n G Y) {g : TG} {tb : TS} {D : Ends} {σ : L2.St} {H : Hp} (Pv : Nat → L2.St → Hp → Prop) (h0 : Pv 0 σ H) (hG : ∀ i σ H, i ≤ n → Pv i σ H → G H)
    (hs : ∀ i x σ H H', i < n → Pv i σ H → Y i H x H' → g x σ H' fun σ2 H2 => tb { D with nx := Pv (i + 1), ct := Pv (i + 1), bk := D.nx } σ2 H2) (hd : ∀ σ H, Pv n σ H → D.nx σ H) : kFor g tb D σ J H := for_it w Pv h0 hG hs hd
theorem comp (w : Walk J n G Y) {g : TG} {tt : TT} {te : TE} {vs : List Nat} {σ : L2.St} {H1 : Hp} {Q : VK} (Pv : Addr → Nat → List V → Hp → Prop)
    (h0 : ∀ D H', H1 D = none → Same H1 H' → H' D = some (.lst []) → Pv D 0 [] H') (hG : ∀ D i acc H, i ≤ n → H1 D = none → H D = some (.lst acc) → Pv D i acc H → G H)
    (hs : ∀ D i acc x H H', H1 D = none → i < n → acc.length ≤ i → H D = some (.lst acc) → Pv D i acc H → Y i H x H' → g x (wipe σ vs) H' fun σ2 H2 => wipe σ2 vs = wipe σ vs ∧ tt σ2 H2 fun b H3 =>
      if b = true then te σ2 H3 (kLc D (lcP D (Pv D) (i + 1))) else lcP D (Pv D) (i + 1) H3)
    (hd : ∀ D acc H, H1 D = none → H D = some (.lst acc) → acc.length ≤ n → Pv D n acc H → Q (.ref D) H) : kLcS g tt te vs σ Q J H1 :=
  fun D hD => lc_gen w hD (Pv D) (fun H' => h0 D H' hD) (fun i acc H hi => hG D i acc H hi hD) (fun i acc x H H' => hs D i acc x H H' hD) fun acc H => hd D acc H hD
theorem map_ {xs : List V} (w : Walk J xs.length G (YAt xs)) (hz : xs.length ≤ 99999) {g : TG} {tt : TT} {te : TE} {vs : List Nat} {σ : L2.St} {H1 : Hp} {Q : VK} (F : V → V)
    (hG : ∀ H', Same H1 H' → G H')
    (hs : ∀ x Hq, x ∈ xs → Same H1 Hq → ∀ (KK : VK) (KN : Hp → Prop), (∀ H5, Same Hq H5 → KK (F x) H5) → g x (wipe σ vs) Hq fun σ2 H2 => wipe σ2 vs = wipe σ vs ∧ tt σ2 H2 fun b H3 => if b = true then te σ2 H3 KK else KN H3)
    (hd : ∀ D H, H1 D = none → Same H1 H → H D = some (.lst (xs.map F)) → Q (.ref D) H) : kLcS g tt te vs σ Q J H1 :=
  fun D hD => lc_map w hz hD F hG hs fun H => hd D H hD
end
section
variable {P : Program} {w : World} {K : PySem.W.Frag} {mg : Str → Option Value} {base : Heap} {CX : CXT} {k : Nat} {f : Addr} {fd : FuncData} {ps : List Str} {sp sp' : Sp}
theorem fn_imp (F : FnOk P w K mg base CX k f fd ps sp) (h : ∀ vs H Q E, sp' vs H Q E → sp vs H Q E) : FnOk P w K mg base CX k f fd ps sp' :=
  ⟨fun vs H Q E x => F.len _ _ _ _ (h _ _ _ _ x), fun A out s H ar us vs Q E hr e b r x => F.run A out s H ar us vs Q E hr e b r (h _ _ _ _ x)⟩
theorem fn_no : FnOk P w K mg base CX 0 f fd ps (fun _ _ _ _ => False) := ⟨fun _ _ _ _ x => x.elim, fun _ _ _ _ _ _ _ _ _ _ _ _ _ x => x.elim⟩
end
end LS
namespace LP
open PySem L2 LT LG LX
def sp__law_draw_t : Sp := fun vs H Q _ => ∃ (b : Addr) (d : Nat) (n : Int), vs = [.ref b, .int n] ∧ Reel H b d ∧ 0 < n ∧ n.natAbs.log2 < 9000 ∧ d < 1000000 ∧
  ∀ (H' : Hp) (r : Int), 0 ≤ r → r < n → LS.RT H H' b (d + 1) → Q (.int r) H'
def sp__law_shuffled_t : Sp := fun vs H Q _ => ∃ (b : Addr) (d : Nat) (p : Addr) (xs : List Int), vs = [.ref b, .ref p] ∧ Reel H b d ∧ d < 900000 ∧ H p = some (.lst (xs.map V.int)) ∧ xs.length ≤ 400 ∧ p ≠ b ∧
  ∀ (H' : Hp) (q : Addr) (ys : List Int), LS.RT H H' b (d + xs.length) → H q = none → ys.Perm xs → H' q = some (.lst (ys.map V.int)) → Apart H' b q → Q (.ref q) H'
theorem draw_t {vs : List V} {H : Hp} {Q : VK} {E : XK} (h : sp__law_draw_t vs H Q E) : sp__law_draw_r vs H Q E := by
  obtain ⟨b, d, n, rfl, R, h1, h2, h3, k⟩ := h
  exact ⟨b, d, n, rfl, R, h1, h2, h3, fun H' r r0 r1 R' F A => k H' r r0 r1 ⟨R', F, A⟩⟩
end LP

/-! small data: what repr and == ask of it -/
namespace LG
open PySem L2
structure Sm (d : PyData) (k w : Nat) : Prop where
  sh : d.showable = true
  ls : d.leavesShort 40 = true
  cl : d.canLay0 = true
  dp : d.depth ≤ k
  wt : d.weight ≤ w
theorem Sm.mono {d : PyData} {k w k' w' : Nat} (h : Sm d k w) (hk : k ≤ k') (hw : w ≤ w') : Sm d k' w' := ⟨h.sh, h.ls, h.cl, Nat.le_trans h.dp hk, Nat.le_trans h.wt hw⟩
theorem Sm.int {i : Int} (hb : i.natAbs < 10 ^ 31) : Sm (.int i) 0 121 := by
  have hlog : i.natAbs.log2 < 1920 := by
    by_cases z : i.natAbs = 0
    · rw [z]; decide
    · exact Nat.lt_trans ((Nat.log2_lt z).mpr (show i.natAbs < 2 ^ 120 from Nat.lt_trans hb (by decide))) (by decide)
  have hlen : (PyData.shown (.int i)).length ≤ 40 := by
    have e := int_text_length_le10 (k := 31) (by decide) hb
    show (Str.ofString (toString i)).length ≤ 40
    rw [ofString_length]; omega
  refine ⟨?_, ?_, rfl, Nat.le_refl _, ?_⟩
  · simp only [PyData.showable, decide_eq_true_eq]; exact hlog
  · simp only [PyData.leavesShort, decide_eq_true_eq]; exact hlen
  · simp only [PyData.weight]
    split
    · omega
    · rename_i z
      have z2 : i.natAbs ≠ 0 := fun q => z (by simp [Int.natAbs_eq_zero.mp q])
      have := (Nat.log2_lt z2).mpr (show i.natAbs < 2 ^ 120 from Nat.lt_trans hb (by decide))
      omega
theorem Sm.non : Sm .none 0 0 := ⟨rfl, rfl, rfl, Nat.le_refl _, Nat.le_refl _⟩
theorem Sm.bl (b : Bool) : Sm (.bool b) 0 0 := ⟨rfl, rfl, rfl, Nat.le_refl _, Nat.le_refl _⟩
theorem Sm.all {k w : Nat} : ∀ {l : List PyData}, (∀ d ∈ l, Sm d k w) → PyData.showableAll l = true ∧ PyData.leavesShortAll 40 l = true ∧ PyData.canLayAll0 l = true ∧ PyData.depthAll l ≤ k ∧ PyData.weightAll l ≤ (w + 1) * l.length
  | [], _ => ⟨rfl, rfl, rfl, Nat.zero_le _, Nat.zero_le _⟩
  | d :: r, h => by
    obtain ⟨a, b, c, e, f⟩ := Sm.all (l := r) fun x hx => h x (List.mem_cons_of_mem _ hx)
    have g := h d List.mem_cons_self
    refine ⟨?_, ?_, ?_, ?_, ?_⟩
    · simp only [PyData.showableAll, Bool.and_eq_true]; exact ⟨g.sh, a⟩
    · simp only [PyData.leavesShortAll, Bool.and_eq_true]; exact ⟨g.ls, b⟩
    · simp only [PyData.canLayAll0, Bool.and_eq_true]; exact ⟨g.cl, c⟩
    · simp only [PyData.depthAll]
      have := g.dp
      omega
    · simp only [PyData.weightAll, List.length_cons]
      have := g.wt
      rw [Nat.mul_succ]
      omega
theorem Sm.list {k w : Nat} {l : List PyData} (h : ∀ d ∈ l, Sm d k w) : Sm (.list l) (k + 1) ((w + 1) * l.length) := by
  obtain ⟨a, b, c, e, f⟩ := Sm.all h
  exact ⟨by simp only [PyData.showable]; exact a, by simp only [PyData.leavesShort]; exact b, by simp only [PyData.canLay0]; exact c, by simp only [PyData.depth]; omega, by simp only [PyData.weight]; exact f⟩
theorem Sm.tup {k w : Nat} {l : List PyData} (h : ∀ d ∈ l, Sm d k w) : Sm (.tuple l) (k + 1) ((w + 1) * l.length) := by
  obtain ⟨a, b, c, e, f⟩ := Sm.all h
  exact ⟨by simp only [PyData.showable]; exact a, by simp only [PyData.leavesShort]; exact b, by simp only [PyData.canLay0]; exact c, by simp only [PyData.depth]; omega, by simp only [PyData.weight]; exact f⟩
theorem Sm.ok {d : PyData} {k w : Nat} (h : Sm d k w) (hk : k ≤ 64) (hw : w ≤ 200000) : d.showable = true ∧ SeqAt.shaped d = true ∧ d.shown.length ≤ sizeLine := by
  refine ⟨h.sh, ?_, ?_⟩
  · unfold SeqAt.shaped
    rw [Bool.and_eq_true, decide_eq_true_iff]
    exact ⟨h.cl, Nat.le_trans h.dp hk⟩
  · have := PyData.shown_le 40 (by decide) _ h.ls
    have e : (40 + 2) * d.weight ≤ 42 * 200000 := Nat.mul_le_mul_left _ (Nat.le_trans h.wt hw)
    exact Nat.le_trans this (Nat.le_trans (show _ ≤ 9000000 by omega) (by decide))
theorem dpAll_of {K : PySem.W.Frag} {H : Hp} : ∀ {vs : List V} {ds : List PyData}, vs.length = ds.length → (∀ (i : Nat) v d, vs[i]? = some v → ds[i]? = some d → Dp K H v d) → DpAll K H vs ds
  | [], [], _, _ => .nil
  | v :: vs, d :: ds, h, g => .cons (g 0 v d rfl rfl) (dpAll_of (by simpa using h) fun i x y h1 h2 => g (i + 1) x y h1 h2)
  | [], _ :: _, h, _ => by simp at h
  | _ :: _, [], h, _ => by simp at h
end LG

/-! data of lists and tuples: repr and == -/
namespace LS
open PySem L2 LT LG LP LX
section
variable {K : PySem.W.Frag} {H : Hp} {Q : VK}
def dI (ns : List Int) : PyData := .list (ns.map PyData.int)
def dS (ns : List Str) : PyData := .list (ns.map PyData.str)
theorem dpA_i : ∀ l : List Int, DpAll K H (l.map V.int) (l.map PyData.int)
  | [] => .nil
  | i :: r => .cons (.int i) (dpA_i r)
theorem dpA_s : ∀ l : List Str, DpAll K H (l.map V.str) (l.map PyData.str)
  | [] => .nil
  | i :: r => .cons (.str i) (dpA_s r)
theorem dp_i {p : Addr} {ns : List Int} (h : SqL K H p (ns.map V.int)) : Dp K H (.ref p) (dI ns) := .lst h (dpA_i _)
theorem dp_s {p : Addr} {ns : List Str} (h : SqL K H p (ns.map V.str)) : Dp K H (.ref p) (dS ns) := .lst h (dpA_s _)
theorem dp_it {p : Addr} {ns : List Int} (h : SqT K H p (ns.map V.int)) : Dp K H (.ref p) (.tuple (ns.map PyData.int)) := .tup h (dpA_i _)
theorem dp_E {p : Addr} {ns : List Int} (h : SqE K H p (ns.map V.int)) : ∃ d, (d = dI ns ∨ d = .tuple (ns.map PyData.int)) ∧ ∀ H', SqE K H' p (ns.map V.int) → True := ⟨_, .inl rfl, fun _ _ => trivial⟩
theorem clA_i (l : List Int) : PyData.canLayAll0 (l.map PyData.int) = true := by
  induction l with
  | nil => rfl
  | cons i r ih => simp [PyData.canLayAll0, PyData.canLay0, ih]
theorem dpthA_i (l : List Int) : PyData.depthAll (l.map PyData.int) = 0 := by
  induction l with
  | nil => rfl
  | cons i r ih => simp [PyData.depthAll, PyData.depth, ih]
theorem clA_s (l : List Str) (h : ∀ x ∈ l, PyData.strOk x = true) : PyData.canLayAll0 (l.map PyData.str) = true := by
  induction l with
  | nil => rfl
  | cons i r ih => simp [PyData.canLayAll0, PyData.canLay0, ih fun x hx => h x (List.mem_cons_of_mem _ hx), h i (List.mem_cons_self ..)]
theorem dpthA_s (l : List Str) : PyData.depthAll (l.map PyData.str) = 0 := by
  induction l with
  | nil => rfl
  | cons i r ih => simp [PyData.depthAll, PyData.depth, ih]
theorem sh_i (l : List Int) : SeqAt.shaped (dI l) = true := by simp [SeqAt.shaped, dI, PyData.canLay0, PyData.depth, clA_i, dpthA_i]
theorem sh_s (l : List Str) (h : ∀ x ∈ l, PyData.strOk x = true) : SeqAt.shaped (dS l) = true := by simp [SeqAt.shaped, dS, PyData.canLay0, PyData.depth, clA_s l h, dpthA_s]
theorem eqvA_i : ∀ a b : List Int, PyData.eqvAll (a.map PyData.int) (b.map PyData.int) = decide (a = b)
  | [], [] => by simp [PyData.eqvAll]
  | [], _ :: _ => by simp [PyData.eqvAll]
  | _ :: _, [] => by simp [PyData.eqvAll]
  | x :: r, y :: t => by
    simp only [List.map_cons, PyData.eqvAll, eqvA_i r t]
    by_cases e : x = y
    · subst e; simp [PyData.eqv]
    · have : (x == y) = false := beq_eq_false_iff_ne.mpr e
      simp [PyData.eqv, e, this]
theorem eqvA_s : ∀ a b : List Str, PyData.eqvAll (a.map PyData.str) (b.map PyData.str) = decide (a = b)
  | [], [] => by simp [PyData.eqvAll]
  | [], _ :: _ => by simp [PyData.eqvAll]
  | _ :: _, [] => by simp [PyData.eqvAll]
  | x :: r, y :: t => by
    simp only [List.map_cons, PyData.eqvAll, eqvA_s r t]
    by_cases e : x = y
    · subst e; simp [PyData.eqv]
    · have : (x == y) = false := beq_eq_false_iff_ne.mpr e
      simp [PyData.eqv, e, this]
theorem eqv_i (a b : List Int) : PyData.eqv (dI a) (dI b) = decide (a = b) := by simp only [dI, PyData.eqv]; exact eqvA_i a b
theorem eqv_s (a b : List Str) : PyData.eqv (dS a) (dS b) = decide (a = b) := by simp only [dS, PyData.eqv]; exact eqvA_s a b
theorem reqd {x y : V} {d e : PyData} (h1 : Dp K H x d) (h2 : Dp K H y e) (s1 : SeqAt.shaped d = true) (s2 : SeqAt.shaped e = true) (q : Q (.bl (PyData.eqv d e)) H) : rEqD K x y H Q := ⟨d, e, h1, h2, s1, s2, q⟩
theorem rned {x y : V} {d e : PyData} (h1 : Dp K H x d) (h2 : Dp K H y e) (s1 : SeqAt.shaped d = true) (s2 : SeqAt.shaped e = true) (q : Q (.bl (!PyData.eqv d e)) H) : rNeD K x y H Q := ⟨d, e, h1, h2, s1, s2, q⟩
theorem req_il {a b : Addr} {x y : List Int} (h1 : SqL K H a (x.map V.int)) (h2 : SqL K H b (y.map V.int)) (q : Q (.bl (decide (x = y))) H) : rEqD K (.ref a) (.ref b) H Q := reqd (dp_i h1) (dp_i h2) (sh_i _) (sh_i _) (by rw [eqv_i]; exact q)
theorem rne_il {a b : Addr} {x y : List Int} (h1 : SqL K H a (x.map V.int)) (h2 : SqL K H b (y.map V.int)) (q : Q (.bl (!decide (x = y))) H) : rNeD K (.ref a) (.ref b) H Q := rned (dp_i h1) (dp_i h2) (sh_i _) (sh_i _) (by rw [eqv_i]; exact q)
theorem req_sl {a b : Addr} {x y : List Str} (o1 : ∀ z ∈ x, PyData.strOk z = true) (o2 : ∀ z ∈ y, PyData.strOk z = true) (h1 : SqL K H a (x.map V.str)) (h2 : SqL K H b (y.map V.str)) (q : Q (.bl (decide (x = y))) H) : rEqD K (.ref a) (.ref b) H Q := reqd (dp_s h1) (dp_s h2) (sh_s _ o1) (sh_s _ o2) (by rw [eqv_s]; exact q)
theorem rne_sl {a b : Addr} {x y : List Str} (o1 : ∀ z ∈ x, PyData.strOk z = true) (o2 : ∀ z ∈ y, PyData.strOk z = true) (h1 : SqL K H a (x.map V.str)) (h2 : SqL K H b (y.map V.str)) (q : Q (.bl (!decide (x = y))) H) : rNeD K (.ref a) (.ref b) H Q := rned (dp_s h1) (dp_s h2) (sh_s _ o1) (sh_s _ o2) (by rw [eqv_s]; exact q)
theorem rrepr {a : Addr} {d : PyData} {k w : Nat} (h : Dp K H (.ref a) d) (s : Sm d k w) (hk : k ≤ 64) (hw : w ≤ 200000) (q : Q (.str d.shown) H) : rReprN K [.ref a] H Q := by
  obtain ⟨a1, a2, a3⟩ := s.ok hk hw
  exact .inr (.inr (.inr ⟨a, d, rfl, h, a1, a2, a3, q⟩))
theorem rrepr_i {i : Int} (h : i.natAbs.log2 < 1920) (q : Q (.str (toString i)) H) : rReprN K [.int i] H Q := .inr (.inr (.inl ⟨i, rfl, h, q⟩))
theorem rrepr_n (q : Q (.str "None") H) : rReprN K [.non] H Q := .inl ⟨rfl, q⟩
theorem rrepr_b {b : Bool} (q : Q (.str (if b then "True" else "False")) H) : rReprN K [.bl b] H Q := .inr (.inl ⟨b, rfl, q⟩)
theorem sm_ints {ns : List Int} (h : ∀ x ∈ ns, x.natAbs < 10 ^ 31) : Sm (dI ns) 1 (122 * ns.length) := by
  have := Sm.list (k := 0) (w := 121) (l := ns.map PyData.int) (fun d hd => by obtain ⟨i, hi, rfl⟩ := List.mem_map.mp hd; exact Sm.int (h i hi))
  rw [List.length_map] at this
  exact this
theorem sm_intsT {ns : List Int} (h : ∀ x ∈ ns, x.natAbs < 10 ^ 31) : Sm (.tuple (ns.map PyData.int)) 1 (122 * ns.length) := by
  have := Sm.tup (k := 0) (w := 121) (l := ns.map PyData.int) (fun d hd => by obtain ⟨i, hi, rfl⟩ := List.mem_map.mp hd; exact Sm.int (h i hi))
  rw [List.length_map] at this
  exact this
end
end LS

namespace LT
end LT
namespace LG
end LG
namespace LQ
end LQ
namespace LH
end LH
namespace LC
end LC
namespace LX
end LX
namespace LP
open PySem L2 LT LG LQ LH LC LX
def topS (i : Nat) : Stmt := PySem.Challenge.pw_leftreturn_k50_places_as_text.main.body.getD i (.Pass ⟨0, 0, 0, 0⟩)
abbrev s_is_whole : Stmt := topS 7
abbrev s_is_listed : Stmt := topS 8
abbrev s_is_place : Stmt := topS 9
abbrev s_is_place_list : Stmt := topS 10
abbrev s_check_places : Stmt := topS 11
abbrev s_numbers_text : Stmt := topS 13
abbrev s_format_places : Stmt := topS 14
abbrev s_read_number : Stmt := topS 15
abbrev s_words_of : Stmt := topS 16
abbrev s_parse_places : Stmt := topS 17
abbrev s__law_reel : Stmt := topS 19
abbrev s__law_draw : Stmt := topS 20
abbrev s__law_shuffled : Stmt := topS 21
abbrev s__law_places : Stmt := topS 22
abbrev s__law_dressed : Stmt := topS 25
abbrev s_law : Stmt := topS 26
theorem sc_is_whole : FnScope ["value"] ["value"] (defScope s_is_whole) := ⟨rfl, rfl, rfl, by decide +kernel, rfl, by decide +kernel, by decide +kernel⟩
theorem sc_is_listed : FnScope ["value"] ["value"] (defScope s_is_listed) := ⟨rfl, rfl, rfl, by decide +kernel, rfl, by decide +kernel, by decide +kernel⟩
theorem sc_is_place : FnScope ["value"] ["value"] (defScope s_is_place) := ⟨rfl, rfl, rfl, by decide +kernel, rfl, by decide +kernel, by decide +kernel⟩
theorem sc_is_place_list : FnScope ["value", "item"] ["value"] (defScope s_is_place_list) := ⟨rfl, rfl, rfl, by decide +kernel, rfl, by decide +kernel, by decide +kernel⟩
theorem sc_check_places : FnScope ["value"] ["value"] (defScope s_check_places) := ⟨rfl, rfl, rfl, by decide +kernel, rfl, by decide +kernel, by decide +kernel⟩
theorem sc_numbers_text : FnScope ["numbers", "number"] ["numbers"] (defScope s_numbers_text) := ⟨rfl, rfl, rfl, by decide +kernel, rfl, by decide +kernel, by decide +kernel⟩
theorem sc_format_places : FnScope ["places"] ["places"] (defScope s_format_places) := ⟨rfl, rfl, rfl, by decide +kernel, rfl, by decide +kernel, by decide +kernel⟩
theorem sc_read_number : FnScope ["text", "number", "digit"] ["text"] (defScope s_read_number) := ⟨rfl, rfl, rfl, by decide +kernel, rfl, by decide +kernel, by decide +kernel⟩
theorem sc_words_of : FnScope ["text", "most", "words"] ["text", "most"] (defScope s_words_of) := ⟨rfl, rfl, rfl, by decide +kernel, rfl, by decide +kernel, by decide +kernel⟩
theorem sc_parse_places : FnScope ["text", "places", "index", "word", "place"] ["text"] (defScope s_parse_places) := ⟨rfl, rfl, rfl, by decide +kernel, rfl, by decide +kernel, by decide +kernel⟩
theorem sc__law_reel : FnScope ["script", "stir", "cell", "great"] ["script"] (defScope s__law_reel) := ⟨rfl, rfl, rfl, by decide +kernel, rfl, by decide +kernel, by decide +kernel⟩
theorem sc__law_draw : FnScope ["reel", "many", "rest", "extra", "stir"] ["reel", "many"] (defScope s__law_draw) := ⟨rfl, rfl, rfl, by decide +kernel, rfl, by decide +kernel, by decide +kernel⟩
theorem sc__law_shuffled : FnScope ["reel", "values", "left", "value"] ["reel", "values"] (defScope s__law_shuffled) := ⟨rfl, rfl, rfl, by decide +kernel, rfl, by decide +kernel, by decide +kernel⟩
theorem sc__law_places : FnScope ["reel", "many", "step", "found", "place", "turn", "way"] ["reel", "many"] (defScope s__law_places) := ⟨rfl, rfl, rfl, by decide +kernel, rfl, by decide +kernel, by decide +kernel⟩
theorem sc__law_dressed : FnScope ["reel", "value", "parts", "part"] ["reel", "value"] (defScope s__law_dressed) := ⟨rfl, rfl, rfl, by decide +kernel, rfl, by decide +kernel, by decide +kernel⟩
theorem sc_law : FnScope ["script", "reel", "k", "places", "dressed", "kept", "due", "found", "place"] ["script"] (defScope s_law) := ⟨rfl, rfl, rfl, by decide +kernel, rfl, by decide +kernel, by decide +kernel⟩
structure Env (K : PySem.W.Frag) (mg : Str → Option Value) where
  n_len : mg "len" = none
  n_range : mg "range" = none
  n_list : mg "list" = none
  n_tuple : mg "tuple" = none
  n_int : mg "int" = none
  n_bool : mg "bool" = none
  n_str : mg "str" = none
  n_isinstance : mg "isinstance" = none
  n_min : mg "min" = none
  n_set : mg "set" = none
  n_all : mg "all" = none
  n_repr : mg "repr" = none
  n_enumerate : mg "enumerate" = none
  t_MOST_PLACES : Tok
  g_MOST_PLACES : mg "MOST_PLACES" = some (.int 200 t_MOST_PLACES)
  t_GREATEST_PLACE : Tok
  g_GREATEST_PLACE : mg "GREATEST_PLACE" = some (.int 1000000000000000000000000000000 t_GREATEST_PLACE)
  a_is_whole : Addr
  d_is_whole : FuncData
  f_is_whole : Fun K "is_whole" "is_whole" s_is_whole a_is_whole d_is_whole
  b_is_whole : Binds K d_is_whole ["value"] []
  g_is_whole : mg "is_whole" = some (.ref a_is_whole)
  a_is_listed : Addr
  d_is_listed : FuncData
  f_is_listed : Fun K "is_listed" "is_listed" s_is_listed a_is_listed d_is_listed
  b_is_listed : Binds K d_is_listed ["value"] []
  g_is_listed : mg "is_listed" = some (.ref a_is_listed)
  a_is_place : Addr
  d_is_place : FuncData
  f_is_place : Fun K "is_place" "is_place" s_is_place a_is_place d_is_place
  b_is_place : Binds K d_is_place ["value"] []
  g_is_place : mg "is_place" = some (.ref a_is_place)
  a_is_place_list : Addr
  d_is_place_list : FuncData
  f_is_place_list : Fun K "is_place_list" "is_place_list" s_is_place_list a_is_place_list d_is_place_list
  b_is_place_list : Binds K d_is_place_list ["value"] []
  g_is_place_list : mg "is_place_list" = some (.ref a_is_place_list)
  a_check_places : Addr
  d_check_places : FuncData
  f_check_places : Fun K "check_places" "check_places" s_check_places a_check_places d_check_places
  b_check_places : Binds K d_check_places ["value"] []
  g_check_places : mg "check_places" = some (.ref a_check_places)
  a_numbers_text : Addr
  d_numbers_text : FuncData
  f_numbers_text : Fun K "numbers_text" "numbers_text" s_numbers_text a_numbers_text d_numbers_text
  b_numbers_text : Binds K d_numbers_text ["numbers"] []
  g_numbers_text : mg "numbers_text" = some (.ref a_numbers_text)
  a_format_places : Addr
  d_format_places : FuncData
  f_format_places : Fun K "format_places" "format_places" s_format_places a_format_places d_format_places
  b_format_places : Binds K d_format_places ["places"] []
  g_format_places : mg "format_places" = some (.ref a_format_places)
  a_read_number : Addr
  d_read_number : FuncData
  f_read_number : Fun K "read_number" "read_number" s_read_number a_read_number d_read_number
  b_read_number : Binds K d_read_number ["text"] []
  g_read_number : mg "read_number" = some (.ref a_read_number)
  a_words_of : Addr
  d_words_of : FuncData
  f_words_of : Fun K "words_of" "words_of" s_words_of a_words_of d_words_of
  b_words_of : Binds K d_words_of ["text", "most"] []
  g_words_of : mg "words_of" = some (.ref a_words_of)
  a_parse_places : Addr
  d_parse_places : FuncData
  f_parse_places : Fun K "parse_places" "parse_places" s_parse_places a_parse_places d_parse_places
  b_parse_places : Binds K d_parse_places ["text"] []
  g_parse_places : mg "parse_places" = some (.ref a_parse_places)
  a__law_reel : Addr
  d__law_reel : FuncData
  f__law_reel : Fun K "_law_reel" "_law_reel" s__law_reel a__law_reel d__law_reel
  b__law_reel : Binds K d__law_reel ["script"] []
  g__law_reel : mg "_law_reel" = some (.ref a__law_reel)
  a__law_draw : Addr
  d__law_draw : FuncData
  f__law_draw : Fun K "_law_draw" "_law_draw" s__law_draw a__law_draw d__law_draw
  b__law_draw : Binds K d__law_draw ["reel", "many"] []
  g__law_draw : mg "_law_draw" = some (.ref a__law_draw)
  a__law_shuffled : Addr
  d__law_shuffled : FuncData
  f__law_shuffled : Fun K "_law_shuffled" "_law_shuffled" s__law_shuffled a__law_shuffled d__law_shuffled
  b__law_shuffled : Binds K d__law_shuffled ["reel", "values"] []
  g__law_shuffled : mg "_law_shuffled" = some (.ref a__law_shuffled)
  a__law_places : Addr
  d__law_places : FuncData
  f__law_places : Fun K "_law_places" "_law_places" s__law_places a__law_places d__law_places
  b__law_places : Binds K d__law_places ["reel", "many"] []
  g__law_places : mg "_law_places" = some (.ref a__law_places)
  a__law_dressed : Addr
  d__law_dressed : FuncData
  f__law_dressed : Fun K "_law_dressed" "_law_dressed" s__law_dressed a__law_dressed d__law_dressed
  b__law_dressed : Binds K d__law_dressed ["reel", "value"] []
  g__law_dressed : mg "_law_dressed" = some (.ref a__law_dressed)
  a_law : Addr
  d_law : FuncData
  f_law : Fun K "law" "law" s_law a_law d_law
  b_law : Binds K d_law ["script"] []
  g_law : mg "law" = some (.ref a_law)
end LP

/-! numbers as texts -/
namespace LQ
open PySem L2 TL
def nst (i : Int) : Str := Str.ofString (toString i)
def txtN (ns : List Int) : Str := Txt.join (" " : Str) (ns.map nst)
theorem tl_nst (n : Nat) : (nst (n : Int)).cps.toList = numL n := tl_num n
theorem tl_eq {a b : Str} (h : a.cps.toList = b.cps.toList) : a = b := by
  cases a; cases b; simp at h; rw [h]
theorem nst_len {n : Nat} (h : n ≤ 10 ^ 30) : (nst (n : Int)).length ≤ 31 := by
  show (nst (n : Int)).cps.size ≤ 31
  rw [← Array.length_toList, tl_nst]
  exact numL_len (by decide) (by have : (10 : Nat) ^ 30 < 10 ^ 31 := by decide
                                 omega)
theorem head_numL (n : Nat) : (numL n)[0]? = some 48 → n = 0 := by
  induction n using Nat.strongRecOn with
  | _ n ih =>
    intro h
    by_cases q : n < 10
    · rw [numL_lt q] at h
      simp at h; exact h
    · rw [numL_step (by omega), List.getElem?_append_left (List.length_pos_iff.mpr (numL_ne _))] at h
      have := ih (n / 10) (by omega) h
      omega
theorem zero_txt : nst 0 = ("0" : Str) := by decide +kernel
theorem numL_all (n : Nat) : ∀ c ∈ numL n, 48 ≤ c ∧ c ≤ 57 := fun c hc => by
  have := numL_digits n c hc
  omega
theorem nst_ascii (n : Nat) : Txt.isascii (nst (n : Int)) = true := by
  unfold Txt.isascii
  rw [← Array.all_toList, tl_nst, List.all_eq_true]
  intro c hc
  have := numL_all n c hc
  exact decide_eq_true (by omega)
theorem dig (c : Nat) (h : 48 ≤ c ∧ c ≤ 57) : Unicode.isDigit c = true := by
  obtain ⟨h1, h2⟩ := h
  have : ∀ d : Fin 10, Unicode.isDigit (48 + d.val) = true := by decide +kernel
  have := this ⟨c - 48, by omega⟩
  rw [show 48 + (c - 48) = c by omega] at this
  exact this
theorem nst_digit (n : Nat) : Txt.isdigit (nst (n : Int)) = true := by
  unfold Txt.isdigit
  rw [Bool.and_eq_true, ← Array.all_toList, tl_nst, List.all_eq_true]
  refine ⟨decide_eq_true ?_, fun c hc => dig c (numL_all n c hc)⟩
  show (nst (n : Int)).cps.size > 0
  rw [← Array.length_toList, tl_nst]
  exact List.length_pos_iff.mpr (numL_ne _)
/-- the value of digits -/
def dval (l : List Nat) : Nat := l.foldl (fun a c => a * 10 + (c - 48)) 0
theorem fold_ge : ∀ (l : List Nat) (a : Nat), a ≤ l.foldl (fun a c => a * 10 + (c - 48)) a
  | [], a => Nat.le_refl _
  | c :: r, a => Nat.le_trans (by show a ≤ a * 10 + (c - 48); omega) (fold_ge r _)
theorem dval_take (l : List Nat) (i : Nat) : dval (l.take i) ≤ dval l := by
  have e : dval l = (l.drop i).foldl (fun a c => a * 10 + (c - 48)) (dval (l.take i)) := by
    unfold dval
    rw [← List.foldl_append, List.take_append_drop]
  rw [e]; exact fold_ge _ _
theorem dval_num (n : Nat) : dval (numL n) = n := numL_val n
theorem dval_snoc {l : List Nat} {i c : Nat} (h : l[i]? = some c) : dval (l.take (i + 1)) = dval (l.take i) * 10 + (c - 48) := by
  have e : l.take (i + 1) = l.take i ++ [c] := by
    rw [List.take_add_one, h]; rfl
  unfold dval
  rw [e, List.foldl_append]; rfl
theorem int_dig {c : Nat} (h : 48 ≤ c ∧ c ≤ 57) : intText? ⟨#[c]⟩ = some ((c - 48 : Nat) : Int) := by
  have := intText_digits (x := ⟨#[c]⟩) (by intro d hd; simp at hd; subst hd; omega) (by simp) (by show 1 ≤ 4300; decide)
  rw [this]
  simp [NumText.digitsVal]
theorem sp_tl : (" " : Str).cps.toList = [32] := by decide +kernel
theorem nat_of {i : Int} (h : 0 ≤ i) : i = ((i.toNat : Nat) : Int) := by omega
theorem split_txtN {ns : List Int} (hn : ns ≠ []) (h : ∀ x ∈ ns, 0 ≤ x) : Txt.split (txtN ns) (" " : Str) = ns.map nst := by
  refine split_join (s := 32) (S := []) sp_tl (by decide +kernel) (by simpa using hn) fun p hp => ?_
  obtain ⟨i, hi, rfl⟩ := List.mem_map.mp hp
  rw [nat_of (h i hi)]
  show 32 ∉ (nst _).cps.toList
  rw [tl_nst]
  exact numL_free (by decide)
theorem sum_le : ∀ (l : List Nat) (m : Nat), (∀ x ∈ l, x ≤ m) → l.sum ≤ l.length * m
  | [], _, _ => by simp
  | a :: r, m, h => by
    have h1 := h a (List.mem_cons_self ..)
    have h2 := sum_le r m fun x hx => h x (List.mem_cons_of_mem _ hx)
    rw [List.sum_cons, List.length_cons, Nat.add_mul]
    omega
theorem txtN_sz {ns : List Int} (h : ∀ x ∈ ns, 0 ≤ x ∧ x ≤ 10 ^ 30) (hl : ns.length ≤ 400) : (((ns.map nst).map (·.length)).sum + (ns.map nst).length * (" " : Str).length ≤ 16777216) := by
  have e : (" " : Str).length = 1 := by decide +kernel
  have := sum_le ((ns.map nst).map (·.length)) 31 (fun x hx => by
    obtain ⟨p, hp, rfl⟩ := List.mem_map.mp hx
    obtain ⟨i, hi, rfl⟩ := List.mem_map.mp hp
    obtain ⟨h0, h1⟩ := h i hi
    rw [nat_of h0]
    exact nst_len (by omega))
  rw [List.length_map, List.length_map] at this
  rw [e, List.length_map]
  omega
theorem joinL_len : ∀ (ps : List (List Nat)) (m : Nat), (∀ p ∈ ps, p.length ≤ m) → (joinL [32] ps).length ≤ ps.length * (m + 1)
  | [], m, _ => by simp [joinL]
  | [p], m, h => by
    have := h p (List.mem_singleton.mpr rfl)
    show p.length ≤ 1 * (m + 1)
    omega
  | p :: q :: r, m, h => by
    have h1 := h p (List.mem_cons_self ..)
    have h2 := joinL_len (q :: r) m fun x hx => h x (List.mem_cons_of_mem _ hx)
    show (p ++ ([32] ++ joinL [32] (q :: r))).length ≤ ((q :: r).length + 1) * (m + 1)
    rw [List.length_append, List.length_append, Nat.add_mul]
    simp only [List.length_cons, List.length_nil] at *
    omega
theorem txtN_tl (ns : List Int) : (txtN ns).cps.toList = joinL [32] ((ns.map nst).map fun z => z.cps.toList) := by
  unfold txtN
  rw [join_eq]
  have := tl_join (" " : Str) (ns.map nst)
  rw [show tl (" " : Str) = [32] from sp_tl] at this
  exact this
theorem txtN_len {ns : List Int} (h : ∀ x ∈ ns, 0 ≤ x ∧ x ≤ 10 ^ 30) : (txtN ns).length ≤ ns.length * 32 := by
  show (txtN ns).cps.size ≤ _
  rw [← Array.length_toList, txtN_tl]
  have := joinL_len ((ns.map nst).map fun z => z.cps.toList) 31 fun p hp => by
    obtain ⟨q, hq, rfl⟩ := List.mem_map.mp hp
    obtain ⟨i, hi, rfl⟩ := List.mem_map.mp hq
    obtain ⟨h0, h1⟩ := h i hi
    rw [nat_of h0, Array.length_toList]
    exact nst_len (by omega)
  rw [List.length_map, List.length_map] at this
  exact this
theorem txtN_nil : txtN [] = ("" : Str) := by decide +kernel
theorem txtN_cons {a : Int} {r : List Int} (h : 0 ≤ a) : txtN (a :: r) ≠ ("" : Str) := by
  intro e
  have e3 : ("" : Str).cps.toList = [] := by decide +kernel
  have e2 : (txtN (a :: r)).cps.toList = [] := by rw [e, e3]
  have e4 : (txtN (a :: r)).cps.toList = joinL [32] ((((a :: r).map nst)).map fun z => z.cps.toList) := by
    unfold txtN
    rw [join_eq]
    have := tl_join (" " : Str) ((a :: r).map nst)
    rw [show tl (" " : Str) = [32] from sp_tl] at this
    exact this
  rw [e4, List.map_cons, List.map_cons, nat_of h, tl_nst] at e2
  have := numL_ne a.toNat
  cases r with
  | nil => exact this e2
  | cons b t =>
    have e5 : numL a.toNat ++ ([32] ++ joinL [32] (((b :: t).map nst).map fun z => z.cps.toList)) = [] := e2
    simp at e5
end LQ
namespace LQ
open PySem L2 TL
theorem joinL_mem : ∀ (ps : List (List Nat)) (c : Nat), c ∈ joinL [32] ps → c = 32 ∨ ∃ p ∈ ps, c ∈ p
  | [], c, h => by simp [joinL] at h
  | [p], c, h => .inr ⟨p, List.mem_singleton.mpr rfl, h⟩
  | p :: q :: r, c, h => by
    have h : c ∈ p ++ ([32] ++ joinL [32] (q :: r)) := h
    rcases List.mem_append.mp h with h | h
    · exact .inr ⟨p, List.mem_cons_self .., h⟩
    · rcases List.mem_append.mp h with h | h
      · exact .inl (List.mem_singleton.mp h)
      · rcases joinL_mem (q :: r) c h with h | ⟨x, hx, h⟩
        · exact .inl h
        · exact .inr ⟨x, List.mem_cons_of_mem _ hx, h⟩
theorem txtN_ok {ns : List Int} (h : ∀ x ∈ ns, 0 ≤ x) : PyData.strOk (txtN ns) = true := by
  unfold PyData.strOk
  rw [← Array.all_toList, List.all_eq_true]
  intro c hc
  rw [txtN_tl] at hc
  refine decide_eq_true ?_
  rcases joinL_mem _ _ hc with rfl | ⟨p, hp, hc⟩
  · decide
  · obtain ⟨q, hq, rfl⟩ := List.mem_map.mp hp
    obtain ⟨i, hi, rfl⟩ := List.mem_map.mp hq
    rw [nat_of (h i hi), tl_nst] at hc
    have := numL_all _ c hc
    omega
end LQ

namespace LP
open PySem L2 LT LG LQ LH LC LX
def G30 : Int := 1000000000000000000000000000000
/-- a place list of these places -/
structure Pl (ns : List Int) : Prop where
  nd : ns.Nodup
  rg : ∀ x ∈ ns, 0 ≤ x ∧ x ≤ G30
  le : ns.length ≤ 200
theorem Pl.perm {ns ms : List Int} (p : Pl ns) (h : ms.Perm ns) : Pl ms := ⟨h.nodup_iff.mpr p.nd, fun x hx => p.rg x (h.subset hx), by rw [h.length_eq]; exact p.le⟩
section
variable (K : PySem.W.Frag)
abbrev Is (H : Hp) (a : Addr) (ns : List Int) : Prop := SqE K H a (ns.map V.int)
def sp_is_whole : Sp := fun vs H Q _ => ∃ n : Int, vs = [.int n] ∧ Q (.bl true) H
def sp_is_listed : Sp := fun vs H Q _ => ∃ (a : Addr) (xs : List V), vs = [.ref a] ∧ SqE K H a xs ∧ ∀ H', Same H H' → Q (.bl true) H'
def sp_is_place : Sp := fun vs H Q _ => ∃ n : Int, vs = [.int n] ∧ 0 ≤ n ∧ n ≤ G30 ∧ Q (.bl true) H
def sp_is_place_list : Sp := fun vs H Q _ => ∃ (a : Addr) (ns : List Int), vs = [.ref a] ∧ Is K H a ns ∧ Pl ns ∧ ∀ H', Same H H' → Q (.bl true) H'
def sp_check_places : Sp := fun vs H Q _ => ∃ (a : Addr) (ns : List Int), vs = [.ref a] ∧ Is K H a ns ∧ Pl ns ∧ ∀ H', Same H H' → Q .non H'
def sp_numbers_text : Sp := fun vs H Q _ => ∃ (a : Addr) (ns : List Int), vs = [.ref a] ∧ Is K H a ns ∧ (∀ x ∈ ns, 0 ≤ x ∧ x ≤ G30) ∧ ns.length ≤ 400 ∧ ∀ H', Same H H' → Q (.str (txtN ns)) H'
def sp_format_places : Sp := fun vs H Q _ => ∃ (a : Addr) (ns : List Int), vs = [.ref a] ∧ Is K H a ns ∧ Pl ns ∧ ∀ H', Same H H' → Q (.str (txtN ns)) H'
def sp_read_number : Sp := fun vs H Q _ => ∃ n : Int, vs = [.str (nst n)] ∧ 0 ≤ n ∧ n ≤ G30 ∧ Q (.int n) H
def sp_words_of : Sp := fun vs H Q _ => ∃ (ns : List Int) (m : Int), vs = [.str (txtN ns), .int m] ∧ (∀ x ∈ ns, 0 ≤ x ∧ x ≤ G30) ∧ ns.length ≤ 400 ∧ ns.length ≤ m ∧ ∀ (H' : Hp) (p : Addr), Same H H' → H p = none → H' p = some (.lst ((ns.map nst).map V.str)) → Q (.ref p) H'
def sp_parse_places : Sp := fun vs H Q _ => ∃ ns : List Int, vs = [.str (txtN ns)] ∧ Pl ns ∧ ∀ (H' : Hp) (p : Addr), Same H H' → H p = none → H' p = some (.lst (ns.map V.int)) → Q (.ref p) H'
def sp__law_places : Sp := fun vs H Q _ => ∃ (b : Addr) (d n : Nat), vs = [.ref b, .int n] ∧ Reel H b d ∧ d < 800000 ∧ n ≤ 200 ∧
  ∀ (H' : Hp) (q : Addr) (xs : List Int), LS.RT H H' b (d + 402) → H q = none → Apart H' b q → Pl xs → (∀ x ∈ xs, x < G30) → xs.length = n → H' q = some (.lst (xs.map V.int)) → Q (.ref q) H'
def sp__law_dressed0 : Sp := fun vs H Q _ => ∃ (b : Addr) (z : Int), vs = [.ref b, .int z] ∧ ∀ H', Same H H' → Q (.int z) H'
def sp__law_dressed : Sp := fun vs H Q _ => ∃ (b : Addr) (d : Nat) (p : Addr) (ns : List Int), vs = [.ref b, .ref p] ∧ Reel H b d ∧ d < 900000 ∧ H p = some (.lst (ns.map V.int)) ∧ ns.length ≤ 400 ∧
  ∀ (H' : Hp) (q : Addr), LS.RT H H' b (d + 1) → H q = none → (H' q = some (.lst (ns.map V.int)) ∨ H' q = some (.tup (ns.map V.int))) → Q (.ref q) H'
def sp_law : Sp := fun vs H Q _ => ∃ (a : Addr) (ns : List Int), vs = [.ref a] ∧ SqL K H a (ns.map V.int) ∧ ns.length ≤ 63 ∧ ∀ H', Q (.bl true) H'
end
end LP

namespace LP
open PySem L2 LT LG LQ LH LC LX
section
variable {P : Program} {w : World} {K : PySem.W.Frag} {mg : Str → Option Value} {base : Heap}
theorem cut_63 {xs : List V} (h : xs.length ≤ 63) : cutV xs none (some (63 : Int)) = xs := by
  unfold cutV
  rw [HT.sIx_none, List.drop_zero, Nat.sub_zero]
  have : HT.sIx xs.length xs.length (some (63 : Int)) = xs.length := by
    have := HT.sIx_nat xs.length xs.length 63
    rw [show (63 : Int) = ((63 : Nat) : Int) from rfl, this]
    omega
  rw [this, List.take_length]
theorem ok__law_reel (e : Env K mg) : FnOk P w K mg base CX0 1 e.a__law_reel e.d__law_reel ["script"] (sp__law_reel K) := by
  refine Fun.ok e.f__law_reel sc__law_reel (fun vs H Q E h => ?_) (fun cdv A outer s H vs Q E hr h => ?_)
  · obtain ⟨a, ns, rfl, _⟩ := h; rfl
  · obtain ⟨a, ns, rfl, hS, hl, k⟩ := h
    have hl2 : (ns.map V.int).length ≤ 63 := by rw [List.length_map]; exact hl
    refine ⟨_, (pss_cons (ps_set (i := 1) sc__law_reel.nd rfl (by first | exact Or.inl rfl | exact Or.inr rfl) (pe_op op_pow pe_int pe_int))
      (pss_cons (ps_for PassesOwn.never rfl (pi_list (pe_slice sl_list (pv 0) po_none (po_some pe_int))) (pg_name (i := 2) sc__law_reel.nd rfl (by first | exact Or.inl rfl | exact Or.inr rfl))
      (pss_one (ps_set (i := 1) sc__law_reel.nd rfl (by first | exact Or.inl rfl | exact Or.inr rfl) (pe_op op_mod (pe_op op_add (pe_op op_add (pe_op op_mulW (pv 1) (pv 1)) (pe_op op_mod (pv 2) pe_int)) pe_int) (pe_op op_sub (pe_op op_mulW (pe_op op_pow pe_int pe_int) (pe_op op_pow pe_int pe_int)) pe_int)))))
      (pss_cons (ps_setLc (i := 3) (own := [("cell", 2)]) rfl sc__law_reel.nd rfl rfl (sw_true rfl rfl rfl (by decide +kernel)) (pi_list (pe_slice sl_list (pv 0) po_none (po_some pe_int))) (blkOk_by (N := ["script", "stir", "cell", "great"]) (sc := defScope s__law_reel) (by decide +kernel)) (fun _ _ _ _ _ => (pg_name (i := 2) sc__law_reel.nd rfl (by first | exact Or.inl rfl | exact Or.inr rfl))) (fun _ _ _ _ _ => pts_one (pt_cmpR op_ge (pv 2) (pe_op op_pow pe_int pe_int) (nomark _))) (fun _ _ _ _ _ => (pe_op op_sub (pv 2) (pe_op op_pow pe_int pe_int))))
      (pss_one (ps_ret (pe_lst (pa_cons (pv 3) (pa_cons (pe_op op_cat (pe_lc (own := [("cell", 2)]) rfl sc__law_reel.nd (pi_list (pe_slice sl_list (pv 0) po_none (po_some pe_int))) (blkOk_by (N := ["script", "stir", "cell", "great"]) (sc := defScope s__law_reel) (by decide +kernel)) (fun _ _ _ _ _ => (pg_name (i := 2) sc__law_reel.nd rfl (by first | exact Or.inl rfl | exact Or.inr rfl))) (fun _ _ _ _ _ => pts_nil) (fun _ _ _ _ _ => (pe_op op_mod (pv 2) pe_int))) (pe_lst (pa_cons pe_int pa_nil))) (pa_cons pe_int (pa_cons (pv 1) pa_nil)))))))))), ?_⟩
    refine ⟨_, _, rfl, rfl, ⟨by decide, by decide, by decide⟩, ?_⟩
    refine ⟨_, rfl, _, rfl, a, _, rfl, hS, fun p hp => ?_⟩
    rw [cut_63 hl2]
    have sp := same_upd (o := HO.lst (ns.map V.int)) hp
    refine ⟨p, rfl, ⟨_, SqL.of upd_same⟩, for_it walk_list (fun i σ H1 => ∃ (t : Int) (v : Option V), 0 ≤ t ∧ t < M127 ∧ H1 = upd H p (.lst (ns.map V.int)) ∧ σ = [some (.ref a), some (.int t), v, none])
      ⟨19 ^ 31, none, by decide, by decide, rfl, rfl⟩ (fun i σ H1 _ ⟨_, _, _, _, e1, _⟩ => by rw [e1]; exact SqL.of upd_same) ?_ ?_⟩
    · rintro i x σ H1 H2 hi ⟨t, v, h0, h1, rfl, rfl⟩ ⟨rfl, hx⟩
      obtain ⟨c, hc, rfl⟩ := at_int hx
      have lt := log_m h0 h1
      refine ⟨_, rfl, _, rfl, _, _, rfl, rfl, (by show t.natAbs.log2 + t.natAbs.log2 < 1000000; omega), _, rfl, _, _, rfl, rfl, (by show (0 : Int) < 1000000000000000003; decide), _, _, rfl, rfl, _, _, rfl, rfl, ?_⟩
      refine ⟨_, _, rfl, rfl, ⟨by decide, by decide, by decide⟩, _, _, rfl, rfl, ⟨by decide, by decide, by decide⟩, _, _, rfl, rfl, (by unfold CMulW; decide +kernel), _, _, rfl, rfl, _, _, rfl, rfl, (by show (0 : Int) < 2 ^ 64 * 2 ^ 63 - 1; decide +kernel), ?_⟩
      refine ⟨_, _, Int.emod_nonneg _ (by decide +kernel), Int.lt_trans (Int.emod_lt_of_pos _ (by decide +kernel)) (by decide +kernel), rfl, rfl⟩
    · rintro σ H1 ⟨t, v, h0, h1, rfl, rfl⟩
      have sS := sp.seq hS
      refine ⟨_, rfl, _, rfl, a, _, rfl, sS, fun q hq => ?_⟩
      rw [cut_63 hl2]
      have sq := same_upd (o := HO.lst (ns.map V.int)) hq
      refine ⟨q, rfl, ⟨_, SqL.of upd_same⟩, fun D hD => lc_it walk_list (fun j H' => ∃ gs : List Int, gs.length ≤ j ∧ Same (upd (upd H p (.lst (ns.map V.int))) q (.lst (ns.map V.int))) H' ∧ H' D = some (.lst (gs.map V.int))) ⟨[], Nat.le_refl _, same_upd hD, upd_same⟩ (fun j H' _ ⟨_, _, s, _⟩ => s.seq (SqL.of upd_same)) ?_ ?_⟩
      · rintro j x H3 H4 hj ⟨gs, gl, s3, hd⟩ ⟨rfl, hx⟩
        obtain ⟨c, hc, rfl⟩ := at_int hx
        rw [List.length_map] at hj
        refine ⟨rfl, _, rfl, _, _, rfl, rfl, ⟨by decide, by decide, by decide⟩, _, _, rfl, rfl, _, rfl, ite2d (fun h => ?_) fun h => ?_⟩
        · refine ⟨_, rfl, _, _, rfl, rfl, ⟨by decide, by decide, by decide⟩, _, _, rfl, rfl, _, hd, by rw [List.length_map]; exact small1000 (by omega), gs ++ [c - 10 ^ 18], by rw [List.length_append, List.length_singleton]; omega, fun b o hb => ?_, by rw [upd_same, List.map_append]; rfl⟩
          rw [upd_ne (ne_of_none hb hD)]; exact s3 _ _ hb
        · exact ⟨gs, by omega, s3, hd⟩
      · rintro H3 ⟨gs, gl, s3, hd⟩
        rw [List.length_map] at gl
        have s03 := (sp.trans sq).trans s3
        refine ⟨_, rfl, ?_⟩
        refine ⟨_, rfl, _, rfl, a, _, rfl, s03.seq hS, fun r hr2 => ?_⟩
        rw [cut_63 hl2]
        have sr := same_upd (o := HO.lst (ns.map V.int)) hr2
        refine ⟨r, rfl, ⟨_, SqL.of upd_same⟩, fun E hE => lc_it walk_list (fun j H' => ∃ cs : List Int, cs.length = j ∧ (∀ x ∈ cs, 0 ≤ x ∧ x < 1000003) ∧ Same (upd H3 r (.lst (ns.map V.int))) H' ∧ H' E = some (.lst (cs.map V.int))) ⟨[], rfl, (fun x h => by cases h), same_upd hE, upd_same⟩ (fun j H' _ ⟨_, _, _, s, _⟩ => s.seq (SqL.of upd_same)) ?_ ?_⟩
        · rintro j x H4 H5 hj ⟨cs, cl, cb, s4, he⟩ ⟨rfl, hx⟩
          obtain ⟨c, hc, rfl⟩ := at_int hx
          rw [List.length_map] at hj
          refine ⟨rfl, _, rfl, _, _, rfl, rfl, (by show (0 : Int) < 1000003; decide), _, he, by rw [List.length_map]; exact small1000 (by omega), cs ++ [c % 1000003], by rw [List.length_append, cl]; rfl, fun x hx => ?_, fun b o hb => ?_, by rw [upd_same, List.map_append]; rfl⟩
          · rcases List.mem_append.mp hx with z | z
            · exact cb x z
            · rw [List.mem_singleton.mp z]; exact ⟨Int.emod_nonneg _ (by decide), Int.emod_lt_of_pos _ (by decide)⟩
          · rw [upd_ne (ne_of_none hb hE)]; exact s4 _ _ hb
        · rintro H4 ⟨cs, cl, cb, s4, he⟩
          rw [List.length_map] at cl
          refine ⟨(by show 1 ≤ sizeLine; decide), fun z hz => ?_⟩
          have sz := same_upd (o := HO.lst [V.int 57]) hz
          refine ⟨_, _, _, _, rfl, rfl, sz _ _ he, upd_same, by rw [List.length_map]; exact Nat.le_of_lt (small1000 (by show cs.length + 1 ≤ 1000; omega)), fun w hw => ?_⟩
          have sw := same_upd (o := HO.lst (cs.map V.int ++ [V.int 57])) hw
          refine ⟨_, rfl, (by show 4 ≤ sizeLine; decide), fun b hb => ?_⟩
          have sb := fun o => same_upd (o := o) hb
          have s3b := ((sr.trans s4).trans sz).trans sw
          have hd5 := s3b _ _ hd
          refine k _ b ((s03.trans s3b).trans (sb _)) ((s03.trans s3b).free hb) ⟨⟨D, w, gs, cs ++ [57], 0, t, upd_same, sb _ _ _ hd5, ?_, ne_of_none hd5 hb, ne_of_none upd_same hb, by simp, by rw [List.length_append]; show cs.length + 1 ≤ 64; omega, by omega, fun x hx => ?_, by decide, by decide, h0, h1⟩⟩
          · rw [sb _ _ _ upd_same, List.map_append]; rfl
          · rcases List.mem_append.mp hx with z | z
            · exact cb x z
            · rw [List.mem_singleton.mp z]; decide
end
end LP

namespace LP
open PySem L2 LT LG LQ LH LC LX
section
variable {P : Program} {w : World} {K : PySem.W.Frag} {mg : Str → Option Value} {base : Heap}
theorem dpI {K : PySem.W.Frag} {H : Hp} : ∀ l : List Int, DpAll K H (l.map V.int) (l.map PyData.int)
  | [] => .nil
  | i :: r => .cons (.int i) (dpI r)
theorem shI (l : List Int) : SeqAt.shaped (.list (l.map PyData.int)) = true := by
  have h1 : ∀ l : List Int, PyData.canLayAll0 (l.map PyData.int) = true := fun l => by
    induction l with
    | nil => rfl
    | cons i r ih => simp [PyData.canLayAll0, PyData.canLay0, ih]
  have h2 : ∀ l : List Int, PyData.depthAll (l.map PyData.int) = 0 := fun l => by
    induction l with
    | nil => rfl
    | cons i r ih => simp [PyData.depthAll, PyData.depth, ih]
  simp [SeqAt.shaped, PyData.canLay0, PyData.depth, h1, h2]
theorem eqvI (ns : List Int) : PyData.eqv (.list (ns.map PyData.int)) (.list []) = decide (ns = []) := by
  cases ns with
  | nil => simp [PyData.eqv, PyData.eqvAll]
  | cons a r => simp [PyData.eqv, PyData.eqvAll]
theorem cut_1 {x : V} {r : List V} : cutV (x :: r) (some (1 : Int)) none = r := by
  unfold cutV
  have e : HT.sIx (x :: r).length 0 (some (1 : Int)) = 1 := by
    have := HT.sIx_nat (x :: r).length 0 1
    rw [show (1 : Int) = ((1 : Nat) : Int) from rfl, this]
    simp
  rw [HT.sIx_none, e]
  simp
theorem at_of' {xs : List V} {j : Nat} {v : V} {z : Int} (hz : z = (j : Int)) (e : xs[j]? = some v) : atI xs z = some v := by
  subst hz
  unfold atI
  rw [ixN_at (List.getElem?_eq_some_iff.mp e).1]
  exact e
theorem ok0__law_draw (e : Env K mg) : FnOk P w K mg base CX0 2 e.a__law_draw e.d__law_draw ["reel", "many"] (sp__law_draw_r) := by
  refine Fun.ok e.f__law_draw sc__law_draw (fun vs H Q E h => ?_) (fun cdv A outer s H vs Q E hr h => ?_)
  · obtain ⟨b, d, n, rfl, _⟩ := h; rfl
  · obtain ⟨b, d, n, rfl, R, hn, hn2, hd, k⟩ := h
    obtain ⟨g, c, gs, cs, kk, t, hb, hg, hc, ngb, ncb, c0, c64, g63, cb, k0, kd, t0, t1⟩ := id R.ex
    refine ⟨_, (pss_cons (ps_if (pt_cmpR (op_neD hr.units) (pe_ix ix_list (pv 0) pe_int (fun _ _ => rfl)) (pe_lst pa_nil) (nomark _))
        (pss_cons (ps_set (i := 2) sc__law_draw.nd rfl (by first | exact Or.inl rfl | exact Or.inr rfl) (pe_ix ix_list (pe_ix ix_list (pv 0) pe_int (fun _ _ => rfl)) pe_int (fun _ _ => rfl)))
      (pss_cons (ps_asg (pe_op op_cat (pe_op op_rep (pe_lst (pa_cons (pe_op op_fdivW (pv 2) (pv 1)) pa_nil)) (pe_callTy LS.call_int1 (by rfl) e.n_int (by decide +kernel) (pa_cons (pe_cmpR op_ge (pv 2) (pv 1) (nomark _)) pa_nil))) (pe_slice sl_list (pe_ix ix_list (pv 0) pe_int (fun _ _ => rfl)) (po_some pe_int) po_none)) (pg_sub (pv 0) pe_int set_list))
      (pss_one (ps_ret (pe_op op_mod (pv 2) (pv 1))))))
        pss_nil)
      (pss_cons (ps_asg (pe_op op_add (pe_ix ix_list (pv 0) pe_int (fun _ _ => rfl)) pe_int) (pg_sub (pv 0) pe_int set_list))
      (pss_cons (ps_set (i := 3) sc__law_draw.nd rfl (by first | exact Or.inl rfl | exact Or.inr rfl) (pe_ix ix_list (pe_ix ix_list (pv 0) pe_int (fun _ _ => rfl)) (pe_op op_mod (pe_ix ix_list (pv 0) pe_int (fun _ _ => rfl)) (pe_callB LS.call_len (by rfl) e.n_len PySem.boot_len (pa_cons (pe_ix ix_list (pv 0) pe_int (fun _ _ => rfl)) pa_nil))) (fun _ _ => rfl)))
      (pss_cons (ps_set (i := 4) sc__law_draw.nd rfl (by first | exact Or.inl rfl | exact Or.inr rfl) (pe_op op_add (pe_op op_add (pe_op op_mulW (pe_ix ix_list (pv 0) pe_int (fun _ _ => rfl)) (pe_ix ix_list (pv 0) pe_int (fun _ _ => rfl))) (pe_op op_mulW (pe_op op_add (pv 3) pe_int) pe_int)) (pe_op op_mulW (pe_ix ix_list (pv 0) pe_int (fun _ _ => rfl)) pe_int)))
      (pss_cons (ps_asg (pe_op op_mod (pv 4) (pe_op op_sub (pe_op op_mulW (pe_op op_pow pe_int pe_int) (pe_op op_pow pe_int pe_int)) pe_int)) (pg_sub (pv 0) pe_int set_list))
      (pss_one (ps_ret (pe_op op_mod (pe_op op_fdivW (pe_ix ix_list (pv 0) pe_int (fun _ _ => rfl)) (pe_op op_pow pe_int pe_int)) (pv 1))))))))), ?_⟩
    have r0 : ∀ r : Int, 0 ≤ r % n := fun r => Int.emod_nonneg _ (by omega)
    have r1 : ∀ r : Int, r % n < n := fun r => Int.emod_lt_of_pos _ hn
    refine ⟨_, rfl, b, _, _, _, rfl, rfl, SqL.of hb, rfl, by decide, fun e he => ?_⟩
    have se := same_upd (o := HO.lst []) he
    have hb1 := se _ _ hb
    have hg1 := se _ _ hg
    have hc1 := se _ _ hc
    refine ⟨_, _, .lst (SqL.of hg1) (dpI gs), .lst (SqL.of upd_same) .nil, shI _, rfl, _, rfl, ?_⟩
    rw [eqvI]
    generalize upd H e (.lst []) = H1 at se hb1 hg1 hc1
    by_cases hgs : gs = []
    · refine iteNB (decide_eq_true hgs) ?_
      refine ⟨_, rfl, b, _, _, _, rfl, rfl, SqL.of hb1, rfl, _, _, rfl, rfl, _, rfl, b, _, _, 2, rfl, rfl, hb1, rfl, ?_⟩
      have hc2 : upd H1 b (.lst [.ref g, .ref c, .int (kk + 1), .int t]) c = some (.lst (cs.map V.int)) := by rw [upd_ne ncb]; exact hc1
      have hg2 : upd H1 b (.lst [.ref g, .ref c, .int (kk + 1), .int t]) g = some (.lst (gs.map V.int)) := by rw [upd_ne ngb]; exact hg1
      have e0 : (cs.map V.int).length = cs.length := List.length_map ..
      have m0 : 0 ≤ (kk + 1) % ((cs.length : Nat) : Int) := Int.emod_nonneg _ (by omega)
      have m1 : (kk + 1) % ((cs.length : Nat) : Int) < cs.length := Int.emod_lt_of_pos _ (by omega)
      have hx : ((kk + 1) % ((cs.length : Nat) : Int)).toNat < cs.length := by omega
      refine ⟨_, rfl, b, _, _, _, rfl, rfl, SqL.of upd_same, rfl, ?_⟩
      refine ⟨_, rfl, b, _, _, _, rfl, rfl, SqL.of upd_same, rfl, _, rfl, b, _, _, _, rfl, rfl, SqL.of upd_same, rfl, c, _, rfl, .inl (SqL.of hc2), _, _, rfl, rfl, (by rw [e0]; omega), ?_⟩
      have hcx := List.getElem?_eq_getElem (l := cs) hx
      generalize cs[((kk + 1) % ((cs.length : Nat) : Int)).toNat]'hx = ex at hcx
      obtain ⟨x0, x1⟩ := cb ex (List.mem_of_getElem? hcx)
      refine ⟨c, _, _, _, rfl, rfl, SqL.of hc2, at_of' (j := ((kk + 1) % ((cs.length : Nat) : Int)).toNat) (v := V.int ex) (by rw [e0]; omega) (by rw [List.getElem?_map, hcx]; rfl), ?_⟩
      have lt := log_m t0 t1
      have lx := log_m (t := ex + 13) (by omega) (by omega)
      have lk := log_m (t := kk + 1) (by omega) (by omega)
      refine ⟨_, rfl, b, _, _, _, rfl, rfl, SqL.of upd_same, rfl, _, rfl, b, _, _, _, rfl, rfl, SqL.of upd_same, rfl, _, _, rfl, rfl, (by show t.natAbs.log2 + t.natAbs.log2 < 1000000; omega), ?_⟩
      refine ⟨_, rfl, _, _, rfl, rfl, _, _, rfl, rfl, (by show (ex + 13).natAbs.log2 + Nat.log2 150889 < 1000000; have : Nat.log2 150889 < 200 := (by decide +kernel); omega), _, _, rfl, rfl, ?_⟩
      refine ⟨_, rfl, b, _, _, _, rfl, rfl, SqL.of upd_same, rfl, _, _, rfl, rfl, (by show (kk + 1).natAbs.log2 + Nat.log2 999961 < 1000000; have : Nat.log2 999961 < 200 := (by decide +kernel); omega), _, _, rfl, rfl, ?_⟩
      refine ⟨_, rfl, _, _, rfl, rfl, ⟨by decide, by decide, by decide⟩, _, _, rfl, rfl, ⟨by decide, by decide, by decide⟩, _, _, rfl, rfl, (by unfold CMulW; decide +kernel), _, _, rfl, rfl, _, _, rfl, rfl, (by show (0 : Int) < 2 ^ 64 * 2 ^ 63 - 1; decide +kernel), ?_⟩
      refine ⟨_, rfl, b, _, _, 3, rfl, rfl, upd_same, rfl, ?_⟩
      rw [upd_upd]
      refine ⟨_, rfl, b, _, _, _, rfl, rfl, SqL.of upd_same, rfl, _, _, rfl, rfl, ⟨by decide, by decide, by decide⟩, _, _, rfl, rfl, ⟨by show (0 : Int) < 2 ^ 41; decide, by show Nat.log2 (2 ^ 41) < 9000; decide +kernel⟩, _, rfl, _, _, rfl, rfl, hn, ?_⟩
      refine k _ _ (r0 _) (r1 _) ⟨⟨g, c, gs, cs, kk + 1, _, upd_same, by rw [upd_ne ngb]; exact hg1, by rw [upd_ne ncb]; exact hc1, ngb, ncb, c0, c64, g63, cb, by omega, by omega, Int.emod_nonneg _ (by decide +kernel), Int.lt_trans (Int.emod_lt_of_pos _ (by decide +kernel)) (by decide +kernel)⟩⟩ (fun a o ha n => by rw [upd_ne n]; exact se _ _ ha) fun a ap _ => ⟨ap.1, fun xs hx hm => by
        rw [upd_same] at hx; cases hx
        refine ap.2 _ hb ?_
        simp at hm ⊢
        exact hm⟩
    · refine iteNX hgs ?_
      obtain ⟨g0, gr, rfl⟩ := List.exists_cons_of_ne_nil hgs
      refine ⟨_, rfl, b, _, _, _, rfl, rfl, SqL.of hb1, rfl, g, _, _, _, rfl, rfl, SqL.of hg1, at_of' (j := 0) (v := V.int g0) rfl rfl, ?_⟩
      refine ⟨_, rfl, _, rfl, _, _, rfl, rfl, ⟨hn, hn2⟩, (by show 1 ≤ sizeLine; decide), fun m hm => ?_⟩
      have sm := same_upd (o := HO.lst [V.int (g0 / n)]) hm
      refine ⟨_, rfl, _, rfl, _, _, rfl, rfl, .inr ⟨_, rfl, ?_⟩⟩
      obtain ⟨q, hq, q01⟩ : ∃ q : Nat, (if decide (n ≤ g0) = true then (1 : Int) else 0) = (q : Int) ∧ (q = 0 ∨ q = 1) := by
        by_cases z : n ≤ g0
        · exact ⟨1, by rw [if_pos (decide_eq_true z)]; rfl, .inr rfl⟩
        · exact ⟨0, by rw [if_neg (by rw [decide_eq_false z]; decide)]; rfl, .inl rfl⟩
      show rRep (V.ref m) (V.int (if decide (n ≤ g0) = true then (1 : Int) else 0)) _ _
      rw [hq]
      refine ⟨m, _, _, rfl, rfl, upd_same, by omega, by omega, by (rcases q01 with rfl | rfl <;> (show 1 * _ ≤ sizeLine; decide)), fun p hp => ?_⟩
      have hfl : (List.replicate ((q : Nat) : Int).toNat [V.int (g0 / n)]).flatten = (List.replicate q (g0 / n)).map V.int := by
        rcases q01 with rfl | rfl <;> rfl
      show tSl _ _ _ _ _ (upd (upd H1 m (.lst [V.int (g0 / n)])) p (.lst (List.replicate ((q : Nat) : Int).toNat [V.int (g0 / n)]).flatten)) _
      rw [hfl]
      have sp := sm.trans (same_upd (o := HO.lst ((List.replicate q (g0 / n)).map V.int)) hp)
      refine ⟨_, rfl, b, _, _, _, rfl, rfl, SqL.of (sp _ _ hb1), rfl, _, rfl, g, _, rfl, SqL.of (sp _ _ hg1), fun p2 hp2 => ?_⟩
      rw [show cutV ((g0 :: gr).map V.int) (some (1 : Int)) none = gr.map V.int from cut_1]
      have s2 := same_upd (o := HO.lst (gr.map V.int)) hp2
      have g63' : gr.length + 1 ≤ 63 := g63
      have ql : (List.replicate q (g0 / n)).length ≤ 1 := by rw [List.length_replicate]; omega
      refine ⟨_, _, _, _, rfl, rfl, s2 _ _ upd_same, upd_same, by rw [List.length_map, List.length_map]; exact Nat.le_of_lt (small1000 (by omega)), fun p3 hp3 => ?_⟩
      rw [← List.map_append]
      have s3 := same_upd (o := HO.lst ((List.replicate q (g0 / n) ++ gr).map V.int)) hp3
      have s13 := (sp.trans s2).trans s3
      refine ⟨_, rfl, b, _, _, 0, rfl, rfl, s13 _ _ hb1, rfl, ?_⟩
      refine ⟨_, rfl, _, rfl, _, _, rfl, rfl, hn, ?_⟩
      have n3 : p3 ≠ b := (ne_of_none ((sp.trans s2) _ _ hb1) hp3).symm
      refine k _ _ (r0 _) (r1 _) ⟨⟨p3, c, List.replicate q (g0 / n) ++ gr, cs, kk, t, upd_same, by rw [upd_ne n3]; exact upd_same, by rw [upd_ne ncb]; exact s13 _ _ hc1, n3, ncb, c0, c64, by rw [List.length_append]; omega, cb, k0, by omega, t0, t1⟩⟩ (fun a o ha n => by rw [upd_ne n]; exact s13 _ _ (se _ _ ha)) fun a ap al => ⟨ap.1, fun xs hx hm => by
        rw [upd_same] at hx; cases hx
        simp at hm
        rcases hm with rfl | rfl
        · exact al (se.free ((sp.trans s2).free hp3))
        · exact ap.2 _ hb (by simp)⟩
theorem ok__law_draw (e : Env K mg) : FnOk P w K mg base CX0 2 e.a__law_draw e.d__law_draw ["reel", "many"] sp__law_draw_t := LS.fn_imp (ok0__law_draw e) fun _ _ _ _ => draw_t
end
end LP

namespace LP
open PySem L2 LT LG LQ LH LC LX
local macro_rules | `(tactic| array_mem_dec) => `(tactic| first
  | assumption
  | ((with_reducible apply LS.hp_s); assumption; array_mem_dec)
  | ((with_reducible apply LS.hp_f); assumption; array_mem_dec; array_mem_dec)
  | ((with_reducible apply LS.hp_t); assumption; array_mem_dec; array_mem_dec)
  | ((with_reducible apply LS.sq_o); array_mem_dec)
  | ((with_reducible apply LS.sq_s); assumption; array_mem_dec)
  | ((with_reducible apply LS.sq_f); assumption; array_mem_dec; array_mem_dec)
  | ((with_reducible apply LS.sq_t); assumption; array_mem_dec; array_mem_dec)
  | ((with_reducible apply LS.tu_o); array_mem_dec)
  | ((with_reducible apply LS.tu_s); assumption; array_mem_dec)
  | ((with_reducible apply LS.tu_f); assumption; array_mem_dec; array_mem_dec)
  | ((with_reducible apply LS.tu_t); assumption; array_mem_dec; array_mem_dec)
  | ((with_reducible apply LS.se_l); array_mem_dec)
  | ((with_reducible apply LS.se_t); array_mem_dec)
  | ((with_reducible apply LS.se_s); assumption; array_mem_dec)
  | ((with_reducible apply LS.se_f); assumption; array_mem_dec; array_mem_dec)
  | ((with_reducible apply LS.se_tt); assumption; array_mem_dec; array_mem_dec)
  | ((with_reducible exact Same.refl _))
  | ((with_reducible apply LS.sm_s); assumption; array_mem_dec)
  | ((with_reducible apply LS.sm_f); assumption; array_mem_dec; array_mem_dec)
  | ((with_reducible exact Fr.refl _ _))
  | ((with_reducible apply LS.fr_b); assumption; array_mem_dec)
  | ((with_reducible apply LS.fr_s); assumption; array_mem_dec)
  | ((with_reducible apply LS.fr_n); assumption; array_mem_dec; array_mem_dec)
  | ((with_reducible apply LS.fr_t); assumption; array_mem_dec)
  | ((with_reducible apply LS.no_s); assumption; array_mem_dec)
  | ((with_reducible apply LS.no_f); assumption; array_mem_dec; array_mem_dec)
  | ((with_reducible apply LS.no_t); assumption; array_mem_dec)
  | ((with_reducible apply Ne.symm); assumption)
  | ((with_reducible apply LS.ne_a); assumption; array_mem_dec)
  | ((with_reducible apply LS.ne_b); assumption; array_mem_dec)
  | ((with_reducible apply LS.ne_ap); assumption)
  | ((with_reducible apply LS.ne_rl); assumption; array_mem_dec)
  | ((with_reducible apply LS.rl_t); assumption)
  | ((with_reducible apply LS.rl_s); assumption; array_mem_dec)
  | ((with_reducible apply LS.rl_f); assumption; array_mem_dec; array_mem_dec)
  | ((with_reducible apply LS.ap_new); assumption; assumption; array_mem_dec)
  | ((with_reducible apply LS.ap_t); assumption; array_mem_dec; array_mem_dec)
  | ((with_reducible apply LS.ap_s); assumption; array_mem_dec; array_mem_dec)
  | ((with_reducible apply LS.ap_f); assumption; array_mem_dec; array_mem_dec; array_mem_dec)
  | ((with_reducible apply LS.rt_refl); array_mem_dec)
  | ((with_reducible apply LS.rt_t); assumption; array_mem_dec)
  | ((with_reducible apply LS.rt_s); assumption; array_mem_dec)
  | ((with_reducible apply LS.rt_f); assumption; array_mem_dec; array_mem_dec; array_mem_dec)
  | ((with_reducible apply LS.sz); (first | decide | (simp only [List.length_append, List.length_map, List.length_cons, List.length_nil, List.length_replicate]; omega)))
  | ((with_reducible apply LS.szl); (first | decide | (simp only [List.length_append, List.length_map, List.length_cons, List.length_nil, List.length_replicate]; omega))))
local macro_rules | `(tactic| array_get_dec) => `(tactic| first
  | ((with_reducible apply LS.var); exact rfl)
  | (with_reducible apply LS.con)
  | (with_reducible apply LS.op)
  | (with_reducible apply LS.ri0)
  | (with_reducible apply LS.tseq)
  | (with_reducible apply LS.tasg)
  | (with_reducible apply LS.gname)
  | (with_reducible apply LS.tcons)
  | (with_reducible apply LS.tnil)
  | (with_reducible apply LS.tcb)
  | (with_reducible apply LS.tcall)
  | (with_reducible apply LS.ttest)
  | (with_reducible apply LS.k_b)
  | (with_reducible apply LS.tb)
  | (with_reducible apply LS.tifs)
  | (with_reducible apply LS.ift)
  | (with_reducible apply LS.iff_)
  | (with_reducible apply LS.ifnt)
  | (with_reducible apply LS.ifnf)
  | (with_reducible apply LS.tnext)
  | (with_reducible apply LS.tdrop)
  | (with_reducible apply LS.tret)
  | (with_reducible apply LS.tretn)
  | (with_reducible apply LS.un)
  | (with_reducible apply LS.ru)
  | (with_reducible apply LS.tyes)
  | (with_reducible apply LS.tand)
  | (with_reducible apply LS.tor)
  | (with_reducible apply LS.tnot)
  | (with_reducible apply LS.tif)
  | (with_reducible apply LS.tandv)
  | (with_reducible apply LS.k_av)
  | (with_reducible apply LS.torv)
  | (with_reducible apply LS.k_ov)
  | (with_reducible apply LS.tnotv)
  | (with_reducible apply LS.k_nv)
  | (with_reducible apply LS.tchain)
  | (with_reducible apply LS.k_ch)
  | (with_reducible apply LS.req_i)
  | (with_reducible apply LS.rne_i)
  | (with_reducible apply LS.req_s)
  | (with_reducible apply LS.rne_s)
  | (with_reducible apply LS.req_b)
  | (with_reducible apply LS.rne_b)
  | ((with_reducible apply LS.rin_i); array_mem_dec)
  | ((with_reducible apply LS.rni_i); array_mem_dec)
  | ((with_reducible apply LS.rlen_li); array_mem_dec)
  | ((with_reducible apply LS.rlen_ls); array_mem_dec)
  | ((with_reducible apply LS.rlen_l); array_mem_dec)
  | ((with_reducible apply LS.rlen_t); array_mem_dec)
  | ((with_reducible apply LS.rixl); array_mem_dec; exact rfl)
  | ((with_reducible apply LS.rixt); array_mem_dec; exact rfl)
  | ((with_reducible apply LS.isi_i); (decide +kernel))
  | ((with_reducible apply LS.isi_s); (decide +kernel))
  | ((with_reducible apply LS.isi_l); array_mem_dec; (decide +kernel))
  | ((with_reducible apply LS.isi_t); array_mem_dec; (decide +kernel))
  | ((with_reducible apply LS.isiT_i); array_mem_dec)
  | ((with_reducible apply LS.isiT_s); array_mem_dec)
  | ((with_reducible apply LS.isiT_E); array_mem_dec; array_mem_dec)
  | (with_reducible apply LS.rmin2)
  | (with_reducible apply LS.rmax2)
  | (with_reducible apply LS.tsl)
  | (with_reducible apply LS.tthen)
  | (with_reducible apply LS.tstep)
  | (with_reducible apply LS.tnop)
  | (with_reducible apply LS.tpart)
  | (with_reducible apply LS.k_part)
  | (with_reducible apply LS.ttup)
  | (with_reducible apply LS.tlst)
  | (with_reducible apply LS.tbm)
  | (with_reducible apply LS.tbm0)
  | ((with_reducible apply LS.ty_l); array_mem_dec)
  | (with_reducible apply LS.tpar)
  | (with_reducible apply LS.tfor)
  | (with_reducible apply LS.tlc)
  | (with_reducible apply LS.ilist)
  | ((with_reducible apply LS.k_il); array_mem_dec)
  | (with_reducible apply LS.itup)
  | ((with_reducible apply LS.k_it); array_mem_dec)
  | (with_reducible apply LS.istr)
  | (with_reducible apply LS.k_is)
  | (with_reducible apply LS.irng1)
  | ((with_reducible apply LS.k_r1n); omega)
  | ((with_reducible apply LS.k_r1); (first | omega | decide); (first | omega | decide))
  | (with_reducible apply LS.irng2)
  | ((with_reducible apply LS.k_r2); (first | omega | decide); (first | omega | decide); (first | omega | decide); (first | omega | decide))
  | (with_reducible apply LS.ienum)
  | ((with_reducible apply LS.k_en); array_mem_dec)
  | (with_reducible apply LS.izip)
  | ((with_reducible apply LS.k_zip); array_mem_dec; array_mem_dec)
  | (with_reducible apply LS.tlstrg)
  | (with_reducible apply LS.trg1)
  | (with_reducible apply LS.k_g1)
  | (with_reducible apply LS.risn_i)
  | (with_reducible apply LS.risn_s)
  | (with_reducible apply LS.risn_n)
  | (with_reducible apply LS.rnotn_i)
  | (with_reducible apply LS.rnotn_n)
  | (with_reducible apply LS.rint_b)
  | (with_reducible apply LS.rint_i)
  | (with_reducible apply LS.tm0)
  | (with_reducible apply LS.tm1)
  | (with_reducible apply LS.is_str)
  | (with_reducible apply LS.ex_s0)
  | (with_reducible apply LS.ex_int_b)
  | (with_reducible apply LS.k_par)
  | (with_reducible apply LS.tpar3)
  | (with_reducible apply LS.k_par3)
  | ((with_reducible apply LS.taug); exact rfl)
  | (with_reducible apply LS.ipi)
  | ((with_reducible apply LS.gtup); array_mem_dec; exact rfl)
  | (with_reducible apply LS.gnil)
  | (with_reducible apply LS.gcons)
  | (with_reducible apply LS.gsub)
  | ((with_reducible apply LS.ri); first | omega | decide | assumption | exact ⟨by decide, by decide, by decide⟩ | exact .inl ⟨by decide, by decide⟩ | exact .inr ⟨by decide, by decide⟩ | exact .inl ⟨by omega, by omega⟩ | exact .inr ⟨by omega, by omega⟩)
  | (with_reducible apply LS.ex_ss)
  | (with_reducible apply LS.ex_s1)
  | (with_reducible apply LS.ex_i1)
  | (with_reducible apply LS.and_rfl)
  | (with_reducible apply LS.and_tr)
  | (with_reducible apply LS.is_non))

section
variable {P : Program} {w : World} {K : PySem.W.Frag} {mg : Str → Option Value} {base : Heap}

theorem get_erase {α : Type} : ∀ {l : List α} {i : Nat} {x : α}, l[i]? = some x → (x :: l.eraseIdx i).Perm l
  | [], i, x, h => by simp at h
  | a :: r, 0, x, h => by
    have e : a = x := Option.some.inj h
    subst e; exact List.Perm.refl _
  | a :: r, i + 1, x, h => by
    have ih := get_erase (l := r) (i := i) (x := x) h
    exact (List.Perm.swap a x (r.eraseIdx i)).trans (ih.cons a)
theorem pop_perm {lf dn xs : List Int} {i : Nat} {x : Int} (h : (lf ++ dn).Perm xs) (hx : lf[i]? = some x) : (lf.eraseIdx i ++ (dn ++ [x])).Perm xs := by
  refine List.Perm.trans ?_ h
  have p : (x :: lf.eraseIdx i).Perm lf := get_erase hx
  have q : (lf.eraseIdx i ++ (dn ++ [x])).Perm (x :: (lf.eraseIdx i ++ dn)) := by
    rw [← List.append_assoc]
    exact List.perm_append_singleton _ _
  exact q.trans ((List.perm_append_right_iff dn).mpr p)
theorem ok__law_shuffled (e : Env K mg) : FnOk P w K mg base CX0 3 e.a__law_shuffled e.d__law_shuffled ["reel", "values"] (sp__law_shuffled_t) := by
  refine Fun.ok e.f__law_shuffled sc__law_shuffled (fun vs H Q E h => ?_) (fun cdv A outer s H vs Q E hr h => ?_)
  · obtain ⟨b, d, p, xs, rfl, _⟩ := h; rfl
  · obtain ⟨b, d, p, xs, rfl, R, hd, hp, hx, hpb, k⟩ := h
    refine ⟨_, (pss_cons (ps_set (i := 2) sc__law_shuffled.nd rfl (by first | exact Or.inl rfl | exact Or.inr rfl) (pe_callTy LS.call_list (by rfl) e.n_list (by decide +kernel) (pa_cons (pv 1) pa_nil)))
      (pss_one (ps_ret (pe_lc (own := [("value", 3)]) rfl sc__law_shuffled.nd (pi_list (pv 1)) (blkOk_by (N := ["reel", "values", "left", "value"]) (sc := defScope s__law_shuffled) (by decide +kernel)) (fun _ _ _ _ _ => (pg_name (i := 3) sc__law_shuffled.nd rfl (by first | exact Or.inl rfl | exact Or.inr rfl))) (fun _ _ _ _ _ => pts_nil) (fun _ _ _ _ _ => (show PE _ _ (tBM K "list" _ _ _) from pe_bm PySem.F.plainAttrs_list PySem.F.slot_list_pop PySem.F.type_list_pop mt_popAt (pv 2) (pa_cons (pe_call ((ok__law_draw e).mono (by decide)) hr rfl e.g__law_draw e.f__law_draw.kp e.b__law_draw .nil pass0 (pa_cons (pv 0) (pa_cons (pe_callB (show CallR _ _ (rLenS K) from LS.call_len) (by rfl) e.n_len PySem.boot_len (pa_cons (pv 2) pa_nil)) pa_nil))) pa_nil))))))), ?_⟩
    repeat array_get_dec
    refine LS.rlist_l (by array_mem_dec) fun L H1 nL s1 hL => ?_
    repeat array_get_dec
    refine LS.comp (walk_list (xs := xs.map V.int)) (fun D j acc H' => ∃ lf dn : List Int, acc = dn.map V.int ∧ (lf ++ dn).Perm xs ∧ dn.length = j ∧ LS.RT H H' b (d + j) ∧ H' L = some (.lst (lf.map V.int)) ∧ Apart H' b L ∧ Apart H' b D) ?_ ?_ ?_ ?_
    · intro D H2 nD s2 hD
      exact ⟨xs, [], rfl, by rw [List.append_nil], rfl, (by array_mem_dec), (by array_mem_dec), (by array_mem_dec), (by array_mem_dec)⟩
    · rintro D j acc H2 hj nD hD ⟨lf, dn, rfl, pm, dl, T, hL2, aL, aD⟩
      exact (by array_mem_dec)
    · rintro D j acc x H2 H3 nD hj hl hD ⟨lf, dn, rfl, pm, dl, T, hL2, aL, aD⟩ ⟨rfl, hx2⟩
      rw [List.length_map] at hj
      have hlen := pm.length_eq
      rw [List.length_append] at hlen
      refine ⟨rfl, ?_⟩
      repeat array_get_dec
      refine ⟨b, _, _, rfl, (by array_mem_dec), by omega, log_small (by omega), by omega, fun H4 r r0 r1 T4 => ?_⟩
      have hr : r.toNat < lf.length := by omega
      have hg := List.getElem?_eq_getElem hr
      repeat array_get_dec
      refine LS.rpopi (xs := lf.map V.int) (k := r.toNat) (by array_mem_dec) (by omega) (by omega) (by rw [List.length_map]; exact seq_int r0 hr) (int_at hg) fun H5 f5 h5 => ?_
      refine LS.k_lc (acc := dn.map V.int) (by array_mem_dec) hl (by omega) fun H6 f6 h6 => ?_
      refine ⟨lf.eraseIdx r.toNat, dn ++ [lf[r.toNat]], by rw [List.map_append]; rfl, pop_perm pm hg, by rw [List.length_append, dl]; rfl, (by array_mem_dec), ?_, (by array_mem_dec), (by array_mem_dec)⟩
      rw [erase_map] at h5
      exact (by array_mem_dec)
    · rintro D acc H2 nD hD hl ⟨lf, dn, rfl, pm, dl, T, hL2, aL, aD⟩
      rw [List.length_map] at dl T
      have hlen := pm.length_eq
      rw [List.length_append] at hlen
      have e : lf = [] := List.length_eq_zero_iff.mp (by omega)
      subst e
      exact k H2 D dn T (by array_mem_dec) pm hD aD
end
end LP

namespace LP
open PySem L2 LT LG LQ LH LC LX
section
variable {P : Program} {w : World} {K : PySem.W.Frag} {mg : Str → Option Value} {base : Heap}
theorem ok_is_whole (e : Env K mg) : FnOk P w K mg base CX0 1 e.a_is_whole e.d_is_whole ["value"] (sp_is_whole) := by
  refine Fun.ok e.f_is_whole sc_is_whole (fun vs H Q E h => ?_) (fun cdv A outer s H vs Q E hr h => ?_)
  · obtain ⟨n, rfl, _⟩ := h; rfl
  · obtain ⟨n, rfl, k⟩ := h
    refine ⟨_, (pss_one (ps_ret (pe_and (pe_callB call_isi (by rfl) e.n_isinstance (by decide +kernel) (pa_cons (pv 0) (pa_cons (pe_bltn (v := V.ty "int") (by rfl) e.n_int (by decide +kernel) rfl) pa_nil))) (pe_one (pe_not (pe_callB call_isi (by rfl) e.n_isinstance (by decide +kernel) (pa_cons (pv 0) (pa_cons (pe_bltn (v := V.ty "bool") (by rfl) e.n_bool (by decide +kernel) rfl) pa_nil)))))))), ?_⟩
    refine ⟨_, rfl, _, _, _, _, true, rfl, .ty "int", .base (.int n), kit_ty (by decide +kernel), _, rfl, iteT ?_⟩
    refine ⟨_, rfl, _, _, _, _, false, rfl, .ty "bool", .base (.int n), kit_ty (by decide +kernel), _, rfl, ?_⟩
    exact k
theorem ok_is_listed (e : Env K mg) : FnOk P w K mg base CX0 1 e.a_is_listed e.d_is_listed ["value"] (sp_is_listed K) := by
  refine Fun.ok e.f_is_listed sc_is_listed (fun vs H Q E h => ?_) (fun cdv A outer s H vs Q E hr h => ?_)
  · obtain ⟨a, xs, rfl, _⟩ := h; rfl
  · obtain ⟨a, xs, rfl, hx, k⟩ := h
    refine ⟨_, (pss_one (ps_ret (pe_callB call_isiT (by rfl) e.n_isinstance (by decide +kernel) (pa_cons (pv 0) (pa_cons (pe_tup (pa_cons (pe_bltn (v := V.ty "list") (by rfl) e.n_list (by decide +kernel) rfl) (pa_cons (pe_bltn (v := V.ty "tuple") (by rfl) e.n_tuple (by decide +kernel) rfl) pa_nil))) pa_nil))))), ?_⟩
    refine ⟨_, rfl, (by show 2 ≤ sizeLine; decide), fun p hp => ?_⟩
    rcases ty_E (hx.same (same_upd hp)) with hx | hx
    · exact ⟨_, p, _, .type "list", [.type "list", .type "tuple"], true, rfl, upd_same, .cons (.ty _) (.cons (.ty _) .nil), hx, kit_lt, k _ (same_upd hp)⟩
    · exact ⟨_, p, _, .type "tuple", [.type "list", .type "tuple"], true, rfl, upd_same, .cons (.ty _) (.cons (.ty _) .nil), hx, kit_tt, k _ (same_upd hp)⟩
theorem ok_is_place (e : Env K mg) : FnOk P w K mg base CX0 2 e.a_is_place e.d_is_place ["value"] (sp_is_place) := by
  refine Fun.ok e.f_is_place sc_is_place (fun vs H Q E h => ?_) (fun cdv A outer s H vs Q E hr h => ?_)
  · obtain ⟨n, rfl, _⟩ := h; rfl
  · obtain ⟨n, rfl, h1, h2, k⟩ := h
    refine ⟨_, (pss_one (ps_ret (pe_and (pe_call ((ok_is_whole e).mono (by decide)) hr rfl e.g_is_whole e.f_is_whole.kp e.b_is_whole .nil pass0 (pa_cons (pv 0) pa_nil)) (pe_one (pe_chain op_le op_le pe_int (pv 0) (pe_glob (v := V.int 1000000000000000000000000000000) rfl e.g_GREATEST_PLACE ⟨_, rfl⟩)))))), ?_⟩
    refine ⟨_, rfl, n, rfl, _, rfl, iteT ?_⟩
    refine ⟨_, rfl, _, _, rfl, rfl, _, rfl, iteD h1 ?_⟩
    refine ⟨_, _, rfl, rfl, ?_⟩
    show Q (V.bl (decide (n ≤ 1000000000000000000000000000000))) H
    rw [decide_eq_true (show n ≤ 1000000000000000000000000000000 from h2)]
    exact k
theorem all_bl {bs : List Bool} (h : ∀ b ∈ bs, b = true) : bs.all id = true := List.all_eq_true.mpr h
theorem ok_is_place_list (e : Env K mg) : FnOk P w K mg base CX0 3 e.a_is_place_list e.d_is_place_list ["value"] (sp_is_place_list K) := by
  refine Fun.ok e.f_is_place_list sc_is_place_list (fun vs H Q E h => ?_) (fun cdv A outer s H vs Q E hr h => ?_)
  · obtain ⟨a, ns, rfl, _⟩ := h; rfl
  · obtain ⟨a, ns, rfl, hE, pl, k⟩ := h
    refine ⟨_, (pss_cons (ps_if (PW.pt (pw_or (pt_not (pt_val (pe_call ((ok_is_listed e).mono (by decide)) hr rfl e.g_is_listed e.f_is_listed.kp e.b_is_listed .nil pass0 (pa_cons (pv 0) pa_nil)))) (pw_or1 (pt_cmpR op_gt (pe_callB LS.call_len (by rfl) e.n_len PySem.boot_len (pa_cons (pv 0) pa_nil)) (pe_glob (v := V.int 200) rfl e.g_MOST_PLACES ⟨_, rfl⟩) (nomark _)))))
        (pss_one (ps_ret pe_bl))
        pss_nil)
      (pss_one (ps_ret (pe_and (pe_callB (cr_all rfl) (by rfl) e.n_all (by decide +kernel) (pa_cons (pe_lc (own := [("item", 1)]) rfl sc_is_place_list.nd (PI.or (pi_list (pv 0)) (pi_tup (pv 0))) (blkOk_by (N := ["value", "item"]) (sc := defScope s_is_place_list) (by decide +kernel)) (fun _ _ _ _ _ => (pg_name (i := 1) sc_is_place_list.nd rfl (by first | exact Or.inl rfl | exact Or.inr rfl))) (fun _ _ _ _ _ => pts_nil) (fun _ _ _ _ _ => (pe_call ((ok_is_place e).mono (by decide)) hr rfl e.g_is_place e.f_is_place.kp e.b_is_place .nil pass0 (pa_cons (pv 1) pa_nil)))) pa_nil)) (pe_one (pe_cmpR op_eq (pe_lenSetS (by rfl) e.n_len (by rfl) e.n_set (pv 0)) (pe_callB LS.call_len (by rfl) e.n_len PySem.boot_len (pa_cons (pv 0) pa_nil)) (nomark _))))))), ?_⟩
    refine ⟨_, rfl, a, _, rfl, hE, fun H1 s1 => ⟨true, rfl, iteNB rfl ?_⟩⟩
    have hE1 := hE.same s1
    have hle := pl.le
    refine ⟨_, rfl, a, _, rfl, hE1, _, _, rfl, rfl, _, rfl, iteX (by rw [List.length_map]; omega) ?_⟩
    refine or_E hE1 rfl fun J G wk hG D hD => ?_
    have sD : ∀ o, Same H1 (upd H1 D o) := fun o => same_upd hD
    refine lc_it wk (fun j H' => H' = upd H1 D (.lst (List.replicate j (V.bl true)))) rfl (fun j H' _ h => by subst h; exact hG _ (sD _)) ?_ ?_
    · rintro j x H2 H3 hj rfl ⟨rfl, hx⟩
      obtain ⟨n, hn, rfl⟩ := at_int hx
      obtain ⟨h0, h1⟩ := pl.rg n (List.mem_of_getElem? hn)
      rw [List.length_map] at hj
      refine ⟨rfl, _, rfl, n, rfl, h0, h1, _, upd_same, ?_, ?_⟩
      · rw [List.length_replicate]; exact small1000 (by omega)
      · rw [upd_upd, ← List.replicate_succ']
    · rintro H2 rfl
      have hb : List.replicate (List.map V.int ns).length (V.bl true) = (List.replicate ns.length true).map V.bl := by rw [List.length_map, List.map_replicate]
      refine ⟨D, List.replicate ns.length true, rfl, SqL.of (by rw [upd_same, hb]), true, ?_, iteT ?_⟩
      · rw [all_bl fun b hb => (List.mem_replicate.mp hb).2]
      have hE2 := hE1.same (sD (.lst (List.replicate (List.map V.int ns).length (V.bl true))))
      refine ⟨_, rfl, a, ns, rfl, hE2, pl.nd, by omega, ?_⟩
      refine ⟨_, rfl, a, _, rfl, hE2, rfl, ?_⟩
      rw [List.length_map, decide_eq_true rfl]
      have s2 : Same H (upd H1 D (.lst (List.replicate (List.map V.int ns).length (V.bl true)))) := s1.trans (sD _)
      rw [List.length_map] at s2
      exact k _ s2
theorem ok_check_places (e : Env K mg) : FnOk P w K mg base CX0 4 e.a_check_places e.d_check_places ["value"] (sp_check_places K) := by
  refine Fun.ok e.f_check_places sc_check_places (fun vs H Q E h => ?_) (fun cdv A outer s H vs Q E hr h => ?_)
  · obtain ⟨a, ns, rfl, _⟩ := h; rfl
  · obtain ⟨a, ns, rfl, hE, pl, k⟩ := h
    refine ⟨_, (pss_one (ps_if (pt_not (pt_val (pe_call ((ok_is_place_list e).mono (by decide)) hr rfl e.g_is_place_list e.f_is_place_list.kp e.b_is_place_list .nil pass0 (pa_cons (pv 0) pa_nil))))
        (pss_one ps_never)
        pss_nil)), ?_⟩
    exact ⟨_, rfl, a, ns, rfl, hE, pl, fun H1 s1 => ⟨true, rfl, iteNB rfl (k _ s1)⟩⟩
end
end LP

namespace LP
open PySem L2 LT LG LQ LH LC LX
local macro_rules | `(tactic| array_mem_dec) => `(tactic| first
  | assumption
  | ((with_reducible apply LS.hp_s); assumption; array_mem_dec)
  | ((with_reducible apply LS.hp_f); assumption; array_mem_dec; array_mem_dec)
  | ((with_reducible apply LS.hp_t); assumption; array_mem_dec; array_mem_dec)
  | ((with_reducible apply LS.sq_o); array_mem_dec)
  | ((with_reducible apply LS.sq_s); assumption; array_mem_dec)
  | ((with_reducible apply LS.sq_f); assumption; array_mem_dec; array_mem_dec)
  | ((with_reducible apply LS.sq_t); assumption; array_mem_dec; array_mem_dec)
  | ((with_reducible apply LS.tu_o); array_mem_dec)
  | ((with_reducible apply LS.tu_s); assumption; array_mem_dec)
  | ((with_reducible apply LS.tu_f); assumption; array_mem_dec; array_mem_dec)
  | ((with_reducible apply LS.tu_t); assumption; array_mem_dec; array_mem_dec)
  | ((with_reducible apply LS.se_l); array_mem_dec)
  | ((with_reducible apply LS.se_t); array_mem_dec)
  | ((with_reducible apply LS.se_s); assumption; array_mem_dec)
  | ((with_reducible apply LS.se_f); assumption; array_mem_dec; array_mem_dec)
  | ((with_reducible apply LS.se_tt); assumption; array_mem_dec; array_mem_dec)
  | ((with_reducible exact Same.refl _))
  | ((with_reducible apply LS.sm_s); assumption; array_mem_dec)
  | ((with_reducible apply LS.sm_f); assumption; array_mem_dec; array_mem_dec)
  | ((with_reducible exact Fr.refl _ _))
  | ((with_reducible apply LS.fr_b); assumption; array_mem_dec)
  | ((with_reducible apply LS.fr_s); assumption; array_mem_dec)
  | ((with_reducible apply LS.fr_n); assumption; array_mem_dec; array_mem_dec)
  | ((with_reducible apply LS.fr_t); assumption; array_mem_dec)
  | ((with_reducible apply LS.no_s); assumption; array_mem_dec)
  | ((with_reducible apply LS.no_f); assumption; array_mem_dec; array_mem_dec)
  | ((with_reducible apply LS.no_t); assumption; array_mem_dec)
  | ((with_reducible apply Ne.symm); assumption)
  | ((with_reducible apply LS.ne_a); assumption; array_mem_dec)
  | ((with_reducible apply LS.ne_b); assumption; array_mem_dec)
  | ((with_reducible apply LS.ne_ap); assumption)
  | ((with_reducible apply LS.ne_rl); assumption; array_mem_dec)
  | ((with_reducible apply LS.rl_t); assumption)
  | ((with_reducible apply LS.rl_s); assumption; array_mem_dec)
  | ((with_reducible apply LS.rl_f); assumption; array_mem_dec; array_mem_dec)
  | ((with_reducible apply LS.ap_new); assumption; assumption; array_mem_dec)
  | ((with_reducible apply LS.ap_t); assumption; array_mem_dec; array_mem_dec)
  | ((with_reducible apply LS.ap_s); assumption; array_mem_dec; array_mem_dec)
  | ((with_reducible apply LS.ap_f); assumption; array_mem_dec; array_mem_dec; array_mem_dec)
  | ((with_reducible apply LS.rt_refl); array_mem_dec)
  | ((with_reducible apply LS.rt_t); assumption; array_mem_dec)
  | ((with_reducible apply LS.rt_s); assumption; array_mem_dec)
  | ((with_reducible apply LS.rt_f); assumption; array_mem_dec; array_mem_dec; array_mem_dec)
  | ((with_reducible apply LS.sz); (first | decide | (simp only [List.length_append, List.length_map, List.length_cons, List.length_nil, List.length_replicate]; omega)))
  | ((with_reducible apply LS.szl); (first | decide | (simp only [List.length_append, List.length_map, List.length_cons, List.length_nil, List.length_replicate]; omega))))
local macro_rules | `(tactic| array_get_dec) => `(tactic| first
  | ((with_reducible apply LS.var); exact rfl)
  | (with_reducible apply LS.con)
  | (with_reducible apply LS.op)
  | (with_reducible apply LS.ri0)
  | (with_reducible apply LS.tseq)
  | (with_reducible apply LS.tasg)
  | (with_reducible apply LS.gname)
  | (with_reducible apply LS.tcons)
  | (with_reducible apply LS.tnil)
  | (with_reducible apply LS.tcb)
  | (with_reducible apply LS.tcall)
  | (with_reducible apply LS.ttest)
  | (with_reducible apply LS.k_b)
  | (with_reducible apply LS.tb)
  | (with_reducible apply LS.tifs)
  | (with_reducible apply LS.ift)
  | (with_reducible apply LS.iff_)
  | (with_reducible apply LS.ifnt)
  | (with_reducible apply LS.ifnf)
  | (with_reducible apply LS.tnext)
  | (with_reducible apply LS.tdrop)
  | (with_reducible apply LS.tret)
  | (with_reducible apply LS.tretn)
  | (with_reducible apply LS.un)
  | (with_reducible apply LS.ru)
  | (with_reducible apply LS.tyes)
  | (with_reducible apply LS.tand)
  | (with_reducible apply LS.tor)
  | (with_reducible apply LS.tnot)
  | (with_reducible apply LS.tif)
  | (with_reducible apply LS.tandv)
  | (with_reducible apply LS.k_av)
  | (with_reducible apply LS.torv)
  | (with_reducible apply LS.k_ov)
  | (with_reducible apply LS.tnotv)
  | (with_reducible apply LS.k_nv)
  | (with_reducible apply LS.tchain)
  | (with_reducible apply LS.k_ch)
  | (with_reducible apply LS.req_i)
  | (with_reducible apply LS.rne_i)
  | (with_reducible apply LS.req_s)
  | (with_reducible apply LS.rne_s)
  | (with_reducible apply LS.req_b)
  | (with_reducible apply LS.rne_b)
  | ((with_reducible apply LS.rin_i); array_mem_dec)
  | ((with_reducible apply LS.rni_i); array_mem_dec)
  | ((with_reducible apply LS.rlen_li); array_mem_dec)
  | ((with_reducible apply LS.rlen_ls); array_mem_dec)
  | ((with_reducible apply LS.rlen_l); array_mem_dec)
  | ((with_reducible apply LS.rlen_t); array_mem_dec)
  | ((with_reducible apply LS.rixl); array_mem_dec; exact rfl)
  | ((with_reducible apply LS.rixt); array_mem_dec; exact rfl)
  | ((with_reducible apply LS.isi_i); (decide +kernel))
  | ((with_reducible apply LS.isi_s); (decide +kernel))
  | ((with_reducible apply LS.isi_l); array_mem_dec; (decide +kernel))
  | ((with_reducible apply LS.isi_t); array_mem_dec; (decide +kernel))
  | ((with_reducible apply LS.isiT_i); array_mem_dec)
  | ((with_reducible apply LS.isiT_s); array_mem_dec)
  | ((with_reducible apply LS.isiT_E); array_mem_dec; array_mem_dec)
  | (with_reducible apply LS.rmin2)
  | (with_reducible apply LS.rmax2)
  | (with_reducible apply LS.tsl)
  | (with_reducible apply LS.tthen)
  | (with_reducible apply LS.tstep)
  | (with_reducible apply LS.tnop)
  | (with_reducible apply LS.tpart)
  | (with_reducible apply LS.k_part)
  | (with_reducible apply LS.ttup)
  | (with_reducible apply LS.tlst)
  | (with_reducible apply LS.tbm)
  | (with_reducible apply LS.tbm0)
  | ((with_reducible apply LS.ty_l); array_mem_dec)
  | (with_reducible apply LS.tpar)
  | (with_reducible apply LS.tfor)
  | (with_reducible apply LS.tlc)
  | (with_reducible apply LS.ilist)
  | ((with_reducible apply LS.k_il); array_mem_dec)
  | (with_reducible apply LS.itup)
  | ((with_reducible apply LS.k_it); array_mem_dec)
  | (with_reducible apply LS.istr)
  | (with_reducible apply LS.k_is)
  | (with_reducible apply LS.irng1)
  | ((with_reducible apply LS.k_r1n); omega)
  | ((with_reducible apply LS.k_r1); (first | omega | decide); (first | omega | decide))
  | (with_reducible apply LS.irng2)
  | ((with_reducible apply LS.k_r2); (first | omega | decide); (first | omega | decide); (first | omega | decide); (first | omega | decide))
  | (with_reducible apply LS.ienum)
  | ((with_reducible apply LS.k_en); array_mem_dec)
  | (with_reducible apply LS.izip)
  | ((with_reducible apply LS.k_zip); array_mem_dec; array_mem_dec)
  | (with_reducible apply LS.tlstrg)
  | (with_reducible apply LS.trg1)
  | (with_reducible apply LS.k_g1)
  | (with_reducible apply LS.risn_i)
  | (with_reducible apply LS.risn_s)
  | (with_reducible apply LS.risn_n)
  | (with_reducible apply LS.rnotn_i)
  | (with_reducible apply LS.rnotn_n)
  | (with_reducible apply LS.rint_b)
  | (with_reducible apply LS.rint_i)
  | (with_reducible apply LS.tm0)
  | (with_reducible apply LS.tm1)
  | (with_reducible apply LS.is_str)
  | (with_reducible apply LS.ex_s0)
  | (with_reducible apply LS.ex_int_b)
  | (with_reducible apply LS.k_par)
  | (with_reducible apply LS.tpar3)
  | (with_reducible apply LS.k_par3)
  | ((with_reducible apply LS.taug); exact rfl)
  | (with_reducible apply LS.ipi)
  | ((with_reducible apply LS.gtup); array_mem_dec; exact rfl)
  | (with_reducible apply LS.gnil)
  | (with_reducible apply LS.gcons)
  | (with_reducible apply LS.gsub)
  | ((with_reducible apply LS.ri); first | omega | decide | assumption | exact ⟨by decide, by decide, by decide⟩ | exact .inl ⟨by decide, by decide⟩ | exact .inr ⟨by decide, by decide⟩ | exact .inl ⟨by omega, by omega⟩ | exact .inr ⟨by omega, by omega⟩)
  | (with_reducible apply LS.ex_ss)
  | (with_reducible apply LS.ex_s1)
  | (with_reducible apply LS.ex_i1)
  | (with_reducible apply LS.and_rfl)
  | (with_reducible apply LS.and_tr)
  | (with_reducible apply LS.is_non))

section
variable {P : Program} {w : World} {K : PySem.W.Frag} {mg : Str → Option Value} {base : Heap}

theorem pl_rev {ns : List Int} (p : Pl ns) : Pl ns.reverse := p.perm (List.reverse_perm _)
theorem ok__law_places (e : Env K mg) : FnOk P w K mg base CX0 4 e.a__law_places e.d__law_places ["reel", "many"] (sp__law_places) := by
  refine Fun.ok e.f__law_places sc__law_places (fun vs H Q E h => ?_) (fun cdv A outer s H vs Q E hr h => ?_)
  · obtain ⟨b, d, n, rfl, _⟩ := h; rfl
  · obtain ⟨b, d, n, rfl, R, hd, hn, k⟩ := h
    refine ⟨_, (pss_cons (ps_par3 (i := 2) (j := 3) (l := 4) (by rfl) sc__law_places.nd rfl rfl rfl (by decide) (by decide) (by decide) rfl rfl rfl (pa_cons (pe_ix ix_list (pe_lst (pa_cons pe_int (pa_cons pe_int (pa_cons (pe_op op_pow pe_int pe_int) pa_nil)))) (pe_call ((ok__law_draw e).mono (by decide)) hr rfl e.g__law_draw e.f__law_draw.kp e.b__law_draw .nil pass0 (pa_cons (pv 0) (pa_cons pe_int pa_nil))) (fun _ _ => rfl)) (pa_cons (pe_lst pa_nil) (pa_cons pe_int pa_nil))) (by rfl))
      (pss_cons (ps_for PassesOwn.never rfl (pi_range1 (by rfl) e.n_range (pa_cons (pv 1) pa_nil)) (pg_name (i := 5) sc__law_places.nd rfl (by first | exact Or.inl rfl | exact Or.inr rfl))
      (pss_cons (ps_set (i := 4) sc__law_places.nd rfl (by first | exact Or.inl rfl | exact Or.inr rfl) (pe_op op_add (pv 4) (pe_call ((ok__law_draw e).mono (by decide)) hr rfl e.g__law_draw e.f__law_draw.kp e.b__law_draw .nil pass0 (pa_cons (pv 0) (pa_cons (pv 2) pa_nil)))))
      (pss_cons (ps_expr (pe_bm PySem.F.plainAttrs_list PySem.F.slot_list_append PySem.F.type_list_append mt_append (pv 3) (pa_cons (pv 4) pa_nil)))
      (pss_one (ps_set (i := 4) sc__law_places.nd rfl (by first | exact Or.inl rfl | exact Or.inr rfl) (pe_op op_add (pv 4) pe_int))))))
      (pss_cons (ps_set (i := 6) sc__law_places.nd rfl (by first | exact Or.inl rfl | exact Or.inr rfl) (pe_call ((ok__law_draw e).mono (by decide)) hr rfl e.g__law_draw e.f__law_draw.kp e.b__law_draw .nil pass0 (pa_cons (pv 0) (pa_cons pe_int pa_nil))))
      (pss_one (ps_ret (pe_ifExp (pt_cmpR op_gt (pv 6) pe_int (nomark _)) (pe_call ((ok__law_shuffled e).mono (by decide)) hr rfl e.g__law_shuffled e.f__law_shuffled.kp e.b__law_shuffled .nil pass0 (pa_cons (pv 0) (pa_cons (pv 3) pa_nil))) (LX.pe_stepL (pv 3) (pe_op op_sub pe_int (pe_op op_mul pe_int (pv 6)))))))))), ?_⟩
    repeat array_get_dec
    refine LS.k_lst (by array_mem_dec) fun l0 H0 n0 s0 h0 => ?_
    repeat array_get_dec
    refine ⟨b, d, 3, rfl, (by array_mem_dec), by decide, by decide +kernel, by omega, fun H1 r r0 r1 T1 => ?_⟩
    obtain ⟨z, z1, z2, hat⟩ : ∃ z : Int, 1 ≤ z ∧ z ≤ 10 ^ 27 ∧ atI [V.int 1, V.int 3, V.int (10 ^ (27 : Int).toNat)] r = some (.int z) := by
      obtain rfl | rfl | rfl : r = 0 ∨ r = 1 ∨ r = 2 := by omega
      · exact ⟨1, by decide, by decide, rfl⟩
      · exact ⟨3, by decide, by decide, rfl⟩
      · exact ⟨10 ^ 27, by decide, by decide, rfl⟩
    refine LS.rixl (by array_mem_dec) hat ?_
    repeat array_get_dec
    refine LS.k_lst (by array_mem_dec) fun f H2 nf s2 hf => ?_
    repeat array_get_dec
    refine LS.for_ walk_range (fun i σ H3 => ∃ (xs : List Int) (pl : Int) (v5 v6 : Option V), xs.length = i ∧ 0 ≤ pl ∧ pl ≤ i * 10 ^ 27 ∧ (∀ x ∈ xs, 0 ≤ x ∧ x < pl) ∧ xs.Nodup ∧ LS.RT H H3 b (d + 1 + i) ∧ H3 f = some (.lst (xs.map V.int)) ∧ Apart H3 b f ∧ σ = [some (.ref b), some (.int n), some (.int z), some (.ref f), some (.int pl), v5, v6])
      ⟨[], 0, _, _, rfl, by decide, by decide, by simp, List.nodup_nil, (by array_mem_dec), (by array_mem_dec), (by array_mem_dec), rfl⟩ (fun _ _ _ _ _ => trivial) ?_ ?_
    · rintro i x σ H3 H4 hi ⟨xs, pl, v5, v6, xl, p0, p1, hb, nd, T, h3, ap, rfl⟩ ⟨rfl, rfl⟩
      repeat array_get_dec
      refine ⟨b, _, z, rfl, (by array_mem_dec), by omega, Nat.lt_trans (log_m (by omega) (by omega)) (by decide), by omega, fun H5 u u0 u1 T5 => ?_⟩
      repeat array_get_dec
      refine LS.rapp (xs := xs.map V.int) (by array_mem_dec) (LS.szl (by rw [List.length_map]; omega)) fun H6 f6 h6 => ?_
      repeat array_get_dec
      refine ⟨xs ++ [pl + u], pl + u + 1, _, _, by rw [List.length_append, xl]; rfl, by omega, by omega, fun y hy => ?_, ?_, (by array_mem_dec), by rw [List.map_append]; exact h6, (by array_mem_dec), rfl⟩
      · rcases List.mem_append.mp hy with q | q
        · have := hb y q; omega
        · rw [List.mem_singleton.mp q]; omega
      · rw [List.nodup_append]
        refine ⟨nd, List.nodup_cons.mpr ⟨by simp, List.nodup_nil⟩, fun y hy w hw => ?_⟩
        rw [List.mem_singleton.mp hw]
        have := hb y hy
        omega
    · rintro σ H3 ⟨xs, pl, v5, v6, xl, p0, p1, hb, nd, T, h3, ap, rfl⟩
      have xl2 : xs.length = n := xl
      have big : (n : Int) * 10 ^ 27 ≤ 200 * 10 ^ 27 := by omega
      have pls : Pl xs := ⟨nd, fun x hx => ⟨(hb x hx).1, by have := (hb x hx).2; unfold G30; omega⟩, by omega⟩
      have lts : ∀ x ∈ xs, x < G30 := fun x hx => by have := (hb x hx).2; unfold G30; omega
      repeat array_get_dec
      refine ⟨b, _, 4, rfl, (by array_mem_dec), by decide, by decide +kernel, by omega, fun H5 u u0 u1 T5 => ?_⟩
      repeat array_get_dec
      refine LS.if2 (fun hw => ?_) fun hw => ?_
      · repeat array_get_dec
        refine ⟨b, _, f, xs, rfl, (by array_mem_dec), by omega, (by array_mem_dec), by omega, (by array_mem_dec), fun H6 q ys T6 nq pm hq aq => ?_⟩
        exact k H6 q ys (LS.rt_mono (d := d + 1 + n + 1 + xs.length) (by array_mem_dec) (by omega)) (by array_mem_dec) (by array_mem_dec) (pls.perm pm) (fun x hx => lts x (pm.subset hx)) (by rw [pm.length_eq, xl2]) hq
      · repeat array_get_dec
        obtain rfl | rfl : u = 0 ∨ u = 1 := by omega
        · refine LS.k_step (xs := xs.map V.int) (.inl rfl) (by array_mem_dec) fun q H6 nq s6 h6 => ?_
          exact k H6 q xs (LS.rt_mono (d := d + 1 + n + 1) (by array_mem_dec) (by omega)) (by array_mem_dec) (by array_mem_dec) pls lts xl2 h6
        · refine LS.k_step (xs := xs.map V.int) (.inr rfl) (by array_mem_dec) fun q H6 nq s6 h6 => ?_
          have e : (if (1 - 2 * (1 : Int)) = 1 then xs.map V.int else (xs.map V.int).reverse) = xs.reverse.map V.int := by rw [if_neg (by decide), List.map_reverse]
          rw [e] at h6
          exact k H6 q xs.reverse (LS.rt_mono (d := d + 1 + n + 1) (by array_mem_dec) (by omega)) (by array_mem_dec) (by array_mem_dec) (pl_rev pls) (fun x hx => lts x (List.mem_reverse.mp hx)) (by rw [List.length_reverse, xl2]) h6
end
end LP

namespace LP
open PySem L2 LT LG LQ LH LC LX
local macro_rules | `(tactic| array_mem_dec) => `(tactic| first
  | assumption
  | ((with_reducible apply LS.hp_s); assumption; array_mem_dec)
  | ((with_reducible apply LS.hp_f); assumption; array_mem_dec; array_mem_dec)
  | ((with_reducible apply LS.hp_t); assumption; array_mem_dec; array_mem_dec)
  | ((with_reducible apply LS.sq_o); array_mem_dec)
  | ((with_reducible apply LS.sq_s); assumption; array_mem_dec)
  | ((with_reducible apply LS.sq_f); assumption; array_mem_dec; array_mem_dec)
  | ((with_reducible apply LS.sq_t); assumption; array_mem_dec; array_mem_dec)
  | ((with_reducible apply LS.tu_o); array_mem_dec)
  | ((with_reducible apply LS.tu_s); assumption; array_mem_dec)
  | ((with_reducible apply LS.tu_f); assumption; array_mem_dec; array_mem_dec)
  | ((with_reducible apply LS.tu_t); assumption; array_mem_dec; array_mem_dec)
  | ((with_reducible apply LS.se_l); array_mem_dec)
  | ((with_reducible apply LS.se_t); array_mem_dec)
  | ((with_reducible apply LS.se_s); assumption; array_mem_dec)
  | ((with_reducible apply LS.se_f); assumption; array_mem_dec; array_mem_dec)
  | ((with_reducible apply LS.se_tt); assumption; array_mem_dec; array_mem_dec)
  | ((with_reducible exact Same.refl _))
  | ((with_reducible apply LS.sm_s); assumption; array_mem_dec)
  | ((with_reducible apply LS.sm_f); assumption; array_mem_dec; array_mem_dec)
  | ((with_reducible exact Fr.refl _ _))
  | ((with_reducible apply LS.fr_b); assumption; array_mem_dec)
  | ((with_reducible apply LS.fr_s); assumption; array_mem_dec)
  | ((with_reducible apply LS.fr_n); assumption; array_mem_dec; array_mem_dec)
  | ((with_reducible apply LS.fr_t); assumption; array_mem_dec)
  | ((with_reducible apply LS.no_s); assumption; array_mem_dec)
  | ((with_reducible apply LS.no_f); assumption; array_mem_dec; array_mem_dec)
  | ((with_reducible apply LS.no_t); assumption; array_mem_dec)
  | ((with_reducible apply Ne.symm); assumption)
  | ((with_reducible apply LS.ne_a); assumption; array_mem_dec)
  | ((with_reducible apply LS.ne_b); assumption; array_mem_dec)
  | ((with_reducible apply LS.ne_ap); assumption)
  | ((with_reducible apply LS.ne_rl); assumption; array_mem_dec)
  | ((with_reducible apply LS.rl_t); assumption)
  | ((with_reducible apply LS.rl_s); assumption; array_mem_dec)
  | ((with_reducible apply LS.rl_f); assumption; array_mem_dec; array_mem_dec)
  | ((with_reducible apply LS.ap_new); assumption; assumption; array_mem_dec)
  | ((with_reducible apply LS.ap_t); assumption; array_mem_dec; array_mem_dec)
  | ((with_reducible apply LS.ap_s); assumption; array_mem_dec; array_mem_dec)
  | ((with_reducible apply LS.ap_f); assumption; array_mem_dec; array_mem_dec; array_mem_dec)
  | ((with_reducible apply LS.rt_refl); array_mem_dec)
  | ((with_reducible apply LS.rt_t); assumption; array_mem_dec)
  | ((with_reducible apply LS.rt_s); assumption; array_mem_dec)
  | ((with_reducible apply LS.rt_f); assumption; array_mem_dec; array_mem_dec; array_mem_dec)
  | ((with_reducible apply LS.sz); (first | decide | (simp only [List.length_append, List.length_map, List.length_cons, List.length_nil, List.length_replicate]; omega)))
  | ((with_reducible apply LS.szl); (first | decide | (simp only [List.length_append, List.length_map, List.length_cons, List.length_nil, List.length_replicate]; omega))))
local macro_rules | `(tactic| array_get_dec) => `(tactic| first
  | ((with_reducible apply LS.var); exact rfl)
  | (with_reducible apply LS.con)
  | (with_reducible apply LS.op)
  | (with_reducible apply LS.ri0)
  | (with_reducible apply LS.tseq)
  | (with_reducible apply LS.tasg)
  | (with_reducible apply LS.gname)
  | (with_reducible apply LS.tcons)
  | (with_reducible apply LS.tnil)
  | (with_reducible apply LS.tcb)
  | (with_reducible apply LS.tcall)
  | (with_reducible apply LS.ttest)
  | (with_reducible apply LS.k_b)
  | (with_reducible apply LS.tb)
  | (with_reducible apply LS.tifs)
  | (with_reducible apply LS.ift)
  | (with_reducible apply LS.iff_)
  | (with_reducible apply LS.ifnt)
  | (with_reducible apply LS.ifnf)
  | (with_reducible apply LS.tnext)
  | (with_reducible apply LS.tdrop)
  | (with_reducible apply LS.tret)
  | (with_reducible apply LS.tretn)
  | (with_reducible apply LS.un)
  | (with_reducible apply LS.ru)
  | (with_reducible apply LS.tyes)
  | (with_reducible apply LS.tand)
  | (with_reducible apply LS.tor)
  | (with_reducible apply LS.tnot)
  | (with_reducible apply LS.tif)
  | (with_reducible apply LS.tandv)
  | (with_reducible apply LS.k_av)
  | (with_reducible apply LS.torv)
  | (with_reducible apply LS.k_ov)
  | (with_reducible apply LS.tnotv)
  | (with_reducible apply LS.k_nv)
  | (with_reducible apply LS.tchain)
  | (with_reducible apply LS.k_ch)
  | (with_reducible apply LS.req_i)
  | (with_reducible apply LS.rne_i)
  | (with_reducible apply LS.req_s)
  | (with_reducible apply LS.rne_s)
  | (with_reducible apply LS.req_b)
  | (with_reducible apply LS.rne_b)
  | ((with_reducible apply LS.rin_i); array_mem_dec)
  | ((with_reducible apply LS.rni_i); array_mem_dec)
  | ((with_reducible apply LS.rlen_li); array_mem_dec)
  | ((with_reducible apply LS.rlen_ls); array_mem_dec)
  | ((with_reducible apply LS.rlen_l); array_mem_dec)
  | ((with_reducible apply LS.rlen_t); array_mem_dec)
  | ((with_reducible apply LS.rixl); array_mem_dec; exact rfl)
  | ((with_reducible apply LS.rixt); array_mem_dec; exact rfl)
  | ((with_reducible apply LS.isi_i); (decide +kernel))
  | ((with_reducible apply LS.isi_s); (decide +kernel))
  | ((with_reducible apply LS.isi_l); array_mem_dec; (decide +kernel))
  | ((with_reducible apply LS.isi_t); array_mem_dec; (decide +kernel))
  | ((with_reducible apply LS.isiT_i); array_mem_dec)
  | ((with_reducible apply LS.isiT_s); array_mem_dec)
  | ((with_reducible apply LS.isiT_E); array_mem_dec; array_mem_dec)
  | (with_reducible apply LS.rmin2)
  | (with_reducible apply LS.rmax2)
  | (with_reducible apply LS.tsl)
  | (with_reducible apply LS.tthen)
  | (with_reducible apply LS.tstep)
  | (with_reducible apply LS.tnop)
  | (with_reducible apply LS.tpart)
  | (with_reducible apply LS.k_part)
  | (with_reducible apply LS.ttup)
  | (with_reducible apply LS.tlst)
  | (with_reducible apply LS.tbm)
  | (with_reducible apply LS.tbm0)
  | ((with_reducible apply LS.ty_l); array_mem_dec)
  | (with_reducible apply LS.tpar)
  | (with_reducible apply LS.tfor)
  | (with_reducible apply LS.tlc)
  | (with_reducible apply LS.ilist)
  | ((with_reducible apply LS.k_il); array_mem_dec)
  | (with_reducible apply LS.itup)
  | ((with_reducible apply LS.k_it); array_mem_dec)
  | (with_reducible apply LS.istr)
  | (with_reducible apply LS.k_is)
  | (with_reducible apply LS.irng1)
  | ((with_reducible apply LS.k_r1n); omega)
  | ((with_reducible apply LS.k_r1); (first | omega | decide); (first | omega | decide))
  | (with_reducible apply LS.irng2)
  | ((with_reducible apply LS.k_r2); (first | omega | decide); (first | omega | decide); (first | omega | decide); (first | omega | decide))
  | (with_reducible apply LS.ienum)
  | ((with_reducible apply LS.k_en); array_mem_dec)
  | (with_reducible apply LS.izip)
  | ((with_reducible apply LS.k_zip); array_mem_dec; array_mem_dec)
  | (with_reducible apply LS.tlstrg)
  | (with_reducible apply LS.trg1)
  | (with_reducible apply LS.k_g1)
  | (with_reducible apply LS.risn_i)
  | (with_reducible apply LS.risn_s)
  | (with_reducible apply LS.risn_n)
  | (with_reducible apply LS.rnotn_i)
  | (with_reducible apply LS.rnotn_n)
  | (with_reducible apply LS.rint_b)
  | (with_reducible apply LS.rint_i)
  | (with_reducible apply LS.tm0)
  | (with_reducible apply LS.tm1)
  | (with_reducible apply LS.is_str)
  | (with_reducible apply LS.ex_s0)
  | (with_reducible apply LS.ex_int_b)
  | (with_reducible apply LS.k_par)
  | (with_reducible apply LS.tpar3)
  | (with_reducible apply LS.k_par3)
  | ((with_reducible apply LS.taug); exact rfl)
  | (with_reducible apply LS.ipi)
  | ((with_reducible apply LS.gtup); array_mem_dec; exact rfl)
  | (with_reducible apply LS.gnil)
  | (with_reducible apply LS.gcons)
  | (with_reducible apply LS.gsub)
  | ((with_reducible apply LS.ri); first | omega | decide | assumption | exact ⟨by decide, by decide, by decide⟩ | exact .inl ⟨by decide, by decide⟩ | exact .inr ⟨by decide, by decide⟩ | exact .inl ⟨by omega, by omega⟩ | exact .inr ⟨by omega, by omega⟩)
  | (with_reducible apply LS.ex_ss)
  | (with_reducible apply LS.ex_s1)
  | (with_reducible apply LS.ex_i1)
  | (with_reducible apply LS.and_rfl)
  | (with_reducible apply LS.and_tr)
  | (with_reducible apply LS.is_non))

section
variable {P : Program} {w : World} {K : PySem.W.Frag} {mg : Str → Option Value} {base : Heap}

theorem ok0__law_dressed (e : Env K mg) : FnOk P w K mg base CX0 3 e.a__law_dressed e.d__law_dressed ["reel", "value"] (sp__law_dressed0) := by
  refine Fun.ok e.f__law_dressed sc__law_dressed (fun vs H Q E h => ?_) (fun cdv A outer s H vs Q E hr h => ?_)
  · obtain ⟨b, z, rfl, _⟩ := h; rfl
  · obtain ⟨b, z, rfl, k⟩ := h
    have hrec := LS.fn_no (P := P) (w := w) (K := K) (mg := mg) (base := base) (CX := CX0) (f := e.a__law_dressed) (fd := e.d__law_dressed) (ps := ["reel", "value"])
    refine ⟨_, (pss_cons (ps_if (pt_not (pt_val (pe_callB call_isiT (by rfl) e.n_isinstance (by decide +kernel) (pa_cons (pv 1) (pa_cons (pe_tup (pa_cons (pe_bltn (v := V.ty "list") (by rfl) e.n_list (by decide +kernel) rfl) (pa_cons (pe_bltn (v := V.ty "tuple") (by rfl) e.n_tuple (by decide +kernel) rfl) pa_nil))) pa_nil)))))
        (pss_one (ps_ret (pv 1)))
        pss_nil)
      (pss_cons (ps_setLc (i := 2) (own := [("part", 3)]) rfl sc__law_dressed.nd rfl rfl (sw_true rfl rfl rfl (by decide +kernel)) (pi_list (pv 1)) (blkOk_by (N := ["reel", "value", "parts", "part"]) (sc := defScope s__law_dressed) (by decide +kernel)) (fun _ _ _ _ _ => (pg_name (i := 3) sc__law_dressed.nd rfl (by first | exact Or.inl rfl | exact Or.inr rfl))) (fun _ _ _ _ _ => pts_nil) (fun _ _ _ _ _ => (pe_call (hrec.mono (by decide)) hr rfl e.g__law_dressed e.f__law_dressed.kp e.b__law_dressed .nil pass0 (pa_cons (pv 0) (pa_cons (pv 3) pa_nil)))))
      (pss_one (ps_ret (pe_ifExp (pt_cmpR op_eq (pe_call ((ok__law_draw e).mono (by decide)) hr rfl e.g__law_draw e.f__law_draw.kp e.b__law_draw .nil pass0 (pa_cons (pv 0) (pa_cons pe_int pa_nil))) pe_int (nomark _)) (pv 2) (pe_tupleOf (by rfl) e.n_tuple (pv 2))))))), ?_⟩
    repeat array_get_dec
    refine LS.k_tup (by decide) fun tp H1 nt s1 ht => ?_
    repeat array_get_dec
    exact k _ s1
theorem ok__law_dressed (e : Env K mg) : FnOk P w K mg base CX0 4 e.a__law_dressed e.d__law_dressed ["reel", "value"] (sp__law_dressed) := by
  refine Fun.ok e.f__law_dressed sc__law_dressed (fun vs H Q E h => ?_) (fun cdv A outer s H vs Q E hr h => ?_)
  · obtain ⟨b, d, p, ns, rfl, _⟩ := h; rfl
  · obtain ⟨b, d, p, ns, rfl, R, hd, hp, hn, k⟩ := h
    have hrec := ok0__law_dressed (P := P) (w := w) (base := base) e
    refine ⟨_, (pss_cons (ps_if (pt_not (pt_val (pe_callB call_isiT (by rfl) e.n_isinstance (by decide +kernel) (pa_cons (pv 1) (pa_cons (pe_tup (pa_cons (pe_bltn (v := V.ty "list") (by rfl) e.n_list (by decide +kernel) rfl) (pa_cons (pe_bltn (v := V.ty "tuple") (by rfl) e.n_tuple (by decide +kernel) rfl) pa_nil))) pa_nil)))))
        (pss_one (ps_ret (pv 1)))
        pss_nil)
      (pss_cons (ps_setLc (i := 2) (own := [("part", 3)]) rfl sc__law_dressed.nd rfl rfl (sw_true rfl rfl rfl (by decide +kernel)) (pi_list (pv 1)) (blkOk_by (N := ["reel", "value", "parts", "part"]) (sc := defScope s__law_dressed) (by decide +kernel)) (fun _ _ _ _ _ => (pg_name (i := 3) sc__law_dressed.nd rfl (by first | exact Or.inl rfl | exact Or.inr rfl))) (fun _ _ _ _ _ => pts_nil) (fun _ _ _ _ _ => (pe_call (hrec.mono (by decide)) hr rfl e.g__law_dressed e.f__law_dressed.kp e.b__law_dressed .nil pass0 (pa_cons (pv 0) (pa_cons (pv 3) pa_nil)))))
      (pss_one (ps_ret (pe_ifExp (pt_cmpR op_eq (pe_call ((ok__law_draw e).mono (by decide)) hr rfl e.g__law_draw e.f__law_draw.kp e.b__law_draw .nil pass0 (pa_cons (pv 0) (pa_cons pe_int pa_nil))) pe_int (nomark _)) (pv 2) (pe_tupleOf (by rfl) e.n_tuple (pv 2))))))), ?_⟩
    repeat array_get_dec
    refine LS.k_tup (by decide) fun tp H1 nt s1 ht => ?_
    repeat array_get_dec
    refine LS.map_ (xs := ns.map V.int) walk_list (by rw [List.length_map]; omega) id (fun H' s => (by array_mem_dec)) (fun x Hq hx s KK KN kk => ?_) fun D H2 nD s2 h2 => ?_
    · obtain ⟨i, hi, rfl⟩ := List.mem_map.mp hx
      refine ⟨rfl, ?_⟩
      repeat array_get_dec
      exact ⟨b, i, rfl, kk⟩
    rw [List.map_id] at h2
    repeat array_get_dec
    refine ⟨b, _, 2, rfl, (by array_mem_dec), by decide, by decide +kernel, by omega, fun H3 r r0 r1 T3 => ?_⟩
    repeat array_get_dec
    refine LS.if2 (fun hr => ?_) fun hr => ?_
    · repeat array_get_dec
      exact k H3 D (by array_mem_dec) (by array_mem_dec) (.inl (by array_mem_dec))
    · repeat array_get_dec
      exact LS.tup_l (xs := ns.map V.int) (by array_mem_dec) fun q H4 nq s4 h4 => k H4 q (by array_mem_dec) (by array_mem_dec) (.inr h4)
end
end LP

namespace LP
open PySem L2 LT LG LQ LH LC LX
local macro_rules | `(tactic| array_mem_dec) => `(tactic| first
  | assumption
  | ((with_reducible apply LS.hp_s); assumption; array_mem_dec)
  | ((with_reducible apply LS.hp_f); assumption; array_mem_dec; array_mem_dec)
  | ((with_reducible apply LS.hp_t); assumption; array_mem_dec; array_mem_dec)
  | ((with_reducible apply LS.sq_o); array_mem_dec)
  | ((with_reducible apply LS.sq_s); assumption; array_mem_dec)
  | ((with_reducible apply LS.sq_f); assumption; array_mem_dec; array_mem_dec)
  | ((with_reducible apply LS.sq_t); assumption; array_mem_dec; array_mem_dec)
  | ((with_reducible apply LS.tu_o); array_mem_dec)
  | ((with_reducible apply LS.tu_s); assumption; array_mem_dec)
  | ((with_reducible apply LS.tu_f); assumption; array_mem_dec; array_mem_dec)
  | ((with_reducible apply LS.tu_t); assumption; array_mem_dec; array_mem_dec)
  | ((with_reducible apply LS.se_l); array_mem_dec)
  | ((with_reducible apply LS.se_t); array_mem_dec)
  | ((with_reducible apply LS.se_s); assumption; array_mem_dec)
  | ((with_reducible apply LS.se_f); assumption; array_mem_dec; array_mem_dec)
  | ((with_reducible apply LS.se_tt); assumption; array_mem_dec; array_mem_dec)
  | ((with_reducible exact Same.refl _))
  | ((with_reducible apply LS.sm_s); assumption; array_mem_dec)
  | ((with_reducible apply LS.sm_f); assumption; array_mem_dec; array_mem_dec)
  | ((with_reducible exact Fr.refl _ _))
  | ((with_reducible apply LS.fr_b); assumption; array_mem_dec)
  | ((with_reducible apply LS.fr_s); assumption; array_mem_dec)
  | ((with_reducible apply LS.fr_n); assumption; array_mem_dec; array_mem_dec)
  | ((with_reducible apply LS.fr_t); assumption; array_mem_dec)
  | ((with_reducible apply LS.no_s); assumption; array_mem_dec)
  | ((with_reducible apply LS.no_f); assumption; array_mem_dec; array_mem_dec)
  | ((with_reducible apply LS.no_t); assumption; array_mem_dec)
  | ((with_reducible apply Ne.symm); assumption)
  | ((with_reducible apply LS.ne_a); assumption; array_mem_dec)
  | ((with_reducible apply LS.ne_b); assumption; array_mem_dec)
  | ((with_reducible apply LS.ne_ap); assumption)
  | ((with_reducible apply LS.ne_rl); assumption; array_mem_dec)
  | ((with_reducible apply LS.rl_t); assumption)
  | ((with_reducible apply LS.rl_s); assumption; array_mem_dec)
  | ((with_reducible apply LS.rl_f); assumption; array_mem_dec; array_mem_dec)
  | ((with_reducible apply LS.ap_new); assumption; assumption; array_mem_dec)
  | ((with_reducible apply LS.ap_t); assumption; array_mem_dec; array_mem_dec)
  | ((with_reducible apply LS.ap_s); assumption; array_mem_dec; array_mem_dec)
  | ((with_reducible apply LS.ap_f); assumption; array_mem_dec; array_mem_dec; array_mem_dec)
  | ((with_reducible apply LS.rt_refl); array_mem_dec)
  | ((with_reducible apply LS.rt_t); assumption; array_mem_dec)
  | ((with_reducible apply LS.rt_s); assumption; array_mem_dec)
  | ((with_reducible apply LS.rt_f); assumption; array_mem_dec; array_mem_dec; array_mem_dec)
  | ((with_reducible apply LS.sz); (first | decide | (simp only [List.length_append, List.length_map, List.length_cons, List.length_nil, List.length_replicate]; omega)))
  | ((with_reducible apply LS.szl); (first | decide | (simp only [List.length_append, List.length_map, List.length_cons, List.length_nil, List.length_replicate]; omega))))
local macro_rules | `(tactic| array_get_dec) => `(tactic| first
  | ((with_reducible apply LS.var); exact rfl)
  | (with_reducible apply LS.con)
  | (with_reducible apply LS.op)
  | (with_reducible apply LS.ri0)
  | (with_reducible apply LS.tseq)
  | (with_reducible apply LS.tasg)
  | (with_reducible apply LS.gname)
  | (with_reducible apply LS.tcons)
  | (with_reducible apply LS.tnil)
  | (with_reducible apply LS.tcb)
  | (with_reducible apply LS.tcall)
  | (with_reducible apply LS.ttest)
  | (with_reducible apply LS.k_b)
  | (with_reducible apply LS.tb)
  | (with_reducible apply LS.tifs)
  | (with_reducible apply LS.ift)
  | (with_reducible apply LS.iff_)
  | (with_reducible apply LS.ifnt)
  | (with_reducible apply LS.ifnf)
  | (with_reducible apply LS.tnext)
  | (with_reducible apply LS.tdrop)
  | (with_reducible apply LS.tret)
  | (with_reducible apply LS.tretn)
  | (with_reducible apply LS.un)
  | (with_reducible apply LS.ru)
  | (with_reducible apply LS.tyes)
  | (with_reducible apply LS.tand)
  | (with_reducible apply LS.tor)
  | (with_reducible apply LS.tnot)
  | (with_reducible apply LS.tif)
  | (with_reducible apply LS.tandv)
  | (with_reducible apply LS.k_av)
  | (with_reducible apply LS.torv)
  | (with_reducible apply LS.k_ov)
  | (with_reducible apply LS.tnotv)
  | (with_reducible apply LS.k_nv)
  | (with_reducible apply LS.tchain)
  | (with_reducible apply LS.k_ch)
  | (with_reducible apply LS.req_i)
  | (with_reducible apply LS.rne_i)
  | (with_reducible apply LS.req_s)
  | (with_reducible apply LS.rne_s)
  | (with_reducible apply LS.req_b)
  | (with_reducible apply LS.rne_b)
  | ((with_reducible apply LS.rin_i); array_mem_dec)
  | ((with_reducible apply LS.rni_i); array_mem_dec)
  | ((with_reducible apply LS.rlen_li); array_mem_dec)
  | ((with_reducible apply LS.rlen_ls); array_mem_dec)
  | ((with_reducible apply LS.rlen_l); array_mem_dec)
  | ((with_reducible apply LS.rlen_t); array_mem_dec)
  | ((with_reducible apply LS.rixl); array_mem_dec; exact rfl)
  | ((with_reducible apply LS.rixt); array_mem_dec; exact rfl)
  | ((with_reducible apply LS.isi_i); (decide +kernel))
  | ((with_reducible apply LS.isi_s); (decide +kernel))
  | ((with_reducible apply LS.isi_l); array_mem_dec; (decide +kernel))
  | ((with_reducible apply LS.isi_t); array_mem_dec; (decide +kernel))
  | ((with_reducible apply LS.isiT_i); array_mem_dec)
  | ((with_reducible apply LS.isiT_s); array_mem_dec)
  | ((with_reducible apply LS.isiT_E); array_mem_dec; array_mem_dec)
  | (with_reducible apply LS.rmin2)
  | (with_reducible apply LS.rmax2)
  | (with_reducible apply LS.tsl)
  | (with_reducible apply LS.tthen)
  | (with_reducible apply LS.tstep)
  | (with_reducible apply LS.tnop)
  | (with_reducible apply LS.tpart)
  | (with_reducible apply LS.k_part)
  | (with_reducible apply LS.ttup)
  | (with_reducible apply LS.tlst)
  | (with_reducible apply LS.tbm)
  | (with_reducible apply LS.tbm0)
  | ((with_reducible apply LS.ty_l); array_mem_dec)
  | (with_reducible apply LS.tpar)
  | (with_reducible apply LS.tfor)
  | (with_reducible apply LS.tlc)
  | (with_reducible apply LS.ilist)
  | ((with_reducible apply LS.k_il); array_mem_dec)
  | (with_reducible apply LS.itup)
  | ((with_reducible apply LS.k_it); array_mem_dec)
  | (with_reducible apply LS.istr)
  | (with_reducible apply LS.k_is)
  | (with_reducible apply LS.irng1)
  | ((with_reducible apply LS.k_r1n); omega)
  | ((with_reducible apply LS.k_r1); (first | omega | decide); (first | omega | decide))
  | (with_reducible apply LS.irng2)
  | ((with_reducible apply LS.k_r2); (first | omega | decide); (first | omega | decide); (first | omega | decide); (first | omega | decide))
  | (with_reducible apply LS.ienum)
  | ((with_reducible apply LS.k_en); array_mem_dec)
  | (with_reducible apply LS.izip)
  | ((with_reducible apply LS.k_zip); array_mem_dec; array_mem_dec)
  | (with_reducible apply LS.tlstrg)
  | (with_reducible apply LS.trg1)
  | (with_reducible apply LS.k_g1)
  | (with_reducible apply LS.risn_i)
  | (with_reducible apply LS.risn_s)
  | (with_reducible apply LS.risn_n)
  | (with_reducible apply LS.rnotn_i)
  | (with_reducible apply LS.rnotn_n)
  | (with_reducible apply LS.rint_b)
  | (with_reducible apply LS.rint_i)
  | (with_reducible apply LS.tm0)
  | (with_reducible apply LS.tm1)
  | (with_reducible apply LS.is_str)
  | (with_reducible apply LS.ex_s0)
  | (with_reducible apply LS.ex_int_b)
  | (with_reducible apply LS.k_par)
  | (with_reducible apply LS.tpar3)
  | (with_reducible apply LS.k_par3)
  | ((with_reducible apply LS.taug); exact rfl)
  | (with_reducible apply LS.ipi)
  | ((with_reducible apply LS.gtup); array_mem_dec; exact rfl)
  | (with_reducible apply LS.gnil)
  | (with_reducible apply LS.gcons)
  | (with_reducible apply LS.gsub)
  | ((with_reducible apply LS.ri); first | omega | decide | assumption | exact ⟨by decide, by decide, by decide⟩ | exact .inl ⟨by decide, by decide⟩ | exact .inr ⟨by decide, by decide⟩ | exact .inl ⟨by omega, by omega⟩ | exact .inr ⟨by omega, by omega⟩)
  | (with_reducible apply LS.ex_ss)
  | (with_reducible apply LS.ex_s1)
  | (with_reducible apply LS.ex_i1)
  | (with_reducible apply LS.and_rfl)
  | (with_reducible apply LS.and_tr)
  | (with_reducible apply LS.is_non))

section
variable {P : Program} {w : World} {K : PySem.W.Frag} {mg : Str → Option Value} {base : Heap}

theorem log2_lt {n : Int} {k : Nat} (h0 : 0 ≤ n) (h : n ≤ 10 ^ 30) (hk : 101 ≤ k) : n.natAbs.log2 < k := by
  by_cases z : n.natAbs = 0
  · rw [z]; show Nat.log2 0 < k; rw [show Nat.log2 0 = 0 by decide]; omega
  · exact Nat.lt_of_lt_of_le ((Nat.log2_lt z).mpr (show n.natAbs < 2 ^ 100 by omega)) (by omega)
theorem ok_numbers_text (e : Env K mg) : FnOk P w K mg base CX0 1 e.a_numbers_text e.d_numbers_text ["numbers"] (sp_numbers_text K) := by
  refine Fun.ok e.f_numbers_text sc_numbers_text (fun vs H Q E h => ?_) (fun cdv A outer s H vs Q E hr h => ?_)
  · obtain ⟨a, ns, rfl, _⟩ := h; rfl
  · obtain ⟨a, ns, rfl, hE, hb, hl, k⟩ := h
    refine ⟨_, (pss_one (ps_ret (pe_m1 PySem.F.slot_str_join PySem.F.type_str_join LS.mt_join pe_str (pe_lc (own := [("number", 1)]) rfl sc_numbers_text.nd (PI.or (pi_list (pv 0)) (pi_tup (pv 0))) (blkOk_by (N := ["numbers", "number"]) (sc := defScope s_numbers_text) (by decide +kernel)) (fun _ _ _ _ _ => (pg_name (i := 1) sc_numbers_text.nd rfl (by first | exact Or.inl rfl | exact Or.inr rfl))) (fun _ _ _ _ _ => pts_nil) (fun _ _ _ _ _ => (pe_callTy LS.call_strI (by rfl) e.n_str (by decide +kernel) (pa_cons (pv 1) pa_nil))))))), ?_⟩
    repeat array_get_dec
    refine or_E hE rfl fun J G wk hG => ?_
    refine LS.map_ wk (by rw [List.length_map]; omega) (fun v => match v with | .int i => .str (nst i) | v => v) hG (fun x Hq hx s KK KN kk => ?_) fun D H1 nD s1 h1 => ?_
    · obtain ⟨i, hi, rfl⟩ := List.mem_map.mp hx
      refine ⟨rfl, ?_⟩
      repeat array_get_dec
      exact LS.rstr_i (log2_lt (hb i hi).1 (hb i hi).2 (by decide)) (kk _ (Same.refl _))
    · have e : List.map (fun v => match v with | .int i => V.str (nst i) | v => v) (ns.map V.int) = (ns.map nst).map V.str := by rw [List.map_map, List.map_map]; rfl
      rw [e] at h1
      exact LS.rjoin (SqL.of h1) (txtN_sz hb hl) (k _ s1)
theorem ok_format_places (e : Env K mg) : FnOk P w K mg base CX0 5 e.a_format_places e.d_format_places ["places"] (sp_format_places K) := by
  refine Fun.ok e.f_format_places sc_format_places (fun vs H Q E h => ?_) (fun cdv A outer s H vs Q E hr h => ?_)
  · obtain ⟨a, ns, rfl, _⟩ := h; rfl
  · obtain ⟨a, ns, rfl, hE, pl, k⟩ := h
    refine ⟨_, (pss_cons (ps_expr (pe_call ((ok_check_places e).mono (by decide)) hr rfl e.g_check_places e.f_check_places.kp e.b_check_places .nil pass0 (pa_cons (pv 0) pa_nil)))
      (pss_one (ps_ret (pe_call ((ok_numbers_text e).mono (by decide)) hr rfl e.g_numbers_text e.f_numbers_text.kp e.b_numbers_text .nil pass0 (pa_cons (pv 0) pa_nil))))), ?_⟩
    repeat array_get_dec
    refine ⟨a, ns, rfl, hE, pl, fun H1 s1 => ?_⟩
    repeat array_get_dec
    exact ⟨a, ns, rfl, (by array_mem_dec), pl.rg, by have := pl.le; omega, fun H2 s2 => k _ (by array_mem_dec)⟩
theorem ok_read_number (e : Env K mg) : FnOk P w K mg base CX0 1 e.a_read_number e.d_read_number ["text"] (sp_read_number) := by
  refine Fun.ok e.f_read_number sc_read_number (fun vs H Q E h => ?_) (fun cdv A outer s H vs Q E hr h => ?_)
  · obtain ⟨a, rfl, _⟩ := h; rfl
  · obtain ⟨n, rfl, h0, h1, k⟩ := h
    refine ⟨_, (pss_cons (ps_if (PW.pt (pw_or (pt_not (PW.pt (pw_and (pt_val (pe_m0 PySem.F.slot_str_isascii PySem.F.type_str_isascii mt_isascii (pv 0))) (pw_and1 (pt_val (pe_m0 PySem.F.slot_str_isdigit PySem.F.type_str_isdigit mt_isdigit (pv 0))))))) (pw_or1 (PW.pt (pw_and (pt_cmpR op_eq (pe_ix ix_str (pv 0) pe_int (fun _ _ => rfl)) pe_str (nomark _)) (pw_and1 (pt_cmpR op_ne (pv 0) pe_str (nomark _))))))))
        (pss_one (ps_ret pe_non))
        pss_nil)
      (pss_cons (ps_set (i := 1) sc_read_number.nd rfl (by first | exact Or.inl rfl | exact Or.inr rfl) pe_int)
      (pss_cons (ps_for PassesOwn.never rfl (pi_str (pv 0)) (pg_name (i := 2) sc_read_number.nd rfl (by first | exact Or.inl rfl | exact Or.inr rfl))
      (pss_one (ps_set (i := 1) sc_read_number.nd rfl (by first | exact Or.inl rfl | exact Or.inr rfl) (pe_op op_add (pe_op op_mulW (pv 1) pe_int) (pe_callTy LS.call_intS (by rfl) e.n_int (by decide +kernel) (pa_cons (pv 2) pa_nil))))))
      (pss_one (ps_ret (pv 1)))))), ?_⟩
    obtain ⟨m, rfl⟩ : ∃ m : Nat, n = m := ⟨n.toNat, by omega⟩
    repeat array_get_dec
    refine iteB (nst_ascii m) ?_
    repeat array_get_dec
    rw [nst_digit]
    repeat array_get_dec
    have hz : (nst (m : Int)).length ≤ 31 := nst_len (by have : (m : Int) ≤ 10 ^ 30 := h1; omega)
    have hne := TL.numL_ne m
    obtain ⟨c, hc⟩ : ∃ c, (TL.numL m)[0]? = some c := ⟨_, List.getElem?_eq_getElem (List.length_pos_iff.mpr hne)⟩
    refine LS.rixs (j := 0) (c := c) (by omega) (by rw [tl_nst]; exact hc) rfl ?_
    repeat array_get_dec
    refine LS.tail_t (fun e x => ?_) ?_
    · have e2 : c = 48 := by
        have := congrArg (fun z : Str => z.cps.toList) e
        have e3 : ("0" : Str).cps.toList = [48] := by decide +kernel
        rw [e3] at this
        simpa using this
      have e4 := head_numL m (by rw [hc, e2])
      subst e4
      repeat array_get_dec
      rw [decide_eq_true (show nst ((0 : Nat) : Int) = ("0" : Str) from zero_txt)]
      exact LS.ifnt (LS.of_iff x)
    repeat array_get_dec
    refine LS.for_ walk_str (fun i σ H1 => ∃ v : Option V, H1 = H ∧ σ = [some (.str (nst m)), some (.int (dval ((TL.numL m).take i) : Nat)), v]) ⟨_, rfl, rfl⟩ (fun _ _ _ _ _ => trivial) ?_ ?_
    · rintro i x σ H1 H2 hi ⟨v, rfl, rfl⟩ ⟨rfl, d, hd, rfl⟩
      have hd2 : (TL.numL m)[i]? = some d := by rw [← tl_nst, Array.getElem?_toList]; exact hd
      have hb := numL_all m d (List.mem_of_getElem? hd2)
      have hle := dval_take (TL.numL m) i
      rw [dval_num] at hle
      repeat array_get_dec
      refine LS.ri (by
        have := log2_lt (n := ((dval ((TL.numL m).take i) : Nat) : Int)) (k := 200) (by omega) (Int.le_trans (by omega) h1) (by decide)
        show _ + Nat.log2 10 < 1000000
        have e10 : Nat.log2 10 = 3 := by decide +kernel
        omega) ?_
      repeat array_get_dec
      refine LS.rint_s (int_dig hb) (by show 1 ≤ 640; decide) ?_
      repeat array_get_dec
      refine ⟨some (.str ⟨#[d]⟩), rfl, ?_⟩
      rw [dval_snoc hd2]
      rfl
    · rintro σ H1 ⟨v, rfl, rfl⟩
      repeat array_get_dec
      have e : (TL.numL m).take (nst (m : Int)).cps.size = TL.numL m := by rw [← Array.length_toList, tl_nst, List.take_length]
      rw [e, dval_num]
      exact k
theorem ok_words_of (e : Env K mg) : FnOk P w K mg base CX0 1 e.a_words_of e.d_words_of ["text", "most"] (sp_words_of) := by
  refine Fun.ok e.f_words_of sc_words_of (fun vs H Q E h => ?_) (fun cdv A outer s H vs Q E hr h => ?_)
  · obtain ⟨a, m, rfl, _⟩ := h; rfl
  · obtain ⟨ns, m, rfl, hb, hl, hm, k⟩ := h
    refine ⟨_, (pss_cons (ps_if (pt_not (pt_val (pe_callB call_isi (by rfl) e.n_isinstance (by decide +kernel) (pa_cons (pv 0) (pa_cons (pe_bltn (v := V.ty "str") (by rfl) e.n_str (by decide +kernel) rfl) pa_nil)))))
        (pss_one ps_never)
        pss_nil)
      (pss_cons (ps_set (i := 2) sc_words_of.nd rfl (by first | exact Or.inl rfl | exact Or.inr rfl) (pe_ifExp (pt_cmpR op_ne (pv 0) pe_str (nomark _)) (pe_m1 PySem.F.slot_str_split PySem.F.type_str_split LS.mt_split (pv 0) pe_str) (pe_lst pa_nil)))
      (pss_cons (ps_if (pt_cmpR op_gt (pe_callB LS.call_len (by rfl) e.n_len PySem.boot_len (pa_cons (pv 2) pa_nil)) (pv 1) (nomark _))
        (pss_one ps_never)
        pss_nil)
      (pss_one (ps_ret (pv 2)))))), ?_⟩
    repeat array_get_dec
    refine ⟨_, _, _, _, true, rfl, .ty "str", .base (.str (txtN ns)), kit_ty (by decide +kernel), ?_⟩
    repeat array_get_dec
    refine LS.ifn2 (fun hne => ?_) fun he => ?_
    · cases ns with
      | nil => exact absurd txtN_nil hne
      | cons n0 nr =>
        repeat array_get_dec
        have := txtN_len hb
        refine LS.rsplit (by decide +kernel) (by have h1 : (nr.length + 1) ≤ 400 := hl; have h2 : (txtN (n0 :: nr)).length ≤ (nr.length + 1) * 32 := this; omega) fun p H1 np sp hp => ?_
        rw [split_txtN (by simp) fun x hx => (hb x hx).1] at hp
        repeat array_get_dec
        rw [List.length_map, decide_eq_false (by omega)]
        repeat array_get_dec
        exact k _ p sp np hp
    · cases ns with
      | cons n0 nr => exact absurd he (txtN_cons (hb n0 (List.mem_cons_self ..)).1)
      | nil =>
        repeat array_get_dec
        refine LS.k_lst (by array_mem_dec) fun p H1 np sp hp => ?_
        repeat array_get_dec
        rw [decide_eq_false (by simp only [List.length_nil] at *; omega)]
        repeat array_get_dec
        exact k _ p sp np hp
end
end LP

namespace LP
open PySem L2 LT LG LQ LH LC LX
local macro_rules | `(tactic| array_mem_dec) => `(tactic| first
  | assumption
  | ((with_reducible apply LS.hp_s); assumption; array_mem_dec)
  | ((with_reducible apply LS.hp_f); assumption; array_mem_dec; array_mem_dec)
  | ((with_reducible apply LS.hp_t); assumption; array_mem_dec; array_mem_dec)
  | ((with_reducible apply LS.sq_o); array_mem_dec)
  | ((with_reducible apply LS.sq_s); assumption; array_mem_dec)
  | ((with_reducible apply LS.sq_f); assumption; array_mem_dec; array_mem_dec)
  | ((with_reducible apply LS.sq_t); assumption; array_mem_dec; array_mem_dec)
  | ((with_reducible apply LS.tu_o); array_mem_dec)
  | ((with_reducible apply LS.tu_s); assumption; array_mem_dec)
  | ((with_reducible apply LS.tu_f); assumption; array_mem_dec; array_mem_dec)
  | ((with_reducible apply LS.tu_t); assumption; array_mem_dec; array_mem_dec)
  | ((with_reducible apply LS.se_l); array_mem_dec)
  | ((with_reducible apply LS.se_t); array_mem_dec)
  | ((with_reducible apply LS.se_s); assumption; array_mem_dec)
  | ((with_reducible apply LS.se_f); assumption; array_mem_dec; array_mem_dec)
  | ((with_reducible apply LS.se_tt); assumption; array_mem_dec; array_mem_dec)
  | ((with_reducible exact Same.refl _))
  | ((with_reducible apply LS.sm_s); assumption; array_mem_dec)
  | ((with_reducible apply LS.sm_f); assumption; array_mem_dec; array_mem_dec)
  | ((with_reducible exact Fr.refl _ _))
  | ((with_reducible apply LS.fr_b); assumption; array_mem_dec)
  | ((with_reducible apply LS.fr_s); assumption; array_mem_dec)
  | ((with_reducible apply LS.fr_n); assumption; array_mem_dec; array_mem_dec)
  | ((with_reducible apply LS.fr_t); assumption; array_mem_dec)
  | ((with_reducible apply LS.no_s); assumption; array_mem_dec)
  | ((with_reducible apply LS.no_f); assumption; array_mem_dec; array_mem_dec)
  | ((with_reducible apply LS.no_t); assumption; array_mem_dec)
  | ((with_reducible apply Ne.symm); assumption)
  | ((with_reducible apply LS.ne_a); assumption; array_mem_dec)
  | ((with_reducible apply LS.ne_b); assumption; array_mem_dec)
  | ((with_reducible apply LS.ne_ap); assumption)
  | ((with_reducible apply LS.ne_rl); assumption; array_mem_dec)
  | ((with_reducible apply LS.rl_t); assumption)
  | ((with_reducible apply LS.rl_s); assumption; array_mem_dec)
  | ((with_reducible apply LS.rl_f); assumption; array_mem_dec; array_mem_dec)
  | ((with_reducible apply LS.ap_new); assumption; assumption; array_mem_dec)
  | ((with_reducible apply LS.ap_t); assumption; array_mem_dec; array_mem_dec)
  | ((with_reducible apply LS.ap_s); assumption; array_mem_dec; array_mem_dec)
  | ((with_reducible apply LS.ap_f); assumption; array_mem_dec; array_mem_dec; array_mem_dec)
  | ((with_reducible apply LS.rt_refl); array_mem_dec)
  | ((with_reducible apply LS.rt_t); assumption; array_mem_dec)
  | ((with_reducible apply LS.rt_s); assumption; array_mem_dec)
  | ((with_reducible apply LS.rt_f); assumption; array_mem_dec; array_mem_dec; array_mem_dec)
  | ((with_reducible apply LS.sz); (first | decide | (simp only [List.length_append, List.length_map, List.length_cons, List.length_nil, List.length_replicate]; omega)))
  | ((with_reducible apply LS.szl); (first | decide | (simp only [List.length_append, List.length_map, List.length_cons, List.length_nil, List.length_replicate]; omega))))
local macro_rules | `(tactic| array_get_dec) => `(tactic| first
  | ((with_reducible apply LS.var); exact rfl)
  | (with_reducible apply LS.con)
  | (with_reducible apply LS.op)
  | (with_reducible apply LS.ri0)
  | (with_reducible apply LS.tseq)
  | (with_reducible apply LS.tasg)
  | (with_reducible apply LS.gname)
  | (with_reducible apply LS.tcons)
  | (with_reducible apply LS.tnil)
  | (with_reducible apply LS.tcb)
  | (with_reducible apply LS.tcall)
  | (with_reducible apply LS.ttest)
  | (with_reducible apply LS.k_b)
  | (with_reducible apply LS.tb)
  | (with_reducible apply LS.tifs)
  | (with_reducible apply LS.ift)
  | (with_reducible apply LS.iff_)
  | (with_reducible apply LS.ifnt)
  | (with_reducible apply LS.ifnf)
  | (with_reducible apply LS.tnext)
  | (with_reducible apply LS.tdrop)
  | (with_reducible apply LS.tret)
  | (with_reducible apply LS.tretn)
  | (with_reducible apply LS.un)
  | (with_reducible apply LS.ru)
  | (with_reducible apply LS.tyes)
  | (with_reducible apply LS.tand)
  | (with_reducible apply LS.tor)
  | (with_reducible apply LS.tnot)
  | (with_reducible apply LS.tif)
  | (with_reducible apply LS.tandv)
  | (with_reducible apply LS.k_av)
  | (with_reducible apply LS.torv)
  | (with_reducible apply LS.k_ov)
  | (with_reducible apply LS.tnotv)
  | (with_reducible apply LS.k_nv)
  | (with_reducible apply LS.tchain)
  | (with_reducible apply LS.k_ch)
  | (with_reducible apply LS.req_i)
  | (with_reducible apply LS.rne_i)
  | (with_reducible apply LS.req_s)
  | (with_reducible apply LS.rne_s)
  | (with_reducible apply LS.req_b)
  | (with_reducible apply LS.rne_b)
  | ((with_reducible apply LS.rin_i); array_mem_dec)
  | ((with_reducible apply LS.rni_i); array_mem_dec)
  | ((with_reducible apply LS.rlen_li); array_mem_dec)
  | ((with_reducible apply LS.rlen_ls); array_mem_dec)
  | ((with_reducible apply LS.rlen_l); array_mem_dec)
  | ((with_reducible apply LS.rlen_t); array_mem_dec)
  | ((with_reducible apply LS.rixl); array_mem_dec; exact rfl)
  | ((with_reducible apply LS.rixt); array_mem_dec; exact rfl)
  | ((with_reducible apply LS.isi_i); (decide +kernel))
  | ((with_reducible apply LS.isi_s); (decide +kernel))
  | ((with_reducible apply LS.isi_l); array_mem_dec; (decide +kernel))
  | ((with_reducible apply LS.isi_t); array_mem_dec; (decide +kernel))
  | ((with_reducible apply LS.isiT_i); array_mem_dec)
  | ((with_reducible apply LS.isiT_s); array_mem_dec)
  | ((with_reducible apply LS.isiT_E); array_mem_dec; array_mem_dec)
  | (with_reducible apply LS.rmin2)
  | (with_reducible apply LS.rmax2)
  | (with_reducible apply LS.tsl)
  | (with_reducible apply LS.tthen)
  | (with_reducible apply LS.tstep)
  | (with_reducible apply LS.tnop)
  | (with_reducible apply LS.tpart)
  | (with_reducible apply LS.k_part)
  | (with_reducible apply LS.ttup)
  | (with_reducible apply LS.tlst)
  | (with_reducible apply LS.tbm)
  | (with_reducible apply LS.tbm0)
  | ((with_reducible apply LS.ty_l); array_mem_dec)
  | (with_reducible apply LS.tpar)
  | (with_reducible apply LS.tfor)
  | (with_reducible apply LS.tlc)
  | (with_reducible apply LS.ilist)
  | ((with_reducible apply LS.k_il); array_mem_dec)
  | (with_reducible apply LS.itup)
  | ((with_reducible apply LS.k_it); array_mem_dec)
  | (with_reducible apply LS.istr)
  | (with_reducible apply LS.k_is)
  | (with_reducible apply LS.irng1)
  | ((with_reducible apply LS.k_r1n); omega)
  | ((with_reducible apply LS.k_r1); (first | omega | decide); (first | omega | decide))
  | (with_reducible apply LS.irng2)
  | ((with_reducible apply LS.k_r2); (first | omega | decide); (first | omega | decide); (first | omega | decide); (first | omega | decide))
  | (with_reducible apply LS.ienum)
  | ((with_reducible apply LS.k_en); array_mem_dec)
  | (with_reducible apply LS.izip)
  | ((with_reducible apply LS.k_zip); array_mem_dec; array_mem_dec)
  | (with_reducible apply LS.tlstrg)
  | (with_reducible apply LS.trg1)
  | (with_reducible apply LS.k_g1)
  | (with_reducible apply LS.risn_i)
  | (with_reducible apply LS.risn_s)
  | (with_reducible apply LS.risn_n)
  | (with_reducible apply LS.rnotn_i)
  | (with_reducible apply LS.rnotn_n)
  | (with_reducible apply LS.rint_b)
  | (with_reducible apply LS.rint_i)
  | (with_reducible apply LS.tm0)
  | (with_reducible apply LS.tm1)
  | (with_reducible apply LS.is_str)
  | (with_reducible apply LS.ex_s0)
  | (with_reducible apply LS.ex_int_b)
  | (with_reducible apply LS.k_par)
  | (with_reducible apply LS.tpar3)
  | (with_reducible apply LS.k_par3)
  | ((with_reducible apply LS.taug); exact rfl)
  | (with_reducible apply LS.ipi)
  | ((with_reducible apply LS.gtup); array_mem_dec; exact rfl)
  | (with_reducible apply LS.gnil)
  | (with_reducible apply LS.gcons)
  | (with_reducible apply LS.gsub)
  | ((with_reducible apply LS.ri); first | omega | decide | assumption | exact ⟨by decide, by decide, by decide⟩ | exact .inl ⟨by decide, by decide⟩ | exact .inr ⟨by decide, by decide⟩ | exact .inl ⟨by omega, by omega⟩ | exact .inr ⟨by omega, by omega⟩)
  | (with_reducible apply LS.ex_ss)
  | (with_reducible apply LS.ex_s1)
  | (with_reducible apply LS.ex_i1)
  | (with_reducible apply LS.and_rfl)
  | (with_reducible apply LS.and_tr)
  | (with_reducible apply LS.is_non))

section
variable {P : Program} {w : World} {K : PySem.W.Frag} {mg : Str → Option Value} {base : Heap}

theorem new_in {ns : List Int} (nd : ns.Nodup) {i : Nat} {m : Int} (h : ns[i]? = some m) : ¬ m ∈ ns.take i := by
  intro q
  obtain ⟨j, hj⟩ := List.mem_iff_getElem?.mp q
  rw [List.getElem?_take] at hj
  split at hj
  · rename_i hlt
    obtain ⟨h1, h2⟩ := List.getElem?_eq_some_iff.mp h
    obtain ⟨h3, h4⟩ := List.getElem?_eq_some_iff.mp hj
    have := (List.getElem_inj (h₀ := h3) (h₁ := h1) nd).mp (h4.trans h2.symm)
    omega
  · cases hj
theorem ok_parse_places (e : Env K mg) : FnOk P w K mg base CX0 3 e.a_parse_places e.d_parse_places ["text"] (sp_parse_places) := by
  refine Fun.ok e.f_parse_places sc_parse_places (fun vs H Q E h => ?_) (fun cdv A outer s H vs Q E hr h => ?_)
  · obtain ⟨a, rfl, _⟩ := h; rfl
  · obtain ⟨ns, rfl, pl, k⟩ := h
    refine ⟨_, (pss_cons (ps_set (i := 1) sc_parse_places.nd rfl (by first | exact Or.inl rfl | exact Or.inr rfl) (pe_lst pa_nil))
      (pss_cons (ps_for PassesOwn.never rfl (pi_enum (by rfl) e.n_enumerate (pa_cons (pe_call ((ok_words_of e).mono (by decide)) hr rfl e.g_words_of e.f_words_of.kp e.b_words_of .nil pass0 (pa_cons (pv 0) (pa_cons (pe_glob (v := V.int 200) rfl e.g_MOST_PLACES ⟨_, rfl⟩) pa_nil))) pa_nil)) (pg_tup (by rfl) (pgs_cons (pg_name (i := 2) sc_parse_places.nd rfl (by first | exact Or.inl rfl | exact Or.inr rfl)) (pgs_cons (pg_name (i := 3) sc_parse_places.nd rfl (by first | exact Or.inl rfl | exact Or.inr rfl)) pgs_nil)))
      (pss_cons (ps_set (i := 4) sc_parse_places.nd rfl (by first | exact Or.inl rfl | exact Or.inr rfl) (pe_call ((ok_read_number e).mono (by decide)) hr rfl e.g_read_number e.f_read_number.kp e.b_read_number .nil pass0 (pa_cons (pv 3) pa_nil)))
      (pss_cons (ps_if (PW.pt (pw_or (pt_not (pt_val (pe_call ((ok_is_place e).mono (by decide)) hr rfl e.g_is_place e.f_is_place.kp e.b_is_place .nil pass0 (pa_cons (pv 4) pa_nil)))) (pw_or1 (pt_cmpR op_in_seq (pv 4) (pv 1) (by rfl)))))
        (pss_one ps_never)
        pss_nil)
      (pss_one (ps_expr (pe_bm PySem.F.plainAttrs_list PySem.F.slot_list_append PySem.F.type_list_append mt_append (pv 1) (pa_cons (pv 4) pa_nil)))))))
      (pss_one (ps_ret (pv 1))))), ?_⟩
    repeat array_get_dec
    refine LS.k_lst (by array_mem_dec) fun f H1 nf s1 hf => ?_
    repeat array_get_dec
    refine ⟨ns, 200, rfl, pl.rg, by have := pl.le; omega, by have := pl.le; omega, fun H2 p s2 np hp => ?_⟩
    repeat array_get_dec
    refine LS.for_ (walk_enum (xs := (ns.map nst).map V.str)) (fun i σ H3 => ∃ v2 v3 v4 : Option V, Same H H3 ∧ H3 p = some (.lst ((ns.map nst).map V.str)) ∧ H3 f = some (.lst ((ns.take i).map V.int)) ∧ σ = [some (.str (txtN ns)), some (.ref f), v2, v3, v4]) ⟨_, _, _, (by array_mem_dec), hp, (by array_mem_dec), rfl⟩ ?_ ?_ ?_
    · rintro i σ H3 hi ⟨_, _, _, _, h, _⟩; exact SqL.of h
    · rintro i x σ H3 H4 hi ⟨v2, v3, v4, s3, h3, f3, rfl⟩ y
      obtain ⟨T, y, z, rfl, nT, s4, hT, hy, hz⟩ := LS.ypair y
      cases hy
      rw [List.length_map, List.length_map] at hi
      obtain ⟨m, hm⟩ : ∃ m, ns[i]? = some m := ⟨_, List.getElem?_eq_getElem hi⟩
      have ez : z = .str (nst m) := by
        have : ((ns.map nst).map V.str)[i]? = some z := hz
        rw [List.getElem?_map, List.getElem?_map, hm] at this
        exact (Option.some.inj this).symm
      subst ez
      obtain ⟨m0, m1⟩ := pl.rg m (List.mem_of_getElem? hm)
      repeat array_get_dec
      refine ⟨m, rfl, m0, m1, ?_⟩
      repeat array_get_dec
      refine ⟨m, rfl, m0, m1, ?_⟩
      repeat array_get_dec
      rw [decide_eq_false (new_in pl.nd hm)]
      repeat array_get_dec
      refine LS.rapp (by array_mem_dec) (LS.szl (by have := pl.le; rw [List.length_map, List.length_take]; omega)) fun H5 f5 h5 => ?_
      repeat array_get_dec
      refine ⟨_, _, _, (by array_mem_dec), (by array_mem_dec), ?_, rfl⟩
      rw [h5, List.take_add_one, hm, List.map_append]; rfl
    · rintro σ H3 ⟨v2, v3, v4, s3, h3, f3, rfl⟩
      repeat array_get_dec
      rw [List.length_map, List.length_map, List.take_length] at f3
      exact k _ f s3 nf f3
end
end LP

namespace LP
open PySem L2 LT LG LQ LH LC LX
local macro_rules | `(tactic| array_mem_dec) => `(tactic| first
  | assumption
  | ((with_reducible apply LS.hp_s); assumption; array_mem_dec)
  | ((with_reducible apply LS.hp_f); assumption; array_mem_dec; array_mem_dec)
  | ((with_reducible apply LS.hp_t); assumption; array_mem_dec; array_mem_dec)
  | ((with_reducible apply LS.sq_o); array_mem_dec)
  | ((with_reducible apply LS.sq_s); assumption; array_mem_dec)
  | ((with_reducible apply LS.sq_f); assumption; array_mem_dec; array_mem_dec)
  | ((with_reducible apply LS.sq_t); assumption; array_mem_dec; array_mem_dec)
  | ((with_reducible apply LS.tu_o); array_mem_dec)
  | ((with_reducible apply LS.tu_s); assumption; array_mem_dec)
  | ((with_reducible apply LS.tu_f); assumption; array_mem_dec; array_mem_dec)
  | ((with_reducible apply LS.tu_t); assumption; array_mem_dec; array_mem_dec)
  | ((with_reducible apply LS.se_l); array_mem_dec)
  | ((with_reducible apply LS.se_t); array_mem_dec)
  | ((with_reducible apply LS.se_s); assumption; array_mem_dec)
  | ((with_reducible apply LS.se_f); assumption; array_mem_dec; array_mem_dec)
  | ((with_reducible apply LS.se_tt); assumption; array_mem_dec; array_mem_dec)
  | ((with_reducible exact Same.refl _))
  | ((with_reducible apply LS.sm_s); assumption; array_mem_dec)
  | ((with_reducible apply LS.sm_f); assumption; array_mem_dec; array_mem_dec)
  | ((with_reducible exact Fr.refl _ _))
  | ((with_reducible apply LS.fr_b); assumption; array_mem_dec)
  | ((with_reducible apply LS.fr_s); assumption; array_mem_dec)
  | ((with_reducible apply LS.fr_n); assumption; array_mem_dec; array_mem_dec)
  | ((with_reducible apply LS.fr_t); assumption; array_mem_dec)
  | ((with_reducible apply LS.no_s); assumption; array_mem_dec)
  | ((with_reducible apply LS.no_f); assumption; array_mem_dec; array_mem_dec)
  | ((with_reducible apply LS.no_t); assumption; array_mem_dec)
  | ((with_reducible apply Ne.symm); assumption)
  | ((with_reducible apply LS.ne_a); assumption; array_mem_dec)
  | ((with_reducible apply LS.ne_b); assumption; array_mem_dec)
  | ((with_reducible apply LS.ne_ap); assumption)
  | ((with_reducible apply LS.ne_rl); assumption; array_mem_dec)
  | ((with_reducible apply LS.rl_t); assumption)
  | ((with_reducible apply LS.rl_s); assumption; array_mem_dec)
  | ((with_reducible apply LS.rl_f); assumption; array_mem_dec; array_mem_dec)
  | ((with_reducible apply LS.ap_new); assumption; assumption; array_mem_dec)
  | ((with_reducible apply LS.ap_t); assumption; array_mem_dec; array_mem_dec)
  | ((with_reducible apply LS.ap_s); assumption; array_mem_dec; array_mem_dec)
  | ((with_reducible apply LS.ap_f); assumption; array_mem_dec; array_mem_dec; array_mem_dec)
  | ((with_reducible apply LS.rt_refl); array_mem_dec)
  | ((with_reducible apply LS.rt_t); assumption; array_mem_dec)
  | ((with_reducible apply LS.rt_s); assumption; array_mem_dec)
  | ((with_reducible apply LS.rt_f); assumption; array_mem_dec; array_mem_dec; array_mem_dec)
  | ((with_reducible apply LS.sz); (first | decide | (simp only [List.length_append, List.length_map, List.length_cons, List.length_nil, List.length_replicate]; omega)))
  | ((with_reducible apply LS.szl); (first | decide | (simp only [List.length_append, List.length_map, List.length_cons, List.length_nil, List.length_replicate]; omega))))
local macro_rules | `(tactic| array_get_dec) => `(tactic| first
  | ((with_reducible apply LS.var); exact rfl)
  | (with_reducible apply LS.con)
  | (with_reducible apply LS.op)
  | (with_reducible apply LS.ri0)
  | (with_reducible apply LS.tseq)
  | (with_reducible apply LS.tasg)
  | (with_reducible apply LS.gname)
  | (with_reducible apply LS.tcons)
  | (with_reducible apply LS.tnil)
  | (with_reducible apply LS.tcb)
  | (with_reducible apply LS.tcall)
  | (with_reducible apply LS.ttest)
  | (with_reducible apply LS.k_b)
  | (with_reducible apply LS.tb)
  | (with_reducible apply LS.tifs)
  | (with_reducible apply LS.ift)
  | (with_reducible apply LS.iff_)
  | (with_reducible apply LS.ifnt)
  | (with_reducible apply LS.ifnf)
  | (with_reducible apply LS.tnext)
  | (with_reducible apply LS.tdrop)
  | (with_reducible apply LS.tret)
  | (with_reducible apply LS.tretn)
  | (with_reducible apply LS.un)
  | (with_reducible apply LS.ru)
  | (with_reducible apply LS.tyes)
  | (with_reducible apply LS.tand)
  | (with_reducible apply LS.tor)
  | (with_reducible apply LS.tnot)
  | (with_reducible apply LS.tif)
  | (with_reducible apply LS.tandv)
  | (with_reducible apply LS.k_av)
  | (with_reducible apply LS.torv)
  | (with_reducible apply LS.k_ov)
  | (with_reducible apply LS.tnotv)
  | (with_reducible apply LS.k_nv)
  | (with_reducible apply LS.tchain)
  | (with_reducible apply LS.k_ch)
  | (with_reducible apply LS.req_i)
  | (with_reducible apply LS.rne_i)
  | (with_reducible apply LS.req_s)
  | (with_reducible apply LS.rne_s)
  | (with_reducible apply LS.req_b)
  | (with_reducible apply LS.rne_b)
  | ((with_reducible apply LS.rin_i); array_mem_dec)
  | ((with_reducible apply LS.rni_i); array_mem_dec)
  | ((with_reducible apply LS.rlen_li); array_mem_dec)
  | ((with_reducible apply LS.rlen_ls); array_mem_dec)
  | ((with_reducible apply LS.rlen_l); array_mem_dec)
  | ((with_reducible apply LS.rlen_t); array_mem_dec)
  | ((with_reducible apply LS.rixl); array_mem_dec; exact rfl)
  | ((with_reducible apply LS.rixt); array_mem_dec; exact rfl)
  | ((with_reducible apply LS.isi_i); (decide +kernel))
  | ((with_reducible apply LS.isi_s); (decide +kernel))
  | ((with_reducible apply LS.isi_l); array_mem_dec; (decide +kernel))
  | ((with_reducible apply LS.isi_t); array_mem_dec; (decide +kernel))
  | ((with_reducible apply LS.isiT_i); array_mem_dec)
  | ((with_reducible apply LS.isiT_s); array_mem_dec)
  | ((with_reducible apply LS.isiT_E); array_mem_dec; array_mem_dec)
  | (with_reducible apply LS.rmin2)
  | (with_reducible apply LS.rmax2)
  | (with_reducible apply LS.tsl)
  | (with_reducible apply LS.tthen)
  | (with_reducible apply LS.tstep)
  | (with_reducible apply LS.tnop)
  | (with_reducible apply LS.tpart)
  | (with_reducible apply LS.k_part)
  | (with_reducible apply LS.ttup)
  | (with_reducible apply LS.tlst)
  | (with_reducible apply LS.tbm)
  | (with_reducible apply LS.tbm0)
  | ((with_reducible apply LS.ty_l); array_mem_dec)
  | (with_reducible apply LS.tpar)
  | (with_reducible apply LS.tfor)
  | (with_reducible apply LS.tlc)
  | (with_reducible apply LS.ilist)
  | ((with_reducible apply LS.k_il); array_mem_dec)
  | (with_reducible apply LS.itup)
  | ((with_reducible apply LS.k_it); array_mem_dec)
  | (with_reducible apply LS.istr)
  | (with_reducible apply LS.k_is)
  | (with_reducible apply LS.irng1)
  | ((with_reducible apply LS.k_r1n); omega)
  | ((with_reducible apply LS.k_r1); (first | omega | decide); (first | omega | decide))
  | (with_reducible apply LS.irng2)
  | ((with_reducible apply LS.k_r2); (first | omega | decide); (first | omega | decide); (first | omega | decide); (first | omega | decide))
  | (with_reducible apply LS.ienum)
  | ((with_reducible apply LS.k_en); array_mem_dec)
  | (with_reducible apply LS.izip)
  | ((with_reducible apply LS.k_zip); array_mem_dec; array_mem_dec)
  | (with_reducible apply LS.tlstrg)
  | (with_reducible apply LS.trg1)
  | (with_reducible apply LS.k_g1)
  | (with_reducible apply LS.risn_i)
  | (with_reducible apply LS.risn_s)
  | (with_reducible apply LS.risn_n)
  | (with_reducible apply LS.rnotn_i)
  | (with_reducible apply LS.rnotn_n)
  | (with_reducible apply LS.rint_b)
  | (with_reducible apply LS.rint_i)
  | (with_reducible apply LS.tm0)
  | (with_reducible apply LS.tm1)
  | (with_reducible apply LS.is_str)
  | (with_reducible apply LS.ex_s0)
  | (with_reducible apply LS.ex_int_b)
  | (with_reducible apply LS.k_par)
  | (with_reducible apply LS.tpar3)
  | (with_reducible apply LS.k_par3)
  | ((with_reducible apply LS.taug); exact rfl)
  | (with_reducible apply LS.ipi)
  | ((with_reducible apply LS.gtup); array_mem_dec; exact rfl)
  | (with_reducible apply LS.gnil)
  | (with_reducible apply LS.gcons)
  | (with_reducible apply LS.gsub)
  | ((with_reducible apply LS.ri); first | omega | decide | assumption | exact ⟨by decide, by decide, by decide⟩ | exact .inl ⟨by decide, by decide⟩ | exact .inr ⟨by decide, by decide⟩ | exact .inl ⟨by omega, by omega⟩ | exact .inr ⟨by omega, by omega⟩)
  | (with_reducible apply LS.ex_ss)
  | (with_reducible apply LS.ex_s1)
  | (with_reducible apply LS.ex_i1)
  | (with_reducible apply LS.and_rfl)
  | (with_reducible apply LS.and_tr)
  | (with_reducible apply LS.is_non))

section
variable {P : Program} {w : World} {K : PySem.W.Frag} {mg : Str → Option Value} {base : Heap}

theorem pl_nil : Pl [] := ⟨List.nodup_nil, by simp, by simp⟩
theorem pl_one : Pl [0] := ⟨by simp, by simp [G30], by simp⟩
theorem pl_take {ns : List Int} (p : Pl ns) (h : ∀ x ∈ ns, x < G30) : Pl (ns.take 199 ++ [10 ^ 30]) := by
  refine ⟨?_, fun x hx => ?_, by rw [List.length_append, List.length_take]; show _ + 1 ≤ 200; omega⟩
  · rw [List.nodup_append]
    refine ⟨(List.take_sublist _ _).nodup p.nd, List.nodup_cons.mpr ⟨by simp, List.nodup_nil⟩, fun y hy w hw => ?_⟩
    rw [List.mem_singleton.mp hw]
    have := h y (List.mem_of_mem_take hy)
    unfold G30 at this
    omega
  · rcases List.mem_append.mp hx with q | q
    · exact p.rg x (List.mem_of_mem_take q)
    · rw [List.mem_singleton.mp q]; decide
theorem pl_erase {ns : List Int} (p : Pl ns) (k : Nat) : Pl (ns.eraseIdx k) := ⟨(List.eraseIdx_sublist _ _).nodup p.nd, fun x hx => p.rg x (List.mem_of_mem_eraseIdx hx), by have := List.length_eraseIdx_le ns k; have := p.le; omega⟩
theorem pl_abs {ns : List Int} (p : Pl ns) : ∀ x ∈ ns, x.natAbs < 10 ^ 31 := fun x hx => by
  have := p.rg x hx
  unfold G30 at this
  omega
theorem str_map (xs : List Int) : List.map (fun v => match v with | .int i => V.str (nst i) | v => v) (xs.map V.int) = (xs.map nst).map V.str := by rw [List.map_map, List.map_map]; rfl
theorem ok2 {xs : List Int} (p : Pl xs) : ∀ z ∈ [txtN xs, txtN xs], PyData.strOk z = true := fun z hz => by
  have := txtN_ok fun x hx => (p.rg x hx).1
  simp at hz; rw [hz]; exact this
theorem txt_0 : txtN [0] = ("0" : Str) := by decide +kernel
theorem ok_law (e : Env K mg) : LG.FnG P w K mg base CX0 9 e.a_law e.d_law ["script"] (sp_law K) := by
  refine LG.okG e.f_law sc_law (fun vs H Q E h => ?_) (fun cdv A outer s H vs Q E hgd hr h => ?_)
  · obtain ⟨a, ns, rfl, _⟩ := h; rfl
  · obtain ⟨a, ns, rfl, hS, hl, k⟩ := h
    refine ⟨_, (pss_cons (ps_set (i := 1) sc_law.nd rfl (by first | exact Or.inl rfl | exact Or.inr rfl) (pe_call ((ok__law_reel e).mono (by decide)) hr rfl e.g__law_reel e.f__law_reel.kp e.b__law_reel .nil pass0 (pa_cons (pv 0) pa_nil)))
      (pss_cons (ps_for PassesOwn.never rfl (pi_range1 (by rfl) e.n_range (pa_cons (pe_op op_add pe_int (pe_callB (LS.call_min2 rfl) (by rfl) e.n_min (by decide +kernel) (pa_cons (pe_callB LS.call_len (by rfl) e.n_len PySem.boot_len (pa_cons (pv 0) pa_nil)) (pa_cons pe_int pa_nil)))) pa_nil)) (pg_name (i := 2) sc_law.nd rfl (by first | exact Or.inl rfl | exact Or.inr rfl))
      (pss_cons (ps_set (i := 3) sc_law.nd rfl (by first | exact Or.inl rfl | exact Or.inr rfl) (pe_call ((ok__law_places e).mono (by decide)) hr rfl e.g__law_places e.f__law_places.kp e.b__law_places .nil pass0 (pa_cons (pv 1) (pa_cons (pe_call ((ok__law_draw e).mono (by decide)) hr rfl e.g__law_draw e.f__law_draw.kp e.b__law_draw .nil pass0 (pa_cons (pv 1) (pa_cons (pe_ix ix_list (pe_lst (pa_cons pe_int (pa_cons pe_int pa_nil))) (pe_op op_mod (pv 2) pe_int) (fun _ _ => rfl)) pa_nil))) pa_nil))))
      (pss_cons (ps_if (pt_cmpR op_eq (pe_call ((ok__law_draw e).mono (by decide)) hr rfl e.g__law_draw e.f__law_draw.kp e.b__law_draw .nil pass0 (pa_cons (pv 1) (pa_cons pe_int pa_nil))) pe_int (nomark _))
        (pss_one (ps_set (i := 3) sc_law.nd rfl (by first | exact Or.inl rfl | exact Or.inr rfl) (pe_op op_cat (pe_slice sl_list (pv 3) po_none (po_some pe_int)) (pe_lst (pa_cons (pe_op op_pow pe_int pe_int) pa_nil)))))
        pss_nil)
      (pss_cons (ps_set (i := 4) sc_law.nd rfl (by first | exact Or.inl rfl | exact Or.inr rfl) (pe_call ((ok__law_dressed e).mono (by decide)) hr rfl e.g__law_dressed e.f__law_dressed.kp e.b__law_dressed .nil pass0 (pa_cons (pv 1) (pa_cons (pv 3) pa_nil))))
      (pss_cons (ps_set (i := 5) sc_law.nd rfl (by first | exact Or.inl rfl | exact Or.inr rfl) (pe_callB (LX.call_reprN hgd (u66 hr)) (by rfl) e.n_repr (by decide +kernel) (pa_cons (pe_lst (pa_cons (pv 3) (pa_cons (pv 4) pa_nil))) pa_nil)))
      (pss_cons (ps_set (i := 6) sc_law.nd rfl (by first | exact Or.inl rfl | exact Or.inr rfl) (pe_m1 PySem.F.slot_str_join PySem.F.type_str_join LS.mt_join pe_str (pe_lc (own := [("place", 8)]) rfl sc_law.nd (pi_list (pv 3)) (blkOk_by (N := ["script", "reel", "k", "places", "dressed", "kept", "due", "found", "place"]) (sc := defScope s_law) (by decide +kernel)) (fun _ _ _ _ _ => (pg_name (i := 8) sc_law.nd rfl (by first | exact Or.inl rfl | exact Or.inr rfl))) (fun _ _ _ _ _ => pts_nil) (fun _ _ _ _ _ => (pe_callTy LS.call_strI (by rfl) e.n_str (by decide +kernel) (pa_cons (pv 8) pa_nil))))))
      (pss_cons (ps_if (PW.pt (pw_or (pt_cmpR (op_neD hr.units) (pe_lst (pa_cons (pe_call ((ok_format_places e).mono (by decide)) hr rfl e.g_format_places e.f_format_places.kp e.b_format_places .nil pass0 (pa_cons (pv 3) pa_nil)) (pa_cons (pe_call ((ok_format_places e).mono (by decide)) hr rfl e.g_format_places e.f_format_places.kp e.b_format_places .nil pass0 (pa_cons (pv 4) pa_nil)) pa_nil))) (pe_lst (pa_cons (pv 6) (pa_cons (pv 6) pa_nil))) (nomark _)) (pw_or1 (pt_cmpR op_ne (pe_callB (LX.call_reprN hgd (u66 hr)) (by rfl) e.n_repr (by decide +kernel) (pa_cons (pe_lst (pa_cons (pv 3) (pa_cons (pv 4) pa_nil))) pa_nil)) (pv 5) (nomark _)))))
        (pss_one (ps_ret pe_bl))
        pss_nil)
      (pss_cons (ps_set (i := 7) sc_law.nd rfl (by first | exact Or.inl rfl | exact Or.inr rfl) (pe_call ((ok_parse_places e).mono (by decide)) hr rfl e.g_parse_places e.f_parse_places.kp e.b_parse_places .nil pass0 (pa_cons (pe_call ((ok_format_places e).mono (by decide)) hr rfl e.g_format_places e.f_format_places.kp e.b_format_places .nil pass0 (pa_cons (pv 3) pa_nil)) pa_nil)))
      (pss_cons (ps_if (pt_cmpR op_ne (pe_callB (LX.call_reprN hgd (u66 hr)) (by rfl) e.n_repr (by decide +kernel) (pa_cons (pv 7) pa_nil)) (pe_callB (LX.call_reprN hgd (u66 hr)) (by rfl) e.n_repr (by decide +kernel) (pa_cons (pv 3) pa_nil)) (nomark _))
        (pss_one (ps_ret pe_bl))
        pss_nil)
      (pss_cons (ps_expr (pe_bm PySem.F.plainAttrs_list PySem.F.slot_list_append PySem.F.type_list_append mt_append (pv 7) (pa_cons pe_non pa_nil)))
      (pss_cons (ps_if (pt_cmpR op_ne (pe_callB (LX.call_reprN hgd (u66 hr)) (by rfl) e.n_repr (by decide +kernel) (pa_cons (pe_call ((ok_parse_places e).mono (by decide)) hr rfl e.g_parse_places e.f_parse_places.kp e.b_parse_places .nil pass0 (pa_cons (pe_call ((ok_format_places e).mono (by decide)) hr rfl e.g_format_places e.f_format_places.kp e.b_format_places .nil pass0 (pa_cons (pv 4) pa_nil)) pa_nil)) pa_nil)) (pe_callB (LX.call_reprN hgd (u66 hr)) (by rfl) e.n_repr (by decide +kernel) (pa_cons (pv 3) pa_nil)) (nomark _))
        (pss_one (ps_ret pe_bl))
        pss_nil)
      (pss_one (ps_if (pt_cmpR (op_neD hr.units) (pv 3) (pe_lst pa_nil) (nomark _))
        (pss_cons (ps_expr (pe_bm PySem.F.plainAttrs_list PySem.F.slot_list_pop PySem.F.type_list_pop mt_popAt (pv 3) (pa_cons (pe_call ((ok__law_draw e).mono (by decide)) hr rfl e.g__law_draw e.f__law_draw.kp e.b__law_draw .nil pass0 (pa_cons (pv 1) (pa_cons (pe_callB LS.call_len (by rfl) e.n_len PySem.boot_len (pa_cons (pv 3) pa_nil)) pa_nil))) pa_nil)))
      (pss_one (ps_if (pt_cmpR op_ne (pe_call ((ok_format_places e).mono (by decide)) hr rfl e.g_format_places e.f_format_places.kp e.b_format_places .nil pass0 (pa_cons (pv 3) pa_nil)) (pe_m1 PySem.F.slot_str_join PySem.F.type_str_join LS.mt_join pe_str (pe_lc (own := [("place", 8)]) rfl sc_law.nd (pi_list (pv 3)) (blkOk_by (N := ["script", "reel", "k", "places", "dressed", "kept", "due", "found", "place"]) (sc := defScope s_law) (by decide +kernel)) (fun _ _ _ _ _ => (pg_name (i := 8) sc_law.nd rfl (by first | exact Or.inl rfl | exact Or.inr rfl))) (fun _ _ _ _ _ => pts_nil) (fun _ _ _ _ _ => (pe_callTy LS.call_strI (by rfl) e.n_str (by decide +kernel) (pa_cons (pv 8) pa_nil))))) (nomark _))
        (pss_one (ps_ret pe_bl))
        pss_nil)))
        pss_nil)))))))))))))
      (pss_one (ps_ret (pe_and (pe_cmpR op_eq (pe_call ((ok_format_places e).mono (by decide)) hr rfl e.g_format_places e.f_format_places.kp e.b_format_places .nil pass0 (pa_cons (pe_tup pa_nil) pa_nil)) pe_str (nomark _)) (pe_and (pe_cmpR (op_eqD hr.units) (pe_call ((ok_parse_places e).mono (by decide)) hr rfl e.g_parse_places e.f_parse_places.kp e.b_parse_places .nil pass0 (pa_cons pe_str pa_nil)) (pe_lst pa_nil) (nomark _)) (pe_one (pe_cmpR (op_eqD hr.units) (pe_call ((ok_parse_places e).mono (by decide)) hr rfl e.g_parse_places e.f_parse_places.kp e.b_parse_places .nil pass0 (pa_cons pe_str pa_nil)) (pe_lst (pa_cons pe_int pa_nil)) (nomark _))))))))), ?_⟩
    repeat array_get_dec
    refine ⟨a, ns, rfl, hS, hl, fun H1 b s1 nb R => ?_⟩
    repeat array_get_dec
    refine LS.for_ walk_range (fun i σ H2 => ∃ v2 v3 v4 v5 v6 v7 v8 : Option V, Reel H2 b (i * 500) ∧ σ = [some (.ref a), some (.ref b), v2, v3, v4, v5, v6, v7, v8]) ⟨_, _, _, _, _, _, _, (by array_mem_dec), rfl⟩ (fun _ _ _ _ _ => trivial) ?_ ?_
    · rintro i x σ H2 H3 hi ⟨v2, v3, v4, v5, v6, v7, v8, R2, rfl⟩ ⟨rfl, rfl⟩
      have hi9 : i < 9 := by omega
      repeat array_get_dec
      refine LS.k_lst (by array_mem_dec) fun l2 H_l2 n_l2 s_l2 h_l2 => ?_
      repeat array_get_dec
      obtain ⟨many, m0, m1, hat⟩ : ∃ many : Int, 0 < many ∧ many ≤ 201 ∧ atI [V.int 12, V.int 201] ((0 + (i : Int)) % 2) = some (.int many) := by
        have : (0 + (i : Int)) % 2 = 0 ∨ (0 + (i : Int)) % 2 = 1 := by omega
        rcases this with e | e <;> rw [e]
        · exact ⟨12, by decide, by decide, rfl⟩
        · exact ⟨201, by decide, by decide, rfl⟩
      refine LS.rixl (by array_mem_dec) hat ?_
      repeat array_get_dec
      refine ⟨b, _, many, rfl, (by array_mem_dec), by omega, Nat.lt_trans (log_m (by omega) (by omega)) (by decide), by omega, fun H4 n n0 n1 T4 => ?_⟩
      obtain ⟨n, rfl⟩ : ∃ m : Nat, n = m := ⟨n.toNat, by omega⟩
      repeat array_get_dec
      refine ⟨b, _, n, rfl, (by array_mem_dec), by omega, by omega, fun H5 p xs T5 np ap pl lt xl hp => ?_⟩
      repeat array_get_dec
      refine ⟨_, _, _, rfl, (by array_mem_dec), (by first | decide | omega), (by first | (decide +kernel) | exact log_small (by omega)), (by omega), fun H_u u u0 u1 T_u => ?_⟩
      repeat array_get_dec
      refine LS.if_join (fun σ H6 => ∃ (p : Addr) (xs : List Int), σ = [some (.ref a), some (.ref b), some (.int (0 + (i : Int))), some (.ref p), v4, v5, v6, v7, v8] ∧ Reel H6 b (i * 500 + 404) ∧ Pl xs ∧ H6 p = some (.lst (xs.map V.int)) ∧ Apart H6 b p) (fun hu D' eD kk => ?_) (fun hu D' eD kk => ?_) ?_
      · repeat array_get_dec
        refine LS.rsll (xs := xs.map V.int) (by array_mem_dec) fun q H6 nq s6 h6 => ?_
        rw [show (199 : Int) = ((199 : Nat) : Int) from rfl, LS.cut_to, ← List.map_take] at h6
        repeat array_get_dec
        refine LS.k_lst (by array_mem_dec) fun w H_w n_w s_w h_w => ?_
        repeat array_get_dec
        refine LS.rcat (xs := (xs.take 199).map V.int) (zs := [V.int (10 ^ 30)]) (by array_mem_dec) h_w (LS.sz (by rw [List.length_map, List.length_take]; show _ + 1 ≤ 100000; omega)) fun r H7 nr s7 h7 => ?_
        repeat array_get_dec
        refine kk _ _ ⟨r, xs.take 199 ++ [10 ^ 30], rfl, LS.Reel.up (d := i * 500 + 1 + 402 + 1) (by array_mem_dec) (by omega), pl_take pl lt, by rw [h7, List.map_append]; rfl, (by array_mem_dec)⟩
      · repeat array_get_dec
        refine kk _ _ ⟨p, xs, rfl, LS.Reel.up (d := i * 500 + 1 + 402 + 1) (by array_mem_dec) (by omega), pl, (by array_mem_dec), (by array_mem_dec)⟩
      · clear hp ap np pl lt xl hat T_u T5 T4 R2 xs p
        rintro σ' H6 ⟨p, xs, rfl, R6, pl, hp, ap⟩
        have hl2 := pl.le
        repeat array_get_dec
        refine ⟨b, _, p, xs, rfl, (by array_mem_dec), by omega, (by array_mem_dec), by omega, fun H7 q T7 nq hq => ?_⟩
        obtain ⟨dq, smq, dpq⟩ : ∃ dq, LG.Sm dq 1 (122 * xs.length) ∧ ∀ H', Same H7 H' → Dp K H' (.ref q) dq := by
          rcases hq with hq | hq
          · exact ⟨LS.dI xs, LS.sm_ints (pl_abs pl), fun H' s => LS.dp_i (by array_mem_dec)⟩
          · exact ⟨_, LS.sm_intsT (pl_abs pl), fun H' s => LS.dp_it (by array_mem_dec)⟩
        have hqE : SqE K H7 q (xs.map V.int) := hq.elim (fun h => LS.se_l h) fun h => LS.se_t h
        have hp7 : H7 p = some (.lst (xs.map V.int)) := (by array_mem_dec)
        have smd : LG.Sm (.list [LS.dI xs, dq]) 2 ((24400 + 1) * 2) := LG.Sm.list (k := 1) (w := 24400) (l := [LS.dI xs, dq]) (fun d hd => by
          rcases List.mem_cons.mp hd with rfl | hd
          · exact (LS.sm_ints (pl_abs pl)).mono (Nat.le_refl _) (by omega)
          · rw [List.mem_singleton.mp hd]; exact smq.mono (Nat.le_refl _) (by omega))
        repeat array_get_dec
        refine LS.k_lst (by array_mem_dec) fun w H_w n_w s_w h_w => ?_
        repeat array_get_dec
        refine LS.rrepr (.lst (SqL.of h_w) (.cons (LS.dp_i (ns := xs) (by array_mem_dec)) (.cons (dpq _ (by array_mem_dec)) .nil))) smd (by decide) (by decide) ?_
        repeat array_get_dec
        refine LS.map_ (xs := xs.map V.int) walk_list (by rw [List.length_map]; omega) (fun v => match v with | .int i => .str (nst i) | v => v) (fun H' s => (by array_mem_dec)) (fun x Hq hx s KK KN kk => ?_) fun D H8 nD s8 h8 => ?_
        · obtain ⟨z, hz, rfl⟩ := List.mem_map.mp hx
          refine ⟨rfl, ?_⟩
          repeat array_get_dec
          exact LS.rstr_i (log2_lt (pl.rg z hz).1 (pl.rg z hz).2 (by decide)) (kk _ (Same.refl _))
        rw [str_map] at h8
        refine LS.rjoin (SqL.of h8) (txtN_sz pl.rg (by omega)) ?_
        repeat array_get_dec
        refine ⟨p, xs, rfl, (by array_mem_dec), pl, fun H9 s9 => ?_⟩
        repeat array_get_dec
        refine ⟨q, xs, rfl, (by array_mem_dec), pl, fun H10 s10 => ?_⟩
        repeat array_get_dec
        refine LS.k_lst (by array_mem_dec) fun x1 H_x1 n_x1 s_x1 h_x1 => ?_
        repeat array_get_dec
        refine LS.k_lst (by array_mem_dec) fun x2 H_x2 n_x2 s_x2 h_x2 => ?_
        repeat array_get_dec
        refine LS.rne_sl (x := [txtN xs, txtN xs]) (y := [txtN xs, txtN xs]) (ok2 pl) (ok2 pl) (by array_mem_dec) (by array_mem_dec) ?_
        rw [decide_eq_true rfl]
        repeat array_get_dec
        refine LS.k_lst (by array_mem_dec) fun x3 H_x3 n_x3 s_x3 h_x3 => ?_
        repeat array_get_dec
        refine LS.rrepr (.lst (SqL.of h_x3) (.cons (LS.dp_i (ns := xs) (by array_mem_dec)) (.cons (dpq _ (by array_mem_dec)) .nil))) smd (by decide) (by decide) ?_
        repeat array_get_dec
        rw [decide_eq_true rfl]
        repeat array_get_dec
        refine ⟨p, xs, rfl, (by array_mem_dec), pl, fun H11 s11 => ?_⟩
        repeat array_get_dec
        refine ⟨xs, rfl, pl, fun H12 f s12 nf hf => ?_⟩
        repeat array_get_dec
        refine LS.rrepr (LS.dp_i (ns := xs) (by array_mem_dec)) (LS.sm_ints (pl_abs pl)) (by decide) (by omega) ?_
        repeat array_get_dec
        refine LS.rrepr (LS.dp_i (ns := xs) (by array_mem_dec)) (LS.sm_ints (pl_abs pl)) (by decide) (by omega) ?_
        repeat array_get_dec
        rw [decide_eq_true rfl]
        repeat array_get_dec
        refine LS.rapp (xs := xs.map V.int) (by array_mem_dec) (LS.szl (by rw [List.length_map]; omega)) fun H13 f13 h13 => ?_
        have nqf : q ≠ f := by rcases hq with hq | hq <;> exact (by array_mem_dec)
        repeat array_get_dec
        refine ⟨q, xs, rfl, (by array_mem_dec), pl, fun H14 s14 => ?_⟩
        repeat array_get_dec
        refine ⟨xs, rfl, pl, fun H15 f2 s15 nf2 hf2 => ?_⟩
        repeat array_get_dec
        refine LS.rrepr (LS.dp_i (ns := xs) (by array_mem_dec)) (LS.sm_ints (pl_abs pl)) (by decide) (by omega) ?_
        repeat array_get_dec
        refine LS.rrepr (LS.dp_i (ns := xs) (by array_mem_dec)) (LS.sm_ints (pl_abs pl)) (by decide) (by omega) ?_
        repeat array_get_dec
        rw [decide_eq_true rfl]
        repeat array_get_dec
        refine LS.k_lst (by array_mem_dec) fun x4 H_x4 n_x4 s_x4 h_x4 => ?_
        repeat array_get_dec
        refine LS.rne_il (x := xs) (y := []) (by array_mem_dec) (by array_mem_dec) ?_
        repeat array_get_dec
        refine LS.ifn2 (fun hne => ?_) fun he => ?_
        · have pos : 0 < xs.length := List.length_pos_iff.mpr hne
          repeat array_get_dec
          refine ⟨b, _, _, rfl, (by array_mem_dec), by omega, log_small (by omega), by omega, fun H16 w w0 w1 T16 => ?_⟩
          have hw : w.toNat < xs.length := by omega
          repeat array_get_dec
          refine LS.rpopi (xs := xs.map V.int) (k := w.toNat) (by array_mem_dec) (by omega) (by omega) (by rw [List.length_map]; exact seq_int w0 hw) (int_at (List.getElem?_eq_getElem hw)) fun H17 f17 h17 => ?_
          rw [erase_map] at h17
          have pl2 := pl_erase pl w.toNat
          have hl3 := pl2.le
          repeat array_get_dec
          refine ⟨p, _, rfl, (by array_mem_dec), pl2, fun H18 s18 => ?_⟩
          repeat array_get_dec
          refine LS.map_ (xs := (xs.eraseIdx w.toNat).map V.int) walk_list (by rw [List.length_map]; omega) (fun v => match v with | .int i => .str (nst i) | v => v) (fun H' s => (by array_mem_dec)) (fun x Hq hx s KK KN kk => ?_) fun D H19 nD s19 h19 => ?_
          · obtain ⟨z, hz, rfl⟩ := List.mem_map.mp hx
            refine ⟨rfl, ?_⟩
            repeat array_get_dec
            exact LS.rstr_i (log2_lt (pl2.rg z hz).1 (pl2.rg z hz).2 (by decide)) (kk _ (Same.refl _))
          rw [str_map] at h19
          refine LS.rjoin (SqL.of h19) (txtN_sz pl2.rg (by omega)) ?_
          repeat array_get_dec
          rw [decide_eq_true (show txtN _ = Txt.join _ _ from rfl)]
          repeat array_get_dec
          exact ⟨_, _, _, _, _, _, _, LS.Reel.up (d := i * 500 + 404 + 1 + 1) (by array_mem_dec) (by omega), rfl⟩
        · repeat array_get_dec
          exact ⟨_, _, _, _, _, _, _, LS.Reel.up (d := i * 500 + 404 + 1) (by array_mem_dec) (by omega), rfl⟩
    · rintro σ H2 ⟨v2, v3, v4, v5, v6, v7, v8, R2, rfl⟩
      repeat array_get_dec
      refine LS.k_tup (by array_mem_dec) fun t0 H_t0 n_t0 s_t0 h_t0 => ?_
      repeat array_get_dec
      refine ⟨t0, [], rfl, (by array_mem_dec), pl_nil, fun H3 s3 => ?_⟩
      repeat array_get_dec
      rw [txtN_nil]
      repeat array_get_dec
      rw [decide_eq_true rfl]
      repeat array_get_dec
      refine ⟨[], by rw [txtN_nil]; rfl, pl_nil, fun H4 f s4 nf hf => ?_⟩
      repeat array_get_dec
      refine LS.k_lst (by array_mem_dec) fun x5 H_x5 n_x5 s_x5 h_x5 => ?_
      repeat array_get_dec
      refine LS.req_il (x := []) (y := []) (by array_mem_dec) (by array_mem_dec) ?_
      rw [decide_eq_true rfl]
      repeat array_get_dec
      refine ⟨[0], by rw [txt_0]; rfl, pl_one, fun H5 f5 s5 nf5 hf5 => ?_⟩
      repeat array_get_dec
      refine LS.k_lst (by array_mem_dec) fun x6 H_x6 n_x6 s_x6 h_x6 => ?_
      repeat array_get_dec
      refine LS.req_il (x := [0]) (y := [0]) (by array_mem_dec) (by array_mem_dec) ?_
      rw [decide_eq_true rfl]
      exact k _
end
end LP

namespace LP
open PySem L2 LT LG LQ LH LC LX
set_option maxHeartbeats 4000000 in
theorem all_mk {l : PySem.W.OpenLaw} {w : World} {K : PySem.W.Frag} {h : Heap} {mg : Str → Option Value} {fa : Addr} (X : K.In h) (G : h.Ns mainGlobals mg) (hfa : mg "law" = some (.ref fa))
    {t_MOST_PLACES : Tok}
    {t_GREATEST_PLACE : Tok}
    {a_is_whole : Addr} {od_is_whole an_is_whole : Option Addr} {sl_is_whole : Array (Option Value)} {oc_is_whole kV_is_whole dc_is_whole pm_is_whole cd_is_whole ct_is_whole : Value}
    {a_is_listed : Addr} {od_is_listed an_is_listed : Option Addr} {sl_is_listed : Array (Option Value)} {oc_is_listed kV_is_listed dc_is_listed pm_is_listed cd_is_listed ct_is_listed : Value}
    {a_is_place : Addr} {od_is_place an_is_place : Option Addr} {sl_is_place : Array (Option Value)} {oc_is_place kV_is_place dc_is_place pm_is_place cd_is_place ct_is_place : Value}
    {a_is_place_list : Addr} {od_is_place_list an_is_place_list : Option Addr} {sl_is_place_list : Array (Option Value)} {oc_is_place_list kV_is_place_list dc_is_place_list pm_is_place_list cd_is_place_list ct_is_place_list : Value}
    {a_check_places : Addr} {od_check_places an_check_places : Option Addr} {sl_check_places : Array (Option Value)} {oc_check_places kV_check_places dc_check_places pm_check_places cd_check_places ct_check_places : Value}
    {a_numbers_text : Addr} {od_numbers_text an_numbers_text : Option Addr} {sl_numbers_text : Array (Option Value)} {oc_numbers_text kV_numbers_text dc_numbers_text pm_numbers_text cd_numbers_text ct_numbers_text : Value}
    {a_format_places : Addr} {od_format_places an_format_places : Option Addr} {sl_format_places : Array (Option Value)} {oc_format_places kV_format_places dc_format_places pm_format_places cd_format_places ct_format_places : Value}
    {a_read_number : Addr} {od_read_number an_read_number : Option Addr} {sl_read_number : Array (Option Value)} {oc_read_number kV_read_number dc_read_number pm_read_number cd_read_number ct_read_number : Value}
    {a_words_of : Addr} {od_words_of an_words_of : Option Addr} {sl_words_of : Array (Option Value)} {oc_words_of kV_words_of dc_words_of pm_words_of cd_words_of ct_words_of : Value}
    {a_parse_places : Addr} {od_parse_places an_parse_places : Option Addr} {sl_parse_places : Array (Option Value)} {oc_parse_places kV_parse_places dc_parse_places pm_parse_places cd_parse_places ct_parse_places : Value}
    {a__law_reel : Addr} {od__law_reel an__law_reel : Option Addr} {sl__law_reel : Array (Option Value)} {oc__law_reel kV__law_reel dc__law_reel pm__law_reel cd__law_reel ct__law_reel : Value}
    {a__law_draw : Addr} {od__law_draw an__law_draw : Option Addr} {sl__law_draw : Array (Option Value)} {oc__law_draw kV__law_draw dc__law_draw pm__law_draw cd__law_draw ct__law_draw : Value}
    {a__law_shuffled : Addr} {od__law_shuffled an__law_shuffled : Option Addr} {sl__law_shuffled : Array (Option Value)} {oc__law_shuffled kV__law_shuffled dc__law_shuffled pm__law_shuffled cd__law_shuffled ct__law_shuffled : Value}
    {a__law_places : Addr} {od__law_places an__law_places : Option Addr} {sl__law_places : Array (Option Value)} {oc__law_places kV__law_places dc__law_places pm__law_places cd__law_places ct__law_places : Value}
    {a__law_dressed : Addr} {od__law_dressed an__law_dressed : Option Addr} {sl__law_dressed : Array (Option Value)} {oc__law_dressed kV__law_dressed dc__law_dressed pm__law_dressed cd__law_dressed ct__law_dressed : Value}
    {a_law : Addr} {od_law an_law : Option Addr} {sl_law : Array (Option Value)} {oc_law kV_law dc_law pm_law cd_law ct_law : Value}
    (z_len : PySem.W.nsIn K mainGlobals "len" = some none)
    (z_range : PySem.W.nsIn K mainGlobals "range" = some none)
    (z_list : PySem.W.nsIn K mainGlobals "list" = some none)
    (z_tuple : PySem.W.nsIn K mainGlobals "tuple" = some none)
    (z_int : PySem.W.nsIn K mainGlobals "int" = some none)
    (z_bool : PySem.W.nsIn K mainGlobals "bool" = some none)
    (z_str : PySem.W.nsIn K mainGlobals "str" = some none)
    (z_isinstance : PySem.W.nsIn K mainGlobals "isinstance" = some none)
    (z_min : PySem.W.nsIn K mainGlobals "min" = some none)
    (z_set : PySem.W.nsIn K mainGlobals "set" = some none)
    (z_all : PySem.W.nsIn K mainGlobals "all" = some none)
    (z_repr : PySem.W.nsIn K mainGlobals "repr" = some none)
    (z_enumerate : PySem.W.nsIn K mainGlobals "enumerate" = some none)
    (z_MOST_PLACES : PySem.W.nsIn K mainGlobals "MOST_PLACES" = some (some (.int 200 t_MOST_PLACES)))
    (z_GREATEST_PLACE : PySem.W.nsIn K mainGlobals "GREATEST_PLACE" = some (some (.int 1000000000000000000000000000000 t_GREATEST_PLACE)))
    (z_is_whole : PySem.W.nsIn K mainGlobals "is_whole" = some (some (.ref a_is_whole)))
    (l_is_whole : K.lookup a_is_whole = some ⟨oc_is_whole, od_is_whole, .func (PySem.W.fnOf "is_whole" "is_whole" (defArgs s_is_whole) (defBody s_is_whole) (defScope s_is_whole) .none kV_is_whole dc_is_whole pm_is_whole an_is_whole cd_is_whole ct_is_whole), sl_is_whole⟩)
    (c_is_whole : PySem.W.codeIn K cd_is_whole "is_whole" = true)
    (k_is_whole : PySem.W.keepIn K (.ref a_is_whole) = true)
    (z_is_listed : PySem.W.nsIn K mainGlobals "is_listed" = some (some (.ref a_is_listed)))
    (l_is_listed : K.lookup a_is_listed = some ⟨oc_is_listed, od_is_listed, .func (PySem.W.fnOf "is_listed" "is_listed" (defArgs s_is_listed) (defBody s_is_listed) (defScope s_is_listed) .none kV_is_listed dc_is_listed pm_is_listed an_is_listed cd_is_listed ct_is_listed), sl_is_listed⟩)
    (c_is_listed : PySem.W.codeIn K cd_is_listed "is_listed" = true)
    (k_is_listed : PySem.W.keepIn K (.ref a_is_listed) = true)
    (z_is_place : PySem.W.nsIn K mainGlobals "is_place" = some (some (.ref a_is_place)))
    (l_is_place : K.lookup a_is_place = some ⟨oc_is_place, od_is_place, .func (PySem.W.fnOf "is_place" "is_place" (defArgs s_is_place) (defBody s_is_place) (defScope s_is_place) .none kV_is_place dc_is_place pm_is_place an_is_place cd_is_place ct_is_place), sl_is_place⟩)
    (c_is_place : PySem.W.codeIn K cd_is_place "is_place" = true)
    (k_is_place : PySem.W.keepIn K (.ref a_is_place) = true)
    (z_is_place_list : PySem.W.nsIn K mainGlobals "is_place_list" = some (some (.ref a_is_place_list)))
    (l_is_place_list : K.lookup a_is_place_list = some ⟨oc_is_place_list, od_is_place_list, .func (PySem.W.fnOf "is_place_list" "is_place_list" (defArgs s_is_place_list) (defBody s_is_place_list) (defScope s_is_place_list) .none kV_is_place_list dc_is_place_list pm_is_place_list an_is_place_list cd_is_place_list ct_is_place_list), sl_is_place_list⟩)
    (c_is_place_list : PySem.W.codeIn K cd_is_place_list "is_place_list" = true)
    (k_is_place_list : PySem.W.keepIn K (.ref a_is_place_list) = true)
    (z_check_places : PySem.W.nsIn K mainGlobals "check_places" = some (some (.ref a_check_places)))
    (l_check_places : K.lookup a_check_places = some ⟨oc_check_places, od_check_places, .func (PySem.W.fnOf "check_places" "check_places" (defArgs s_check_places) (defBody s_check_places) (defScope s_check_places) .none kV_check_places dc_check_places pm_check_places an_check_places cd_check_places ct_check_places), sl_check_places⟩)
    (c_check_places : PySem.W.codeIn K cd_check_places "check_places" = true)
    (k_check_places : PySem.W.keepIn K (.ref a_check_places) = true)
    (z_numbers_text : PySem.W.nsIn K mainGlobals "numbers_text" = some (some (.ref a_numbers_text)))
    (l_numbers_text : K.lookup a_numbers_text = some ⟨oc_numbers_text, od_numbers_text, .func (PySem.W.fnOf "numbers_text" "numbers_text" (defArgs s_numbers_text) (defBody s_numbers_text) (defScope s_numbers_text) .none kV_numbers_text dc_numbers_text pm_numbers_text an_numbers_text cd_numbers_text ct_numbers_text), sl_numbers_text⟩)
    (c_numbers_text : PySem.W.codeIn K cd_numbers_text "numbers_text" = true)
    (k_numbers_text : PySem.W.keepIn K (.ref a_numbers_text) = true)
    (z_format_places : PySem.W.nsIn K mainGlobals "format_places" = some (some (.ref a_format_places)))
    (l_format_places : K.lookup a_format_places = some ⟨oc_format_places, od_format_places, .func (PySem.W.fnOf "format_places" "format_places" (defArgs s_format_places) (defBody s_format_places) (defScope s_format_places) .none kV_format_places dc_format_places pm_format_places an_format_places cd_format_places ct_format_places), sl_format_places⟩)
    (c_format_places : PySem.W.codeIn K cd_format_places "format_places" = true)
    (k_format_places : PySem.W.keepIn K (.ref a_format_places) = true)
    (z_read_number : PySem.W.nsIn K mainGlobals "read_number" = some (some (.ref a_read_number)))
    (l_read_number : K.lookup a_read_number = some ⟨oc_read_number, od_read_number, .func (PySem.W.fnOf "read_number" "read_number" (defArgs s_read_number) (defBody s_read_number) (defScope s_read_number) .none kV_read_number dc_read_number pm_read_number an_read_number cd_read_number ct_read_number), sl_read_number⟩)
    (c_read_number : PySem.W.codeIn K cd_read_number "read_number" = true)
    (k_read_number : PySem.W.keepIn K (.ref a_read_number) = true)
    (z_words_of : PySem.W.nsIn K mainGlobals "words_of" = some (some (.ref a_words_of)))
    (l_words_of : K.lookup a_words_of = some ⟨oc_words_of, od_words_of, .func (PySem.W.fnOf "words_of" "words_of" (defArgs s_words_of) (defBody s_words_of) (defScope s_words_of) .none kV_words_of dc_words_of pm_words_of an_words_of cd_words_of ct_words_of), sl_words_of⟩)
    (c_words_of : PySem.W.codeIn K cd_words_of "words_of" = true)
    (k_words_of : PySem.W.keepIn K (.ref a_words_of) = true)
    (z_parse_places : PySem.W.nsIn K mainGlobals "parse_places" = some (some (.ref a_parse_places)))
    (l_parse_places : K.lookup a_parse_places = some ⟨oc_parse_places, od_parse_places, .func (PySem.W.fnOf "parse_places" "parse_places" (defArgs s_parse_places) (defBody s_parse_places) (defScope s_parse_places) .none kV_parse_places dc_parse_places pm_parse_places an_parse_places cd_parse_places ct_parse_places), sl_parse_places⟩)
    (c_parse_places : PySem.W.codeIn K cd_parse_places "parse_places" = true)
    (k_parse_places : PySem.W.keepIn K (.ref a_parse_places) = true)
    (z__law_reel : PySem.W.nsIn K mainGlobals "_law_reel" = some (some (.ref a__law_reel)))
    (l__law_reel : K.lookup a__law_reel = some ⟨oc__law_reel, od__law_reel, .func (PySem.W.fnOf "_law_reel" "_law_reel" (defArgs s__law_reel) (defBody s__law_reel) (defScope s__law_reel) .none kV__law_reel dc__law_reel pm__law_reel an__law_reel cd__law_reel ct__law_reel), sl__law_reel⟩)
    (c__law_reel : PySem.W.codeIn K cd__law_reel "_law_reel" = true)
    (k__law_reel : PySem.W.keepIn K (.ref a__law_reel) = true)
    (z__law_draw : PySem.W.nsIn K mainGlobals "_law_draw" = some (some (.ref a__law_draw)))
    (l__law_draw : K.lookup a__law_draw = some ⟨oc__law_draw, od__law_draw, .func (PySem.W.fnOf "_law_draw" "_law_draw" (defArgs s__law_draw) (defBody s__law_draw) (defScope s__law_draw) .none kV__law_draw dc__law_draw pm__law_draw an__law_draw cd__law_draw ct__law_draw), sl__law_draw⟩)
    (c__law_draw : PySem.W.codeIn K cd__law_draw "_law_draw" = true)
    (k__law_draw : PySem.W.keepIn K (.ref a__law_draw) = true)
    (z__law_shuffled : PySem.W.nsIn K mainGlobals "_law_shuffled" = some (some (.ref a__law_shuffled)))
    (l__law_shuffled : K.lookup a__law_shuffled = some ⟨oc__law_shuffled, od__law_shuffled, .func (PySem.W.fnOf "_law_shuffled" "_law_shuffled" (defArgs s__law_shuffled) (defBody s__law_shuffled) (defScope s__law_shuffled) .none kV__law_shuffled dc__law_shuffled pm__law_shuffled an__law_shuffled cd__law_shuffled ct__law_shuffled), sl__law_shuffled⟩)
    (c__law_shuffled : PySem.W.codeIn K cd__law_shuffled "_law_shuffled" = true)
    (k__law_shuffled : PySem.W.keepIn K (.ref a__law_shuffled) = true)
    (z__law_places : PySem.W.nsIn K mainGlobals "_law_places" = some (some (.ref a__law_places)))
    (l__law_places : K.lookup a__law_places = some ⟨oc__law_places, od__law_places, .func (PySem.W.fnOf "_law_places" "_law_places" (defArgs s__law_places) (defBody s__law_places) (defScope s__law_places) .none kV__law_places dc__law_places pm__law_places an__law_places cd__law_places ct__law_places), sl__law_places⟩)
    (c__law_places : PySem.W.codeIn K cd__law_places "_law_places" = true)
    (k__law_places : PySem.W.keepIn K (.ref a__law_places) = true)
    (z__law_dressed : PySem.W.nsIn K mainGlobals "_law_dressed" = some (some (.ref a__law_dressed)))
    (l__law_dressed : K.lookup a__law_dressed = some ⟨oc__law_dressed, od__law_dressed, .func (PySem.W.fnOf "_law_dressed" "_law_dressed" (defArgs s__law_dressed) (defBody s__law_dressed) (defScope s__law_dressed) .none kV__law_dressed dc__law_dressed pm__law_dressed an__law_dressed cd__law_dressed ct__law_dressed), sl__law_dressed⟩)
    (c__law_dressed : PySem.W.codeIn K cd__law_dressed "_law_dressed" = true)
    (k__law_dressed : PySem.W.keepIn K (.ref a__law_dressed) = true)
    (z_law : PySem.W.nsIn K mainGlobals "law" = some (some (.ref a_law)))
    (l_law : K.lookup a_law = some ⟨oc_law, od_law, .func (PySem.W.fnOf "law" "law" (defArgs s_law) (defBody s_law) (defScope s_law) .none kV_law dc_law pm_law an_law cd_law ct_law), sl_law⟩)
    (c_law : PySem.W.codeIn K cd_law "law" = true)
    (k_law : PySem.W.keepIn K (.ref a_law) = true) :
    ∃ fd : FuncData, (∀ (s : Shared) (v : Value), BindsTo s fd ⟨[v], []⟩ [("script", v)]) ∧ ∀ base : Heap, K.In base → base.Ns mainGlobals mg → LG.FnG l.prog w K mg base CX0 9 fa fd ["script"] (sp_law K) := by
  have e0 := hfa.symm.trans (PySem.W.mg_of X G z_law)
  cases e0
  have F_is_whole := fun_mk (st := s_is_whole) l_is_whole c_is_whole k_is_whole
  have B_is_whole := F_is_whole.binds (ps := ["value"]) fun _ _ _ _ _ _ us hl => match us, hl with | [_], _ => rfl
  have F_is_listed := fun_mk (st := s_is_listed) l_is_listed c_is_listed k_is_listed
  have B_is_listed := F_is_listed.binds (ps := ["value"]) fun _ _ _ _ _ _ us hl => match us, hl with | [_], _ => rfl
  have F_is_place := fun_mk (st := s_is_place) l_is_place c_is_place k_is_place
  have B_is_place := F_is_place.binds (ps := ["value"]) fun _ _ _ _ _ _ us hl => match us, hl with | [_], _ => rfl
  have F_is_place_list := fun_mk (st := s_is_place_list) l_is_place_list c_is_place_list k_is_place_list
  have B_is_place_list := F_is_place_list.binds (ps := ["value"]) fun _ _ _ _ _ _ us hl => match us, hl with | [_], _ => rfl
  have F_check_places := fun_mk (st := s_check_places) l_check_places c_check_places k_check_places
  have B_check_places := F_check_places.binds (ps := ["value"]) fun _ _ _ _ _ _ us hl => match us, hl with | [_], _ => rfl
  have F_numbers_text := fun_mk (st := s_numbers_text) l_numbers_text c_numbers_text k_numbers_text
  have B_numbers_text := F_numbers_text.binds (ps := ["numbers"]) fun _ _ _ _ _ _ us hl => match us, hl with | [_], _ => rfl
  have F_format_places := fun_mk (st := s_format_places) l_format_places c_format_places k_format_places
  have B_format_places := F_format_places.binds (ps := ["places"]) fun _ _ _ _ _ _ us hl => match us, hl with | [_], _ => rfl
  have F_read_number := fun_mk (st := s_read_number) l_read_number c_read_number k_read_number
  have B_read_number := F_read_number.binds (ps := ["text"]) fun _ _ _ _ _ _ us hl => match us, hl with | [_], _ => rfl
  have F_words_of := fun_mk (st := s_words_of) l_words_of c_words_of k_words_of
  have B_words_of := F_words_of.binds (ps := ["text", "most"]) fun _ _ _ _ _ _ us hl => match us, hl with | [_, _], _ => rfl
  have F_parse_places := fun_mk (st := s_parse_places) l_parse_places c_parse_places k_parse_places
  have B_parse_places := F_parse_places.binds (ps := ["text"]) fun _ _ _ _ _ _ us hl => match us, hl with | [_], _ => rfl
  have F__law_reel := fun_mk (st := s__law_reel) l__law_reel c__law_reel k__law_reel
  have B__law_reel := F__law_reel.binds (ps := ["script"]) fun _ _ _ _ _ _ us hl => match us, hl with | [_], _ => rfl
  have F__law_draw := fun_mk (st := s__law_draw) l__law_draw c__law_draw k__law_draw
  have B__law_draw := F__law_draw.binds (ps := ["reel", "many"]) fun _ _ _ _ _ _ us hl => match us, hl with | [_, _], _ => rfl
  have F__law_shuffled := fun_mk (st := s__law_shuffled) l__law_shuffled c__law_shuffled k__law_shuffled
  have B__law_shuffled := F__law_shuffled.binds (ps := ["reel", "values"]) fun _ _ _ _ _ _ us hl => match us, hl with | [_, _], _ => rfl
  have F__law_places := fun_mk (st := s__law_places) l__law_places c__law_places k__law_places
  have B__law_places := F__law_places.binds (ps := ["reel", "many"]) fun _ _ _ _ _ _ us hl => match us, hl with | [_, _], _ => rfl
  have F__law_dressed := fun_mk (st := s__law_dressed) l__law_dressed c__law_dressed k__law_dressed
  have B__law_dressed := F__law_dressed.binds (ps := ["reel", "value"]) fun _ _ _ _ _ _ us hl => match us, hl with | [_, _], _ => rfl
  have F_law := fun_mk (st := s_law) l_law c_law k_law
  have B_law := F_law.binds (ps := ["script"]) fun _ _ _ _ _ _ us hl => match us, hl with | [_], _ => rfl
  refine ⟨PySem.W.fnOf "law" "law" (defArgs s_law) (defBody s_law) (defScope s_law) .none kV_law dc_law pm_law an_law cd_law ct_law, fun s v => .of_eq rfl, fun base _ _ => ?_⟩
  exact ok_law (({
    n_len := PySem.W.mg_none_of X G z_len,
    n_range := PySem.W.mg_none_of X G z_range,
    n_list := PySem.W.mg_none_of X G z_list,
    n_tuple := PySem.W.mg_none_of X G z_tuple,
    n_int := PySem.W.mg_none_of X G z_int,
    n_bool := PySem.W.mg_none_of X G z_bool,
    n_str := PySem.W.mg_none_of X G z_str,
    n_isinstance := PySem.W.mg_none_of X G z_isinstance,
    n_min := PySem.W.mg_none_of X G z_min,
    n_set := PySem.W.mg_none_of X G z_set,
    n_all := PySem.W.mg_none_of X G z_all,
    n_repr := PySem.W.mg_none_of X G z_repr,
    n_enumerate := PySem.W.mg_none_of X G z_enumerate,
    t_MOST_PLACES := t_MOST_PLACES, g_MOST_PLACES := PySem.W.mg_of X G z_MOST_PLACES,
    t_GREATEST_PLACE := t_GREATEST_PLACE, g_GREATEST_PLACE := PySem.W.mg_of X G z_GREATEST_PLACE,
    a_is_whole := a_is_whole, d_is_whole := _, f_is_whole := F_is_whole, b_is_whole := B_is_whole, g_is_whole := PySem.W.mg_of X G z_is_whole,
    a_is_listed := a_is_listed, d_is_listed := _, f_is_listed := F_is_listed, b_is_listed := B_is_listed, g_is_listed := PySem.W.mg_of X G z_is_listed,
    a_is_place := a_is_place, d_is_place := _, f_is_place := F_is_place, b_is_place := B_is_place, g_is_place := PySem.W.mg_of X G z_is_place,
    a_is_place_list := a_is_place_list, d_is_place_list := _, f_is_place_list := F_is_place_list, b_is_place_list := B_is_place_list, g_is_place_list := PySem.W.mg_of X G z_is_place_list,
    a_check_places := a_check_places, d_check_places := _, f_check_places := F_check_places, b_check_places := B_check_places, g_check_places := PySem.W.mg_of X G z_check_places,
    a_numbers_text := a_numbers_text, d_numbers_text := _, f_numbers_text := F_numbers_text, b_numbers_text := B_numbers_text, g_numbers_text := PySem.W.mg_of X G z_numbers_text,
    a_format_places := a_format_places, d_format_places := _, f_format_places := F_format_places, b_format_places := B_format_places, g_format_places := PySem.W.mg_of X G z_format_places,
    a_read_number := a_read_number, d_read_number := _, f_read_number := F_read_number, b_read_number := B_read_number, g_read_number := PySem.W.mg_of X G z_read_number,
    a_words_of := a_words_of, d_words_of := _, f_words_of := F_words_of, b_words_of := B_words_of, g_words_of := PySem.W.mg_of X G z_words_of,
    a_parse_places := a_parse_places, d_parse_places := _, f_parse_places := F_parse_places, b_parse_places := B_parse_places, g_parse_places := PySem.W.mg_of X G z_parse_places,
    a__law_reel := a__law_reel, d__law_reel := _, f__law_reel := F__law_reel, b__law_reel := B__law_reel, g__law_reel := PySem.W.mg_of X G z__law_reel,
    a__law_draw := a__law_draw, d__law_draw := _, f__law_draw := F__law_draw, b__law_draw := B__law_draw, g__law_draw := PySem.W.mg_of X G z__law_draw,
    a__law_shuffled := a__law_shuffled, d__law_shuffled := _, f__law_shuffled := F__law_shuffled, b__law_shuffled := B__law_shuffled, g__law_shuffled := PySem.W.mg_of X G z__law_shuffled,
    a__law_places := a__law_places, d__law_places := _, f__law_places := F__law_places, b__law_places := B__law_places, g__law_places := PySem.W.mg_of X G z__law_places,
    a__law_dressed := a__law_dressed, d__law_dressed := _, f__law_dressed := F__law_dressed, b__law_dressed := B__law_dressed, g__law_dressed := PySem.W.mg_of X G z__law_dressed,
    a_law := fa, d_law := _, f_law := F_law, b_law := B_law, g_law := PySem.W.mg_of X G z_law } : Env K mg))
theorem walk {l : PySem.W.OpenLaw} {q : Program} {loose : List Str} {XP : (Str → Option Value) → Heap → Prop} {YP : World → Heap → Prop} {d : DefRec} {K : Params → PySem.W.Frag} (hn : l.most = some 63) (hdf : d.params.defaults = [])
    (hY : ∀ (w : World) (h : Heap), YP w h → (K w.params).In h)
    (F : ∀ (w : World) (mg : Str → Option Value) (fa : Addr) (h : Heap), (K w.params).In h → h.Ns mainGlobals mg → mg d.name = some (.ref fa) →
      ∃ fd : FuncData, (∀ (s : Shared) (u : Value), BindsTo s fd ⟨[u], []⟩ [("script", u)]) ∧ ∀ base : Heap, (K w.params).In base → base.Ns mainGlobals mg → LG.FnG l.prog w (K w.params) mg base CX0 9 fa fd ["script"] (sp_law (K w.params))) :
    PySem.W.WalkO q loose XP YP l.row.toRowW d [] (fun f vs => PySem.call f vs) :=
  LG.walk_ofG (n := 63) (k := 9) (x := "script") (sp := sp_law) hn (by decide) hdf ⟨rfl, by decide, by decide⟩ hY F (fun _ _ a ns hl _ hS => ⟨a, ns, rfl, hS, hl, fun _ => rfl⟩)
end LP
open PySem PySem.W PyProof.Rows
set_option maxRecDepth 100000 in
set_option maxHeartbeats 0 in
theorem PySem.Challenge.cw_leftreturn_k50_places_as_text_holds : PySem.Challenge.rw_leftreturn_k50_places_as_text.Holds := by
  w_on; o_law; k_head; (case hw => w_witness2)
  k_fill
  refine LP.walk (l := PySem.Challenge.rw_leftreturn_k50_places_as_text) rfl rfl (fun w h Y => PySem.W.kIn_of Y) ?F
  case F =>
    intro w mg fa h KX G hmg
    refine' LP.all_mk KX G hmg ?z_len ?z_range ?z_list ?z_tuple ?z_int ?z_bool ?z_str ?z_isinstance ?z_min ?z_set ?z_all ?z_repr ?z_enumerate ?z_MOST_PLACES ?z_GREATEST_PLACE ?z_is_whole ?l_is_whole ?c_is_whole ?k_is_whole ?z_is_listed ?l_is_listed ?c_is_listed ?k_is_listed ?z_is_place ?l_is_place ?c_is_place ?k_is_place ?z_is_place_list ?l_is_place_list ?c_is_place_list ?k_is_place_list ?z_check_places ?l_check_places ?c_check_places ?k_check_places ?z_numbers_text ?l_numbers_text ?c_numbers_text ?k_numbers_text ?z_format_places ?l_format_places ?c_format_places ?k_format_places ?z_read_number ?l_read_number ?c_read_number ?k_read_number ?z_words_of ?l_words_of ?c_words_of ?k_words_of ?z_parse_places ?l_parse_places ?c_parse_places ?k_parse_places ?z__law_reel ?l__law_reel ?c__law_reel ?k__law_reel ?z__law_draw ?l__law_draw ?c__law_draw ?k__law_draw ?z__law_shuffled ?l__law_shuffled ?c__law_shuffled ?k__law_shuffled ?z__law_places ?l__law_places ?c__law_places ?k__law_places ?z__law_dressed ?l__law_dressed ?c__law_dressed ?k__law_dressed ?z_law ?l_law ?c_law ?k_law
    (case z_len => k_is)
    (case z_range => k_is)
    (case z_list => k_is)
    (case z_tuple => k_is)
    (case z_int => k_is)
    (case z_bool => k_is)
    (case z_str => k_is)
    (case z_isinstance => k_is)
    (case z_min => k_is)
    (case z_set => k_is)
    (case z_all => k_is)
    (case z_repr => k_is)
    (case z_enumerate => k_is)
    (case z_MOST_PLACES => k_is)
    (case z_GREATEST_PLACE => k_is)
    (case z_is_whole => k_is)
    (case l_is_whole => k_is)
    (case c_is_whole => k_is)
    (case k_is_whole => k_is)
    (case z_is_listed => k_is)
    (case l_is_listed => k_is)
    (case c_is_listed => k_is)
    (case k_is_listed => k_is)
    (case z_is_place => k_is)
    (case l_is_place => k_is)
    (case c_is_place => k_is)
    (case k_is_place => k_is)
    (case z_is_place_list => k_is)
    (case l_is_place_list => k_is)
    (case c_is_place_list => k_is)
    (case k_is_place_list => k_is)
    (case z_check_places => k_is)
    (case l_check_places => k_is)
    (case c_check_places => k_is)
    (case k_check_places => k_is)
    (case z_numbers_text => k_is)
    (case l_numbers_text => k_is)
    (case c_numbers_text => k_is)
    (case k_numbers_text => k_is)
    (case z_format_places => k_is)
    (case l_format_places => k_is)
    (case c_format_places => k_is)
    (case k_format_places => k_is)
    (case z_read_number => k_is)
    (case l_read_number => k_is)
    (case c_read_number => k_is)
    (case k_read_number => k_is)
    (case z_words_of => k_is)
    (case l_words_of => k_is)
    (case c_words_of => k_is)
    (case k_words_of => k_is)
    (case z_parse_places => k_is)
    (case l_parse_places => k_is)
    (case c_parse_places => k_is)
    (case k_parse_places => k_is)
    (case z__law_reel => k_is)
    (case l__law_reel => k_is)
    (case c__law_reel => k_is)
    (case k__law_reel => k_is)
    (case z__law_draw => k_is)
    (case l__law_draw => k_is)
    (case c__law_draw => k_is)
    (case k__law_draw => k_is)
    (case z__law_shuffled => k_is)
    (case l__law_shuffled => k_is)
    (case c__law_shuffled => k_is)
    (case k__law_shuffled => k_is)
    (case z__law_places => k_is)
    (case l__law_places => k_is)
    (case c__law_places => k_is)
    (case k__law_places => k_is)
    (case z__law_dressed => k_is)
    (case l__law_dressed => k_is)
    (case c__law_dressed => k_is)
    (case k__law_dressed => k_is)
    (case z_law => k_is)
    (case l_law => k_is)
    (case c_law => k_is)
    (case k_law => k_is)
